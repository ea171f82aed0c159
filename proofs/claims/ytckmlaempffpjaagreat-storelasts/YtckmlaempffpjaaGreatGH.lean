/-
  What changeOf needs: closures in drawn regions, rows that grow there, what a body tells.
-/
import Derived.Test.YtckmlaempffpjaaGreatS10
namespace Go.Proofs.YtckmlaempffpjaaGreat
open Go.RowKit

section
variable {ops : Array Oper} {S : World → Prop} {J : Act → World → Prop} {n : Nat} {l lp : List Nat} {a : Act} {w : World} {z : Base} {L : BL} {i : Nat}
/-- a call of a closure, where others may still read -/
theorem ex_callvx {dst : Option Tmp} {f : FuncId} {x : Operand} {xs : Array Operand} {ats : Array TypeId} {ty : TypeId} {pos : String} {aft : Array Edge} {gd : Option (Nat × Bool)} {cap args : Array Value} {R : World → Ending → World → Prop} (ho : ops.toList[i]? = some ⟨dst, .call { callee := .value x, args := xs, argTypes := ats }, ty, pos, aft, gd⟩) (hw : Region.wanted ⟨dst, .call { callee := .value x, args := xs, argTypes := ats }, ty, pos, aft, gd⟩ (yielded ops a.tmps) = true) (H : HA z L w)
    (hr : ∀ args w, (callFunc f args).run Tryz.prog w = .ok (.enter f args) w) (hx : a.eval x = .func (.func f) #[] cap) (ha : #[] ++ xs.map a.eval ++ cap = args) (hc : ∀ w1, HA z L w1 → Calls Tryz.prog f args w1 (R w1))
    (h : ∀ w1, HA z L w1 → ∀ e w', R w1 e w' → ∃ v, e = .returned v ∧ S w' ∧ WXS Tryz.prog ops J n S (i :: l) lp (a.put dst v) w') : EX Tryz.prog ops J n S l lp i a w := ⟨fun y hy => by
  rw [lget ho] at hy
  cases hy
  refine ⟨hw, fun w1 hb _ => ?_⟩
  have H0 := HA.keep _ _ H hb
  unfold Oper.wp
  rw [run_callv hr hx ha]
  refine (hc w1 H0).mono ?_
  intro e w' hR
  obtain ⟨v, rfl, h2, hK⟩ := h w1 H0 e w' hR
  exact ⟨⟨v, rfl⟩, S, .inr rfl, h2, hK.go⟩⟩
theorem ex_doS {o : Oper} (ho : ops.toList[i]? = some o) (hw : Region.wanted o (yielded ops a.tmps) = true) (H : HA z L w)
    (h : ∀ w1, HA z L w1 → ∃ v w', (execOp a.eval o).run Tryz.prog w1 = .ok (.value v) w' ∧ S w' ∧ WXS Tryz.prog ops J n S (i :: l) lp (a.put o.dst v) w') : EX Tryz.prog ops J n S l lp i a w := ⟨fun y hy => by
  rw [lget ho] at hy
  cases hy
  refine ⟨hw, fun w1 hb1 _ => ?_⟩
  obtain ⟨v, w', hr, hS', hK⟩ := h w1 (HA.keep _ _ H hb1)
  unfold Oper.wp
  rw [hr]
  exact ⟨⟨_, rfl⟩, S, .inr rfl, hS', hK.go⟩⟩
theorem ex_mksS {o : Oper} {c : Array Value} (ho : ops.toList[i]? = some o) (hw : Region.wanted o (yielded ops a.tmps) = true) (H : HA z L w) (t : TypeId) (m cp : Nat)
    (hr : ∀ w, (execOp a.eval o).run Tryz.prog w = .ok (.value (.slice (some ⟨w.heap.size, 0, none⟩) m cp)) (w.alloc (.cells c t)))
    (h : ∀ q w', HA z ((q, t, c) :: L) w' → S w' ∧ WXS Tryz.prog ops J n S (i :: l) lp (a.put o.dst (.slice (some ⟨q, 0, none⟩) m cp)) w') : EX Tryz.prog ops J n S l lp i a w :=
  ex_doS ho hw H fun w1 h1 => ⟨_, _, hr w1, (h _ _ (h1.make t c)).1, (h _ _ (h1.make t c)).2⟩
end
/-- a thing behind a row: told by its run -/
theorem row_more {e t : TypeId} {sz n p : Nat} {v : Value} {xs : List Value} {news : Array Value} {z : Base} {L Lr : BL} {w : World} (hR : Row e sz v n xs Lr) (H : HA z ((p, e, news) :: (Lr ++ L)) w) (he : e ≠ 5) (zv : Value) (bytes : Nat) (ty : TypeId)
    (ht : Tryz.prog.underlying t = some (.slice e)) (hi : (Tryz.prog.info? e).map (fun i => (i.zero, i.size, i.bytes)) = some (some zv, sz, bytes)) (hzs : zv.cells.size = sz) (hsz : 0 < sz) (hl : news.size = 1 * sz) (h1 : news.all (·.oneCell') = true) (h63 : n + 1 ≤ maxLen) (hbytes : (n + 1) * bytes ≤ 140737488355328) :
    ∃ v' w' Lr', (Builtin.append_ #[t, t] ty #[v, .slice (some ⟨p, 0, none⟩) 1 1]).run Tryz.prog w = .ok v' w' ∧ Row e sz v' (n + 1) (xs ++ news.toList) Lr' ∧ HA z (Lr' ++ L) w' := by
  obtain ⟨i, hi, hh⟩ := Option.map_eq_some_iff.1 hi
  simp only [Prod.mk.injEq] at hh
  have hp := H.get 0 rfl
  exact hR.append H.tl he t ty i zv bytes ht hi hh.1 hh.2.1 hh.2.2 hzs hsz ⟨p, 0, none⟩ 1 1 news.toList (by simpa using hl) (fun j u hu => by
    have hadd : (⟨p, 0, none⟩ : Addr).add j = ⟨p, j, none⟩ := by unfold Addr.add; split <;> simp_all
    rw [hadd, hp.cell j]
    simpa using hu) (fun u hu => by
    obtain ⟨j, hj, rfl⟩ := List.mem_iff_getElem.1 hu
    have := Array.all_eq_true.1 h1 j (by simpa using hj)
    simpa using this) h63 hbytes (by decide)
theorem run_app_ops {ρ : Operand → Value} {x y : Operand} {w w' : World} {dst : Option Tmp} {t ty : TypeId} {pos : String} {aft : Array Edge} {gd : Option (Nat × Bool)} {u v v' : Value} (hx : ρ x = v) (hy : ρ y = u) (hrun : (Builtin.append_ #[t, t] ty #[v, u]).run Tryz.prog w = .ok v' w') :
    (execOp ρ ⟨dst, .call { callee := .builtin .append, args := #[x, y], argTypes := #[t, t] }, ty, pos, aft, gd⟩).run Tryz.prog w = .ok (.value v') w' := by
  unfold execOp
  simp only [resolve, invoke, builtin, Sem.run_bind, Sem.run_pure, Result.andThen_ok, List.map_toArray, List.map_cons, List.map_nil, hx, hy, hrun]
/-- rows as cells -/
def rcl (l : List Rw) : List Value := l.flatMap fun x => [.string x.k, .string x.v]
def scl (l : List ByteArray) : List Value := l.map Value.string
theorem rcl_snoc (l : List Rw) (x : Rw) : rcl (l ++ [x]) = rcl l ++ [.string x.k, .string x.v] := by simp [rcl]
theorem scl_snoc (l : List ByteArray) (x : ByteArray) : scl (l ++ [x]) = scl l ++ [.string x] := by simp [scl]
theorem rcl_get : ∀ (l : List Rw) (i : Nat) (x : Rw), l[i]? = some x → (rcl l)[i * 2]? = some (.string x.k) ∧ (rcl l)[i * 2 + 1]? = some (.string x.v)
  | [], _, _, h => by simp at h
  | y :: l, 0, x, h => by
    have : y = x := by simpa using h
    subst this
    exact ⟨rfl, rfl⟩
  | y :: l, i + 1, x, h => by
    obtain ⟨h1, h2⟩ := rcl_get l i x (by simpa using h)
    have e : rcl (y :: l) = [.string y.k, .string y.v] ++ rcl l := rfl
    refine ⟨?_, ?_⟩
    · rw [e, List.getElem?_append_right (by simp; omega), show (i + 1) * 2 - [Value.string y.k, Value.string y.v].length = i * 2 by simp; omega]; exact h1
    · rw [e, List.getElem?_append_right (by simp; omega), show (i + 1) * 2 + 1 - [Value.string y.k, Value.string y.v].length = i * 2 + 1 by simp; omega]; exact h2
theorem info64 : (Tryz.prog.info? 64).map (fun i => (i.zero, i.size, i.bytes)) = some (some (.agg #[.string { data := #[] }, .string { data := #[] }]), 2, 32) := by kernel_rfl
theorem info9s : (Tryz.prog.info? 9).map (fun i => (i.zero, i.size, i.bytes)) = some (some (.string { data := #[] }), 1, 16) := by kernel_rfl
theorem Row.rows {w : World} {o : Option Addr} {c : Nat} {ps : List Rw} {Lp : BL} (h : Row 64 2 (.slice o ps.length c) ps.length (rcl ps) Lp) (hB : ∀ y ∈ Lp, Blk w y.1 y.2.1 y.2.2) : RowsAt w o ps := fun i x hi => by
  have hl := (List.getElem?_eq_some_iff.1 hi).1
  obtain ⟨h1, h2⟩ := rcl_get ps i x hi
  rcases h.2 with ⟨_, h0, _⟩ | ⟨g, cap, cur, he, rfl, k1, k2, k3, k4⟩
  · omega
  · cases he
    have hb := hB (g, 64, cur) (by simp)
    have hc : ∀ j, j < ps.length * 2 → cur[j]? = (rcl ps)[j]? := fun j hj => by
      rw [← k4, List.getElem?_take, if_pos hj]; simp
    refine ⟨⟨g, 0, none⟩, rfl, ?_, ?_⟩
    · rw [add_lit, hb.cell, hc _ (by omega)]; exact h1
    · rw [add_lit, hb.cell, hc _ (by omega)]; exact h2
theorem Row.keys {w : World} {o : Option Addr} {c : Nat} {ds : List ByteArray} {Lp : BL} (h : Row 9 1 (.slice o ds.length c) ds.length (scl ds) Lp) (hB : ∀ y ∈ Lp, Blk w y.1 y.2.1 y.2.2) : KeysAt w o ds := fun i x hi => by
  have hl := (List.getElem?_eq_some_iff.1 hi).1
  rcases h.2 with ⟨_, h0, _⟩ | ⟨g, cap, cur, he, rfl, k1, k2, k3, k4⟩
  · omega
  · cases he
    have hb := hB (g, 9, cur) (by simp)
    refine ⟨⟨g, 0, none⟩, rfl, ?_⟩
    rw [Nat.mul_one] at k4
    have hc : cur[i]? = (scl ds)[i]? := by rw [← k4, List.getElem?_take, if_pos hl]; simp
    rw [add_lit, hb.cell, hc, scl, List.getElem?_map, hi]
    rfl
/-! what a body tells -/
def ppR : Nat → Bool → List UInt8 → List Rw → Bool × List UInt8 × List Rw
  | 0, wh, bs, acc => (wh, bs, acc)
  | _ + 1, false, bs, acc => (false, bs, acc)
  | n + 1, true, bs, acc => ppR n ((nxt 262144 bs).2.1 && (nxt 262144 (nxt 262144 bs).2.2).2.1) (nxt 262144 (nxt 262144 bs).2.2).2.2 (acc ++ [⟨(nxt 262144 bs).1, (nxt 262144 (nxt 262144 bs).2.2).1⟩])
def pdR : Nat → Bool → List UInt8 → List ByteArray → Bool × List UInt8 × List ByteArray
  | 0, wh, bs, acc => (wh, bs, acc)
  | _ + 1, false, bs, acc => (false, bs, acc)
  | n + 1, true, bs, acc => pdR n (nxt 262144 bs).2.1 (nxt 262144 bs).2.2 (acc ++ [(nxt 262144 bs).1])
theorem nxt_size (m : Nat) (bs : List UInt8) : (nxt m bs).1.size ≤ m := by
  unfold nxt
  split
  · rename_i h
    rw [txt_size h.2.2]
    exact h.2.1
  · exact Nat.zero_le _
theorem nxn_lt (bs : List UInt8) : (nxn 2 bs).1 < 65536 := by
  unfold nxn
  split
  · have := Wi.val_lt (bs.take 2)
    have h2 : (bs.take 2).length = 2 := by rw [List.length_take]; omega
    rw [h2] at this
    exact this
  · exact (by decide : 0 < 65536)
structure Pd where
  wh : Bool
  ps : List Rw
  ds : List ByteArray
  left : List UInt8
/-- all that a body tells, whether it may be or not -/
def pdB (bs : List UInt8) : Pd :=
  let a := nxn 2 bs
  let b := ppR a.1 a.2.1 a.2.2 []
  let c := nxn 2 b.2.1
  let d := pdR c.1 (b.1 && c.2.1) c.2.2 []
  ⟨d.1, b.2.2, d.2.2, d.2.1⟩
def okB (p : Pd) : Bool := p.wh && decide (p.left.length = 0) && decide (p.ps.length + p.ds.length ≠ 0) && decide (refR p.ps p.ds = 0)
end Go.Proofs.YtckmlaempffpjaaGreat

namespace Go.Proofs.YtckmlaempffpjaaGreat
open Go.RowKit Go.Shelf Go.Maps

/-! an iterator over a map -/
def bnR (pre : List Re) : Array Nat := (pre.map (·.bn)).toArray
theorem bnR_push (pre : List Re) (f : Re) : (bnR pre).push f.bn = bnR (pre ++ [f]) := by simp [bnR]
section
variable {w0 : World} {M : ML} {L : BL} {w : World} {it r nx : Nat} {rs pre lft : List Re} {ρ : Operand → Value} {x : Operand} {dst : Option Tmp} {ty : TypeId} {pos : String} {aft : Array Edge} {gd : Option (Nat × Bool)}
theorem run_rangeR (hb : w.heap[r]? = some (.map (eR rs) nx)) (hx : ρ x = .map (some r)) :
    (execOp ρ ⟨dst, .range 71 x, ty, pos, aft, gd⟩).run Tryz.prog w = .ok (.value (.pointer (some ⟨w.heap.size, 0, none⟩))) (w.alloc (MO.it r nx #[] nx).obj) := by
  have hg : (getObj r).run Tryz.prog w = .ok (.map (eR rs) nx) w := by simp [getObj, Sem.run, hb]
  simp [execOp, hx, Instr.range, run_underlying Tryz.underlying71, hg, MO.obj]
theorem left_memR (hp : (pre ++ lft).Perm rs) {e : MapEntry} (he : e ∈ (leftOf (eR rs) (bnR pre)).toList) : ∃ f ∈ lft, e = entR f := by
  have h1 : e ∈ (eR rs).toList ∧ (!(bnR pre).contains e.born) = true := by
    have := he
    simp only [leftOf, Array.toList_filter, List.mem_filter] at this
    exact this
  obtain ⟨f, hf, rfl⟩ := List.mem_map.1 (show e ∈ rs.map entR by simpa [eR] using h1.1)
  rcases List.mem_append.1 (hp.mem_iff.2 hf) with h | h
  · exfalso
    have h2 := h1.2
    have : (bnR pre).contains f.bn = true := by
      simp only [bnR, List.contains_toArray]
      exact List.contains_iff_mem.2 (List.mem_map.2 ⟨f, h, rfl⟩)
    simp only [entR, this] at h2
    cases h2
  · exact ⟨f, h, rfl⟩
theorem left_someR {g : Re} (hp : (pre ++ (g :: lft)).Perm rs) (hK : RK rs nx) : (leftOf (eR rs) (bnR pre)).size ≠ 0 := fun h0 => by
  have hg : g ∈ rs := hp.mem_iff.1 (by simp)
  have hn : (bnR pre).contains g.bn = false := by
    cases h : (bnR pre).contains g.bn with
    | false => rfl
    | true =>
      simp only [bnR, List.contains_toArray] at h
      obtain ⟨f, hf, e⟩ := List.mem_map.1 (List.contains_iff_mem.1 h)
      have hnd : ((pre ++ (g :: lft)).map (·.bn)).Nodup := (hp.map _).nodup_iff.2 hK.bns
      rw [List.map_append, List.nodup_append] at hnd
      exact absurd e (hnd.2.2 f.bn (List.mem_map.2 ⟨f, hf, rfl⟩) g.bn (by simp))
  have hm : entR g ∈ (leftOf (eR rs) (bnR pre)).toList := by
    simp only [leftOf, Array.toList_filter, List.mem_filter]
    exact ⟨by simpa [eR] using ⟨g, hg, rfl⟩, by simp only [entR, hn]; rfl⟩
  rw [Array.eq_empty_of_size_eq_zero h0] at hm
  cases hm
theorem bornsR (hK : RK rs nx) : ∀ x ∈ (eR rs).toList, x.born < nx := fun x hx => by
  obtain ⟨f, hf, rfl⟩ := List.mem_map.1 (show x ∈ rs.map entR by simpa [eR] using hx)
  exact hK.old f hf
theorem run_nextR_end (hp : (pre ++ []).Perm rs) (hK : RK rs nx) (H : HA ⟨w0, (it, .it r nx (bnR pre) nx) :: M⟩ L w) (hb : w.heap[r]? = some (.map (eR rs) nx)) (hx : ρ x = .pointer (some ⟨it, 0, none⟩)) :
    (execOp ρ ⟨dst, .next x false, ty, pos, aft, gd⟩).run Tryz.prog w = .ok (.value (.tuple #[.bool false])) w := by
  have hi : w.heap[it]? = some (.mapIter (some r) nx (bnR pre) nx) := H.old.maps _ (List.mem_cons_self ..)
  rcases run_next_at (P := Tryz.prog) w ty it r nx nx (bnR pre) (eR rs) nx hi hb (bornsR hK) (Nat.le_refl _) with ⟨_, h⟩ | ⟨e, he, _⟩
  · simp only [execOp, hx, Sem.run_bind, h, Result.andThen_ok, Sem.run_pure]
  · obtain ⟨f, hf, _⟩ := left_memR hp he
    cases hf
theorem run_nextR_some {g : Re} (hp : (pre ++ (g :: lft)).Perm rs) (hK : RK rs nx) (H : HA ⟨w0, (it, .it r nx (bnR pre) nx) :: M⟩ L w) (hb : w.heap[r]? = some (.map (eR rs) nx)) (hne : r ≠ it) (hx : ρ x = .pointer (some ⟨it, 0, none⟩)) :
    ∃ A f B w', g :: lft = A ++ f :: B ∧ (execOp ρ ⟨dst, .next x false, ty, pos, aft, gd⟩).run Tryz.prog w = .ok (.value (.tuple #[.bool true, .string f.r.k, rwv f.r])) w' ∧
      HA ⟨w0, (it, .it r nx (bnR (pre ++ [f])) nx) :: M⟩ L w' ∧ w'.heap[r]? = some (.map (eR rs) nx) := by
  have hi : w.heap[it]? = some (.mapIter (some r) nx (bnR pre) nx) := H.old.maps _ (List.mem_cons_self ..)
  rcases run_next_at (P := Tryz.prog) w ty it r nx nx (bnR pre) (eR rs) nx hi hb (bornsR hK) (Nat.le_refl _) with ⟨h0, _⟩ | ⟨e, he, w1, hw1, h⟩
  · exact absurd h0 (left_someR hp hK)
  · obtain ⟨f, hf, rfl⟩ := left_memR hp he
    obtain ⟨A, B, hAB⟩ := List.append_of_mem hf
    refine ⟨A, f, B, _, hAB, by simp only [execOp, hx, Sem.run_bind, h, Result.andThen_ok, Sem.run_pure]; rfl, ?_, ?_⟩
    · have H1 : HA ⟨w0, (it, .it r nx (bnR pre) nx) :: M⟩ L w1 := by
        rcases hw1 with rfl | rfl
        · exact H
        · exact H.drew
      have := H1.setM 0 (o' := .it r nx ((bnR pre).push f.bn) nx) rfl
      rw [bnR_push] at this
      rw [show (entR f).born = f.bn from rfl, bnR_push]
      exact this
    · have : w1.heap[r]? = some (.map (eR rs) nx) := by rcases hw1 with rfl | rfl <;> exact hb
      rw [← this]
      simp [ChangeMaps.setBlock, Ne.symm hne]
theorem run_entryR {f : Re} (hf : f ∈ rs) (hK : RK rs nx) (H : HA ⟨w0, (it, .it r nx (bnR (pre ++ [f])) nx) :: M⟩ L w) (hb : w.heap[r]? = some (.map (eR rs) nx)) (hx : ρ x = .pointer (some ⟨it, 0, none⟩)) :
    (execOp ρ ⟨dst, .entry x, ty, pos, aft, gd⟩).run Tryz.prog w = .ok (.value (.tuple #[.string f.r.k, rwv f.r])) w := by
  have hi : w.heap[it]? = some (.mapIter (some r) nx ((bnR pre).push (entR f).born) nx) := by
    have := H.old.maps _ (List.mem_cons_self ..)
    rw [show (entR f).born = f.bn from rfl, bnR_push]
    exact this
  have := run_entry_at (P := Tryz.prog) w it r nx (bnR pre) (eR rs) nx (entR f) hi hb (by simpa [eR] using ⟨f, hf, rfl⟩) (by have := hK.bns; simpa [eR, entR, Function.comp_def] using this)
  simp only [execOp, hx, Sem.run_bind, this, Result.andThen_ok, Sem.run_pure]
  rfl
end
def Tryz.keysB_ren : Go.Shelf.Ren := ⟨fun | 7 => 97 | 10 => 132 | n => n, fun | 23 => 71 | 26 => 9 | 3 => 64 | 28 => 104 | 0 => 0 | 27 => 103 | 33 => 90 | 4 => 4 | n => n, fun | n => n⟩
theorem Tryz.keysB : Go.Proofs.SlLaysZ.n7 Tryz.prog Tryz.keysB_ren := {
  mixed := by kernel_rfl
  f7 := ⟨Tryz.f97.name, by decide, Tryz.func97.trans (congrArg some (by kernel_rfl))⟩
  f10 := ⟨Tryz.f132.name, by decide, Tryz.func132.trans (congrArg some (by kernel_rfl))⟩
  t0 := Tryz.underlying0
  a0 := Tryz.isAgg0
  z0 := Tryz.sizeOf0
  v0 := Tryz.zeroValue0
  t4 := Tryz.underlying4
  a4 := Tryz.isAgg4
  z4 := Tryz.sizeOf4
  v4 := Tryz.zeroValue4
  t23 := Tryz.underlying71
  a23 := Tryz.isAgg71
  z23 := Tryz.sizeOf71
  v23 := Tryz.zeroValue71
  t26 := Tryz.underlying9
  a26 := Tryz.isAgg9
  z26 := Tryz.sizeOf9
  v26 := Tryz.zeroValue9
  t27 := Tryz.underlying103
  a27 := Tryz.isAgg103
  z27 := Tryz.sizeOf103
  v27 := Tryz.zeroValue103
  t28 := Tryz.underlying104
  a28 := Tryz.isAgg104
  z28 := Tryz.sizeOf104
  v28 := Tryz.zeroValue104
  t33 := Tryz.underlying90
  a33 := Tryz.isAgg90
  z33 := Tryz.sizeOf90
  v33 := Tryz.zeroValue90 }
/-- the keys in order, byte by byte -/
def keyL (l : List Rw) : List (List UInt8) := (l.map fun x => bl x.k).mergeSort leB
def D0R (rs : List Re) : DataW Unit := .map ((rs.map fun f => (Lit.string (bl f.r.k), DataW.nil)).foldr DataW.insert [])
theorem rg_entR (f : Re) (h : f.r.k.size ≤ 64) : WideElems.rg (H := Unit) Tryz.prog 9 (fun _ => some (.nil, [])) (entR f) = (.string (bl f.r.k), .nil) := by
  have := Go.WideMaps.keyOf_string_mk (P := Tryz.prog) Tryz.underlying9 (s := f.r.k) (by simp only [maxLen]; omega)
  simp [WideElems.rg, WideElems.rd, entR, this, bl]
theorem owns_R {rs : List Re} {nx r : Nat} {w : World} (hK : RK rs nx) (hs : ∀ f ∈ rs, f.r.k.size ≤ 64) (hl : rs.length ≤ 1000000000) (hb : w.heap[r]? = some (.map (eR rs) nx)) :
    w.ownsMap (H := Unit) Tryz.prog 9 (fun _ => some (.nil, [])) r rs.length (D0R rs) := by
  refine ⟨eR rs, nx, hb, ⟨?_, ⟨fun x hx => ?_, ?_, ?_⟩, fun x hx => ?_⟩, by simp [eR], ?_⟩
  · simp only [eR, List.size_toArray, List.length_map, maxLen]; omega
  · obtain ⟨f, hf, rfl⟩ := List.mem_map.1 (show x ∈ rs.map entR by simpa [eR] using hx)
    exact hK.old f hf
  · have := hK.bns
    simpa [eR, entR, Function.comp_def] using this
  · have h2 : ((eR rs).toList.map (·.key)) = (rs.map (·.r.k)).map Value.string := by simp [eR, entR, Function.comp_def]
    rw [h2]
    exact List.pairwise_map.2 (hK.nms.imp fun h e => h (by simpa using e))
  · obtain ⟨f, hf, rfl⟩ := List.mem_map.1 (show x ∈ rs.map entR by simpa [eR] using hx)
    have := Go.WideMaps.keyOf_string_mk (P := Tryz.prog) Tryz.underlying9 (s := f.r.k) (by have := hs f hf; simp only [maxLen]; omega)
    exact ⟨_, by simp only [WideElems.rd, entR, this]; rfl⟩
  · have e : (eR rs).toList.map (WideElems.rg (H := Unit) Tryz.prog 9 (fun _ => some (.nil, []))) = rs.map fun f => (Lit.string (bl f.r.k), DataW.nil) := by
      rw [eR, List.map_map]
      refine List.map_congr_left fun f hf => ?_
      rw [Function.comp_apply, rg_entR f (hs f hf)]
    rw [e, D0R]
theorem strKeys_D0R (rs : List Re) : (strKeys (D0R rs)).Perm (rs.map fun f => bl f.r.k) := by
  have h := (WideShapes.sorted_perm (rs.map fun f => (Lit.string (bl f.r.k), (DataW.nil : DataW Unit)))).map (fun p => strOf p.1)
  rw [List.map_map] at h
  exact h
theorem size_D0R (rs : List Re) : Maps.size (D0R rs) = rs.length := by
  simp only [D0R, Maps.size_eq, length_sorted, List.length_map]
theorem keysR_any (r : Nat) (w : World) : Calls Tryz.prog 97 #[.map (some r)] w fun e w' => e = .returned (.func (.func 132) #[] #[.pointer (some ⟨w.heap.size, 0, none⟩)]) ∧ w' = w.alloc (.cells #[.map (some r)] 71) :=
  (callsIn_wide (n := 5)).1 (AnyZ.keys_in Tryz.keysB Fence.wide 5 trivial rfl (some r) w)
set_option maxHeartbeats 1000000 in
theorem sortedR_any {rs : List Re} {nx r b : Nat} {w : World} (hK : RK rs nx) (hs : ∀ f ∈ rs, f.r.k.size ≤ 64) (hl : rs.length ≤ 1000000000) (hb : w.heap[r]? = some (.map (eR rs) nx)) (hc : Blk w b 71 #[.map (some r)]) :
    Calls Tryz.prog 58 #[.func (.func 132) #[] #[.pointer (some ⟨b, 0, none⟩)]] w fun e w' => ∃ v, e = .returned v ∧ w'.ownsRow w.heap.size 9 1 v rs.length ((keyL (rws rs)).map encStr) ∧ Below w.heap.size w w' := by
  refine (callsIn_wide (n := 5)).1 ?_
  have hseq : SeqGives Fence.wide 2 Tryz.prog 132 #[.pointer (some ⟨b, 0, none⟩)] encStr (fun ss => ss.Perm (strKeys (D0R rs))) (Maps.size (D0R rs)) w :=
    AnyZ.keys_gives (ρ := Tryz.keysB_ren) { Tryz.keysB with } Fence.wide _ trivial rfl (by omega) b r rs.length (D0R rs) w hc.lt (by rw [hc.cell 0]; rfl) (owns_R hK hs hl hb)
  have cS := AnyZ.sorted_in Tryz.sortedA Fence.wide 5 trivial trivial trivial trivial rfl (by omega) (sortsA _) (enters_of Tryz.func67 (by kernel_rfl) rfl) 132 #[.pointer (some ⟨b, 0, none⟩)] trivial (enters_of Tryz.func132 (by kernel_rfl) rfl) _ _ (by rw [size_D0R]; simp only [maxLen]; omega) (by rw [size_D0R]; omega) _ hseq
  change CallsIn _ _ Tryz.prog 58 _ _ _ at cS
  refine cS.mono ?_
  rintro e w' ⟨v, ss, rfl, hp, hrow, _, hbl⟩
  have hp2 : ss.Perm (rs.map fun f => bl f.r.k) := hp.trans (strKeys_D0R rs)
  have e1 : ss.mergeSort (fun x y => decide (x ≤ y)) = keyL (rws rs) := by
    rw [keyL, rws, List.map_map]
    exact mergeSort_of_perm hp2
  have e2 : ss.length = rs.length := by rw [hp2.length_eq, List.length_map]
  rw [e1, e2] at hrow
  exact ⟨v, rfl, hrow, hbl⟩
end Go.Proofs.YtckmlaempffpjaaGreat

namespace Go.Proofs.YtckmlaempffpjaaGreat
open Go.RowKit

/-- the keys that begin so -/
def nmsR (rs : List Re) (p : ByteArray) : List (List UInt8) := (rs.filter fun f => pfx f.r.k p).map fun f => bl f.r.k
def lstR (l : List Rw) (p : ByteArray) : List (List UInt8) := ((l.filter fun x => pfx x.k p).map fun x => bl x.k).mergeSort leB
theorem nmsR_snoc (pre : List Re) (f : Re) (p : ByteArray) : nmsR (pre ++ [f]) p = nmsR pre p ++ (if pfx f.r.k p = true then [bl f.r.k] else []) := by
 by_cases h : pfx f.r.k p = true
 ·simp [nmsR, h]
 ·simp [nmsR, h]
theorem nmsR_len (pre : List Re) (p : ByteArray) : (nmsR pre p).length ≤ pre.length := by
 unfold nmsR
 rw [List.length_map]
 exact List.length_filter_le _ _
theorem nmsR_sort {rs : List Re} {l : List Rw} {pre : List Re} {p : ByteArray} (h : rws rs = l) (hp : (pre ++ []).Perm rs) : (nmsR pre p).mergeSort leB = lstR l p := by
 rw [lstR]
 refine mergeSort_of_perm ?_
 have h1 : (nmsR pre p).Perm (nmsR rs p) := by
  rw [List.append_nil] at hp
  exact (hp.filter _).map _
 have h2 : nmsR rs p = (l.filter fun x => pfx x.k p).map fun x => bl x.k := by
  rw [← h, nmsR, rws, List.filter_map, List.map_map]
  rfl
 rw [← h2]
 exact h1
set_option linter.unusedVariables false in
set_option maxRecDepth 100000 in
set_option maxHeartbeats 2000000 in
theorem slist_any {w : World} {q dq r size nx : Nat} {rs : List Re} {rows : List Rw} {laid : Nat} (hq : Blk w q 73 (scell dq r laid size)) (hm : w.heap[r]? = some (.map (eR rs) nx)) (hrs : rws rs = rows) (hK : RK rs nx) (hns : ∀ f ∈ rs, f.r.k.size ≤ 1000000000) (hct : rs.length ≤ 1000000000) (p : ByteArray) :
  Calls Tryz.prog 27 #[pt q, .string p] w fun e w' => ∃ v' Lr', e = .returned v' ∧ Row 9 1 v' (lstR rows p).length ((lstR rows p).map encStr) Lr' ∧ HA (bs w) Lr' w' := by
 have H0 := HA.start w
 go_enter Tryz.func27, Tryz.ntmps27
 refine wp_seq ?_
 refine wl_region ?_
 refine zwv (.slice none 0 0) ?_
 refine wl_nil ?_
 refine then_at (F := ⟨(pt q :: .string p :: un :: un :: .slice none 0 0 :: List.replicate 24 un).toArray, []⟩) (by kernel_rfl) ?_
 refine wp_seq ?_
 refine wp_seq ?_
 refine wl_region ?_
 refine zwv (.pointer (some ⟨q, 0, none⟩)) ?_
 refine wl_call (v := .bool false) H0 (by kernel_rfl) enter47 #[.pointer (some ⟨q, 0, none⟩)] (by kernel_rfl) (snone_no (hq.keep H0.old.old)) ?_
 intro w1 h2
 refine wl_nil ?_
 refine then_at (F := ⟨(pt q :: .string p :: un :: un :: .slice none 0 0 :: un :: un :: pt q :: .bool false :: List.replicate 20 un).toArray, []⟩) (by kernel_rfl) ?_
 refine wp_cond_false (by kernel_rfl) ?_
 refine wp_skip ?_
 refine then_at (F := ⟨(pt q :: .string p :: un :: un :: .slice none 0 0 :: un :: un :: pt q :: .bool false :: List.replicate 20 un).toArray, []⟩) (by kernel_rfl) ?_
 refine wp_seq ?_
 refine wl_region ?_
 refine zwv (.slice none 0 0) ?_
 refine wl_nil ?_
 refine then_at (F := ⟨(pt q :: .string p :: un :: un :: .slice none 0 0 :: .slice none 0 0 :: un :: pt q :: .bool false :: List.replicate 20 un).toArray, []⟩) (by kernel_rfl) ?_
 refine wp_seq ?_
 refine wp_seq ?_
 refine wl_region ?_
 refine zwv (.pointer (some ⟨q, 0, none⟩)) ?_
 refine zwv (.pointer (some ⟨q, 0, none⟩)) ?_
 refine zwv (.pointer (some ⟨q, 1, none⟩)) ?_
 refine zwx (.map (some r)) (run_load1 (fun w => Tryz.isAgg71 w) (by kernel_rfl) (((hq.keep h2.old.old).cell 1).trans rfl)) ?_
 refine wl_any (by kernel_rfl) (run_rangeR ((h2.old.old.block _ (lt_of_block hm)).trans hm) (by kernel_rfl)) ?_
 have h3 := h2.newM (.it r nx (bnR []) nx)
 have hge : w.heap.size ≤ w1.heap.size := h2.size
 have hrit : r ≠ w1.heap.size := by have := lt_of_block hm; omega
 generalize hit : w1.heap.size = it at h3 hge hrit ⊢
 change HA _ _ (w1.alloc (MO.it r nx #[] nx).obj) at h3
 generalize w1.alloc (MO.it r nx #[] nx).obj = w4 at h3 ⊢
 refine wl_nil ?_
 refine then_at (F := ⟨(pt q :: .string p :: un :: un :: .slice none 0 0 :: .slice none 0 0 :: un :: pt q :: .bool false :: pt q :: pt q :: .pointer (some ⟨q, 1, none⟩) :: .map (some r) :: pt it :: List.replicate 15 un).toArray, []⟩) (by kernel_rfl) ?_
 refine wp_block ?_
 refine wp_while (fun mq A w' => ∃ (pre lft : List Re) (vv : Value) (Lr2 : BL) (u5 : Nat → Value), mq = lft.length ∧ A = ⟨(pt q :: .string p :: un :: un :: .slice none 0 0 :: vv :: u5 6 :: pt q :: .bool false :: pt q :: pt q :: .pointer (some ⟨q, 1, none⟩) :: .map (some r) :: pt it :: u5 14 :: u5 15 :: u5 16 :: u5 17 :: u5 18 :: u5 19 :: u5 20 :: u5 21 :: u5 22 :: u5 23 :: u5 24 :: u5 25 :: List.replicate 3 un).toArray, []⟩ ∧ (pre ++ lft).Perm rs ∧ Row 9 1 vv (nmsR pre p).length ((nmsR pre p).map encStr) Lr2 ∧ HA ⟨w, [(it, .it r nx (bnR pre) nx)]⟩ Lr2 w') rs.length ?_ ?_
 ·exact ⟨[], rs, .slice none 0 0, [], fun ii => (([(6, undef), (14, undef), (15, undef), (16, undef), (17, undef), (18, undef), (19, undef), (20, undef), (21, undef), (22, undef), (23, undef), (24, undef), (25, undef)] : List (Nat × Value)).find? (·.1 == ii)).elim undef (·.2), rfl, by kernel_rfl, List.Perm.refl _, Row.nil 9 1, h3⟩
 rintro _ _ w6 ⟨pre, lft, vv, Lr2, u5, rfl, rfl, hp, hR2, hL⟩
 rcases lft with _ | ⟨g0, lf⟩
 ·skip
  refine wp_seq ?_
  refine wl_region ?_
  refine zwx (.tuple #[.bool false]) (run_nextR_end hp hK hL ((hL.old.old.block _ (lt_of_block hm)).trans hm) (by kernel_rfl)) ?_
  refine zwv (.bool false) ?_
  refine wl_nil ?_
  refine then_at (F := ⟨(pt q :: .string p :: un :: un :: .slice none 0 0 :: vv :: u5 6 :: pt q :: .bool false :: pt q :: pt q :: .pointer (some ⟨q, 1, none⟩) :: .map (some r) :: pt it :: .tuple #[.bool false] :: .bool false :: u5 16 :: u5 17 :: u5 18 :: u5 19 :: u5 20 :: u5 21 :: u5 22 :: u5 23 :: u5 24 :: u5 25 :: List.replicate 3 un).toArray, []⟩) (by kernel_rfl) ?_
  refine wp_seq ?_
  refine wp_cond_false (by kernel_rfl) ?_
  refine wp_exit ?_
  repeat first | refine then_exit ?_ | refine block_exit ?_ | refine block_exit_ne (by decide) ?_
  refine then_at (F := ⟨(pt q :: .string p :: un :: un :: .slice none 0 0 :: vv :: u5 6 :: pt q :: .bool false :: pt q :: pt q :: .pointer (some ⟨q, 1, none⟩) :: .map (some r) :: pt it :: .tuple #[.bool false] :: .bool false :: u5 16 :: u5 17 :: u5 18 :: u5 19 :: u5 20 :: u5 21 :: u5 22 :: u5 23 :: u5 24 :: u5 25 :: List.replicate 3 un).toArray, []⟩) (by kernel_rfl) ?_
  refine wp_seq ?_
  refine wl_region ?_
  refine zwv (vv) ?_
  refine wl_callx (by kernel_rfl) enter67 #[vv] (by kernel_rfl) (sort_row (L := []) hR2 (by simpa using hL) (by have := nmsR_len pre p; have := hp.length_eq; simp at this; omega)) ?_
  rintro _ w7 ⟨rfl, Lr4, hR4, hS⟩
  refine ⟨_, rfl, ?_⟩
  refine wl_nil ?_
  refine then_at (F := ⟨(pt q :: .string p :: un :: un :: .slice none 0 0 :: vv :: u5 6 :: pt q :: .bool false :: pt q :: pt q :: .pointer (some ⟨q, 1, none⟩) :: .map (some r) :: pt it :: .tuple #[.bool false] :: .bool false :: u5 16 :: u5 17 :: u5 18 :: u5 19 :: u5 20 :: u5 21 :: u5 22 :: u5 23 :: u5 24 :: u5 25 :: vv :: .tuple #[] :: List.replicate 1 un).toArray, []⟩) (by kernel_rfl) ?_
  refine wp_seq ?_
  refine wl_region ?_
  refine zwv (vv) ?_
  refine zwv (vv) ?_
  refine wl_nil ?_
  refine then_at (F := ⟨(pt q :: .string p :: un :: un :: vv :: vv :: u5 6 :: pt q :: .bool false :: pt q :: pt q :: .pointer (some ⟨q, 1, none⟩) :: .map (some r) :: pt it :: .tuple #[.bool false] :: .bool false :: u5 16 :: u5 17 :: u5 18 :: u5 19 :: u5 20 :: u5 21 :: u5 22 :: u5 23 :: u5 24 :: u5 25 :: vv :: .tuple #[] :: vv :: List.replicate 0 un).toArray, []⟩) (by kernel_rfl) ?_
  refine wp_ret ?_
  repeat first | refine then_ret ?_ | refine block_ret ?_
  exact bodyPost_ret (v := vv) (by kernel_rfl) rfl ⟨vv, Lr4, rfl, by rw [← nmsR_sort hrs hp, List.length_mergeSort]; exact hR4, HA.noM (by simpa using hS)⟩
 ·have hlp := hp.length_eq
  rw [List.length_append, List.length_cons] at hlp
  have hnl := nmsR_len pre p
  refine wp_seq ?_
  refine wl_region ?_
  obtain ⟨A, f, B, wn, hAB, hrn, hn2, hmn⟩ := run_nextR_some (ρ := _) (x := _) (dst := _) (ty := _) (pos := _) (aft := _) (gd := _) hp hK hL ((hL.old.old.block _ (lt_of_block hm)).trans hm) hrit (by kernel_rfl)
  refine wl_any (by kernel_rfl) hrn ?_
  have hff : f ∈ rs := hp.mem_iff.1 (by rw [hAB]; simp)
  refine zwv (.bool true) ?_
  refine wl_nil ?_
  refine then_at (F := ⟨(pt q :: .string p :: un :: un :: .slice none 0 0 :: vv :: u5 6 :: pt q :: .bool false :: pt q :: pt q :: .pointer (some ⟨q, 1, none⟩) :: .map (some r) :: pt it :: .tuple #[.bool true, .string f.r.k, rwv f.r] :: .bool true :: u5 16 :: u5 17 :: u5 18 :: u5 19 :: u5 20 :: u5 21 :: u5 22 :: u5 23 :: u5 24 :: u5 25 :: List.replicate 3 un).toArray, []⟩) (by kernel_rfl) ?_
  refine wp_seq ?_
  refine wp_cond_true (by kernel_rfl) ?_
  refine wp_skip ?_
  refine then_at (F := ⟨(pt q :: .string p :: un :: un :: .slice none 0 0 :: vv :: u5 6 :: pt q :: .bool false :: pt q :: pt q :: .pointer (some ⟨q, 1, none⟩) :: .map (some r) :: pt it :: .tuple #[.bool true, .string f.r.k, rwv f.r] :: .bool true :: u5 16 :: u5 17 :: u5 18 :: u5 19 :: u5 20 :: u5 21 :: u5 22 :: u5 23 :: u5 24 :: u5 25 :: List.replicate 3 un).toArray, []⟩) (by kernel_rfl) ?_
  refine wp_block ?_
  refine wp_seq ?_
  refine wl_region ?_
  refine zwx (.tuple #[.string f.r.k, rwv f.r]) (run_entryR hff hK hn2 ((hn2.old.old.block _ (lt_of_block hm)).trans hm) (by kernel_rfl)) ?_
  refine zwv (.string f.r.k) ?_
  refine zwv (.string f.r.k) ?_
  refine wl_nil ?_
  refine then_at (F := ⟨(pt q :: .string p :: un :: un :: .slice none 0 0 :: vv :: .string f.r.k :: pt q :: .bool false :: pt q :: pt q :: .pointer (some ⟨q, 1, none⟩) :: .map (some r) :: pt it :: .tuple #[.bool true, .string f.r.k, rwv f.r] :: .bool true :: .tuple #[.string f.r.k, rwv f.r] :: .string f.r.k :: u5 18 :: u5 19 :: u5 20 :: u5 21 :: u5 22 :: u5 23 :: u5 24 :: u5 25 :: List.replicate 3 un).toArray, []⟩) (by kernel_rfl) ?_
  refine wp_seq ?_
  rcases hpx : pfx f.r.k p with _ | _
  ·refine wl_region ?_
   refine zwv (.string f.r.k) ?_
   refine zwv (.string p) ?_
   refine wl_call (v := .bool false) hn2 (by kernel_rfl) enter66 #[.string f.r.k, .string p] (by kernel_rfl) (by have := HasPrefix_any f.r.k p wn; rw [hpx] at this; exact this) ?_
   intro w8 h9
   refine wl_nil ?_
   refine then_at (F := ⟨(pt q :: .string p :: un :: un :: .slice none 0 0 :: vv :: .string f.r.k :: pt q :: .bool false :: pt q :: pt q :: .pointer (some ⟨q, 1, none⟩) :: .map (some r) :: pt it :: .tuple #[.bool true, .string f.r.k, rwv f.r] :: .bool true :: .tuple #[.string f.r.k, rwv f.r] :: .string f.r.k :: .string f.r.k :: .string p :: .bool false :: u5 21 :: u5 22 :: u5 23 :: u5 24 :: u5 25 :: List.replicate 3 un).toArray, []⟩) (by kernel_rfl) ?_
   refine wp_cond_false (by kernel_rfl) ?_
   refine wp_skip ?_
   refine block_normal ?_
   exact then_I ⟨(A ++ B).length, (by rw [show (g0 :: lf).length = (A ++ f :: B).length by rw [hAB]]; simp), pre ++ [f], A ++ B, vv, Lr2, fun ii => (([(6, .string f.r.k), (14, .tuple #[.bool true, .string f.r.k, rwv f.r]), (15, .bool true), (16, .tuple #[.string f.r.k, rwv f.r]), (17, .string f.r.k), (18, .string f.r.k), (19, .string p), (20, .bool false), (21, u5 21), (22, u5 22), (23, u5 23), (24, u5 24), (25, u5 25)] : List (Nat × Value)).find? (·.1 == ii)).elim undef (·.2), rfl, by kernel_rfl, by rw [hAB] at hp; rw [List.append_assoc]; refine List.Perm.trans (List.Perm.append_left pre ?_) hp; show (f :: (A ++ B)).Perm (A ++ f :: B); exact List.perm_middle.symm, by rw [nmsR_snoc, hpx]; simpa using hR2, h9⟩
  ·refine wl_region ?_
   refine zwv (.string f.r.k) ?_
   refine zwv (.string p) ?_
   refine wl_call (v := .bool true) hn2 (by kernel_rfl) enter66 #[.string f.r.k, .string p] (by kernel_rfl) (by have := HasPrefix_any f.r.k p wn; rw [hpx] at this; exact this) ?_
   intro w10 h11
   refine wl_nil ?_
   refine then_at (F := ⟨(pt q :: .string p :: un :: un :: .slice none 0 0 :: vv :: .string f.r.k :: pt q :: .bool false :: pt q :: pt q :: .pointer (some ⟨q, 1, none⟩) :: .map (some r) :: pt it :: .tuple #[.bool true, .string f.r.k, rwv f.r] :: .bool true :: .tuple #[.string f.r.k, rwv f.r] :: .string f.r.k :: .string f.r.k :: .string p :: .bool true :: u5 21 :: u5 22 :: u5 23 :: u5 24 :: u5 25 :: List.replicate 3 un).toArray, []⟩) (by kernel_rfl) ?_
   refine wp_cond_true (by kernel_rfl) ?_
   refine wl_region ?_
   refine zwv (vv) ?_
   refine zwv (.string f.r.k) ?_
   refine wl_call (v := .string f.r.k) h11 (by kernel_rfl) enter61 #[.string f.r.k] (by kernel_rfl) (sclone_any f.r.k w10 (by have := hns f hff; omega)) ?_
   intro w12 h13
   refine wl_mks (n := 1) (m := 1) (c := #[.string f.r.k]) h13 9 (by kernel_rfl) (by kernel_rfl) ?_
   intro q14 w15 (h16 : HA ⟨w, [(it, .it r nx (bnR (pre ++ [f])) nx)]⟩ ((q14, 9, #[.string f.r.k]) :: Lr2) w15)
   refine wl_append (Lr := Lr2) (L := []) (m := 1) (c := 1) hR2 (by simpa using h16) (by decide) (.string { data := #[] }) 16 Tryz.underlying39 info9 rfl (by decide) (by kernel_rfl) (by kernel_rfl) (by kernel_rfl) rfl (by kernel_rfl) (by unfold maxLen; omega) (by omega) (by decide) ?_
   intro v3 w17 Lr3 hR3 h18
   refine zwv (v3) ?_
   refine wl_nil ?_
   refine block_normal ?_
   exact then_I ⟨(A ++ B).length, (by rw [show (g0 :: lf).length = (A ++ f :: B).length by rw [hAB]]; simp), pre ++ [f], A ++ B, v3, (Lr3 ++ []), fun ii => (([(6, .string f.r.k), (14, .tuple #[.bool true, .string f.r.k, rwv f.r]), (15, .bool true), (16, .tuple #[.string f.r.k, rwv f.r]), (17, .string f.r.k), (18, .string f.r.k), (19, .string p), (20, .bool true), (21, vv), (22, .string f.r.k), (23, .string f.r.k), (24, .slice (some ⟨q14, 0, none⟩) 1 1), (25, v3)] : List (Nat × Value)).find? (·.1 == ii)).elim undef (·.2), rfl, by kernel_rfl, by rw [hAB] at hp; rw [List.append_assoc]; refine List.Perm.trans (List.Perm.append_left pre ?_) hp; show (f :: (A ++ B)).Perm (A ++ f :: B); exact List.perm_middle.symm, by rw [List.append_nil]; rw [nmsR_snoc, if_pos hpx, List.length_append, List.map_append]; simpa [enc_nm] using hR3, h18⟩
end Go.Proofs.YtckmlaempffpjaaGreat

namespace Go.Proofs.YtckmlaempffpjaaGreat
open Go.RowKit

set_option linter.unusedVariables false in
set_option maxRecDepth 100000 in
set_option maxHeartbeats 2000000 in
theorem index_no {w : World} {o : Option Addr} {c : Nat} {ds : List ByteArray} (hK : KeysAt w o ds) (hdl : ds.length ≤ 1000000000) (x : ByteArray) (hn : ∀ y ∈ ds, y ≠ x) :
  Calls Tryz.prog 148 #[.slice o ds.length c, .string x] w fun e w' => e = .returned (.int .i64 (-1)) ∧ Below w.heap.size w w' := by
 have H0 := HA.start w
 go_enter Tryz.func148, Tryz.ntmps148
 refine wp_seq ?_
 refine wl_region ?_
 refine zwv (iN .i64 0) ?_
 refine wl_nil ?_
 refine then_at rfl ?_
 refine wp_seq ?_
 refine wp_seq ?_
 refine wl_region ?_
 refine zwv (.slice o ds.length c) ?_
 refine zwv (iN .i64 ds.length) ?_
 refine zwv (iN .i64 0) ?_
 refine wl_nil ?_
 refine then_at rfl ?_
 refine wp_block ?_
 refine wp_count (fun k A w' => ∃ u1 : Nat → Value, A = ⟨(.slice o ds.length c :: .string x :: un :: un :: u1 4 :: u1 5 :: .slice o ds.length c :: iN .i64 ds.length :: iN .i64 k :: u1 9 :: u1 10 :: u1 11 :: u1 12 :: u1 13 :: u1 14 :: u1 15 :: u1 16 :: u1 17 :: u1 18 :: List.replicate 0 un).toArray, []⟩ ∧ HA (bs w) [] w') ds.length ?_ ?_ ?_
 ·exact ⟨fun ii => (([(4, iN .i64 0), (5, undef), (9, undef), (10, undef), (11, undef), (12, undef), (13, undef), (14, undef), (15, undef), (16, undef), (17, undef), (18, undef)] : List (Nat × Value)).find? (·.1 == ii)).elim undef (·.2), by kernel_rfl, H0⟩
 ·rintro k hk _ w2 ⟨u1, rfl, hL⟩
  have hkd := hk
  obtain ⟨y, hy⟩ : ∃ y, ds[k]? = some y := ⟨_, List.getElem?_eq_getElem hkd⟩
  obtain ⟨da, hda, hdk⟩ := hK k y hy
  have hyx : y ≠ x := hn y (List.mem_of_getElem? hy)
  refine wp_seq ?_
  refine wl_region ?_
  refine zwx (.bool true) (run_lss (k := .i64) (a := k) (b := ds.length) (by kernel_rfl) (by kernel_rfl) true (decide_eq_true (by omega))) ?_
  refine wl_nil ?_
  refine then_at rfl ?_
  refine wp_seq ?_
  refine wp_cond_true (by kernel_rfl) ?_
  refine wp_skip ?_
  refine then_at rfl ?_
  refine wp_seq ?_
  refine wp_block ?_
  refine wp_seq ?_
  refine wl_region ?_
  refine zwv (iN .i64 k) ?_
  refine zwv (iN .i64 k) ?_
  refine wl_nil ?_
  refine then_at rfl ?_
  refine wp_seq ?_
  refine wl_region ?_
  refine zwv (.string x) ?_
  refine zwv (.slice o ds.length c) ?_
  refine zwv (iN .i64 k) ?_
  refine zwx (.pointer (some (da.add k))) (run_addr39 (a := da) (n := ds.length) (m := c) (i := k) hda (by kernel_rfl) (by kernel_rfl) hkd) ?_
  refine zwx (.string y) (run_load_at (b := da.add k) (fun w => Tryz.isAgg9 w) (by kernel_rfl) (cell_old hL.old.old hdk)) ?_
  refine zwx (.bool false) (run_eqs (s := x) (t := y) (by kernel_rfl) (by kernel_rfl) false (decide_eq_false (Ne.symm hyx))) ?_
  refine wl_nil ?_
  refine then_at rfl ?_
  refine wp_cond_false (by kernel_rfl) ?_
  refine wp_skip ?_
  refine block_normal ?_
  refine then_at rfl ?_
  refine wl_region ?_
  refine zwx (iN .i64 (k + 1)) (run_add (k := .i64) (a := k) (b := 1) (by kernel_rfl) (by kernel_rfl) (by first | omega | (simp only [top]; omega))) ?_
  refine zwv (iN .i64 (k + 1)) ?_
  refine wl_nil ?_
  exact then_I ⟨fun ii => (([(4, u1 4), (5, iN .i64 k), (9, .bool true), (10, iN .i64 k), (11, .string x), (12, .slice o ds.length c), (13, iN .i64 k), (14, .pointer (some (da.add k))), (15, .string y), (16, .bool false), (17, u1 17), (18, iN .i64 (k + 1))] : List (Nat × Value)).find? (·.1 == ii)).elim undef (·.2), by kernel_rfl, hL⟩
 ·rintro _ w3 ⟨u1, rfl, hL⟩
  refine wp_seq ?_
  refine wl_region ?_
  refine zwx (.bool false) (run_lss (k := .i64) (a := ds.length) (b := ds.length) (by kernel_rfl) (by kernel_rfl) false (decide_eq_false (by omega))) ?_
  refine wl_nil ?_
  refine then_at rfl ?_
  refine wp_seq ?_
  refine wp_cond_false (by kernel_rfl) ?_
  refine wp_exit ?_
  repeat first | refine then_exit ?_ | refine block_exit ?_ | refine block_exit_ne (by decide) ?_
  refine then_at rfl ?_
  refine wp_seq ?_
  refine wl_region ?_
  refine zwv (.int .i64 (-1)) ?_
  refine wl_nil ?_
  refine then_at rfl ?_
  refine wp_ret ?_
  repeat first | refine then_ret ?_ | refine block_ret ?_
  exact bodyPost_ret (v := .int .i64 (-1)) (by kernel_rfl) rfl ⟨rfl, hL.old.old⟩
set_option linter.unusedVariables false in
set_option maxRecDepth 100000 in
set_option maxHeartbeats 2000000 in
theorem index_yes {w : World} {o : Option Addr} {c : Nat} {ds : List ByteArray} (hK : KeysAt w o ds) (hdl : ds.length ≤ 1000000000) (x : ByteArray) {A B : List ByteArray} (hds : ds = A ++ x :: B) (hA : ∀ y ∈ A, y ≠ x) :
  Calls Tryz.prog 148 #[.slice o ds.length c, .string x] w fun e w' => e = .returned (iN .i64 A.length) ∧ Below w.heap.size w w' := by
 have H0 := HA.start w
 have hAl : A.length < ds.length := by rw [hds]; simp
 go_enter Tryz.func148, Tryz.ntmps148
 refine wp_seq ?_
 refine wl_region ?_
 refine zwv (iN .i64 0) ?_
 refine wl_nil ?_
 refine then_at rfl ?_
 refine wp_seq ?_
 refine wp_seq ?_
 refine wl_region ?_
 refine zwv (.slice o ds.length c) ?_
 refine zwv (iN .i64 ds.length) ?_
 refine zwv (iN .i64 0) ?_
 refine wl_nil ?_
 refine then_at rfl ?_
 refine wp_block ?_
 refine wp_count (fun k A w' => ∃ u1 : Nat → Value, A = ⟨(.slice o ds.length c :: .string x :: un :: un :: u1 4 :: u1 5 :: .slice o ds.length c :: iN .i64 ds.length :: iN .i64 k :: u1 9 :: u1 10 :: u1 11 :: u1 12 :: u1 13 :: u1 14 :: u1 15 :: u1 16 :: u1 17 :: u1 18 :: List.replicate 0 un).toArray, []⟩ ∧ HA (bs w) [] w') A.length ?_ ?_ ?_
 ·exact ⟨fun ii => (([(4, iN .i64 0), (5, undef), (9, undef), (10, undef), (11, undef), (12, undef), (13, undef), (14, undef), (15, undef), (16, undef), (17, undef), (18, undef)] : List (Nat × Value)).find? (·.1 == ii)).elim undef (·.2), by kernel_rfl, H0⟩
 ·rintro k hk _ w2 ⟨u1, rfl, hL⟩
  have hkd : k < ds.length := by omega
  obtain ⟨y, hy⟩ : ∃ y, ds[k]? = some y := ⟨_, List.getElem?_eq_getElem hkd⟩
  obtain ⟨da, hda, hdk⟩ := hK k y hy
  have hyx : y ≠ x := hA y (by rw [hds, List.getElem?_append_left hk] at hy; exact List.mem_of_getElem? hy)
  refine wp_seq ?_
  refine wl_region ?_
  refine zwx (.bool true) (run_lss (k := .i64) (a := k) (b := ds.length) (by kernel_rfl) (by kernel_rfl) true (decide_eq_true (by omega))) ?_
  refine wl_nil ?_
  refine then_at rfl ?_
  refine wp_seq ?_
  refine wp_cond_true (by kernel_rfl) ?_
  refine wp_skip ?_
  refine then_at rfl ?_
  refine wp_seq ?_
  refine wp_block ?_
  refine wp_seq ?_
  refine wl_region ?_
  refine zwv (iN .i64 k) ?_
  refine zwv (iN .i64 k) ?_
  refine wl_nil ?_
  refine then_at rfl ?_
  refine wp_seq ?_
  refine wl_region ?_
  refine zwv (.string x) ?_
  refine zwv (.slice o ds.length c) ?_
  refine zwv (iN .i64 k) ?_
  refine zwx (.pointer (some (da.add k))) (run_addr39 (a := da) (n := ds.length) (m := c) (i := k) hda (by kernel_rfl) (by kernel_rfl) hkd) ?_
  refine zwx (.string y) (run_load_at (b := da.add k) (fun w => Tryz.isAgg9 w) (by kernel_rfl) (cell_old hL.old.old hdk)) ?_
  refine zwx (.bool false) (run_eqs (s := x) (t := y) (by kernel_rfl) (by kernel_rfl) false (decide_eq_false (Ne.symm hyx))) ?_
  refine wl_nil ?_
  refine then_at rfl ?_
  refine wp_cond_false (by kernel_rfl) ?_
  refine wp_skip ?_
  refine block_normal ?_
  refine then_at rfl ?_
  refine wl_region ?_
  refine zwx (iN .i64 (k + 1)) (run_add (k := .i64) (a := k) (b := 1) (by kernel_rfl) (by kernel_rfl) (by first | omega | (simp only [top]; omega))) ?_
  refine zwv (iN .i64 (k + 1)) ?_
  refine wl_nil ?_
  exact then_I ⟨fun ii => (([(4, u1 4), (5, iN .i64 k), (9, .bool true), (10, iN .i64 k), (11, .string x), (12, .slice o ds.length c), (13, iN .i64 k), (14, .pointer (some (da.add k))), (15, .string y), (16, .bool false), (17, u1 17), (18, iN .i64 (k + 1))] : List (Nat × Value)).find? (·.1 == ii)).elim undef (·.2), by kernel_rfl, hL⟩
 ·rintro _ w3 ⟨u1, rfl, hL⟩
  have hxA : ds[A.length]? = some x := by rw [hds]; simp
  obtain ⟨da, hda, hdk⟩ := hK A.length x hxA
  refine wp_seq ?_
  refine wl_region ?_
  refine zwx (.bool true) (run_lss (k := .i64) (a := A.length) (b := ds.length) (by kernel_rfl) (by kernel_rfl) true (decide_eq_true (by omega))) ?_
  refine wl_nil ?_
  refine then_at rfl ?_
  refine wp_seq ?_
  refine wp_cond_true (by kernel_rfl) ?_
  refine wp_skip ?_
  refine then_at rfl ?_
  refine wp_seq ?_
  refine wp_block ?_
  refine wp_seq ?_
  refine wl_region ?_
  refine zwv (iN .i64 A.length) ?_
  refine zwv (iN .i64 A.length) ?_
  refine wl_nil ?_
  refine then_at rfl ?_
  refine wp_seq ?_
  refine wl_region ?_
  refine zwv (.string x) ?_
  refine zwv (.slice o ds.length c) ?_
  refine zwv (iN .i64 A.length) ?_
  refine zwx (.pointer (some (da.add A.length))) (run_addr39 (a := da) (n := ds.length) (m := c) (i := A.length) hda (by kernel_rfl) (by kernel_rfl) hAl) ?_
  refine zwx (.string x) (run_load_at (b := da.add A.length) (fun w => Tryz.isAgg9 w) (by kernel_rfl) (cell_old hL.old.old hdk)) ?_
  refine zwx (.bool true) (run_eqs (s := x) (t := x) (by kernel_rfl) (by kernel_rfl) true (decide_eq_true rfl)) ?_
  refine wl_nil ?_
  refine then_at rfl ?_
  refine wp_cond_true (by kernel_rfl) ?_
  refine wp_seq ?_
  refine wl_region ?_
  refine zwv (iN .i64 A.length) ?_
  refine zwv (iN .i64 A.length) ?_
  refine wl_nil ?_
  refine then_at rfl ?_
  refine wp_ret ?_
  repeat first | refine then_ret ?_ | refine block_ret ?_
  exact bodyPost_ret (v := iN .i64 A.length) (by kernel_rfl) rfl ⟨rfl, hL.old.old⟩
set_option linter.unusedVariables false in
set_option maxRecDepth 100000 in
set_option maxHeartbeats 2000000 in
theorem contains_no {w : World} {o : Option Addr} {c : Nat} {ds : List ByteArray} (hK : KeysAt w o ds) (hdl : ds.length ≤ 1000000000) (x : ByteArray) (hn : ∀ y ∈ ds, y ≠ x) :
  Calls Tryz.prog 129 #[.slice o ds.length c, .string x] w fun e w' => e = .returned (.bool false) ∧ Below w.heap.size w w' := by
 have H0 := HA.start w
 go_enter Tryz.func129, Tryz.ntmps129
 refine wp_seq ?_
 refine wl_region ?_
 refine zwv (.bool false) ?_
 refine wl_nil ?_
 refine then_at rfl ?_
 refine wp_seq ?_
 refine wl_region ?_
 refine zwv (.slice o ds.length c) ?_
 refine zwv (.string x) ?_
 refine wl_call (v := .int .i64 (-1)) H0 (by kernel_rfl) enter148 #[.slice o ds.length c, .string x] (by kernel_rfl) (index_no (hK.keep H0.old.old) hdl x hn) ?_
 intro w1 h2
 refine zwv (.bool false) ?_
 refine zwv (.bool false) ?_
 refine wl_nil ?_
 refine then_at rfl ?_
 refine wp_ret ?_
 repeat first | refine then_ret ?_ | refine block_ret ?_
 exact bodyPost_ret (v := .bool false) (by kernel_rfl) rfl ⟨rfl, h2.old.old⟩
set_option linter.unusedVariables false in
set_option maxRecDepth 100000 in
set_option maxHeartbeats 2000000 in
theorem contains_yes {w : World} {o : Option Addr} {c : Nat} {ds : List ByteArray} (hK : KeysAt w o ds) (hdl : ds.length ≤ 1000000000) (x : ByteArray) {A B : List ByteArray} (hds : ds = A ++ x :: B) (hA : ∀ y ∈ A, y ≠ x) :
  Calls Tryz.prog 129 #[.slice o ds.length c, .string x] w fun e w' => e = .returned (.bool true) ∧ Below w.heap.size w w' := by
 have H0 := HA.start w
 go_enter Tryz.func129, Tryz.ntmps129
 refine wp_seq ?_
 refine wl_region ?_
 refine zwv (.bool false) ?_
 refine wl_nil ?_
 refine then_at rfl ?_
 refine wp_seq ?_
 refine wl_region ?_
 refine zwv (.slice o ds.length c) ?_
 refine zwv (.string x) ?_
 refine wl_call (v := iN .i64 A.length) H0 (by kernel_rfl) enter148 #[.slice o ds.length c, .string x] (by kernel_rfl) (index_yes (hK.keep H0.old.old) hdl x hds hA) ?_
 intro w1 h2
 refine zwx (.bool true) (run_geq (k := .i64) (a := A.length) (b := 0) (by kernel_rfl) (by kernel_rfl) true (decide_eq_true (by omega))) ?_
 refine zwv (.bool true) ?_
 refine wl_nil ?_
 refine then_at rfl ?_
 refine wp_ret ?_
 repeat first | refine then_ret ?_ | refine block_ret ?_
 exact bodyPost_ret (v := .bool true) (by kernel_rfl) rfl ⟨rfl, h2.old.old⟩
theorem first_split {x : ByteArray} : ∀ {l : List ByteArray}, x ∈ l → ∃ A B, l = A ++ x :: B ∧ ∀ y ∈ A, y ≠ x
 | [], h => by cases h
 | y :: l, h => by
  by_cases e : y = x
  ·subst e; exact ⟨[], l, rfl, fun _ h => by cases h⟩
  ·rcases List.mem_cons.1 h with rfl | h
   ·exact absurd rfl e
   ·obtain ⟨A, B, rfl, hA⟩ := first_split h
    exact ⟨y :: A, B, rfl, fun z hz => by rcases List.mem_cons.1 hz with rfl | hz; exact e; exact hA z hz⟩
theorem contains_any {w : World} {o : Option Addr} {c : Nat} {ds : List ByteArray} (hK : KeysAt w o ds) (hdl : ds.length ≤ 1000000000) (x : ByteArray) :
  Calls Tryz.prog 129 #[.slice o ds.length c, .string x] w fun e w' => e = .returned (.bool (ds.any fun y => decide (y = x))) ∧ Below w.heap.size w w' := by
 cases h : ds.any fun y => decide (y = x) with
 | true =>
  obtain ⟨y, hy, e⟩ := List.any_eq_true.1 h
  obtain rfl : y = x := of_decide_eq_true e
  obtain ⟨A, B, hds, hA⟩ := first_split hy
  exact contains_yes hK hdl y hds hA
 | false =>
  exact contains_no hK hdl x fun y hy e => List.any_eq_false.1 h y hy (decide_eq_true e)
end Go.Proofs.YtckmlaempffpjaaGreat
