/-
 Maps, rows that grow, calls told by what holds: what is the same at every seat.
-/
import Derived.Test.YtckmlaempffpjaaGreatTB
import Derived.MapKept
import Derived.Laws.StructEq
import Derived.Maps.RangeRun
import Derived.Test.YtckmlaempffpjaaGreatWx
namespace Go.Proofs.YtckmlaempffpjaaGreat
open Go.RowKit Go.Proofs.Tryz
section
variable {P : Program} {ops : Array Oper} {Q : Exit → Act → World → Prop} {a : Act} {rest : List Oper} {dst : Option Tmp} {ty : TypeId} {pos : String} {aft : Array Edge} {gd : Option (Nat × Bool)} {w w' : World}
theorem wl_any {o : Oper} {v : Value} (hw : Region.wanted o (yielded ops a.tmps) = true) (hr : (execOp a.eval o).run P w = .ok (.value v) w') (h : WL P ops Q rest (a.put o.dst v) w') : WL P ops Q (o :: rest) a w := by
 refine ⟨?_⟩
 unfold wpList
 rw [if_pos hw];refine .inl ?_
 unfold Oper.wp
 rw [hr];exact h.out
theorem wl_callx {f : FuncId} {xs : Array Operand} {ats : Array TypeId} {R : Ending → World → Prop} 
  (hr : ∀ args w, (callFunc f args).run P w = .ok (.enter f args) w) (args : Array Value)  (hc : Calls P f args w R)
  (h : ∀ e w', R e w' → ∃ v, e = .returned v ∧ WL P ops Q rest (a.put dst v) w') (hw : Region.wanted ⟨dst, .call { callee := .value (.func f), args := xs, argTypes := ats }, ty, pos, aft, gd⟩ (yielded ops a.tmps) = true := by kernel_rfl) (ha : #[] ++ xs.map a.eval ++ #[] = args := by kernel_rfl) : WL P ops Q (⟨dst, .call { callee := .value (.func f), args := xs, argTypes := ats }, ty, pos, aft, gd⟩ :: rest) a w := by
 refine ⟨?_⟩
 unfold wpList
 rw [if_pos hw];refine .inl ?_
 unfold Oper.wp
 rw [execOp_call_go, ha, hr];refine hc.mono ?_;intro e w' hR;obtain ⟨v, rfl, hv⟩ := h e w' hR;exact hv.out
end
section
variable {z : Base} {L L' : List (Nat × TypeId × Array Value)} {w w' : World}
theorem HA.perm (h : HA z L w) (hp : L.Perm L') : HA z L' w := ⟨h.old, fun x hx => h.blk x (hp.symm.subset hx), fun x hx => h.own x (hp.symm.subset hx), (hp.map _).nodup_iff.1 h.nd⟩
theorem HA.sub (h : HA z L w) (hp : L'.Sublist L) : HA z L' w := ⟨h.old, fun x hx => h.blk x (hp.subset hx), fun x hx => h.own x (hp.subset hx), (hp.map _).nodup h.nd⟩
theorem HA.mv (A B C : List (Nat × TypeId × Array Value)) (h : HA z (A ++ (B ++ C)) w) : HA z (B ++ (A ++ C)) w := h.perm (by
 rw [← List.append_assoc, ← List.append_assoc];exact List.perm_append_comm.append_right C)
end
/-! maps -/
def World.setMap (w : World) (r : Nat) (es : Array MapEntry) (c : Nat) : World := { w with heap := w.heap.setIfInBounds r (.map es c) }
section
variable {w0 : World} {M : List (Nat × MO)} {L : List (Nat × TypeId × Array Value)} {w : World}
theorem HA.setMap (h : HA ⟨w0, M⟩ L w) (i : Nat) {r : Nat} {es es' : Array MapEntry} {c c' : Nat} (hi : M[i]? = some (r, .mp es c)) : HA ⟨w0, M.set i (r, .mp es' c')⟩ L (World.setMap w r es' c') := by
 have hlt : i < M.length := (List.getElem?_eq_some_iff.1 hi).1;have hmem := List.mem_of_getElem? hi;have hb := h.old.maps _ hmem;have hne : ∀ k, k ≠ r → (World.setMap w r es' c').heap[k]? = w.heap[k]? := fun k hk => by simp [World.setMap, Ne.symm hk]
 have heq : (World.setMap w r es' c').heap[r]? = some (.map es' c') := by
  have := (Array.getElem?_eq_some_iff.1 hb).1
  simp only at this
  simp [World.setMap, this]
 have hmap : (M.set i (r, .mp es' c')).map (·.1) = M.map (·.1) := by
  rw [List.map_set];refine List.ext_getElem? fun j => ?_
  by_cases hj : i = j
  ·subst hj;rw [List.getElem?_set_self (by simpa using hlt), List.getElem?_map, hi]
   rfl
  ·rw [List.getElem?_set_ne hj]
 refine ⟨⟨⟨h.old.old.os, h.old.old.tape, h.old.old.output, ?_, fun k hk => ?_⟩, fun m hm => ?_, fun m hm => ?_, by rw [show (Base.mk w0 (M.set i (r, .mp es' c'))).M = M.set i (r, .mp es' c') from rfl, hmap]; exact h.old.mnd⟩, fun x hx => ?_, h.own, h.nd⟩
 ·have := h.old.old.size
  simpa [World.setMap] using this
 ·have h1 := h.old.mown _ hmem;have h2 : w0.heap.size ≤ r := h1;rw [hne k (by have : k < w0.heap.size := hk; omega)];exact h.old.old.block k hk
 ·obtain ⟨j, hj⟩ := List.mem_iff_getElem?.1 hm
  by_cases hij : i = j
  ·subst hij;rw [List.getElem?_set_self hlt] at hj;obtain rfl := Option.some.inj hj;exact heq
  ·rw [List.getElem?_set_ne hij] at hj;rw [hne m.1 (fun e => hij ?_)]
   ·exact h.old.maps m (List.mem_of_getElem? hj)
   ·have h1 : (M.map (·.1))[i]? = some r := by rw [List.getElem?_map, hi]; rfl
    have h2 : (M.map (·.1))[j]? = some r := by rw [List.getElem?_map, hj]; exact congrArg some e
    exact (List.getElem?_inj (by simpa using hlt) h.old.mnd).1 (h1.trans h2.symm)
 ·have : m.1 ∈ M.map (·.1) := by rw [← hmap]; exact List.mem_map.2 ⟨m, hm, rfl⟩
  obtain ⟨y, hy, e⟩ := List.mem_map.1 this;rw [← e];exact h.old.mown y hy
 ·exact (h.blk x hx).at' (hne _ (fun e => h.old.far (h.blk x hx) _ hmem e.symm))
theorem HA.newMap (h : HA ⟨w0, M⟩ L w) : HA ⟨w0, (w.heap.size, .mp #[] 0) :: M⟩ L (w.alloc (.map #[] 0)) := by
 have ho := h.old.alloc (.map #[] 0);refine ⟨⟨ho.old, fun m hm => ?_, fun m hm => ?_, ?_⟩, fun x hx => (h.blk x hx).alloc _, h.own, h.nd⟩
 ·rcases List.mem_cons.1 hm with rfl | hm
  ·exact heap_alloc_last w _
  ·exact ho.maps m hm
 ·rcases List.mem_cons.1 hm with rfl | hm
  ·exact h.old.size
  ·exact ho.mown m hm
 ·rw [show (Base.mk w0 ((w.heap.size, .mp #[] 0) :: M)).M = (w.heap.size, .mp #[] 0) :: M from rfl, List.map_cons, List.nodup_cons];refine ⟨fun hm => ?_, h.old.mnd⟩;obtain ⟨x, hx, e⟩ := List.mem_map.1 hm;have := lt_of_block (h.old.maps x hx)
  simp at e
  omega
theorem HA.setM (h : HA ⟨w0, M⟩ L w) (i : Nat) {r : Nat} {o o' : MO} (hi : M[i]? = some (r, o)) : HA ⟨w0, M.set i (r, o')⟩ L (ChangeMaps.setBlock w r o'.obj) := by
 have hlt : i < M.length := (List.getElem?_eq_some_iff.1 hi).1;have hmem := List.mem_of_getElem? hi;have hb := h.old.maps _ hmem;have hne : ∀ k, k ≠ r → (ChangeMaps.setBlock w r o'.obj).heap[k]? = w.heap[k]? := fun k hk => by simp [ChangeMaps.setBlock, Ne.symm hk]
 have heq : (ChangeMaps.setBlock w r o'.obj).heap[r]? = some o'.obj := by
  have := (Array.getElem?_eq_some_iff.1 hb).1
  simp only at this
  simp [ChangeMaps.setBlock, this]
 have hmap : (M.set i (r, o')).map (·.1) = M.map (·.1) := by
  rw [List.map_set];refine List.ext_getElem? fun j => ?_
  by_cases hj : i = j
  ·subst hj;rw [List.getElem?_set_self (by simpa using hlt), List.getElem?_map, hi]
   rfl
  ·rw [List.getElem?_set_ne hj]
 refine ⟨⟨⟨h.old.old.os, h.old.old.tape, h.old.old.output, ?_, fun k hk => ?_⟩, fun m hm => ?_, fun m hm => ?_, by rw [show (Base.mk w0 (M.set i (r, o'))).M = M.set i (r, o') from rfl, hmap]; exact h.old.mnd⟩, fun x hx => ?_, h.own, h.nd⟩
 ·have := h.old.old.size
  simpa [ChangeMaps.setBlock] using this
 ·have h1 := h.old.mown _ hmem;have h2 : w0.heap.size ≤ r := h1;rw [hne k (by have : k < w0.heap.size := hk; omega)];exact h.old.old.block k hk
 ·obtain ⟨j, hj⟩ := List.mem_iff_getElem?.1 hm
  by_cases hij : i = j
  ·subst hij;rw [List.getElem?_set_self hlt] at hj;obtain rfl := Option.some.inj hj;exact heq
  ·rw [List.getElem?_set_ne hij] at hj;rw [hne m.1 (fun e => hij ?_)]
   ·exact h.old.maps m (List.mem_of_getElem? hj)
   ·have h1 : (M.map (·.1))[i]? = some r := by rw [List.getElem?_map, hi]; rfl
    have h2 : (M.map (·.1))[j]? = some r := by rw [List.getElem?_map, hj]; exact congrArg some e
    exact (List.getElem?_inj (by simpa using hlt) h.old.mnd).1 (h1.trans h2.symm)
 ·have : m.1 ∈ M.map (·.1) := by rw [← hmap]; exact List.mem_map.2 ⟨m, hm, rfl⟩
  obtain ⟨y, hy, e⟩ := List.mem_map.1 this;rw [← e];exact h.old.mown y hy
 ·exact (h.blk x hx).at' (hne _ (fun e => h.old.far (h.blk x hx) _ hmem e.symm))
theorem HA.newM (h : HA ⟨w0, M⟩ L w) (o : MO) : HA ⟨w0, (w.heap.size, o) :: M⟩ L (w.alloc o.obj) := by
 have ho := h.old.alloc o.obj;refine ⟨⟨ho.old, fun m hm => ?_, fun m hm => ?_, ?_⟩, fun x hx => (h.blk x hx).alloc _, h.own, h.nd⟩
 ·rcases List.mem_cons.1 hm with rfl | hm
  ·exact heap_alloc_last w _
  ·exact ho.maps m hm
 ·rcases List.mem_cons.1 hm with rfl | hm
  ·exact h.old.size
  ·exact ho.mown m hm
 ·rw [show (Base.mk w0 ((w.heap.size, o) :: M)).M = (w.heap.size, o) :: M from rfl, List.map_cons, List.nodup_cons];refine ⟨fun hm => ?_, h.old.mnd⟩;obtain ⟨x, hx, e⟩ := List.mem_map.1 hm;have := lt_of_block (h.old.maps x hx)
  simp at e
  omega
end
section
variable {P : Program} {w : World} {T kt et : TypeId} {r c : Nat} {es : Array MapEntry} {k v z : Value}
theorem run_update_new (hT : P.underlying T = some (.map kt et)) (hb : w.heap[r]? = some (.map es c)) (hc : ∀ e, (Instr.checkKey e 10000 kt k).run P w = .ok () w)
  (hf : (Instr.findKey kt k es.toList).run P w = .ok none w) :
  (Instr.mapUpdate T (.map (some r)) k v).run P w = .ok () (World.setMap w r (es.push ⟨k, v, c⟩) (c + 1)) := by
 have hg : (getObj r).run P w = .ok (.map es c) w := by simp [getObj, Sem.run, hb]
 have hs : ∀ o, (setObj r o).run P w = .ok () { w with heap := w.heap.setIfInBounds r o } := fun o => by simp [setObj, Sem.run, hb]
 simp [Instr.mapUpdate, run_underlying hT, hg, hc, hf, hs, World.setMap]
end
theorem bb_eq (s t : ByteArray) : (s == t) = decide (s = t) := by
 by_cases h : s = t
 ·rw [decide_eq_true h]; exact (MapKept.bytes_beq s t).2 h
 ·rw [decide_eq_false h]; exact Bool.eq_false_iff.2 fun e => h ((MapKept.bytes_beq s t).1 e)
section
variable {P : Program} {ρ : Operand → Value} {x y : Operand} {w : World} {dst : Option Tmp} {T ty : TypeId} {pos : String} {aft : Array Edge} {gd : Option (Nat × Bool)}
def cellV : Value → Bool
 | .bool _ | .int _ _ | .string _ | .pointer _ | .slice _ _ _ | .map _ | .iface _ _ | .nilIface => true
 | _ => false
theorem run_storev {q i : Nat} {v : Value} (hs : ∀ w, (sizeOf T).run P w = .ok 1 w)    (h : (w.cell? ⟨q, i, none⟩).isSome = true) (hf : w.frozen? ⟨q, i, none⟩ = false) (hx : ρ x = .pointer (some ⟨q, i, none⟩) := by kernel_rfl) (hy : ρ y = v := by kernel_rfl) (h1 : cellV v = true := by kernel_rfl) :
  (execOp ρ ⟨dst, .store T x y, ty, pos, aft, gd⟩).run P w = .ok .skip (w.setCell ⟨q, i, none⟩ v) := by
 obtain ⟨u, hu⟩ := Option.isSome_iff_exists.1 h
 simp only [execOp, hx, hy]
 cases v <;> first | (simp [go_sem, hu, hs, hf]; done) | simp [cellV] at h1
end
section
variable {P : Program} {ops : Array Oper} {Q : Exit → Act → World → Prop} {a : Act} {rest : List Oper} {dst : Option Tmp} {T ty : TypeId} {pos : String} {aft : Array Edge} {gd : Option (Nat × Bool)} {w w' : World} {z : Base} {L Lr : List (Nat × TypeId × Array Value)}
theorem wl_anyS {o : Oper} (hw : Region.wanted o (yielded ops a.tmps) = true) (hr : (execOp a.eval o).run P w = .ok .skip w') (h : WL P ops Q rest (a.put o.dst undef) w') : WL P ops Q (o :: rest) a w := by
 refine ⟨?_⟩
 unfold wpList
 rw [if_pos hw];refine .inl ?_
 unfold Oper.wp
 rw [hr];exact h.out
theorem wl_putv {x y : Operand} {q : Nat} {t : TypeId} {c : Array Value} {v : Value} (H : HA z L w) (i : Nat) (hi : L[i]? = some (q, t, c)) (j : Nat) (hj : j < c.size)
     (hs : ∀ w, (sizeOf T).run P w = .ok 1 w)   
    (h : ∀ w', HA z (L.set i (q, t, c.setIfInBounds j v)) w' → WL P ops Q rest (a.put dst undef) w') (hw : Region.wanted ⟨dst, .store T x y, ty, pos, aft, gd⟩ (yielded ops a.tmps) = true := by kernel_rfl) (hx : a.eval x = .pointer (some ⟨q, j, none⟩) := by kernel_rfl) (hy : a.eval y = v := by kernel_rfl) (h1 : cellV v = true := by kernel_rfl) : WL P ops Q (⟨dst, .store T x y, ty, pos, aft, gd⟩ :: rest) a w :=
  wl_anyS hw (run_storev hs (hx := hx) (hy := hy) (h1 := h1) (by rw [(H.get i hi).cell j]; simp [hj]) ((H.get i hi).free j hj)) (h _ (H.put i hi j _))
theorem HA.grownL {row : Option Nat} (H : HA z L w) (hg : w.grownBy w' row) (hr : ∀ k, row = some k → z.size ≤ k ∧ (∀ x ∈ L, x.1 ≠ k) ∧ ∀ m ∈ z.M, m.1 ≠ k) : HA z L w' := by
 have hne : ∀ b, b < w.heap.size → (∀ k, row = some k → b ≠ k) → w'.heap[b]? = w.heap[b]? := fun b hb h => hg.block b hb (fun e => by
  cases row with
  | none => simp at e
  | some k => exact h k rfl (by simpa using e))
 refine ⟨⟨⟨hg.os.trans H.old.old.os, hg.tape.trans H.old.old.tape, hg.output.trans H.old.old.output, Nat.le_trans H.old.old.size hg.size, fun b hb => ?_⟩, fun m hm => ?_, H.old.mown, H.old.mnd⟩, fun x hx => ?_, H.own, H.nd⟩
 ·rw [hne b (Nat.lt_of_lt_of_le hb H.old.old.size) (fun k hk => by have := (hr k hk).1; simp only [Base.size] at this; omega)];exact H.old.old.block b hb
 ·rw [hne m.1 (lt_of_block (H.old.maps m hm)) (fun k hk => (hr k hk).2.2 m hm)];exact H.old.maps m hm
 ·exact (H.blk x hx).at' (hne _ (H.blk x hx).lt (fun k hk => (hr k hk).2.1 x hx))
theorem HA.consNew {g : Nat} {e : TypeId} {cur : Array Value} (H : HA z L w) (hb : Blk w g e cur) (ho : z.size ≤ g) (hn : ∀ x ∈ L, x.1 ≠ g) : HA z ((g, e, cur) :: L) w :=
 ⟨H.old, fun x hx => by
  rcases List.mem_cons.1 hx with rfl | hx
  ·exact hb
  ·exact H.blk x hx, fun x hx => by
  rcases List.mem_cons.1 hx with rfl | hx
  ·exact ho
  ·exact H.own x hx, by
  rw [List.map_cons, List.nodup_cons];refine ⟨fun hm => ?_, H.nd⟩;obtain ⟨x, hx, e⟩ := List.mem_map.1 hm;exact hn x hx e⟩
def Row (e : TypeId) (sz : Nat) (v : Value) (n : Nat) (xs : List Value) (Lr : List (Nat × TypeId × Array Value)) : Prop :=
 xs.length = n * sz ∧ ((v = .slice none 0 0 ∧ n = 0 ∧ Lr = []) ∨ ∃ g cap cur, v = .slice (some ⟨g, 0, none⟩) n cap ∧ Lr = [(g, e, cur)] ∧ n ≤ cap ∧ cap ≤ maxLen ∧ cur.size = cap * sz ∧ cur.toList.take (n * sz) = xs)
theorem Row.nil (e : TypeId) (sz : Nat) : Row e sz (.slice none 0 0) 0 [] [] := ⟨by simp, .inl ⟨rfl, rfl, rfl⟩⟩
theorem Row.append {e : TypeId} {sz n : Nat} {v : Value} {xs : List Value} (hR : Row e sz v n xs Lr) (H : HA z (Lr ++ L) w) (he : e ≠ 5) (t ty : TypeId) (i : TypeInfo) (zv : Value) (bytes : Nat)
  (ht : P.underlying t = some (.slice e)) (hi : P.info? e = some i) (hz : i.zero = some zv) (hsize : i.size = sz) (hby : i.bytes = bytes) (hzs : zv.cells.size = sz) (hsz : 0 < sz)
  (ad : Addr) (m c : Nat) (news : List Value) (hl : news.length = m * sz) (hnews : ∀ j u, news[j]? = some u → w.cell? (ad.add j) = some u) (h1 : ∀ u ∈ news, u.oneCell' = true)
  (h63 : n + m ≤ maxLen) (hbytes : (n + m) * bytes ≤ 140737488355328) (hm : 0 < m) :
  ∃ v' w' Lr', (Builtin.append_ #[t, t] ty #[v, .slice (some ad) m c]).run P w = .ok v' w' ∧ Row e sz v' (n + m) (xs ++ news) Lr' ∧ HA z (Lr' ++ L) w' := by
 have hown : w.ownsRow z.size e sz v n xs := by
  refine ⟨hR.1, ?_⟩
  rcases hR.2 with ⟨h1, h2, _⟩ | ⟨g, cap, cur, h1, h2, h3, h4, h5, h6⟩
  ·exact .inl ⟨h1, h2⟩
  ·subst h2;obtain ⟨f, hf, hff⟩ := H.blk (g, e, cur) (by simp)
   rcases hff with rfl | ⟨h5', _⟩
   ·exact .inr ⟨g, cap, cur, h1, H.own (g, e, cur) (by simp), hf, h3, h4, h5, h6⟩
   ·exact absurd h5' he
 obtain ⟨v', w', hrun, hown', hgr, hnil, hloc⟩ := run_append_own_at (P := P) w z.size t ty e i zv sz bytes ht hi hz hsize hby hzs hsz v n xs hown ad m c news hl hnews h1 h63 hbytes H.old.size;refine ⟨v', w', ?_⟩
 rcases hown'.2 with ⟨_, h2⟩ | ⟨g', cap', cur', hv', hb', hh', hc1, hc2, hc3, hc4⟩
 ·omega
 refine ⟨[(g', e, cur')], hrun, ⟨hown'.1, .inr ⟨g', cap', cur', hv', rfl, hc1, hc2, hc3, hc4⟩⟩, ?_⟩;have hB : Blk w' g' e cur' := ⟨(0, 0), hh', .inl rfl⟩;have hloc' : some g' = v.ownBlock ∨ g' = w.heap.size := by
  rcases hloc with h | h
  ·exact .inl (by rw [← h, hv']; rfl)
  ·exact .inr (by rw [hv'] at h; exact Option.some.inj h)
 rcases hR.2 with ⟨k1, k2, k3⟩ | ⟨g, cap, cur, k1, k2, k3, k4, k5, k6⟩
 ·subst k3;rw [k1] at hloc' hgr;have HL : HA z L w' := HA.grownL (row := none) H hgr (fun k hk => by cases hk);refine HL.consNew hB hb' (fun x hx => ?_)
  rcases hloc' with h | h
  ·cases h
  ·have := (H.blk x hx).lt
   omega
 ·subst k2;rw [k1] at hloc' hgr;have Ht : HA z L w := H.tl;have hg : Blk w g e cur := H.blk (g, e, cur) (by simp);have hnd := H.nd
  simp only [List.cons_append, List.nil_append, List.map_cons, List.nodup_cons] at hnd
  have hne : ∀ x ∈ L, x.1 ≠ g := fun x hx e => hnd.1 (List.mem_map.2 ⟨x, hx, e⟩)
  have HL : HA z L w' := HA.grownL (row := some g) Ht hgr (fun k hk => by
   obtain rfl := Option.some.inj hk;exact ⟨H.own (g, e, cur) (by simp), hne, Ht.old.far hg⟩)
  refine HL.consNew hB hb' (fun x hx => ?_)
  rcases hloc' with h | h
  ·have : g' = g := Option.some.inj h;rw [this]; exact hne x hx
  ·have := (Ht.blk x hx).lt
   omega
theorem wl_append {e t : TypeId} {sz n m c p : Nat} {v : Value} {xs : List Value} {news : Array Value} {x y : Operand} (hR : Row e sz v n xs Lr) (H : HA z ((p, e, news) :: (Lr ++ L)) w)  (zv : Value) (bytes : Nat)
  (ht : P.underlying t = some (.slice e)) (hi : (P.info? e).map (fun i => (i.zero, i.size, i.bytes)) = some (some zv, sz, bytes)) (hzs : zv.cells.size = sz) 
  
   (hl : news.size = m * sz)  (h63 : n + m ≤ maxLen) (hbytes : (n + m) * bytes ≤ 140737488355328) 
  (h : ∀ v' w' Lr', Row e sz v' (n + m) (xs ++ news.toList) Lr' → HA z (Lr' ++ L) w' → WL P ops Q rest (a.put dst v') w') (he : e ≠ 5 := by decide) (hsz : 0 < sz := by decide) (hw : Region.wanted ⟨dst, .call { callee := .builtin .append, args := #[x, y], argTypes := #[t, t] }, ty, pos, aft, gd⟩ (yielded ops a.tmps) = true := by kernel_rfl) (hx : a.eval x = v := by kernel_rfl) (hy : a.eval y = .slice (some ⟨p, 0, none⟩) m c := by kernel_rfl) (h1 : news.all (·.oneCell') = true := by kernel_rfl) (hm : 0 < m := by decide) :
  WL P ops Q (⟨dst, .call { callee := .builtin .append, args := #[x, y], argTypes := #[t, t] }, ty, pos, aft, gd⟩ :: rest) a w := by
 obtain ⟨i, hi, hh⟩ := Option.map_eq_some_iff.1 hi
 simp only [Prod.mk.injEq] at hh
 have hp := H.get 0 rfl;obtain ⟨v', w', Lr', hrun, hR', H'⟩ := hR.append H.tl he t ty i zv bytes ht hi hh.1 hh.2.1 hh.2.2 hzs hsz ⟨p, 0, none⟩ m c news.toList (by simpa using hl) (fun j u hu => by
  have hadd : (⟨p, 0, none⟩ : Addr).add j = ⟨p, j, none⟩ := by unfold Addr.add; split <;> simp_all
  rw [hadd, hp.cell j]
  simpa using hu) (fun u hu => by
  have := Array.all_eq_true'.1 h1 u (by simpa using hu);exact this) h63 hbytes hm
 refine wl_any hw ?_ (h v' w' Lr' hR' H')
 unfold execOp
 simp only [resolve, invoke, builtin, Sem.run_bind, Sem.run_pure, Result.andThen_ok, List.map_toArray, List.map_cons, List.map_nil, hx, hy, hrun]
/-! operations on maps -/
theorem wl_newMap {w0 : World} {M : List (Nat × MO)} {t : TypeId} (H : HA ⟨w0, M⟩ L w) (hw : Region.wanted ⟨dst, .makeMap t none, ty, pos, aft, gd⟩ (yielded ops a.tmps) = true)
  (h : ∀ b w', HA ⟨w0, (b, .mp #[] 0) :: M⟩ L w' → WL P ops Q rest (a.put dst (.map (some b))) w') : WL P ops Q (⟨dst, .makeMap t none, ty, pos, aft, gd⟩ :: rest) a w :=
 wl_any hw (by simp [execOp, run_makeMap]) (h _ _ H.newMap)
end
abbrev BL := List (Nat × TypeId × Array Value)
section
variable {P : Program} {ops : Array Oper} {Q : Exit → Act → World → Prop} {a : Act} {rest : List Oper} {dst : Option Tmp} {ty : TypeId} {pos : String} {aft : Array Edge} {gd : Option (Nat × Bool)} {w w' : World}
theorem wl_callvx {f : FuncId} {x : Operand} {xs : Array Operand} {ats : Array TypeId} {cap args : Array Value} {R : Ending → World → Prop} 
  (hr : ∀ args w, (callFunc f args).run prog w = .ok (.enter f args) w)   (hc : Calls prog f args w R)
  (h : ∀ e w', R e w' → ∃ v, e = .returned v ∧ WL prog ops Q rest (a.put dst v) w') (hw : Region.wanted ⟨dst, .call { callee := .value x, args := xs, argTypes := ats }, ty, pos, aft, gd⟩ (yielded ops a.tmps) = true := by kernel_rfl) (hx : a.eval x = .func (.func f) #[] cap := by kernel_rfl) (ha : #[] ++ xs.map a.eval ++ cap = args := by kernel_rfl) : WL prog ops Q (⟨dst, .call { callee := .value x, args := xs, argTypes := ats }, ty, pos, aft, gd⟩ :: rest) a w := by
 refine ⟨?_⟩
 unfold wpList
 rw [if_pos hw];refine .inl ?_
 unfold Oper.wp
 rw [run_callv hr hx ha];refine hc.mono ?_;intro e w' hR;obtain ⟨v, rfl, hv⟩ := h e w' hR;exact hv.out
end
end Go.Proofs.YtckmlaempffpjaaGreat
namespace Go.Proofs.YtckmlaempffpjaaGreat
open Go Go.RowKit
section
variable {P : Program} {ops : Array Oper} {Q : Exit → Act → World → Prop} {S : World → Prop} {J : Act → World → Prop} {n : Nat} {l lp : List Nat} {a : Act} {w : World}
structure WXS (P : Program) (ops : Array Oper) (J : Act → World → Prop) (n : Nat) (S : World → Prop) (l lp : List Nat) (a : Act) (w : World) : Prop where
 go : WX P ops J n S l lp a w
theorem wp_region_wx {id : Nat} (S : World → Prop) (J : Act → World → Prop) (n : Nat) (hm : P.follows .mixedOrders = true) (hc : sureB .any ops = true) (hd : distB ops = true) (hsel : Region.noSelect ops = true) (hn : ops.size = n) (hS : S w.drew)
  (h : WXS P ops J n S [] [] a w.drew) (hk : ∀ a w, J a w → Q .normal a w) : (Code.region id ops true).wp P Q a w := by
 refine wp_region_any hm (wx_sim hc hd hsel hk n S [] [] a w.drew h.go ?_ (fun j o _ h => by simp at h) (fun j h => by simp at h) _ _ a w.drew (Nat.le_trans (List.countP_le_length) (by simp)) (by simp) (fun j hj h => ?_) (fun j o _ h => ?_) ⟨rfl, rfl, fun _ _ => rfl⟩ hS (Below.refl _ _) (fun j o _ h => by simp at h))
 ·subst hn
  unfold cntL
  rw [List.countP_eq_length.2 (by simp)]
  simp
 ·simp [hj] at h
 ·rw [Array.getD_eq_getD_getElem?, Array.getElem?_replicate] at h
  split at h <;> simp at h
theorem wx_end (h : ∀ w1, Below w.heap.size w w1 → S w1 → J a w1) : WXS P ops J 0 S l lp a w := ⟨h⟩
theorem lget {i : Nat} {o : Oper} (h : ops.toList[i]? = some o) : ops[i]? = some o := by rw [← Array.getElem?_toList]; exact h
theorem wx_pure {i : Nat} {o : Oper} (v : Value) (ho' : ops.toList[i]? = some o) (hl : l.contains i = false)   
  (h : WXS P ops J n S (i :: l) (i :: lp) (a.put o.dst v) w) (ha : aftB o l = true := by kernel_rfl) (hw : Region.wanted o (yielded ops a.tmps) = true := by kernel_rfl) (hr : ∀ w1, (execOp a.eval o).run P w1 = .ok (.value v) w1 := by intro _; kernel_rfl) : WXS P ops J (n + 1) S l lp a w := ⟨.inl ⟨i, o, v, true, lget ho', hl, ha, by rw [if_pos hw]; exact hr, h.go⟩⟩
theorem wx_val {i : Nat} {o : Oper} (v : Value) (ho' : ops.toList[i]? = some o) (hl : l.contains i = false)   (hr : ∀ w1, S w1 → (execOp a.eval o).run P w1 = .ok (.value v) w1)
  (h : WXS P ops J n S (i :: l) lp (a.put o.dst v) w) (ha : aftB o l = true := by kernel_rfl) (hw : Region.wanted o (yielded ops a.tmps) = true := by kernel_rfl) : WXS P ops J (n + 1) S l lp a w := ⟨.inl ⟨i, o, v, false, lget ho', hl, ha, by rw [if_pos hw]; exact fun w1 h1 => .inl (hr w1 h1), h.go⟩⟩
theorem wx_call {i : Nat} {dst : Option Tmp} {f : FuncId} {xs : Array Operand} {ats : Array TypeId} {ty : TypeId} {pos : String} {aft : Array Edge} {gd : Option (Nat × Bool)} (v : Value) (hst : ∀ w1 w', S w1 → Below w1.heap.size w1 w' → S w') (ho' : ops.toList[i]? = some ⟨dst, .call { callee := .value (.func f), args := xs, argTypes := ats }, ty, pos, aft, gd⟩) (hl : l.contains i = false) 
     (hr : ∀ args w, (callFunc f args).run P w = .ok (.enter f args) w) (args : Array Value) 
    (hc : ∀ w1, S w1 → Calls P f args w1 fun e w' => e = .returned v ∧ Below w1.heap.size w1 w')
    (h : WXS P ops J n S (i :: l) lp (a.put dst v) w) (ha : aftB ⟨dst, .call { callee := .value (.func f), args := xs, argTypes := ats }, ty, pos, aft, gd⟩ l = true := by kernel_rfl) (hw : Region.wanted ⟨dst, .call { callee := .value (.func f), args := xs, argTypes := ats }, ty, pos, aft, gd⟩ (yielded ops a.tmps) = true := by kernel_rfl) (hx : #[] ++ xs.map a.eval ++ #[] = args := by kernel_rfl) : WXS P ops J (n + 1) S l lp a w := by
  subst hx
  exact ⟨.inl ⟨i, _, v, false, lget ho', hl, ha, by rw [if_pos hw]; exact fun w1 h1 => .inr ⟨f, _, by rw [execOp_call_go]; exact hr _ w1, (hc w1 h1).mono fun e w' h => ⟨h.1, hst w1 w' h1 h.2, h.2⟩⟩, h.go⟩⟩
def readyL (ops : Array Oper) (l : List Nat) : List Nat := (List.range ops.size).filter fun i => !l.contains i && (match ops[i]? with | some o => aftB o l | none => false)
structure EX (P : Program) (ops : Array Oper) (J : Act → World → Prop) (n : Nat) (S : World → Prop) (l lp : List Nat) (i : Nat) (a : Act) (w : World) : Prop where
 go : ∀ o, ops[i]? = some o → Region.wanted o (yielded ops a.tmps) = true ∧ ∀ w1, Below w.heap.size w w1 → S w1 →
   Oper.wp P o a w1 (fun a' w' => (∃ v, a' = a.put o.dst v) ∧ ∃ S', (barB ops i l lp = true ∨ S' = S) ∧ S' w' ∧ WX P ops J n S' (i :: l) lp a' w') (fun _ _ _ => False)
theorem wx_act (hr : ∀ i ∈ readyL ops l, EX P ops J n S l lp i a w) : WXS P ops J (n + 1) S l lp a w := by
 refine ⟨.inr fun j x hx hl ha => ?_⟩
 have hm : j ∈ readyL ops l := List.mem_filter.2 ⟨List.mem_range.2 (Array.getElem?_eq_some_iff.1 hx).1, by rw [hl, hx]; exact ha⟩
 exact (hr j hm).go x hx
theorem wx_one (i : Nat)  (h : EX P ops J n S l lp i a w) (hr : readyL ops l = [i] := by kernel_rfl) : WXS P ops J (n + 1) S l lp a w := wx_act fun j hj => by
 rw [hr] at hj
 obtain rfl := List.mem_singleton.1 hj
 exact h
variable {z : Base} {L : BL} {i : Nat}
theorem ex_do {o : Oper} (ho : ops.toList[i]? = some o) (hw : Region.wanted o (yielded ops a.tmps) = true) (hb : barB ops i l lp = true) (H : HA z L w)
  (h : ∀ w1, HA z L w1 → ∃ v w', (execOp a.eval o).run P w1 = .ok (.value v) w' ∧ ∃ S', S' w' ∧ WXS P ops J n S' (i :: l) lp (a.put o.dst v) w') : EX P ops J n S l lp i a w := ⟨fun x hx => by
 rw [lget ho] at hx
 cases hx
 refine ⟨hw, fun w1 hb1 _ => ?_⟩
 obtain ⟨v, w', hr, S', hS', hK⟩ := h w1 (HA.keep _ _ H hb1)
 unfold Oper.wp
 rw [hr]
 exact ⟨⟨_, rfl⟩, S', .inl hb, hS', hK.go⟩⟩
theorem ex_skip {o : Oper} (ho : ops.toList[i]? = some o)   (H : HA z L w)
  (h : ∀ w1, HA z L w1 → ∃ w', (execOp a.eval o).run P w1 = .ok .skip w' ∧ ∃ S', S' w' ∧ WXS P ops J n S' (i :: l) lp (a.put o.dst undef) w') (hw : Region.wanted o (yielded ops a.tmps) = true := by kernel_rfl) (hb : barB ops i l lp = true := by kernel_rfl) : EX P ops J n S l lp i a w := ⟨fun x hx => by
 rw [lget ho] at hx
 cases hx
 refine ⟨hw, fun w1 hb1 _ => ?_⟩
 obtain ⟨w', hr, S', hS', hK⟩ := h w1 (HA.keep _ _ H hb1)
 unfold Oper.wp
 rw [hr]
 exact ⟨⟨_, rfl⟩, S', .inl hb, hS', hK.go⟩⟩
theorem ex_callx {dst : Option Tmp} {f : FuncId} {xs : Array Operand} {ats : Array TypeId} {ty : TypeId} {pos : String} {aft : Array Edge} {gd : Option (Nat × Bool)} {R : World → Ending → World → Prop} (ho : ops.toList[i]? = some ⟨dst, .call { callee := .value (.func f), args := xs, argTypes := ats }, ty, pos, aft, gd⟩)  (H : HA z L w)
  (hr : ∀ args w, (callFunc f args).run P w = .ok (.enter f args) w) (args : Array Value)  (hc : ∀ w1, HA z L w1 → Calls P f args w1 (R w1))
  (h : ∀ w1, HA z L w1 → ∀ e w', R w1 e w' → ∃ v, e = .returned v ∧ ∃ S', (barB ops i l lp = true ∨ S' = S) ∧ S' w' ∧ WXS P ops J n S' (i :: l) lp (a.put dst v) w') (hw : Region.wanted ⟨dst, .call { callee := .value (.func f), args := xs, argTypes := ats }, ty, pos, aft, gd⟩ (yielded ops a.tmps) = true := by kernel_rfl) (hx : #[] ++ xs.map a.eval ++ #[] = args := by kernel_rfl) : EX P ops J n S l lp i a w := ⟨fun x hx' => by
 rw [lget ho] at hx'
 cases hx'
 refine ⟨hw, fun w1 hb _ => ?_⟩
 have H0 := HA.keep _ _ H hb
 subst hx
 unfold Oper.wp
 rw [execOp_call_go, hr]
 refine (hc w1 H0).mono ?_
 intro e w' hR
 obtain ⟨v, rfl, S', h1, h2, hK⟩ := h w1 H0 e w' hR
 exact ⟨⟨v, rfl⟩, S', h1, h2, hK.go⟩⟩
end
theorem zxr {P : Program} {ops : Array Oper} {Q : Exit → Act → World → Prop} {a : Act} {w : World} {id : Nat} (S : World → Prop) (J : Act → Act → World → Prop) (n : Nat) (hS : S w.drew) (h : WXS P ops (J a) n S [] [] a w.drew) (hk : ∀ a' w, J a a' w → Q .normal a' w) (hm : P.follows .mixedOrders = true := by kernel_rfl) (hc : sureB .any ops = true := by kernel_rfl) (hd : distB ops = true := by kernel_rfl) (hsel : Region.noSelect ops = true := by kernel_rfl) (hn : ops.size = n := by kernel_rfl) : (Code.region id ops true).wp P Q a w := wp_region_wx S (J a) n hm hc hd hsel hn hS h hk
theorem zxp {P : Program} {ops : Array Oper} {J : Act → World → Prop} {n : Nat} {S : World → Prop} {l lp : List Nat} {a : Act} {w : World} (i : Nat) {o : Oper} (ho' : ops.toList[i]? = some o) (h : WXS P ops J n S (i :: l) (i :: lp) (a.put o.dst (pv P a o w)) w) (hl : l.contains i = false := by rfl) (ha : aftB o l = true := by kernel_rfl) (hw : Region.wanted o (yielded ops a.tmps) = true := by kernel_rfl) (hr : ∀ w1, (execOp a.eval o).run P w1 = .ok (.value (pv P a o w)) w1 := by intro _; kernel_rfl) : WXS P ops J (n + 1) S l lp a w := wx_pure (i := i) (o := o) (pv P a o w) ho' hl (ha := ha) (hw := hw) (hr := hr) h
end Go.Proofs.YtckmlaempffpjaaGreat
