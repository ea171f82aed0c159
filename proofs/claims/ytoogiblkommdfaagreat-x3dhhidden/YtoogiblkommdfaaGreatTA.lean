/-
  Maps, rows that grow, calls told by what holds.
-/
import Derived.Test.YtoogiblkommdfaaGreatTB
import Derived.MapKept
import Derived.Laws.StructEq
namespace Go.Proofs.YtoogiblkommdfaaGreat
open Go.RowKit

section
variable {P : Program} {ops : Array Oper} {Q : Exit → Act → World → Prop} {a : Act} {rest : List Oper} {dst : Option Tmp} {ty : TypeId} {pos : String} {aft : Array Edge} {gd : Option (Nat × Bool)} {w w' : World}
/-- any operation -/
theorem wl_any {o : Oper} {v : Value} (hw : Region.wanted o (yielded ops a.tmps) = true) (hr : (execOp a.eval o).run P w = .ok (.value v) w') (h : WL P ops Q rest (a.put o.dst v) w') : WL P ops Q (o :: rest) a w := by
  refine ⟨?_⟩
  unfold wpList
  rw [if_pos hw]
  refine .inl ?_
  unfold Oper.wp
  rw [hr]
  exact h.out
/-- a call, whatever holds behind it -/
theorem wl_callx {f : FuncId} {xs : Array Operand} {ats : Array TypeId} {R : Ending → World → Prop} (hw : Region.wanted ⟨dst, .call { callee := .value (.func f), args := xs, argTypes := ats }, ty, pos, aft, gd⟩ (yielded ops a.tmps) = true)
    (hr : ∀ args w, (callFunc f args).run P w = .ok (.enter f args) w) (args : Array Value) (ha : #[] ++ xs.map a.eval ++ #[] = args) (hc : Calls P f args w R)
    (h : ∀ e w', R e w' → ∃ v, e = .returned v ∧ WL P ops Q rest (a.put dst v) w') : WL P ops Q (⟨dst, .call { callee := .value (.func f), args := xs, argTypes := ats }, ty, pos, aft, gd⟩ :: rest) a w := by
  refine ⟨?_⟩
  unfold wpList
  rw [if_pos hw]
  refine .inl ?_
  unfold Oper.wp
  rw [execOp_call_go, ha, hr]
  refine hc.mono ?_
  intro e w' hR
  obtain ⟨v, rfl, hv⟩ := h e w' hR
  exact hv.out
end
section
variable {z : Base} {L L' : List (Nat × TypeId × Array Value)} {w w' : World}
theorem HA.perm (h : HA z L w) (hp : L.Perm L') : HA z L' w := ⟨h.old, fun x hx => h.blk x (hp.symm.subset hx), fun x hx => h.own x (hp.symm.subset hx), (hp.map _).nodup_iff.1 h.nd⟩
theorem HA.sub (h : HA z L w) (hp : L'.Sublist L) : HA z L' w := ⟨h.old, fun x hx => h.blk x (hp.subset hx), fun x hx => h.own x (hp.subset hx), (hp.map _).nodup h.nd⟩
theorem HA.mv (A B C : List (Nat × TypeId × Array Value)) (h : HA z (A ++ (B ++ C)) w) : HA z (B ++ (A ++ C)) w := h.perm (by
  rw [← List.append_assoc, ← List.append_assoc]
  exact List.perm_append_comm.append_right C)
end
/-! maps -/
def World.setMap (w : World) (r : Nat) (es : Array MapEntry) (c : Nat) : World := { w with heap := w.heap.setIfInBounds r (.map es c) }
section
variable {w0 : World} {M : List (Nat × Array MapEntry × Nat)} {L : List (Nat × TypeId × Array Value)} {w : World}
/-- a map is turned -/
theorem HA.setMap (h : HA ⟨w0, M⟩ L w) (i : Nat) {r : Nat} {es es' : Array MapEntry} {c c' : Nat} (hi : M[i]? = some (r, es, c)) : HA ⟨w0, M.set i (r, es', c')⟩ L (World.setMap w r es' c') := by
  have hlt : i < M.length := (List.getElem?_eq_some_iff.1 hi).1
  have hmem := List.mem_of_getElem? hi
  have hb := h.old.maps _ hmem
  have hne : ∀ k, k ≠ r → (World.setMap w r es' c').heap[k]? = w.heap[k]? := fun k hk => by simp [World.setMap, Ne.symm hk]
  have heq : (World.setMap w r es' c').heap[r]? = some (.map es' c') := by
    have := (Array.getElem?_eq_some_iff.1 hb).1
    simp only at this
    simp [World.setMap, this]
  have hmap : (M.set i (r, es', c')).map (·.1) = M.map (·.1) := by
    rw [List.map_set]
    refine List.ext_getElem? fun j => ?_
    by_cases hj : i = j
    · subst hj
      rw [List.getElem?_set_self (by simpa using hlt), List.getElem?_map, hi]
      rfl
    · rw [List.getElem?_set_ne hj]
  refine ⟨⟨⟨h.old.old.os, h.old.old.tape, h.old.old.output, ?_, fun k hk => ?_⟩, fun m hm => ?_, fun m hm => ?_, by rw [show (Base.mk w0 (M.set i (r, es', c'))).M = M.set i (r, es', c') from rfl, hmap]; exact h.old.mnd⟩, fun x hx => ?_, h.own, h.nd⟩
  · have := h.old.old.size
    simpa [World.setMap] using this
  · have h1 := h.old.mown _ hmem
    have h2 : w0.heap.size ≤ r := h1
    rw [hne k (by have : k < w0.heap.size := hk; omega)]
    exact h.old.old.block k hk
  · obtain ⟨j, hj⟩ := List.mem_iff_getElem?.1 hm
    by_cases hij : i = j
    · subst hij
      rw [List.getElem?_set_self hlt] at hj
      obtain rfl := Option.some.inj hj
      exact heq
    · rw [List.getElem?_set_ne hij] at hj
      rw [hne m.1 (fun e => hij ?_)]
      · exact h.old.maps m (List.mem_of_getElem? hj)
      · have h1 : (M.map (·.1))[i]? = some r := by rw [List.getElem?_map, hi]; rfl
        have h2 : (M.map (·.1))[j]? = some r := by rw [List.getElem?_map, hj]; exact congrArg some e
        exact (List.getElem?_inj (by simpa using hlt) h.old.mnd).1 (h1.trans h2.symm)
  · have : m.1 ∈ M.map (·.1) := by rw [← hmap]; exact List.mem_map.2 ⟨m, hm, rfl⟩
    obtain ⟨y, hy, e⟩ := List.mem_map.1 this
    rw [← e]
    exact h.old.mown y hy
  · exact (h.blk x hx).at' (hne _ (fun e => h.old.far (h.blk x hx) _ hmem e.symm))
/-- a new map -/
theorem HA.newMap (h : HA ⟨w0, M⟩ L w) : HA ⟨w0, (w.heap.size, #[], 0) :: M⟩ L (w.alloc (.map #[] 0)) := by
  have ho := h.old.alloc (.map #[] 0)
  refine ⟨⟨ho.old, fun m hm => ?_, fun m hm => ?_, ?_⟩, fun x hx => (h.blk x hx).alloc _, h.own, h.nd⟩
  · rcases List.mem_cons.1 hm with rfl | hm
    · exact heap_alloc_last w _
    · exact ho.maps m hm
  · rcases List.mem_cons.1 hm with rfl | hm
    · exact h.old.size
    · exact ho.mown m hm
  · rw [show (Base.mk w0 ((w.heap.size, #[], 0) :: M)).M = (w.heap.size, #[], 0) :: M from rfl, List.map_cons, List.nodup_cons]
    refine ⟨fun hm => ?_, h.old.mnd⟩
    obtain ⟨x, hx, e⟩ := List.mem_map.1 hm
    have := lt_of_block (h.old.maps x hx)
    simp at e
    omega
end
section
variable {P : Program} {w : World} {T kt et : TypeId} {r c : Nat} {es : Array MapEntry} {k v z : Value}
theorem run_lookup_of {res : Option (Nat × Value)} (hT : P.underlying T = some (.map kt et)) (hb : w.heap[r]? = some (.map es c)) (hc : ∀ e, (Instr.checkKey e 10000 kt k).run P w = .ok () w)
    (hf : (Instr.findKey kt k es.toList).run P w = .ok res w) (hz : (zeroValue et).run P w = .ok z w) :
    (Instr.lookup T (.map (some r)) k true).run P w = .ok (.tuple #[(res.map (·.2)).getD z, .bool res.isSome]) w := by
  have hg : (getObj r).run P w = .ok (.map es c) w := by simp [getObj, Sem.run, hb]
  rcases res with _ | ⟨i, u⟩ <;> simp [Instr.lookup, run_underlying hT, hg, hc, hf, hz]
theorem run_update_new (hT : P.underlying T = some (.map kt et)) (hb : w.heap[r]? = some (.map es c)) (hc : ∀ e, (Instr.checkKey e 10000 kt k).run P w = .ok () w)
    (hf : (Instr.findKey kt k es.toList).run P w = .ok none w) :
    (Instr.mapUpdate T (.map (some r)) k v).run P w = .ok () (World.setMap w r (es.push ⟨k, v, c⟩) (c + 1)) := by
  have hg : (getObj r).run P w = .ok (.map es c) w := by simp [getObj, Sem.run, hb]
  have hs : ∀ o, (setObj r o).run P w = .ok () { w with heap := w.heap.setIfInBounds r o } := fun o => by simp [setObj, Sem.run, hb]
  simp [Instr.mapUpdate, run_underlying hT, hg, hc, hf, hs, World.setMap]
end
/-- a map's entries, of keys and numbers -/
def entL : List (Value × Nat) → Nat → List MapEntry
  | [], _ => []
  | p :: l, i => ⟨p.1, iN .i64 p.2, i⟩ :: entL l (i + 1)
theorem entL_snoc : ∀ (l : List (Value × Nat)) (p : Value × Nat) (i : Nat), entL (l ++ [p]) i = entL l i ++ [⟨p.1, iN .i64 p.2, i + l.length⟩]
  | [], _, _ => rfl
  | q :: l, p, i => by simp [entL, entL_snoc l, Nat.add_assoc, Nat.add_comm 1]
def entA (l : List (Value × Nat)) : Array MapEntry := (entL l 0).toArray
theorem entA_push (l : List (Value × Nat)) (p : Value × Nat) : (entA l).push ⟨p.1, iN .i64 p.2, l.length⟩ = entA (l ++ [p]) := by
  simp [entA, entL_snoc]
/-! texts as keys -/
def txtK (l : List (ByteArray × Nat)) : List (Value × Nat) := l.map fun p => (.string p.1, p.2)
def lkT (l : List (ByteArray × Nat)) (s : ByteArray) : Option Nat := (l.find? (fun p => decide (p.1 = s))).map (·.2)
theorem bb_eq (s t : ByteArray) : (s == t) = decide (s = t) := by
  by_cases h : s = t
  · rw [decide_eq_true h]; exact (MapKept.bytes_beq s t).2 h
  · rw [decide_eq_false h]; exact Bool.eq_false_iff.2 fun e => h ((MapKept.bytes_beq s t).1 e)
theorem findNow_txt (s : ByteArray) : ∀ (l : List (ByteArray × Nat)) (i j : Nat), ∃ r, Instr.findNow .string (.string s) (entL (txtK l) i) j = some r ∧ r.map (·.2) = (lkT l s).map (iN .i64 ·)
  | [], _, _ => ⟨none, rfl, rfl⟩
  | p :: l, i, j => by
    by_cases h : p.1 = s
    · refine ⟨some (j, iN .i64 p.2), ?_, ?_⟩
      · simp [txtK, entL, Instr.findNow, Instr.sameNow, h, bb_eq]
      · simp [lkT, h]
    · obtain ⟨r, h1, h2⟩ := findNow_txt s l (i + 1) (j + 1)
      have hne : (s == p.1) = false := by rw [bb_eq]; exact decide_eq_false (Ne.symm h)
      refine ⟨r, ?_, ?_⟩
      · simpa [txtK, entL, Instr.findNow, Instr.sameNow, hne] using h1
      · simpa [lkT, h] using h2
theorem zero3 (w : World) : (zeroValue 3).run Tryz.prog w = .ok (iN .i64 0) w := by kernel_rfl
theorem check_txt (s : ByteArray) (w : World) (e : Bool) : (Instr.checkKey e 10000 9 (.string s)).run Tryz.prog w = .ok () w := MapKept.run_checkKey (k := .string s) (n := 9999) Tryz.underlying9 trivial e
theorem lookup_txt {w : World} {r c : Nat} {l : List (ByteArray × Nat)} (hb : w.heap[r]? = some (.map (entA (txtK l)) c)) (s : ByteArray) :
    (Instr.lookup 142 (.map (some r)) (.string s) true).run Tryz.prog w = .ok (.tuple #[iN .i64 ((lkT l s).getD 0), .bool (lkT l s).isSome]) w := by
  obtain ⟨res, h1, h2⟩ := findNow_txt s l 0 0
  have := run_lookup_of Tryz.underlying142 hb (check_txt s w) (MapKept.run_findKey Tryz.underlying9 (by simpa [entA] using h1)) (zero3 w)
  rw [this]
  have e : res.isSome = (lkT l s).isSome := by have := congrArg Option.isSome h2; simpa using this
  rw [h2, e]
  cases lkT l s <;> rfl
theorem update_txt {w : World} {r : Nat} {l : List (ByteArray × Nat)} (hb : w.heap[r]? = some (.map (entA (txtK l)) l.length)) (s : ByteArray) (hn : lkT l s = none) (n : Nat) :
    (Instr.mapUpdate 142 (.map (some r)) (.string s) (iN .i64 n)).run Tryz.prog w = .ok () (World.setMap w r (entA (txtK (l ++ [(s, n)]))) (l.length + 1)) := by
  obtain ⟨res, h1, h2⟩ := findNow_txt s l 0 0
  rw [hn] at h2
  have hr : res = none := by simpa using h2
  subst hr
  rw [run_update_new Tryz.underlying142 hb (check_txt s w) (MapKept.run_findKey Tryz.underlying9 (by simpa [entA] using h1))]
  have := entA_push (txtK l) (.string s, n)
  simp only [txtK, List.length_map] at this ⊢
  rw [this]
  simp
/-! ways of making as keys -/
structure Rec where
  k : Nat
  n : Nat
  s : ByteArray
  p : ByteArray
  deriving DecidableEq
def recV (x : Rec) : Value := .agg #[iN .i64 x.k, iN .i64 x.n, .string x.s, .string x.p]
def recK (l : List (Rec × Nat)) : List (Value × Nat) := l.map fun p => (recV p.1, p.2)
def lkR (l : List (Rec × Nat)) (x : Rec) : Option Nat := (l.find? (fun p => decide (p.1 = x))).map (·.2)
theorem rec_same (x y : Rec) (w : World) : (Op.equal 276 (recV x) (recV y)).run Tryz.prog w = .ok (decide (y = x)) w := by
  show (Op.equalIn (9999 + 1) 276 (.agg _) (.agg _)).run Tryz.prog w = _
  rw [run_equalIn_struct (P := Tryz.prog) w 9999 276 _ _ ky ky]
  have e : (Tryz.prog.fieldsOf 276).toList = [⟨ "kind", 3, 0, false, "", "missive/term", 0⟩, ⟨ "n", 3, 1, false, "", "missive/term", 8⟩, ⟨ "label", 9, 2, false, "", "missive/term", 16⟩, ⟨ "parts", 9, 3, false, "", "missive/term", 32⟩] := by kernel_rfl
  have hp : ∀ (t : TypeId) (c : Array Value) (i : Nat) (v : Value), (isAgg t).run Tryz.prog w = .ok false w → c[i]? = some v → (part t c i).run Tryz.prog w = .ok v w := fun t c i v h1 h2 => by
    simp [part, h1, h2]
  have q0 : ∀ x : Rec, (part 3 #[iN .i64 x.k, iN .i64 x.n, .string x.s, .string x.p] 0).run Tryz.prog w = .ok (iN .i64 x.k) w := fun x => hp _ _ _ _ (Tryz.isAgg3 w) rfl
  have q1 : ∀ x : Rec, (part 3 #[iN .i64 x.k, iN .i64 x.n, .string x.s, .string x.p] 1).run Tryz.prog w = .ok (iN .i64 x.n) w := fun x => hp _ _ _ _ (Tryz.isAgg3 w) rfl
  have q2 : ∀ x : Rec, (part 9 #[iN .i64 x.k, iN .i64 x.n, .string x.s, .string x.p] 2).run Tryz.prog w = .ok (.string x.s) w := fun x => hp _ _ _ _ (Tryz.isAgg9 w) rfl
  have q3 : ∀ x : Rec, (part 9 #[iN .i64 x.k, iN .i64 x.n, .string x.s, .string x.p] 3).run Tryz.prog w = .ok (.string x.p) w := fun x => hp _ _ _ _ (Tryz.isAgg9 w) rfl
  have r0 : ∀ a b : Nat, (Op.equalIn 9999 3 (iN .i64 a) (iN .i64 b)).run Tryz.prog w = .ok (decide (a = b)) w := fun a b => by
    rw [iN, iN, run_equalIn_int (P := Tryz.prog) w 9998 3 _ _ _ _ Tryz.underlying3]
    have e : ((a : Int) == (b : Int)) = decide (a = b) := by
      by_cases h : a = b
      · simp [h]
      · rw [decide_eq_false h]
        exact beq_eq_false_iff_ne.2 (by omega)
    rw [e]
  have r1 : ∀ a b : ByteArray, (Op.equalIn 9999 9 (.string a) (.string b)).run Tryz.prog w = .ok (decide (a = b)) w := fun a b => by
    rw [run_equalIn_string (P := Tryz.prog) w 9998 9 _ _ Tryz.underlying9, ← beq_toListBytes, bb_eq]
  rw [e]
  simp only [Op.eqFields, Sem.run_bind, Sem.run_ite, q0, q1, q2, q3, r0, r1, Result.andThen_ok]
  rcases x with ⟨a, b, c, d⟩
  rcases y with ⟨a', b', c', d'⟩
  simp only [Rec.mk.injEq]
  by_cases h1 : a = a'
  · by_cases h2 : b = b'
    · by_cases h3 : c = c'
      · by_cases h4 : d = d'
        · simp [h1, h2, h3, h4]
        · simp [h1, h2, h3, h4, Ne.symm h4]
      · simp [h1, h2, h3, Ne.symm h3]
    · simp [h1, h2, Ne.symm h2]
  · simp [h1, Ne.symm h1]
theorem check_rec (x : Rec) (w : World) (e : Bool) : (Instr.checkKey e 10000 276 (recV x)).run Tryz.prog w = .ok () w := by cases e <;> kernel_rfl
theorem find_rec (x : Rec) (w : World) : ∀ (l : List (Rec × Nat)) (i j : Nat), ∃ r, (Instr.findAsking 276 (recV x) (entL (recK l) i) j).run Tryz.prog w = .ok r w ∧ r.map (·.2) = (lkR l x).map (iN .i64 ·)
  | [], _, _ => ⟨none, rfl, rfl⟩
  | p :: l, i, j => by
    by_cases h : p.1 = x
    · refine ⟨some (j, iN .i64 p.2), ?_, ?_⟩
      · simp [recK, entL, Instr.findAsking, rec_same, h]
      · simp [lkR, h]
    · obtain ⟨r, h1, h2⟩ := find_rec x w l (i + 1) (j + 1)
      refine ⟨r, ?_, ?_⟩
      · simpa [recK, entL, Instr.findAsking, rec_same, h] using h1
      · simpa [lkR, h] using h2
theorem findKey_rec (x : Rec) (w : World) (l : List (Rec × Nat)) : ∃ r, (Instr.findKey 276 (recV x) (entL (recK l) 0)).run Tryz.prog w = .ok r w ∧ r.map (·.2) = (lkR l x).map (iN .i64 ·) := by
  rcases l with _ | ⟨p, l⟩
  · exact ⟨none, by kernel_rfl, rfl⟩
  · obtain ⟨r, h1, h2⟩ := find_rec x w (p :: l) 0 0
    refine ⟨r, ?_, h2⟩
    have hn : ∀ d, Tryz.prog.underlying 276 = some d → Instr.findNow d (recV x) (entL (recK (p :: l)) 0) 0 = none := fun d hd => by
      rw [Tryz.underlying276] at hd
      obtain rfl := Option.some.inj hd
      rfl
    simp only [Instr.findKey, Sem.run_bind, run_underlying Tryz.underlying276, Result.andThen_ok, hn _ Tryz.underlying276]
    exact h1
theorem lookup_rec {w : World} {r c : Nat} {l : List (Rec × Nat)} (hb : w.heap[r]? = some (.map (entA (recK l)) c)) (x : Rec) :
    (Instr.lookup 143 (.map (some r)) (recV x) true).run Tryz.prog w = .ok (.tuple #[iN .i64 ((lkR l x).getD 0), .bool (lkR l x).isSome]) w := by
  obtain ⟨res, h1, h2⟩ := findKey_rec x w l
  rw [run_lookup_of Tryz.underlying143 hb (check_rec x w) (by simpa [entA] using h1) (zero3 w)]
  have e : res.isSome = (lkR l x).isSome := by have := congrArg Option.isSome h2; simpa using this
  rw [h2, e]
  cases lkR l x <;> rfl
theorem update_rec {w : World} {r : Nat} {l : List (Rec × Nat)} (hb : w.heap[r]? = some (.map (entA (recK l)) l.length)) (x : Rec) (hn : lkR l x = none) (n : Nat) :
    (Instr.mapUpdate 143 (.map (some r)) (recV x) (iN .i64 n)).run Tryz.prog w = .ok () (World.setMap w r (entA (recK (l ++ [(x, n)]))) (l.length + 1)) := by
  obtain ⟨res, h1, h2⟩ := findKey_rec x w l
  rw [hn] at h2
  have hr : res = none := by simpa using h2
  subst hr
  rw [run_update_new Tryz.underlying143 hb (check_rec x w) (by simpa [entA] using h1)]
  have := entA_push (recK l) (recV x, n)
  simp only [recK, List.length_map] at this ⊢
  rw [this]
  simp
end Go.Proofs.YtoogiblkommdfaaGreat
