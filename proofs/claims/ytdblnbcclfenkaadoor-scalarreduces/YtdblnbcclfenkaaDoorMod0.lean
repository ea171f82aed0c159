/-
  What modulo rests on: parts in memory, marks of loops, words one behind the other.
-/
import Derived.Test.YtdblnbcclfenkaaDoorDown
namespace Go.Proofs.YtdblnbcclfenkaaDoor
open Go.RowKit Num

/-- numbers that lie one behind the other -/
structure Parts (w : World) (q : Nat) (ps : List Nat) : Prop where
  lt : q < w.heap.size
  at' : ∀ k n, ps[k]? = some n → w.rangeAt q (4 * k) (el n).toList
theorem Parts.below {w w' : World} {q B : Nat} {ps : List Nat} (h : Parts w q ps) (hb : Below B w w') (hB : q < B) : Parts w' q ps :=
  ⟨Nat.lt_of_lt_of_le h.lt hb.size, fun k n hk j v hv => by
    have := h.at' k n hk j v hv
    rw [hb.cell (p := ⟨q, 4 * k + j, none⟩) hB]
    exact this⟩
section
variable {ρ : Operand → Value} {x y : Operand} {w : World} {dst : Option Tmp} {ty : TypeId} {pos : String} {aft : Array Edge} {gd : Option (Nat × Bool)}
theorem run_part_addr {q n k : Nat} (hx : ρ x = .slice (some ⟨q, 0, none⟩) n n) (hy : ρ y = iN .i64 k) (hk : k < n) : (execOp ρ ⟨dst, .indexAddr 47 x y, ty, pos, aft, gd⟩).run Tryd.prog w = .ok (.value (.pointer (some ⟨q, 4 * k, none⟩))) w := by
  simp only [execOp, hx, hy, iN]
  have hu : ∀ w, (underlying 47).run Tryd.prog w = .ok (.slice 34) w := fun w => by simp [underlying, go_sem, Tryd.underlying47]
  simp [go_sem, Instr.indexAt, hu, Tryd.sizeOf34, hk, Addr.add, Nat.mul_comm]
  intro h
  omega
theorem run_part_load {q k n : Nat} {ps : List Nat} (hx : ρ x = .pointer (some ⟨q, 4 * k, none⟩)) (h : Parts w q ps) (hk : ps[k]? = some n) : (execOp ρ ⟨dst, .load 34 x, ty, pos, aft, gd⟩).run Tryd.prog w = .ok (.value (arr n)) w := by
  simp only [execOp, hx, Instr.loadAt, Instr.sureAddr, Sem.run_bind, Sem.run_pure, Result.andThen_ok, run_loadVar_mid w q (4 * k) 34 (el n).toList _ (h.at' k n hk) Tryd.underlying34 rfl (by rw [Array.length_toList]; exact info34)]
  rfl
theorem run_len_parts {q n : Nat} (hx : ρ x = .slice (some ⟨q, 0, none⟩) n n) : (execOp ρ ⟨dst, .call { callee := .builtin .len, args := #[x], argTypes := #[47] }, ty, pos, aft, gd⟩).run Tryd.prog w = .ok (.value (iN .i64 n)) w := by
  simp only [execOp, iN]
  go_simp
theorem run_alloc50 : (execOp ρ ⟨dst, .alloc 50, ty, pos, aft, gd⟩).run Tryd.prog w = .ok (.value (.pointer (some ⟨w.heap.size, 0, none⟩))) (w.alloc (.cells #[.nilFunc] 50)) := by
  simp only [execOp]
  go_simp
/-- a function is put into its variable -/
theorem wl_putf {P : Program} {ops : Array Oper} {Q : Exit → Act → World → Prop} {a : Act} {rest : List Oper} {w0 : World} {L : List (Nat × TypeId × Array Value)} {T : TypeId} {q : Nat} {t : TypeId} {c : Array Value} {f : Fn} {b c' : Array Value} (H : HA w0 L w) (i : Nat) (hi : L[i]? = some (q, t, c)) (hj : 0 < c.size)
    (hw : Region.wanted ⟨dst, .store T x y, ty, pos, aft, gd⟩ (yielded ops a.tmps) = true) (hs : ∀ w, (sizeOf T).run P w = .ok 1 w) (hx : a.eval x = .pointer (some ⟨q, 0, none⟩)) (hy : a.eval y = .func f b c')
    (h : ∀ w', HA w0 (L.set i (q, t, c.setIfInBounds 0 (.func f b c'))) w' → WL P ops Q rest (a.put dst undef) w') : WL P ops Q (⟨dst, .store T x y, ty, pos, aft, gd⟩ :: rest) a w := by
  have hc : (w.cell? ⟨q, 0, none⟩).isSome = true := by rw [(H.get i hi).cell 0]; simp [hj]
  have hf := (H.get i hi).free 0
  obtain ⟨u, hu⟩ := Option.isSome_iff_exists.1 hc
  have e : (execOp a.eval ⟨dst, .store T x y, ty, pos, aft, gd⟩).run P w = .ok .skip (w.setCell ⟨q, 0, none⟩ (.func f b c')) := by
    simp only [execOp, hx, hy]
    simp [go_sem, hs, run_store P w ⟨q, 0, none⟩ (.func f b c') .plain rfl, hu, hf]
  refine wl_skips hw e (h _ ?_)
  exact H.put i hi 0 _
end

/-- what lies elsewhere does not matter -/
theorem HA.grown {w0 A B : World} {L : List (Nat × TypeId × Array Value)} {row : Option Nat} (h : HA w0 L A) (hg : A.grownBy B row) (hr : ∀ r, row = some r → w0.heap.size ≤ r ∧ ∃ o : Obj, A.heap[r]? = some o ∧ o.isCells = false) : HA w0 L B :=
  ⟨h.old.grown hg h.old.size (fun k hk => (hr k hk).1), fun x hx => by
    have hb := h.blk x hx
    unfold Blk
    rw [hg.block x.1 hb.lt (fun e => by
      obtain ⟨_, o, ho, hc⟩ := hr x.1 e.symm
      unfold Blk at hb
      rw [hb] at ho
      cases ho
      cases hc)]
    exact hb, h.own, h.nd⟩
/-- one block is turned -/
theorem HA.turn {w0 A B : World} {L : List (Nat × TypeId × Array Value)} {q : Nat} {t : TypeId} {c c' : Array Value} (h : HA w0 L A) (i : Nat) (hi : L[i]? = some (q, t, c)) (hg : A.grownBy B (some q)) (hb : Blk B q t c') : HA w0 (L.set i (q, t, c')) B := by
  have hlt : i < L.length := (List.getElem?_eq_some_iff.1 hi).1
  have hmap : (L.set i (q, t, c')).map (·.1) = L.map (·.1) := by
    rw [List.map_set]
    refine List.ext_getElem? fun m => ?_
    by_cases hm : i = m
    · subst hm
      rw [List.getElem?_set_self (by simpa using hlt), List.getElem?_map, hi]
      rfl
    · rw [List.getElem?_set_ne hm]
  have hq := h.own _ (List.mem_of_getElem? hi)
  refine ⟨h.old.grown hg h.old.size (fun k hk => by cases hk; exact hq), fun x hx => ?_, fun x hx => ?_, by rw [hmap]; exact h.nd⟩
  · obtain ⟨m, hm⟩ := List.mem_iff_getElem?.1 hx
    by_cases him : i = m
    · subst him
      rw [List.getElem?_set_self hlt] at hm
      obtain rfl := Option.some.inj hm
      exact hb
    · rw [List.getElem?_set_ne him] at hm
      have hx1 := h.get m hm
      unfold Blk
      rw [hg.block x.1 hx1.lt (fun e => him ?_)]
      · exact hx1
      · have h1 : (L.map (·.1))[i]? = some q := by rw [List.getElem?_map, hi]; rfl
        have h2 : (L.map (·.1))[m]? = some q := by rw [List.getElem?_map, hm]; exact e
        exact (List.getElem?_inj (by simpa using hlt) h.nd).1 (h1.trans h2.symm)
  · have : x.1 ∈ L.map (·.1) := by rw [← hmap]; exact List.mem_map.2 ⟨x, hx, rfl⟩
    obtain ⟨y, hy, e⟩ := List.mem_map.1 this
    rw [← e]
    exact h.own y hy
theorem HA.tail {w0 w : World} {x : Nat × TypeId × Array Value} {L : List (Nat × TypeId × Array Value)} (h : HA w0 (x :: L) w) : HA w0 L w :=
  ⟨h.old, fun y hy => h.blk y (.tail _ hy), fun y hy => h.own y (.tail _ hy), (List.nodup_cons.1 h.nd).2⟩
/-- the marks of loops that are over -/
structure Marks (w0 : World) (rs : List Nat) (w : World) : Prop where
  nd : rs.Nodup
  own : ∀ r ∈ rs, w0.heap.size ≤ r
  is : ∀ r ∈ rs, w.heap[r]? = some (.deferred (some []))
def mkd (rs : List Nat) : List Deferred := rs.map fun r => { target := .collected r, args := #[] }
theorem Marks.nil (w0 w : World) : Marks w0 [] w := ⟨List.nodup_nil, fun _ h => (by cases h), fun _ h => (by cases h)⟩
theorem Marks.lt {w0 w : World} {rs : List Nat} (h : Marks w0 rs w) {r : Nat} (hr : r ∈ rs) : r < w.heap.size := (Array.getElem?_eq_some_iff.1 (h.is r hr)).1
theorem Marks.keep {w0 w w' : World} {rs : List Nat} (h : Marks w0 rs w) (hb : ∀ r ∈ rs, w'.heap[r]? = w.heap[r]?) : Marks w0 rs w' := ⟨h.nd, h.own, fun r hr => (hb r hr).trans (h.is r hr)⟩
theorem Marks.below {w0 w w' : World} {rs : List Nat} (h : Marks w0 rs w) (hb : Below w.heap.size w w') : Marks w0 rs w' := h.keep fun r hr => hb.block r (h.lt hr)
theorem HA.apart {w0 w : World} {L : List (Nat × TypeId × Array Value)} (h : HA w0 L w) {rs : List Nat} (hm : Marks w0 rs w) {r : Nat} (hr : r ∈ rs) {x : Nat × TypeId × Array Value} (hx : x ∈ L) : r ≠ x.1 := fun e => by
  have h1 := hm.is r hr
  have h2 := h.blk x hx
  unfold Blk at h2
  rw [e, h2] at h1
  cases h1
theorem Marks.turn {w0 w w' : World} {rs : List Nat} {L : List (Nat × TypeId × Array Value)} {q : Nat} {t : TypeId} {c : Array Value} (h : Marks w0 rs w) (H : HA w0 L w) (i : Nat) (hi : L[i]? = some (q, t, c)) (hg : w.grownBy w' (some q)) : Marks w0 rs w' :=
  h.keep fun r hr => hg.block r (h.lt hr) (fun e => H.apart h hr (List.mem_of_getElem? hi) (Option.some.inj e))
theorem Marks.more {w0 w : World} {rs : List Nat} {D B : Nat} (h : Marks w0 rs w) (hB : ∀ r ∈ rs, r < B) (hD : B ≤ D) (h0 : w0.heap.size ≤ B) (hd : w.heap[D]? = some (.deferred (some []))) : Marks w0 (D :: rs) w :=
  ⟨List.nodup_cons.2 ⟨fun hm => by have := hB D hm; omega, h.nd⟩, fun r hr => by
    rcases List.mem_cons.1 hr with rfl | hr
    · omega
    · exact h.own r hr, fun r hr => by
    rcases List.mem_cons.1 hr with rfl | hr
    · exact hd
    · exact h.is r hr⟩
theorem leaves_marks {F : Fence} {n : Nat} {P : Program} {fn : Func} {tmps : Array Value} {R : Ending → World → Prop} {w0 : World} {L : List (Nat × TypeId × Array Value)} (hR : ∀ w, HA w0 L w → ∃ v, (results fn tmps).run P w = .ok v w ∧ R (.returned v) w) :
    ∀ (rs : List Nat) (w : World), HA w0 L w → Marks w0 rs w → LeavesInM F n P fn tmps R (mkd rs) .returning w := by
  intro rs
  induction rs with
  | nil => intro w H _; exact hR w H
  | cons r rs ih =>
    intro w H M
    have hr := M.is r (.head _)
    have hnd := List.nodup_cons.1 M.nd
    refine ⟨by simp, .inl ⟨r, _, rfl, run_takeDeferred hr, ih _ ?_ ?_⟩⟩
    · exact H.grown (grownBy_putObj' w r _) (fun k hk => by cases hk; exact ⟨M.own r (.head _), _, hr, rfl⟩)
    · exact ⟨hnd.2, fun k hk => M.own k (.tail _ hk), fun k hk => by
        rw [World.putObj_heap_other (fun e => hnd.1 (by rw [← e]; exact hk))]
        exact M.is k (.tail _ hk)⟩

section
variable {P : Program} {ops : Array Oper} {Q : Exit → Act → World → Prop} {a : Act} {rest : List Oper} {w w0 : World} {L : List (Nat × TypeId × Array Value)} {rs : List Nat} {dst : Option Tmp} {ty ty' : TypeId} {pos : String} {aft : Array Edge} {gd : Option (Nat × Bool)}
theorem wl_makeM {c : Array Value} {o : Oper} (H : HA w0 L w) (M : Marks w0 rs w) (t : TypeId) (hw : Region.wanted o (yielded ops a.tmps) = true) (hr : (execOp a.eval o).run P w = .ok (.value (.pointer (some ⟨w.heap.size, 0, none⟩))) (w.alloc (.cells c t)))
    (h : ∀ q w', HA w0 ((q, t, c) :: L) w' → Marks w0 rs w' → WL P ops Q rest (a.put o.dst (.pointer (some ⟨q, 0, none⟩))) w') : WL P ops Q (o :: rest) a w :=
  wl_world _ hw hr (h _ _ (H.make t c) (M.below ((Below.refl _ _).alloc (Nat.le_refl _) _)))
theorem wl_fillM {x y : Operand} {q : Nat} {t : TypeId} {c c' : Array Value} (H : HA w0 L w) (M : Marks w0 rs w) (i : Nat) (hi : L[i]? = some (q, t, c)) (hw : Region.wanted ⟨dst, .store ty x y, ty', pos, aft, gd⟩ (yielded ops a.tmps) = true)
    (hx : a.eval x = .pointer (some ⟨q, 0, none⟩)) (hy : a.eval y = .agg c') (hs : c'.size = c.size) (hz : (P.info? ty).map (·.size) = some c'.size) (h1 : c'.all (·.oneCell') = true)
    (h : ∀ w', HA w0 (L.set i (q, t, c')) w' → Marks w0 rs w' → WL P ops Q rest (a.put dst undef) w') : WL P ops Q (⟨dst, .store ty x y, ty', pos, aft, gd⟩ :: rest) a w :=
  wl_skips hw (run_store_blk hx hy (H.get i hi) hs hz h1) (h _ (H.fill i hi hs) (M.turn H i hi (grown_set (Below.refl _ _))))
end
/-- words behind one another, modulo the order -/
def stt (v : Nat) (xs : List Wd) : Nat := xs.foldl (fun v x => (v * K + x.1) % Lq) v
theorem stt_snoc (v : Nat) (xs : List Wd) (x : Wd) : stt v (xs ++ [x]) = (stt v xs * K + x.1) % Lq := by
  unfold stt
  rw [List.foldl_append, List.foldl_cons, List.foldl_nil]
theorem foldl_lt {α : Type} (f : Nat → α → Nat) (M : Nat) (hf : ∀ v x, f v x < M) : ∀ (l : List α) (v : Nat), v < M → l.foldl f v < M
  | [], _, h => h
  | x :: l, v, _ => foldl_lt f M hf l (f v x) (hf v x)
theorem stt_lt (v : Nat) (hv : v < Lq) (xs : List Wd) : stt v xs < Lq := foldl_lt _ Lq (fun _ _ => Nat.mod_lt _ Lq_pos) xs v hv
theorem mod_in (M a B b : Nat) : (a % M * B + b) % M = (a * B + b) % M := by rw [Nat.add_mod, Nat.mod_mul_mod, ← Nat.add_mod]
theorem mod_four (M B v a b c d : Nat) : (((((v * B + a) % M) * B + b) % M * B + c) % M * B + d) % M = ((((v * B + a) * B + b) * B + c) * B + d) % M := by
  rw [mod_in M (((v * B + a) % M) * B + b) B c, mod_in M (((v * B + a) % M * B + b) * B + c) B d]
  have h1 : (((v * B + a) % M * B + b) * B + c) % M = (((v * B + a) * B + b) * B + c) % M := by
    rw [← mod_in M ((v * B + a) % M * B + b) B c, mod_in M (v * B + a) B b, mod_in]
  rw [← mod_in M (((v * B + a) % M * B + b) * B + c) B d, h1, mod_in]
theorem low_hi (x : Nat) (hx : x < 18446744073709551616) : lowb (wrap32 ((x : Int) / 4294967296)) = x / 4294967296 := by
  unfold lowb wrap32
  omega
theorem low_lo (x : Nat) : lowb (wrap32 (x : Int)) = x % 4294967296 := by
  unfold lowb wrap32
  omega
theorem two_moves (v x : Nat) (hx : x < 18446744073709551616) : ((v * 2 ^ 32 + lowb (wrap32 ((x : Int) / 4294967296))) % Lq * 2 ^ 32 + lowb (wrap32 (x : Int))) % Lq = (v * K + x) % Lq := by
  rw [low_hi x hx, low_lo x, mod_in]
  have e : (v * 2 ^ 32 + x / 4294967296) * 2 ^ 32 + x % 4294967296 = v * K + x := by show _ = v * 18446744073709551616 + x; omega
  rw [e]
theorem four_digits (B v p : Nat) (hB : 0 < B) (hp : p < B ^ 4) : (((v * B + p / B ^ 3 % B) * B + p / B ^ 2 % B) * B + p / B ^ 1 % B) * B + p / B ^ 0 % B = v * B ^ 4 + p := by
  have h3 : p / B ^ 3 % B = p / B ^ 3 := Nat.mod_eq_of_lt (by rw [Nat.div_lt_iff_lt_mul (Nat.pow_pos hB), Nat.mul_comm, ← Nat.pow_succ]; exact hp)
  have e1 := Nat.mod_add_div p (B ^ 3)
  have e2 := mod_step B p 2
  have e3 := mod_step B p 1
  have e4 := mod_step B p 0
  rw [Nat.pow_zero, Nat.mod_one, Nat.mul_one, Nat.zero_add] at e4
  rw [e4] at e3
  rw [e3] at e2
  rw [e2] at e1
  rw [h3, Nat.pow_zero]
  generalize p / B ^ 3 = a at *
  generalize p / B ^ 2 % B = b at *
  generalize p / B ^ 1 % B = c at *
  generalize p / 1 % B = d at *
  have f4 : B ^ 4 = B * B * B * B := by simp [Nat.pow_succ]
  have f3 : B ^ 3 = B * B * B := by simp [Nat.pow_succ]
  have f2 : B ^ 2 = B * B := by simp [Nat.pow_succ]
  rw [f3, f2, Nat.pow_one] at e1
  rw [f4, ← e1]
  simp only [Nat.add_mul, Nat.mul_assoc, Nat.add_assoc]
  have g1 : B * (B * (B * a)) = a * (B * (B * B)) := by rw [Nat.mul_comm a]; simp only [Nat.mul_assoc]
  omega
theorem stt_part (v p : Nat) (hp : p < K ^ 4) : stt v (upto p 4) = (v * K ^ 4 + p) % Lq := by
  rw [upto_succ, upto_succ, upto_succ, upto_succ, stt_snoc, stt_snoc, stt_snoc, stt_snoc]
  have e0 : stt v (upto p 0) = v := rfl
  rw [e0, mod_four, ← four_digits K v p (by decide) hp]
  rfl
/-- the number of parts, the highest first, modulo the order -/
def mval (ps : List Nat) : Nat := ps.foldl (fun v p => (v * K ^ 4 + p) % Lq) 0
theorem mval_take (ps : List Nat) (k n : Nat) (h : ps[k]? = some n) : mval (ps.take (k + 1)) = (mval (ps.take k) * K ^ 4 + n) % Lq := by
  unfold mval
  rw [List.take_add_one, h, List.foldl_append, Option.toList_some, List.foldl_cons, List.foldl_nil]
theorem mval_lt (ps : List Nat) : mval ps < Lq := foldl_lt _ Lq (fun _ _ => Nat.mod_lt _ Lq_pos) ps 0 Lq_pos
end Go.Proofs.YtdblnbcclfenkaaDoor
