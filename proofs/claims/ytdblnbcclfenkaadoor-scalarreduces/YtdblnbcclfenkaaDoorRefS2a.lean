/-
  The reference's table of the order, twice, four times ..
-/
import Derived.Test.YtdblnbcclfenkaaDoorRefS1
namespace Go.Proofs.YtdblnbcclfenkaaDoor
open Go.RowKit Num

/-- so many rows are laid, the rest is nought -/
def row (k i : Nat) : Nat := if i < k then 2 ^ i * Lq else 0
def tbl (k : Nat) : Array Value := (Array.range 360).map fun m => iN .i64 (row k (m / 36) / 256 ^ (m % 36) % 256)
theorem tbl_size (k : Nat) : (tbl k).size = 360 := by unfold tbl; rw [Array.size_map, Array.size_range]
theorem tbl_get (k m : Nat) (hm : m < 360) : (tbl k)[m]? = some (iN .i64 (row k (m / 36) / 256 ^ (m % 36) % 256)) := by
  unfold tbl
  rw [Array.getElem?_map, Array.getElem?_range, if_pos hm]
  rfl
theorem info57 : (Tryd.prog.info? 57).map (·.size) = some 360 := by kernel_rfl
theorem tbl_splice (k : Nat) (hk : k < 10) : ((tbl k).toList.take (36 * k) ++ (rl (2 ^ k * Lq)).toList ++ (tbl k).toList.drop (36 * k + (rl (2 ^ k * Lq)).size)).toArray = tbl (k + 1) := by
  have hl : (tbl k).toList.length = 360 := by rw [Array.length_toList, tbl_size]
  have hr : (rl (2 ^ k * Lq)).toList.length = 36 := by rw [Array.length_toList, rl_size]
  refine Array.ext_getElem? fun m => ?_
  rw [List.getElem?_toArray, rl_size, List.getElem?_append, List.getElem?_append, List.length_append, List.length_take, hl, hr, Nat.min_eq_left (by omega)]
  by_cases h1 : m < 36 * k
  · rw [if_pos (by omega), if_pos h1, List.getElem?_take_of_lt h1, Array.getElem?_toList, tbl_get k m (by omega), tbl_get (k + 1) m (by omega)]
    have e : row k (m / 36) = row (k + 1) (m / 36) := by unfold row; rw [if_pos (by omega), if_pos (by omega)]
    rw [e]
  · by_cases h2 : m < 36 * k + 36
    · rw [if_pos h2, if_neg h1, Array.getElem?_toList, rl_get _ _ (by omega), tbl_get (k + 1) m (by omega)]
      have e : row (k + 1) (m / 36) = 2 ^ k * Lq := by unfold row; rw [if_pos (by omega), show m / 36 = k by omega]
      rw [e, show m % 36 = m - 36 * k by omega]
    · rw [if_neg h2, List.getElem?_drop, Array.getElem?_toList, show 36 * k + 36 + (m - (36 * k + 36)) = m by omega]
      by_cases h3 : m < 360
      · rw [tbl_get k m h3, tbl_get (k + 1) m h3]
        have e : row k (m / 36) = row (k + 1) (m / 36) := by unfold row; rw [if_neg (by omega), if_neg (by omega)]
        rw [e]
      · rw [Array.getElem?_eq_none (by rw [tbl_size]; omega), Array.getElem?_eq_none (by rw [tbl_size]; omega)]
section
variable {ρ : Operand → Value} {x y : Operand} {w : World} {dst : Option Tmp} {ty : TypeId} {pos : String} {aft : Array Edge} {gd : Option (Nat × Bool)} {q a k : Nat}
theorem run_addr57 (hx : ρ x = .pointer (some ⟨q, 0, none⟩)) (hy : ρ y = iN .i64 a) (ha : a < 10) : (execOp ρ ⟨dst, .indexAddr 57 x y, ty, pos, aft, gd⟩).run Tryd.prog w = .ok (.value (.pointer (some ⟨q, 36 * a, none⟩))) w := by
  have ha' : (a : Int) < 10 := by omega
  simp only [execOp, hx, hy, iN]
  simp [go_sem, Tryd.underlying57, Tryd.sizeOf37, ha', Addr.add, Nat.mul_comm]
  intro h
  omega
theorem run_row (hx : ρ x = .pointer (some ⟨q, 36 * a, none⟩)) (h : Blk w q 57 (tbl k)) (ha : a < k) (h10 : a < 10) : (execOp ρ ⟨dst, .load 37 x, ty, pos, aft, gd⟩).run Tryd.prog w = .ok (.value (rarr (2 ^ a * Lq))) w := by
  have hr : w.rangeAt q (36 * a) (rl (2 ^ a * Lq)).toList := fun j v hv => by
    have hj : j < 36 := by have := (List.getElem?_eq_some_iff.1 hv).1; simpa [rl_size] using this
    rw [Array.getElem?_toList, rl_get _ _ hj] at hv
    rw [h.cell (36 * a + j), tbl_get k _ (by omega), ← hv]
    have e : row k ((36 * a + j) / 36) = 2 ^ a * Lq := by unfold row; rw [if_pos (by omega), show (36 * a + j) / 36 = a by omega]
    rw [e, show (36 * a + j) % 36 = j by omega]
  simp only [execOp, hx, Instr.loadAt, Instr.sureAddr, Sem.run_bind, Sem.run_pure, Result.andThen_ok, run_loadVar_mid w q (36 * a) 37 (rl (2 ^ a * Lq)).toList _ hr Tryd.underlying37 rfl (by rw [Array.length_toList]; exact info37)]
  rfl
end
theorem grown_sets {w : World} {q o : Nat} {vs : List Value} : w.grownBy (w.setCells q o vs) (some q) := by
  have key : ∀ (vs : List Value) (o : Nat) (w2 : World), w.grownBy w2 (some q) → w.grownBy (w2.setCells q o vs) (some q) := by
    intro vs
    induction vs with
    | nil => intro o w2 h; exact h
    | cons v r ih =>
      intro o w2 h
      refine ih (o + 1) _ ⟨h.os, h.tape, h.output, by simpa using h.size, fun k hk hne => ?_⟩
      rw [Below.heap_setCell w2 ⟨q, o, none⟩ v k (fun e => hne (by rw [e]))]
      exact h.block k hk hne
  exact key vs o w ⟨rfl, rfl, rfl, Nat.le_refl _, fun _ _ _ => rfl⟩
section
variable {P : Program} {ops : Array Oper} {Q : Exit → Act → World → Prop} {a : Act} {rest : List Oper} {w w0 : World} {L : List (Nat × TypeId × Array Value)} {dst : Option Tmp} {ty ty' : TypeId} {pos : String} {aft : Array Edge} {gd : Option (Nat × Bool)}
/-- a part of a block is filled -/
theorem wl_fillp {x y : Operand} {q off : Nat} {t : TypeId} {c c' c'' : Array Value} (H : HA w0 L w) (i : Nat) (hi : L[i]? = some (q, t, c)) (hw : Region.wanted ⟨dst, .store ty x y, ty', pos, aft, gd⟩ (yielded ops a.tmps) = true)
    (hx : a.eval x = .pointer (some ⟨q, off, none⟩)) (hy : a.eval y = .agg c') (hz : (P.info? ty).map (·.size) = some c'.size) (h1 : c'.all (·.oneCell') = true) (hs : off + c'.size ≤ c.size)
    (hc : (c.toList.take off ++ c'.toList ++ c.toList.drop (off + c'.size)).toArray = c'')
    (h : ∀ w', HA w0 (L.set i (q, t, c'')) w' → WL P ops Q rest (a.put dst undef) w') : WL P ops Q (⟨dst, .store ty x y, ty', pos, aft, gd⟩ :: rest) a w := by
  have hb := H.get i hi
  have hth : w.there q off c'.size := fun j hj => ⟨by rw [hb.cell (off + j)]; simp; omega, hb.free (off + j)⟩
  have e : (execOp a.eval ⟨dst, .store ty x y, ty', pos, aft, gd⟩).run P w = .ok .skip (w.setCells q off c'.toList) := by
    simp only [execOp, hx, hy, Instr.storeAt, Instr.sureAddr, Sem.run_bind, Sem.run_pure, Result.andThen_ok, run_storeVar_mid w q off ty c' hth hz h1]
  refine wl_skips hw e (h _ (H.turn i hi grown_sets ?_))
  rw [← hc]
  have h2 := Blk.sets c'.toList off w c hb (by rw [Array.length_toList]; exact hs)
  rw [Array.length_toList] at h2
  exact h2
end
section
variable {ops : Array Oper} {Q : Exit → Act → World → Prop} {F : (Nat → Nat) → Act} {i i0 i1 j q : Nat} {w0 : World} {L : List (Nat × TypeId × Array Value)} {t : TypeId} {c : Array Value}
/-- an operation that reads another block than that which is filled -/
theorem gf_read {o : Oper} {v : Value} {e : Nat × TypeId × Array Value} (m : Nat) (hjm : j ≠ m) (hm : L[m]? = some e) (hi : i ≠ i0) (hw : ∀ g, Region.wanted o (yielded ops (F g).tmps) = true) (hp : ∀ g, (F g).put o.dst v = F g)
    (hr : ∀ g w, Blk w e.1 e.2.1 e.2.2 → (execOp (F g).eval o).run Tryd.prog w = .ok (.value v) w) : OpGhost Tryd.prog .any ops Q (GF w0 L i0 i1 j q t c) F i o :=
  OpGhost.take (v := fun _ => v) hw hp (fun g d w h _ => by
    have hB : Blk w e.1 e.2.1 e.2.2 := by
      have hH := h.held
      split at hH
      · exact hH.get m (by rw [List.getElem?_set_ne hjm]; exact hm)
      · exact hH.get m hm
    exact ⟨hr g w hB, h.keep hi (Below.refl _ w)⟩)
end
theorem run_alloc57 {ρ : Operand → Value} {w : World} {dst : Option Tmp} {ty : TypeId} {pos : String} {aft : Array Edge} {gd : Option (Nat × Bool)} :
    (execOp ρ ⟨dst, .alloc 57, ty, pos, aft, gd⟩).run Tryd.prog w = .ok (.value (.pointer (some ⟨w.heap.size, 0, none⟩))) (w.alloc (.cells (tbl 0) 57)) := by
  have e : (execOp ρ ⟨dst, .alloc 57, ty, pos, aft, gd⟩).run Tryd.prog w = .ok (.value (.pointer (some ⟨w.heap.size, 0, none⟩))) (w.alloc (.cells (Array.replicate 360 (.int .i64 0)) 57)) := by kernel_rfl
  rw [e, show Array.replicate 360 (Value.int .i64 0) = tbl 0 by kernel_rfl]
/-- less by so much, where it fits -/
theorem red_step (a v M : Nat) (hM : 0 < M) (hv : v = a % (2 * M)) : (v < M → v = a % M) ∧ (¬ v < M → v - M = a % M) := by
  have h1 : a % M = v % M := by rw [hv, Nat.mod_mod_of_dvd _ ⟨2, Nat.mul_comm _ _⟩]
  have h2 : v < 2 * M := by rw [hv]; exact Nat.mod_lt _ (by omega)
  refine ⟨fun h => ?_, fun h => ?_⟩
  · rw [h1, Nat.mod_eq_of_lt h]
  · rw [h1, show v = (v - M) + M by omega, Nat.add_mod_right, Nat.mod_eq_of_lt (by omega), Nat.add_sub_cancel]
theorem rdouble_pow (k : Nat) (w : World) : Calls Tryd.prog 38 #[rarr (2 ^ k * Lq)] w fun e w' => e = .returned (rarr (2 ^ (k + 1) * Lq)) ∧ Below w.heap.size w w' := by
  have h := rdouble_any (2 ^ k * Lq) w
  rwa [show 2 * (2 ^ k * Lq) = 2 ^ (k + 1) * Lq by rw [Nat.pow_succ, ← Nat.mul_assoc, Nat.mul_comm 2]] at h
theorem rbelow_yes (a b : Nat) (ha : a < 256 ^ 36) (hb : b < 256 ^ 36) (h : a < b) (w : World) : Calls Tryd.prog 39 #[rarr a, rarr b] w fun e w' => e = .returned (.bool true) ∧ Below w.heap.size w w' := by
  have h1 := rbelow_any a b ha hb w
  rwa [decide_eq_true h] at h1
theorem rbelow_no (a b : Nat) (ha : a < 256 ^ 36) (hb : b < 256 ^ 36) (h : ¬ a < b) (w : World) : Calls Tryd.prog 39 #[rarr a, rarr b] w fun e w' => e = .returned (.bool false) ∧ Below w.heap.size w w' := by
  have h1 := rbelow_any a b ha hb w
  rwa [decide_eq_false h] at h1
theorem pow_Lq_lt (M j : Nat) (hM : M = Lq) (hj : j ≤ 10) : 2 ^ j * M < 256 ^ 36 := by
  have h1 : 2 ^ j ≤ 2 ^ 10 := Nat.pow_le_pow_right (by decide) hj
  have h2 : M ≤ 256 ^ 32 := by rw [hM]; decide
  exact Nat.lt_of_le_of_lt (Nat.mul_le_mul h1 h2) (by decide)
end Go.Proofs.YtdblnbcclfenkaaDoor
