/-
  Parts that are cut and joined; a row of texts that grows.
-/
import Derived.Test.YtmlldbkhphngeaaDoorHs8
namespace Go.Proofs.YtmlldbkhphngeaaDoor
open Go.RowKit

def cu300 (s : ByteArray) : ByteArray := s.extract 0 (min s.size 300)
def trP (ss : List ByteArray) : Nat → List ByteArray
  | 0 => []
  | i + 1 => trP ss i ++ [cu300 (ss.getD i ByteArray.empty)]
def allP (ss : List ByteArray) : Nat → ByteArray
  | 0 => { data := #[] }
  | i + 1 => allP ss i ++ cu300 (ss.getD i ByteArray.empty)
theorem cu300_le (s : ByteArray) : (cu300 s).size ≤ 300 := by
  unfold cu300
  rw [extract_size _ _ (Nat.min_le_left _ _)]
  exact Nat.min_le_right _ _
theorem trP_len (ss : List ByteArray) : ∀ i, (trP ss i).length = i
  | 0 => rfl
  | i + 1 => by rw [trP, List.length_append, trP_len ss i]; rfl
theorem trP_le (ss : List ByteArray) : ∀ i, ∀ x ∈ trP ss i, x.size ≤ 300
  | 0 => fun x h => by cases h
  | i + 1 => fun x h => by
    rw [trP] at h
    rcases List.mem_append.1 h with h | h
    · exact trP_le ss i x h
    · rw [List.mem_singleton] at h; rw [h]; exact cu300_le _
theorem bl_append (s t : ByteArray) : bl (s ++ t) = bl s ++ bl t := by
  unfold bl
  rw [ByteArray.data_append, Array.toList_append]
theorem allP_size (ss : List ByteArray) : ∀ i, (allP ss i).size ≤ 300 * i
  | 0 => Nat.le_refl _
  | i + 1 => by
    have h1 := allP_size ss i
    have h2 := cu300_le (ss.getD i ByteArray.empty)
    rw [allP, ByteArray.size_append]
    omega
theorem catP_app (l m : List ByteArray) : ∀ i, i ≤ l.length → catP (l ++ m) i = catP l i
  | 0, _ => rfl
  | i + 1, h => by
    rw [catP, catP, catP_app l m i (by omega), List.getD_eq_getElem?_getD, List.getElem?_append_left (by omega), ← List.getD_eq_getElem?_getD]
theorem cat_tr (ss : List ByteArray) : ∀ k, catP (trP ss k) k = bl (allP ss k)
  | 0 => rfl
  | k + 1 => by
    have e : (trP ss k ++ [cu300 (ss.getD k ByteArray.empty)]).getD k ByteArray.empty = cu300 (ss.getD k ByteArray.empty) := by
      rw [List.getD_eq_getElem?_getD, List.getElem?_append_right (by rw [trP_len]; exact Nat.le_refl _), trP_len, Nat.sub_self]
      rfl
    rw [catP, trP, catP_app _ _ k (by rw [trP_len]; exact Nat.le_refl _), cat_tr ss k, e, allP, bl_append]
theorem cat_all (ss : List ByteArray) (k : Nat) : catP (trP ss k) k = catP [allP ss k] 1 := cat_tr ss k
theorem szP_le (ps : List ByteArray) (h : ∀ x ∈ ps, x.size ≤ 300) : ∀ i, szP ps i ≤ 300 * i
  | 0 => Nat.le_refl _
  | i + 1 => by
    have h1 := szP_le ps h i
    have h2 : (ps.getD i ByteArray.empty).size ≤ 300 := by
      rw [List.getD_eq_getElem?_getD]
      cases hx : ps[i]? with
      | none => exact Nat.zero_le _
      | some x => exact h x (List.mem_of_getElem? hx)
    rw [szP]
    omega
theorem sz_one (s : ByteArray) (h : s.size ≤ 2251799813685248) : ∀ i, i ≤ 1 → szP [s] i ≤ 2251799813685248 := fun i hi => by
  rcases i with _ | _ | i
  · exact Nat.zero_le _
  · have e : szP [s] (0 + 1) = 0 + s.size := rfl
    rw [e]; omega
  · omega
theorem dig_szS (l : List UInt8) : (⟨(digP KS l).toArray⟩ : ByteArray).size = 32 := by
  show (digP KS l).toArray.size = 32
  rw [List.size_toArray, digP_len]
  rfl
theorem dig_szL (l : List UInt8) : (⟨(digP KL l).toArray⟩ : ByteArray).size = 64 := by
  show (digP KL l).toArray.size = 64
  rw [List.size_toArray, digP_len]
  rfl
theorem shaS' (ps : List ByteArray) (n : Nat) (hn : ps.length = n) (o : Option Addr) (c : Nat) (w : World) (VV : Vars w) (hps : ∀ i, i < n → ∃ q, o = some ⟨q, 0, none⟩ ∧ w.cell? ⟨q, i, none⟩ = some (.string (ps.getD i ByteArray.empty))) (hsz : ∀ i, i ≤ n → szP ps i ≤ 2251799813685248) (hpl : n ≤ 1000000) :
    Calls Tryd.prog 22 #[.slice o n c] w fun e w' => e = .returned (.string ⟨(digP KS (catP ps n)).toArray⟩) ∧ Below w.heap.size w w' := by
  subst hn; exact shaS ps o c w VV hps hsz hpl
theorem info9 : (Tryd.prog.info? 9).map (fun i => (i.zero, i.size, i.bytes)) = some (some (.string ByteArray.empty), 1, 16) := by kernel_rfl
section
variable {ρ : Operand → Value} {x y : Operand} {w : World} {dst : Option Tmp} {T T2 ty : TypeId} {pos : String} {aft : Array Edge} {gd : Option (Nat × Bool)}
theorem run_addr26g {a : Addr} {m c i : Nat} (hx : ρ x = .slice (some a) m c) (hy : ρ y = iN .i64 i) (hi : i < m) : (execOp ρ ⟨dst, .indexAddr 38 x y, ty, pos, aft, gd⟩).run Tryd.prog w = .ok (.value (.pointer (some (a.add i)))) w := by
  simp only [execOp, hx, hy, iN]
  go_simp
theorem run_load_at {a : Addr} {v : Value} (hx : ρ x = .pointer (some a)) (h : w.cell? a = some v) : (execOp ρ ⟨dst, .load 9 x, ty, pos, aft, gd⟩).run Tryd.prog w = .ok (.value v) w := by
  simp only [execOp, hx]
  simp [go_sem, h, Tryd.isAgg9]
end
section
variable {ops : Array Oper} {Q : Exit → Act → World → Prop} {a : Act} {w w0 : World} {L : List (Nat × TypeId × Array Value)} {rest : List Oper} {dst : Option Tmp} {ty : TypeId} {pos : String} {aft : Array Edge} {gd : Option (Nat × Bool)} {x y : Operand}
/-- a text more behind a row of one's own -/
theorem wl_more {lv : Value} {k : Nat} {xs : List ByteArray} {s : ByteArray} (o1 : Oper) (H : HA w0 [] w) (hown : w.ownsRow w0.heap.size 9 1 lv k (xs.map Value.string)) (hk : k ≤ 1000) (hw1 : Region.wanted o1 (yielded ops a.tmps) = true)
    (hr1 : (execOp a.eval o1).run Tryd.prog w = .ok (.value (.slice (some ⟨w.heap.size, 0, none⟩) 1 1)) (w.alloc (.cells (psc [s]) 9)))
    (hw : ∀ q, Region.wanted ⟨dst, .call { callee := .builtin .append, args := #[x, y], argTypes := #[38, 38] }, ty, pos, aft, gd⟩ (yielded ops (a.put o1.dst (.slice (some ⟨q, 0, none⟩) 1 1)).tmps) = true)
    (hx : ∀ q, (a.put o1.dst (.slice (some ⟨q, 0, none⟩) 1 1)).eval x = lv) (hy : ∀ q, (a.put o1.dst (.slice (some ⟨q, 0, none⟩) 1 1)).eval y = .slice (some ⟨q, 0, none⟩) 1 1)
    (h : ∀ q lv' w', HA w0 [] w' → w'.ownsRow w0.heap.size 9 1 lv' (k + 1) ((xs ++ [s]).map Value.string) → WL Tryd.prog ops Q rest ((a.put o1.dst (.slice (some ⟨q, 0, none⟩) 1 1)).put dst lv') w') :
    WL Tryd.prog ops Q (o1 :: ⟨dst, .call { callee := .builtin .append, args := #[x, y], argTypes := #[38, 38] }, ty, pos, aft, gd⟩ :: rest) a w := by
  have H1 := H.make 9 (psc [s])
  have hown1 := hown.alloc (Obj.cells (psc [s]) 9)
  refine ⟨?_⟩
  unfold wpList
  rw [if_pos hw1]
  refine .inl ?_
  unfold Oper.wp
  rw [hr1]
  show wpList _ _ _ _ _ _
  unfold wpList
  rw [if_pos (hw _)]
  refine .inl ?_
  unfold Oper.wp
  obtain ⟨i, hi, hh⟩ := Option.map_eq_some_iff.1 info9
  simp only [Prod.mk.injEq] at hh
  have hB := H1.get 0 rfl
  obtain ⟨v', w', hrun, hown', hgr, _⟩ := run_append_own (P := Tryd.prog) (w.alloc (.cells (psc [s]) 9)) w0.heap.size 38 ty 9 i (.string ByteArray.empty) 1 16 Tryd.underlying38 hi hh.1 hh.2.1 hh.2.2 rfl (by decide) lv k (xs.map Value.string) hown1 ⟨w.heap.size, 0, none⟩ 1 1 [.string s] rfl (fun j u hu => by
    have hadd : (⟨w.heap.size, 0, none⟩ : Addr).add j = ⟨w.heap.size, j, none⟩ := by unfold Addr.add; split <;> simp_all
    rw [hadd, hB.cell j]
    simpa [psc] using hu) (fun u hu => by rw [List.mem_singleton] at hu; rw [hu]; rfl) (by unfold maxLen; omega) (by omega) H1.old.size
  have e0 : (execOp ((a.put o1.dst (.slice (some ⟨w.heap.size, 0, none⟩) 1 1)).eval) ⟨dst, .call { callee := .builtin .append, args := #[x, y], argTypes := #[38, 38] }, ty, pos, aft, gd⟩).run Tryd.prog (w.alloc (.cells (psc [s]) 9)) = .ok (.value v') w' := by
    have e1 : ∀ (ρ : Operand → Value) (w : World), (execOp ρ ⟨dst, .call { callee := .builtin .append, args := #[x, y], argTypes := #[38, 38] }, ty, pos, aft, gd⟩).run Tryd.prog w = ((Builtin.append_ #[38, 38] ty #[ρ x, ρ y]).run Tryd.prog w).andThen (fun a w' => .ok (.value a) w') := fun ρ w => by simp [go_sem]
    rw [e1, hx, hy, hrun]
    rfl
  rw [e0]
  rw [show xs.map Value.string ++ [.string s] = (xs ++ [s]).map Value.string by rw [List.map_append]; rfl] at hown'
  have hbel : Below w0.heap.size w0 w' := H1.old.grown hgr H1.old.size (fun r hr => (hown1.lt r hr).1)
  exact (h _ v' w' ⟨hbel, (fun x hx => by cases hx), (fun x hx => by cases hx), List.nodup_nil⟩ hown').out
end
theorem owns_parts {w : World} {base k : Nat} {lv : Value} {ps : List ByteArray} (h : w.ownsRow base 9 1 lv k (ps.map Value.string)) : ∃ o c, lv = .slice o k c ∧ ∀ i, i < k → ∃ q, o = some ⟨q, 0, none⟩ ∧ w.cell? ⟨q, i, none⟩ = some (.string (ps.getD i ByteArray.empty)) := by
  obtain ⟨hl, ⟨rfl, rfl⟩ | ⟨g, cap, cur, rfl, _, hg, _, _, _, hx⟩⟩ := h
  · exact ⟨none, 0, rfl, fun i hi => by omega⟩
  · refine ⟨_, cap, rfl, fun i hi => ⟨g, rfl, ?_⟩⟩
    rw [Nat.mul_one] at hx hl
    rw [List.length_map] at hl
    have e : cur.toList[i]? = some (.string (ps.getD i ByteArray.empty)) := by
      have h2 : (cur.toList.take k)[i]? = cur.toList[i]? := List.getElem?_take_of_lt hi
      rw [← h2, hx, List.getElem?_map, List.getD_eq_getElem?_getD, List.getElem?_eq_getElem (by omega)]
      rfl
    simp only [World.cell?, hg]
    rw [Array.getElem?_toList] at e
    simpa using e
theorem below_on {w w1 w2 : World} (h : Below w.heap.size w w1) (h2 : Below w1.heap.size w1 w2) : Below w.heap.size w w2 := h.trans ⟨h2.os, h2.tape, h2.output, h2.size, fun k hk => h2.block k (Nat.lt_of_lt_of_le hk h.size)⟩
end Go.Proofs.YtmlldbkhphngeaaDoor
