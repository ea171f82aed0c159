/-
  The package's variables and types; lists of words that are filled.
-/
import Derived.Test.YtmlldbkhphngeaaDoorHY
import Derived.Test.YtmlldbkhphngeaaDoorHM
namespace Go.Proofs.YtmlldbkhphngeaaDoor
open Go.RowKit

def tc (a b c : Nat) : Array Value := #[iN .u64 a, iN .u64 b, iN .u64 c]
def kcS : Array Value := #[iN .u64 32, iN .i64 64, iN .i64 64, iN .i64 8, iN .u64 2, iN .u64 13, iN .u64 22, iN .u64 6, iN .u64 11, iN .u64 25, iN .u64 7, iN .u64 18, iN .u64 3, iN .u64 17, iN .u64 19, iN .u64 10]
def kcL : Array Value := #[iN .u64 64, iN .i64 128, iN .i64 80, iN .i64 16, iN .u64 28, iN .u64 34, iN .u64 39, iN .u64 14, iN .u64 18, iN .u64 41, iN .u64 1, iN .u64 8, iN .u64 7, iN .u64 19, iN .u64 61, iN .u64 6]
theorem one_tc (a b c : Nat) : (tc a b c).all (·.oneCell') = true := by kernel_rfl
theorem one_kcS : kcS.all (·.oneCell') = true := by kernel_rfl
theorem one_kcL : kcL.all (·.oneCell') = true := by kernel_rfl
theorem info34 (a b c : Nat) : (Tryd.prog.info? 50).map (·.size) = some (tc a b c).size := by kernel_rfl
theorem info36S : (Tryd.prog.info? 52).map (·.size) = some kcS.size := by kernel_rfl
theorem info36L : (Tryd.prog.info? 52).map (·.size) = some kcL.size := by kernel_rfl
theorem i37 : (Tryd.prog.info? 53).map (·.size) = some 8 := by kernel_rfl
theorem i43 : (Tryd.prog.info? 64).map (·.size) = some 8 := by kernel_rfl
theorem i56 : (Tryd.prog.info? 66).map (·.size) = some 80 := by kernel_rfl
theorem i44 : (Tryd.prog.info? 69).map (·.size) = some 80 := by kernel_rfl
theorem info37 {n : Nat} (k : IntKind) (l : List (BitVec n)) (h : l.length = 8) : (Tryd.prog.info? 53).map (·.size) = some (wc k l).size := by rw [wc_size, h]; exact i37
theorem info43 {n : Nat} (k : IntKind) (l : List (BitVec n)) (h : l.length = 8) : (Tryd.prog.info? 64).map (·.size) = some (wc k l).size := by rw [wc_size, h]; exact i43
theorem info56 {n : Nat} (k : IntKind) (l : List (BitVec n)) (h : l.length = 80) : (Tryd.prog.info? 66).map (·.size) = some (wc k l).size := by rw [wc_size, h]; exact i56
theorem info44 {n : Nat} (k : IntKind) (l : List (BitVec n)) (h : l.length = 80) : (Tryd.prog.info? 69).map (·.size) = some (wc k l).size := by rw [wc_size, h]; exact i44
section
variable {ρ : Operand → Value} {x y : Operand} {w : World} {dst : Option Tmp} {T T2 ty : TypeId} {pos : String} {aft : Array Edge} {gd : Option (Nat × Bool)} {q : Nat} {c : Array Value}
theorem run_alloc34 : (execOp ρ ⟨dst, .alloc 50, ty, pos, aft, gd⟩).run Tryd.prog w = .ok (.value (.pointer (some ⟨w.heap.size, 0, none⟩))) (w.alloc (.cells (tc 0 0 0) 50)) := by kernel_rfl
theorem run_alloc37 : (execOp ρ ⟨dst, .alloc 53, ty, pos, aft, gd⟩).run Tryd.prog w = .ok (.value (.pointer (some ⟨w.heap.size, 0, none⟩))) (w.alloc (.cells (wc .u32 (List.replicate 8 (0 : BitVec 32))) 53)) := by kernel_rfl
theorem run_alloc43 : (execOp ρ ⟨dst, .alloc 64, ty, pos, aft, gd⟩).run Tryd.prog w = .ok (.value (.pointer (some ⟨w.heap.size, 0, none⟩))) (w.alloc (.cells (wc .u64 (List.replicate 8 (0 : BitVec 64))) 64)) := by kernel_rfl
theorem run_alloc56 : (execOp ρ ⟨dst, .alloc 66, ty, pos, aft, gd⟩).run Tryd.prog w = .ok (.value (.pointer (some ⟨w.heap.size, 0, none⟩))) (w.alloc (.cells (wc .u32 (List.replicate 80 (0 : BitVec 32))) 66)) := by kernel_rfl
theorem run_alloc44 : (execOp ρ ⟨dst, .alloc 69, ty, pos, aft, gd⟩).run Tryd.prog w = .ok (.value (.pointer (some ⟨w.heap.size, 0, none⟩))) (w.alloc (.cells (wc .u64 (List.replicate 80 (0 : BitVec 64))) 69)) := by kernel_rfl
theorem run_alloc28 : (execOp ρ ⟨dst, .alloc 31, ty, pos, aft, gd⟩).run Tryd.prog w = .ok (.value (.pointer (some ⟨w.heap.size, 0, none⟩))) (w.alloc (.cells #[.slice none 0 0] 31)) := by kernel_rfl
theorem run_box34 (hx : ρ x = .agg c) : (execOp ρ ⟨dst, .box 50 x, ty, pos, aft, gd⟩).run Tryd.prog w = .ok (.value (.pointer (some ⟨w.heap.size, 0, none⟩))) (w.alloc (.cells c 50)) := by
  simp only [execOp, hx]
  go_simp
theorem run_box36 (hx : ρ x = .agg c) : (execOp ρ ⟨dst, .box 52 x, ty, pos, aft, gd⟩).run Tryd.prog w = .ok (.value (.pointer (some ⟨w.heap.size, 0, none⟩))) (w.alloc (.cells c 52)) := by
  simp only [execOp, hx]
  go_simp
theorem run_box37 (hx : ρ x = .agg c) : (execOp ρ ⟨dst, .box 53 x, ty, pos, aft, gd⟩).run Tryd.prog w = .ok (.value (.pointer (some ⟨w.heap.size, 0, none⟩))) (w.alloc (.cells c 53)) := by
  simp only [execOp, hx]
  go_simp
theorem run_box43 (hx : ρ x = .agg c) : (execOp ρ ⟨dst, .box 64 x, ty, pos, aft, gd⟩).run Tryd.prog w = .ok (.value (.pointer (some ⟨w.heap.size, 0, none⟩))) (w.alloc (.cells c 64)) := by
  simp only [execOp, hx]
  go_simp
/-- a turns' three numbers out of a kind -/
theorem run_part34 {off a b d : Nat} {t : TypeId} (hx : ρ x = .pointer (some ⟨q, off, none⟩)) (h : Blk w q t c) (hc : [c[off + 0]?, c[off + 1]?, c[off + 2]?] = [some (iN .u64 a), some (iN .u64 b), some (iN .u64 d)]) : (execOp ρ ⟨dst, .load 50 x, ty, pos, aft, gd⟩).run Tryd.prog w = .ok (.value (.agg (tc a b d))) w := by
  simp only [List.cons.injEq, and_true] at hc
  have hr : w.rangeAt q off (tc a b d).toList := fun j v hv => by
    rw [h.cell (off + j)]
    rcases j with _ | _ | _ | j
    · exact hc.1.trans hv
    · exact hc.2.1.trans hv
    · exact hc.2.2.trans hv
    · cases hv
  simp only [execOp, hx, Instr.loadAt, Instr.sureAddr, Sem.run_bind, Sem.run_pure, Result.andThen_ok, run_loadVar_mid w q off 50 (tc a b d).toList _ hr Tryd.underlying50 rfl (by rw [Array.length_toList]; exact info34 a b d)]
/-- a whole load by its range -/
theorem run_load_range {D : TypeDesc} (hx : ρ x = .pointer (some ⟨q, 0, none⟩)) (h : w.rangeAt q 0 c.toList) (hu : Tryd.prog.underlying T = some D) (hd : D.isRow = true) (hi : (Tryd.prog.info? T).map (·.size) = some c.size) : (execOp ρ ⟨dst, .load T x, ty, pos, aft, gd⟩).run Tryd.prog w = .ok (.value (.agg c)) w := by
  simp only [execOp, hx, Instr.loadAt, Instr.sureAddr, Sem.run_bind, Sem.run_pure, Result.andThen_ok, run_loadVar_mid w q 0 T c.toList D h hu hd (by simpa using hi)]
end
/-- the four variables -/
structure Vars (w : World) : Prop where
  big : 3 ≤ w.heap.size
  s : w.rangeAt 0 0 kcS.toList
  f : w.rangeAt 1 0 (wc .u64 fws).toList
  r : w.rangeAt 2 0 (wc .u64 rws).toList
theorem rangeAt_below {w w' : World} {B g : Nat} {c : List Value} (h : w.rangeAt g 0 c) (hb : Below B w w') (hg : g < B) : w'.rangeAt g 0 c := fun j v hv => by
  rw [hb.cell (p := ⟨g, 0 + j, none⟩) hg]
  exact h j v hv
theorem Vars.below {w w' : World} {B : Nat} (h : Vars w) (hb : Below B w w') (hB : 3 ≤ B) : Vars w' :=
  ⟨Nat.le_trans h.big hb.size, rangeAt_below h.s hb (by omega), rangeAt_below h.f hb (by omega), rangeAt_below h.r hb (by omega)⟩
theorem Vars.rw {w : World} (h : Vars w) (i : Nat) (hi : i < 80) : w.cell? ⟨2, i, none⟩ = some (bv .u64 (rws.getD i 0)) := by
  have := h.r i (bv .u64 (rws.getD i 0)) (by rw [Array.getElem?_toList]; exact wc_get .u64 rws i hi)
  rwa [Nat.zero_add] at this
section
variable {n : Nat} (k : IntKind)
theorem pad_len (l : List (BitVec n)) (m : Nat) : (l ++ List.replicate m 0).length = l.length + m := by simp
theorem pad_get (l : List (BitVec n)) (m i : Nat) (h : i < l.length) : (wc k (l ++ List.replicate m 0))[i]? = some (bv k (l.getD i 0)) := by
  rw [wc_get k _ i (by rw [pad_len]; omega), List.getD_eq_getElem?_getD, List.getD_eq_getElem?_getD, List.getElem?_append_left h]
theorem pad_put (l : List (BitVec n)) (m m' i : Nat) (x : BitVec n) (h : l.length = i) (hm : m = m' + 1) : (wc k (l ++ List.replicate m 0)).setIfInBounds i (.int k (x.toNat : Int)) = wc k ((l ++ [x]) ++ List.replicate m' 0) := by
  subst h hm
  rw [wc_put, List.set_append_right _ _ (Nat.le_refl _), Nat.sub_self, List.replicate_succ, List.set_cons_zero, List.append_assoc]
  rfl
/-- the last one of a list that is filled is put again -/
theorem last_get (l : List (BitVec n)) (x : BitVec n) (m i : Nat) (h : l.length = i) : (wc k ((l ++ [x]) ++ List.replicate m 0))[i]? = some (bv k x) := by
  subst h
  rw [pad_get k _ m _ (by simp), List.getD_eq_getElem?_getD, List.getElem?_append_right (Nat.le_refl _), Nat.sub_self]
  rfl
theorem last_put (l : List (BitVec n)) (x y : BitVec n) (m i : Nat) (h : l.length = i) : (wc k ((l ++ [x]) ++ List.replicate m 0)).setIfInBounds i (.int k (y.toNat : Int)) = wc k ((l ++ [y]) ++ List.replicate m 0) := by
  subst h
  rw [wc_put, List.append_assoc, List.set_append_right _ _ (Nat.le_refl _), Nat.sub_self, List.append_assoc]
  rfl
end
end Go.Proofs.YtmlldbkhphngeaaDoor
