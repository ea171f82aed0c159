/-
  CallsKnown: what its calls are told; rows of calls and of answers.
-/
import Derived.Test.YtiogegoepgkjlaaC15
import Derived.Test.YtiogegoepgkjlaaC14
namespace Go.Proofs.Ytiogegoepgkjlaa
open Go.RowKit

/-- so many bytes 0 -/
def zs (n : Nat) : ByteArray := ⟨((List.replicate n (0 : UInt8)).take n).toArray⟩
theorem zs_size (n : Nat) : (zs n).size = n := by
  show (((List.replicate n (0 : UInt8)).take n).toArray).size = n
  simp
section
variable {ρ : Operand → Value} {x y : Operand} {w : World} {dst : Option Tmp} {ty : TypeId} {pos : String} {aft : Array Edge} {gd : Option (Nat × Bool)}
theorem run_zs {q n : Nat} (hx : ρ x = .slice (some ⟨q, 0, none⟩) n n) (h : Blk w q 5 (bc (List.replicate n 0))) : (execOp ρ ⟨dst, .convert 64 9 x, ty, pos, aft, gd⟩).run Try.prog w = .ok (.value (.string (zs n))) w := run_text hx h (by simp)
theorem run_zsE {q n : Nat} {cz : Array Value} {ztx : ByteArray} (hc : bc (List.replicate n 0) = cz) (hz : zs n = ztx) (hx : ρ x = .slice (some ⟨q, 0, none⟩) n n) (h : Blk w q 5 cz) : (execOp ρ ⟨dst, .convert 64 9 x, ty, pos, aft, gd⟩).run Try.prog w = .ok (.value (.string ztx)) w := by
  subst hc hz
  exact run_zs hx h
theorem run_mkE {m c : Nat} {cz : Array Value} (hcz : bc (List.replicate c 0) = cz) (hx : ρ x = iN .i64 m) (hy : ρ y = iN .i64 c) (hmc : m ≤ c) (hc : c ≤ 2000000) : (execOp ρ ⟨dst, .makeSlice 64 x y, ty, pos, aft, gd⟩).run Try.prog w = .ok (.value (.slice (some ⟨w.heap.size, 0, none⟩) m c)) (w.alloc (.cells cz 5)) := by
  subst hcz
  exact run_mk hx hy hmc hc
theorem run_addr65 {o : Option Addr} {a : Addr} {n m i : Nat} (ho : o = some a) (hx : ρ x = .slice o n m) (hy : ρ y = iN .i64 i) (hi : i < n) : (execOp ρ ⟨dst, .indexAddr 65 x y, ty, pos, aft, gd⟩).run Try.prog w = .ok (.value (.pointer (some (a.add (i * 24))))) w := by
  subst ho
  simp only [execOp, hx, hy, iN]
  simp [go_sem, Try.underlying65, Try.sizeOf30, hi]
theorem run_ld65 {a : Addr} {i : Nat} {ds : List (Array Value)} (hA : At w (some a) (ds.flatMap Array.toList)) (hs : ∀ x ∈ ds, x.size = 24) (hi : i < ds.length) (hx : ρ x = .pointer (some (a.add (i * 24)))) : (execOp ρ ⟨dst, .load 30 x, ty, pos, aft, gd⟩).run Try.prog w = .ok (.value (.agg (ds.getD i #[]))) w := by
  have hz : (ds.getD i #[]).size = 24 := hs _ (List.mem_of_getElem? (gd_at #[] hi))
  refine run_loadX (c := ds.getD i #[]) hx (fun j v hv => ?_) Try.underlying30 rfl (by rw [hz]; kernel_rfl)
  have hj : j < 24 := by rw [← hz]; exact (Array.getElem?_eq_some_iff.1 hv).1
  rw [add_two']
  refine hA.get ?_
  have hf : ∀ (l : List (Array Value)), (∀ x ∈ l, x.size = 24) → ∀ i, i < l.length → (l.flatMap Array.toList)[i * 24 + j]? = (l.getD i #[]).toList[j]? := fun l => by
    induction l with
    | nil => intro _ i hi; simp at hi
    | cons y l ih =>
      intro hl i hi
      have hy : y.toList.length = 24 := by rw [Array.length_toList]; exact hl y (List.mem_cons_self ..)
      cases i with
      | zero => rw [List.flatMap_cons, Nat.zero_mul, Nat.zero_add, List.getElem?_append_left (by rw [hy]; exact hj)]; rfl
      | succ k =>
        have h9 := ih (fun x hx => hl x (List.mem_cons_of_mem _ hx)) k (by simpa using hi)
        rw [List.flatMap_cons, List.getElem?_append_right (by rw [hy, Nat.succ_mul]; omega), hy]
        rw [show (k + 1) * 24 + j - 24 = k * 24 + j by rw [Nat.succ_mul]; omega, h9]
        rfl
  rw [hf ds hs i hi, ← hv, Array.getElem?_toList]
theorem run_addr68 {o : Option Addr} {a : Addr} {n m i : Nat} (ho : o = some a) (hx : ρ x = .slice o n m) (hy : ρ y = iN .i64 i) (hi : i < n) : (execOp ρ ⟨dst, .indexAddr 68 x y, ty, pos, aft, gd⟩).run Try.prog w = .ok (.value (.pointer (some (a.add (i * 18))))) w := by
  subst ho
  simp only [execOp, hx, hy, iN]
  simp [go_sem, Try.underlying68, Try.sizeOf47, hi]
theorem run_ld68 {a : Addr} {i : Nat} {ds : List (Array Value)} (hA : At w (some a) (ds.flatMap Array.toList)) (hs : ∀ x ∈ ds, x.size = 18) (hi : i < ds.length) (hx : ρ x = .pointer (some (a.add (i * 18)))) : (execOp ρ ⟨dst, .load 47 x, ty, pos, aft, gd⟩).run Try.prog w = .ok (.value (.agg (ds.getD i #[]))) w := by
  have hz : (ds.getD i #[]).size = 18 := hs _ (List.mem_of_getElem? (gd_at #[] hi))
  refine run_loadX (c := ds.getD i #[]) hx (fun j v hv => ?_) Try.underlying47 rfl (by rw [hz]; kernel_rfl)
  have hj : j < 18 := by rw [← hz]; exact (Array.getElem?_eq_some_iff.1 hv).1
  rw [add_two']
  refine hA.get ?_
  have hf : ∀ (l : List (Array Value)), (∀ x ∈ l, x.size = 18) → ∀ i, i < l.length → (l.flatMap Array.toList)[i * 18 + j]? = (l.getD i #[]).toList[j]? := fun l => by
    induction l with
    | nil => intro _ i hi; simp at hi
    | cons y l ih =>
      intro hl i hi
      have hy : y.toList.length = 18 := by rw [Array.length_toList]; exact hl y (List.mem_cons_self ..)
      cases i with
      | zero => rw [List.flatMap_cons, Nat.zero_mul, Nat.zero_add, List.getElem?_append_left (by rw [hy]; exact hj)]; rfl
      | succ k =>
        have h9 := ih (fun x hx => hl x (List.mem_cons_of_mem _ hx)) k (by simpa using hi)
        rw [List.flatMap_cons, List.getElem?_append_right (by rw [hy, Nat.succ_mul]; omega), hy]
        rw [show (k + 1) * 18 + j - 18 = k * 18 + j by rw [Nat.succ_mul]; omega, h9]
        rfl
  rw [hf ds hs i hi, ← hv, Array.getElem?_toList]
end
theorem blk_at {w : World} {q : Nat} {T : TypeId} {l : List Value} (h : Blk w q T l.toArray) : At w (some ⟨q, 0, none⟩) l := fun j v hj => by
  refine ⟨_, rfl, ?_⟩
  rw [add_lit, h.cell, ← hj]
  simp
theorem encC_bad {c : Ca} (h : mayC c = false) : encC 1 c = ({ data := #[] }, 2) := by
  unfold encC
  rw [h]
  rfl
theorem chkC_bad {c : Ca} (h : mayC c = false) : chkC c = 2 := by
  unfold chkC
  rw [h]
  rfl
theorem encN_bad {a : An} (h : mayA a = false) : encN 1 a = ({ data := #[] }, 2) := by
  unfold encN
  rw [h]
  rfl
end Go.Proofs.Ytiogegoepgkjlaa
