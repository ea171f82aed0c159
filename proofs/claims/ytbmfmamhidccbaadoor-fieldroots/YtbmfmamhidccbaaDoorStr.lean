/-
  Slices of bytes, and texts of them.
-/
import Derived.Test.YtbmfmamhidccbaaDoorLaw
namespace Go.Proofs.YtbmfmamhidccbaaDoor
open Go.RowKit Num

section
variable {ρ : Operand → Value} {x y : Operand} {w : World} {dst : Option Tmp} {T T2 ty : TypeId} {pos : String} {aft : Array Edge} {gd : Option (Nat × Bool)}
theorem run_mk (n : Nat) (hn : n ≤ 1000) (hx : ρ x = .int .i64 (n : Int)) (hy : ρ y = .int .i64 (n : Int)) :
    (execOp ρ ⟨dst, .makeSlice 55 x y, ty, pos, aft, gd⟩).run Tryd.prog w = .ok (.value (.slice (some ⟨w.heap.size, 0, none⟩) n n)) (w.alloc (.cells (zr n) 5)) := by
  simp only [execOp, hx, hy, Sem.run_bind, run_make n hn w, Result.andThen_ok, Sem.run_pure]
theorem run_noughts {q : Nat} (n : Nat) (hx : ρ x = .slice (some ⟨q, 0, none⟩) n n) (h : Blk w q 5 (zr n)) :
    (execOp ρ ⟨dst, .convert 55 9 x, ty, pos, aft, gd⟩).run Tryd.prog w = .ok (.value (.string (zs n))) w := by
  simp only [execOp, hx, Sem.run_bind, run_zeros n w q h, Result.andThen_ok, Sem.run_pure]
theorem run_text {q n : Nat} {c : Array Value} (l : List UInt8) (hx : ρ x = .slice (some ⟨q, 0, none⟩) n n) (h : Blk w q 5 c) (hc : c = (cs l).toArray) (hn : n = l.length) :
    (execOp ρ ⟨dst, .convert 55 9 x, ty, pos, aft, gd⟩).run Tryd.prog w = .ok (.value (.string ⟨l.toArray⟩)) w := by
  subst hc hn
  have hcell : ∀ j (hj : j < l.length), w.cell? ((⟨q, 0, none⟩ : Addr).add j) = some (.int .u8 ((l[j]).toNat : Int)) := fun j hj => by
    have hadd : (⟨q, 0, none⟩ : Addr).add j = ⟨q, j, none⟩ := by unfold Addr.add; split <;> simp_all
    rw [hadd, h.cell j]
    simp [cs, List.getElem?_eq_getElem hj]
  have := run_convert_bytes_back (P := Tryd.prog) w 55 9 5 ⟨q, 0, none⟩ l.length l Tryd.underlying55 Tryd.underlying5 Tryd.underlying9 hcell
  simp only [execOp, hx, Sem.run_bind, this, Result.andThen_ok, Sem.run_pure]
end

/-- k bytes 255, then noughts -/
def ff (k : Nat) : Array Value := (List.replicate k (iN .u8 255) ++ List.replicate (32 - k) (iN .u8 0)).toArray
theorem ff_put (k : Nat) (hk : k < 32) : (ff k).setIfInBounds k (.int .u8 255) = ff (k + 1) := by
  unfold ff
  rw [List.setIfInBounds_toArray]
  congr 1
  rw [List.set_append_right _ _ (by simp)]
  have e : 32 - k = (32 - (k + 1)) + 1 := by omega
  rw [List.length_replicate, Nat.sub_self, e, List.replicate_succ, List.set_cons_zero, List.replicate_succ', List.append_assoc]
  rfl
theorem ff_size (k : Nat) (hk : k ≤ 32) : (ff k).size = 32 := by simp [ff]; omega
/-- a byte, 30 bytes 255, a byte -/
def endsL (f l : UInt8) : List UInt8 := f :: (List.replicate 30 255 ++ [l])
theorem ff_ends (f l : UInt8) : ((ff 32).setIfInBounds 0 (iN .u8 f.toNat)).setIfInBounds 31 (iN .u8 l.toNat) = (cs (endsL f l)).toArray := by kernel_rfl
theorem enter35 (args : Array Value) (w : World) : (callFunc 35 args).run Tryd.prog w = .ok (.enter 35 args) w := by go_simp
end Go.Proofs.YtbmfmamhidccbaaDoor
