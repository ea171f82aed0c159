/-
  Texts, bytes, and what field's calls answer.
-/
import Derived.Test.YtpaendmdcdeemaaDoorBytes
import Derived.Test.YtpaendmdcdeemaaDoorEl
import Derived.Test.YtpaendmdcdeemaaDoorOps
import Derived.Deep.OwnRows
namespace Go.Proofs.YtpaendmdcdeemaaDoor
open Go.RowKit Num

theorem Same_yes (a b : Nat) (ha : a < P) (hb : b < P) (h : a = b) (w : World) :
    Calls Tryd.prog 40 #[arr a, arr b] w fun e w' => e = .returned (.bool true) ∧ Below w.heap.size w w' := by
  have h1 := Same_any a b (Nat.lt_trans ha P_lt) (Nat.lt_trans hb P_lt) w
  rw [decide_eq_true h] at h1
  exact h1
theorem Same_no (a b : Nat) (ha : a < P) (hb : b < P) (h : a ≠ b) (w : World) :
    Calls Tryd.prog 40 #[arr a, arr b] w fun e w' => e = .returned (.bool false) ∧ Below w.heap.size w w' := by
  have h1 := Same_any a b (Nat.lt_trans ha P_lt) (Nat.lt_trans hb P_lt) w
  rw [decide_eq_false h] at h1
  exact h1
theorem Odd_yes (a : Nat) (h : a % 2 = 1) (w : World) :
    Calls Tryd.prog 49 #[arr a] w fun e w' => e = .returned (.bool true) ∧ Below w.heap.size w w' := by
  have h1 := Odd_any a w
  rw [decide_eq_true h] at h1
  exact h1
theorem Odd_no (a : Nat) (h : a % 2 = 0) (w : World) :
    Calls Tryd.prog 49 #[arr a] w fun e w' => e = .returned (.bool false) ∧ Below w.heap.size w w' := by
  have h1 := Odd_any a w
  rw [decide_eq_false (by omega)] at h1
  exact h1
theorem run_eqb {ρ : Operand → Value} {x y : Operand} (p q : Bool) {w : World} {dst : Option Tmp} {ty : TypeId} {pos : String} {aft : Array Edge} {gd : Option (Nat × Bool)} (hx : ρ x = .bool p) (hy : ρ y = .bool q) :
    (execOp ρ ⟨dst, .binOp .eql 4 x y 4, ty, pos, aft, gd⟩).run Tryd.prog w = .ok (.value (.bool (p == q))) w := by
  simp only [execOp, hx, hy]
  cases p <;> cases q <;> go_simp
def zr (n : Nat) : Array Value := madeCells #[.int .u8 0] n
theorem run_make (n : Nat) (hn : n ≤ 1000) (w : World) : (Instr.makeSlice 60 (.int .i64 (n : Int)) (.int .i64 (n : Int))).run Tryd.prog w = .ok (.slice (some ⟨w.heap.size, 0, none⟩) n n) (w.alloc (.cells (zr n) 5)) :=
  run_make_row' 60 5 (.int .u8 0) 1 Tryd.underlying60 info5 rfl .i64 .i64 n (by omega) (by omega) w
section
variable {ρ : Operand → Value} {x y : Operand} {w : World} {dst : Option Tmp} {T T2 ty : TypeId} {pos : String} {aft : Array Edge} {gd : Option (Nat × Bool)}
theorem run_mk (n : Nat) (hn : n ≤ 1000) (hx : ρ x = .int .i64 (n : Int)) (hy : ρ y = .int .i64 (n : Int)) :
    (execOp ρ ⟨dst, .makeSlice 60 x y, ty, pos, aft, gd⟩).run Tryd.prog w = .ok (.value (.slice (some ⟨w.heap.size, 0, none⟩) n n)) (w.alloc (.cells (zr n) 5)) := by
  simp only [execOp, hx, hy, Sem.run_bind, run_make n hn w, Result.andThen_ok, Sem.run_pure]
theorem run_text {q n : Nat} {c : Array Value} (l : List UInt8) (hx : ρ x = .slice (some ⟨q, 0, none⟩) n n) (h : Blk w q 5 c) (hc : c = (cs l).toArray) (hn : n = l.length) :
    (execOp ρ ⟨dst, .convert 60 9 x, ty, pos, aft, gd⟩).run Tryd.prog w = .ok (.value (.string ⟨l.toArray⟩)) w := by
  subst hc hn
  have hcell : ∀ j (hj : j < l.length), w.cell? ((⟨q, 0, none⟩ : Addr).add j) = some (.int .u8 ((l[j]).toNat : Int)) := fun j hj => by
    have hadd : (⟨q, 0, none⟩ : Addr).add j = ⟨q, j, none⟩ := by unfold Addr.add; split <;> simp_all
    rw [hadd, h.cell j]
    simp [cs, List.getElem?_eq_getElem hj]
  have := run_convert_bytes_back (P := Tryd.prog) w 60 9 5 ⟨q, 0, none⟩ l.length l Tryd.underlying60 Tryd.underlying5 Tryd.underlying9 hcell
  simp only [execOp, hx, Sem.run_bind, this, Result.andThen_ok, Sem.run_pure]
end

/-- k bytes 255, then noughts -/
def ff (k : Nat) : Array Value := (List.replicate k (iN .u8 255) ++ List.replicate (32 - k) (iN .u8 0)).toArray
theorem ff_put (k : Nat) (hk : k < 32) : (ff k).setIfInBounds k (.int .u8 255) = ff (k + 1) := by
  unfold ff
  rw [List.setIfInBounds_toArray]
  congr 1
  rw [List.set_append_right _ _ (by simp)]
  have e : 32 - k = (32 - (k + 1)) + 1 := by omega
  rw [List.length_replicate, Nat.sub_self, e, List.replicate_succ, List.set_cons_zero, List.replicate_succ', List.append_assoc]
  rfl
theorem ff_size (k : Nat) (hk : k ≤ 32) : (ff k).size = 32 := by simp [ff]; omega
/-- a byte, 30 bytes 255, a byte -/
def endsL (f l : UInt8) : List UInt8 := f :: (List.replicate 30 255 ++ [l])
theorem ff_ends (f l : UInt8) : ((ff 32).setIfInBounds 0 (iN .u8 f.toNat)).setIfInBounds 31 (iN .u8 l.toNat) = (cs (endsL f l)).toArray := by kernel_rfl
theorem cs_set (l : List UInt8) (i : Nat) (z : UInt8) : (cs l).toArray.setIfInBounds i (.int .u8 (z.toNat : Int)) = (cs (l.set i z)).toArray := by
  simp [cs, List.map_set]

theorem bytesOf_size (n : Nat) : (bytesOf n).size = 32 := by
  show (les 32 n).toArray.size = 32
  simp [les_length]
end Go.Proofs.YtpaendmdcdeemaaDoor
