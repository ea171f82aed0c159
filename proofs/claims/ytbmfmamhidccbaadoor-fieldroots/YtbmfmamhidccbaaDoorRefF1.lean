/-
  Two elements of the reference held against each other.
-/
import Derived.Test.YtbmfmamhidccbaaDoorRefF0
namespace Go.Proofs.YtbmfmamhidccbaaDoor
open Go.RowKit Num

theorem eq30 (w : World) (l m : List Nat) (hl : l.length = 16) (hm : m.length = 16) : (Op.equalIn 10000 30 (.agg (cl .u32 l)) (.agg (cl .u32 m))).run Tryd.prog w = .ok (decide (l = m)) w :=
  run_eq_array w 9998 30 22 16 .u32 .u32 l m hl hm (by kernel_rfl) (by kernel_rfl) (fun _ => by simp [go_sem]) (fun c i v w h => by simp [go_sem, part, h])
theorem digs_eq (a b : Nat) (ha : a < 65536 ^ 16) (hb : b < 65536 ^ 16) : (digs 65536 16 a = digs 65536 16 b) ↔ a = b := by
  refine ⟨fun h => ?_, fun h => by rw [h]⟩
  have := congrArg (num 65536) h
  rwa [num_digs, num_digs, Nat.mod_eq_of_lt ha, Nat.mod_eq_of_lt hb] at this
theorem run_eq30 {ρ : Operand → Value} {x y : Operand} (a b : Nat) {w : World} {dst : Option Tmp} {ty : TypeId} {pos : String} {aft : Array Edge} {gd : Option (Nat × Bool)} (ha : a < 65536 ^ 16) (hb : b < 65536 ^ 16) (hx : ρ x = rarr a) (hy : ρ y = rarr b) (t : Bool) (ht : decide (a = b) = t) :
    (execOp ρ ⟨dst, .binOp .eql 30 x y 30, ty, pos, aft, gd⟩).run Tryd.prog w = .ok (.value (.bool t)) w := by
  have h := eq30 w (digs 65536 16 a) (digs 65536 16 b) (digs_length _ _ _) (digs_length _ _ _)
  rw [decide_eq_decide.2 (digs_eq a b ha hb), ht] at h
  simp only [execOp, hx, hy, rarr, rl]
  have h2 : (Op.equalIn Op.maxDepth 30 (.agg (cl .u32 (digs 65536 16 a))) (.agg (cl .u32 (digs 65536 16 b)))).run Tryd.prog w = .ok t w := h
  simp [binOp, go_sem, Op.equal, h2]
end Go.Proofs.YtbmfmamhidccbaaDoor
