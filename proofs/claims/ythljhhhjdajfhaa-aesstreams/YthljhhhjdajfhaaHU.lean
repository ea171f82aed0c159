/-
  What one round of taking does.
-/
import Derived.Test.YthljhhhjdajfhaaHT
namespace Go.Proofs.Ythljhhhjdajfhaa
open Go.RowKit

theorem bl_extract (t : ByteArray) (a b : Nat) : bl (t.extract a b) = ((bl t).drop a).take (b - a) := by
  unfold bl
  rw [ByteArray.data_extract, Array.toList_extract, List.extract_eq_take_drop]
theorem bl_inj {s t : ByteArray} (h : bl s = bl t) : s = t := by
  cases s; cases t
  congr 1
  exact Array.toList_inj.1 h
theorem extract_size (t : ByteArray) (a : Nat) (h : a ≤ t.size) : (t.extract 0 a).size = a := by
  rw [← bl_len, bl_extract, List.length_take, List.length_drop, bl_len]; omega
theorem extract_size2 (t : ByteArray) (a : Nat) : (t.extract a t.size).size = t.size - a := by
  rw [← bl_len, bl_extract, List.length_take, List.length_drop, bl_len]; omega
theorem bl_split (t : ByteArray) (a : Nat) : bl t = bl (t.extract 0 a) ++ bl (t.extract a t.size) := by
  rw [bl_extract, bl_extract, List.drop_zero, Nat.sub_zero, List.take_of_length_le (i := t.size - a) (by rw [List.length_drop, bl_len]; omega), List.take_append_drop]
section
variable {ρ : Operand → Value} {x y : Operand} {w : World} {dst : Option Tmp} {T T2 ty : TypeId} {pos : String} {aft : Array Edge} {gd : Option (Nat × Bool)}
theorem run_store_sl {q i n m : Nat} {o : Option Addr} (hx : ρ x = .pointer (some ⟨q, i, none⟩)) (hy : ρ y = .slice o n m) (h : (w.cell? ⟨q, i, none⟩).isSome = true) (hf : w.frozen? ⟨q, i, none⟩ = false) :
    (execOp ρ ⟨dst, .store 31 x y, ty, pos, aft, gd⟩).run Try.prog w = .ok .skip (w.setCell ⟨q, i, none⟩ (.slice o n m)) := by
  obtain ⟨u, hu⟩ := Option.isSome_iff_exists.1 h
  simp only [execOp, hx, hy]
  simp [go_sem, hu, Try.sizeOf31, hf]
end
section
variable {ops : Array Oper} {Q : Exit → Act → World → Prop} {a : Act} {w w0 : World} {L : List (Nat × TypeId × Array Value)} {rest : List Oper} {dst : Option Tmp} {ty : TypeId} {pos : String} {aft : Array Edge} {gd : Option (Nat × Bool)} {x y : Operand}
theorem HA.putsl {q n m : Nat} {o : Option Addr} {v : Value} (H : HA w0 L w) (i : Nat) (hi : L[i]? = some (q, 31, #[v])) : HA w0 (L.set i (q, 31, #[.slice o n m])) (w.setCell ⟨q, 0, none⟩ (.slice o n m)) := H.put i hi 0 (.slice o n m)
theorem wl_putsl {q n m : Nat} {o : Option Addr} {v : Value} (H : HA w0 L w) (i : Nat) (hi : L[i]? = some (q, 31, #[v])) (hw : Region.wanted ⟨dst, .store 31 x y, ty, pos, aft, gd⟩ (yielded ops a.tmps) = true) (hx : a.eval x = .pointer (some ⟨q, 0, none⟩)) (hy : a.eval y = .slice o n m)
    (h : ∀ w', HA w0 (L.set i (q, 31, #[.slice o n m])) w' → WL Try.prog ops Q rest (a.put dst undef) w') : WL Try.prog ops Q (⟨dst, .store 31 x y, ty, pos, aft, gd⟩ :: rest) a w := by
  refine ⟨?_⟩
  unfold wpList
  rw [if_pos hw]
  refine .inl ?_
  unfold Oper.wp
  rw [run_store_sl hx hy (by rw [(H.get i hi).cell 0]; rfl) ((H.get i hi).free 0 (Nat.zero_lt_one))]
  exact (h _ (H.putsl i hi)).out
end
end Go.Proofs.Ythljhhhjdajfhaa
