/-
  What one round of taking does.
-/
import Derived.Test.YtmlldbkhphngeaaDoorHT
namespace Go.Proofs.YtmlldbkhphngeaaDoor
open Go.RowKit

theorem bl_extract (t : ByteArray) (a b : Nat) : bl (t.extract a b) = ((bl t).drop a).take (b - a) := by
  unfold bl
  rw [ByteArray.data_extract, Array.toList_extract, List.extract_eq_take_drop]
theorem bl_inj {s t : ByteArray} (h : bl s = bl t) : s = t := by
  cases s; cases t
  congr 1
  exact Array.toList_inj.1 h
theorem extract_size (t : ByteArray) (a : Nat) (h : a ≤ t.size) : (t.extract 0 a).size = a := by
  rw [← bl_len, bl_extract, List.length_take, List.length_drop, bl_len]; omega
theorem extract_size2 (t : ByteArray) (a : Nat) : (t.extract a t.size).size = t.size - a := by
  rw [← bl_len, bl_extract, List.length_take, List.length_drop, bl_len]; omega
theorem bl_split (t : ByteArray) (a : Nat) : bl t = bl (t.extract 0 a) ++ bl (t.extract a t.size) := by
  rw [bl_extract, bl_extract, List.drop_zero, Nat.sub_zero, List.take_of_length_le (i := t.size - a) (by rw [List.length_drop, bl_len]; omega), List.take_append_drop]
theorem take_round (K : Kd) (t : ByteArray) (n : Nat) (buf : List UInt8) (st : List (BitVec K.w)) (ht : 0 < t.size) (hn : n < K.B) (hbuf : buf.length = K.B) (m2 : Nat) (b2 : List UInt8) (t2 : ByteArray)
    (hm2 : m2 = n + (t.extract 0 (min t.size (K.B - n))).size) (hb2 : b2 = laidOn buf n (bl (t.extract 0 (min t.size (K.B - n))))) (ht2 : t2 = t.extract (min t.size (K.B - n)) t.size) :
    m2 ≤ K.B ∧ b2.length = K.B ∧ t2.size < t.size ∧ n + (bl (t.extract 0 (min t.size (K.B - n)))).length ≤ buf.length ∧
      (m2 ≠ K.B → fedP K (st, buf.take n) (bl t) = fedP K (st, b2.take m2) (bl t2)) ∧ (m2 = K.B → fedP K (st, buf.take n) (bl t) = fedP K (turnP K st b2, []) (bl t2)) := by
  have e1 : (t.extract 0 (min t.size (K.B - n))).size = min t.size (K.B - n) := extract_size _ _ (Nat.min_le_left _ _)
  have e2 : (bl (t.extract 0 (min t.size (K.B - n)))).length = min t.size (K.B - n) := by rw [bl_len, e1]
  have hr : n + (bl (t.extract 0 (min t.size (K.B - n)))).length ≤ buf.length := by rw [e2, hbuf]; omega
  have hl : (buf.take n).length = n := by rw [List.length_take]; omega
  have hp : ((st, buf.take n) : List (BitVec K.w) × List UInt8).2.length = n := hl
  have htk : b2.take m2 = buf.take n ++ bl (t.extract 0 (min t.size (K.B - n))) := by
    rw [hb2, hm2, ← bl_len]; exact laidOn_take _ _ _ hr
  have hfe : fedP K (st, buf.take n) (bl t) = fedP K (fedP K (st, buf.take n) (bl (t.extract 0 (min t.size (K.B - n))))) (bl t2) := by
    rw [ht2, ← fedP_app, ← bl_split]
  have hb2l : b2.length = K.B := by rw [hb2, laidOn_len _ _ _ hr, hbuf]
  refine ⟨by rw [hm2, e1]; omega, hb2l, ?_, hr, fun h => ?_, fun h => ?_⟩
  · rw [ht2, extract_size2]; omega
  · have h3 : (st, buf.take n).2.length + (bl (t.extract 0 (min t.size (K.B - n)))).length < K.B := by rw [hp, e2]; rw [hm2, e1] at h; omega
    rw [hfe, fedP_less K _ _ h3, htk]
  · have h3 : (st, buf.take n).2.length + (bl (t.extract 0 (min t.size (K.B - n)))).length = K.B := by rw [hp, e2]; rw [hm2, e1] at h; exact h
    have h4 : bl (t.extract 0 (min t.size (K.B - n))) ≠ [] := fun e => by rw [e, List.length_nil] at e2; omega
    have h5 : b2.take m2 = b2 := List.take_of_length_le (by omega)
    rw [hfe, fedP_full K _ _ h4 h3, ← htk, h5]
section
variable {ρ : Operand → Value} {x y : Operand} {w : World} {dst : Option Tmp} {T T2 ty : TypeId} {pos : String} {aft : Array Edge} {gd : Option (Nat × Bool)}
theorem run_store_sl {q i n m : Nat} {o : Option Addr} (hx : ρ x = .pointer (some ⟨q, i, none⟩)) (hy : ρ y = .slice o n m) (h : (w.cell? ⟨q, i, none⟩).isSome = true) (hf : w.frozen? ⟨q, i, none⟩ = false) :
    (execOp ρ ⟨dst, .store 31 x y, ty, pos, aft, gd⟩).run Tryd.prog w = .ok .skip (w.setCell ⟨q, i, none⟩ (.slice o n m)) := by
  obtain ⟨u, hu⟩ := Option.isSome_iff_exists.1 h
  simp only [execOp, hx, hy]
  simp [go_sem, hu, Tryd.sizeOf31, hf]
end
section
variable {ops : Array Oper} {Q : Exit → Act → World → Prop} {a : Act} {w w0 : World} {L : List (Nat × TypeId × Array Value)} {rest : List Oper} {dst : Option Tmp} {ty : TypeId} {pos : String} {aft : Array Edge} {gd : Option (Nat × Bool)} {x y : Operand}
theorem HA.putsl {q n m : Nat} {o : Option Addr} {v : Value} (H : HA w0 L w) (i : Nat) (hi : L[i]? = some (q, 31, #[v])) : HA w0 (L.set i (q, 31, #[.slice o n m])) (w.setCell ⟨q, 0, none⟩ (.slice o n m)) := H.put i hi 0 (.slice o n m)
theorem wl_putsl {q n m : Nat} {o : Option Addr} {v : Value} (H : HA w0 L w) (i : Nat) (hi : L[i]? = some (q, 31, #[v])) (hw : Region.wanted ⟨dst, .store 31 x y, ty, pos, aft, gd⟩ (yielded ops a.tmps) = true) (hx : a.eval x = .pointer (some ⟨q, 0, none⟩)) (hy : a.eval y = .slice o n m)
    (h : ∀ w', HA w0 (L.set i (q, 31, #[.slice o n m])) w' → WL Tryd.prog ops Q rest (a.put dst undef) w') : WL Tryd.prog ops Q (⟨dst, .store 31 x y, ty, pos, aft, gd⟩ :: rest) a w := by
  refine ⟨?_⟩
  unfold wpList
  rw [if_pos hw]
  refine .inl ?_
  unfold Oper.wp
  rw [run_store_sl hx hy (by rw [(H.get i hi).cell 0]; rfl) ((H.get i hi).free 0 (Nat.zero_lt_one))]
  exact (h _ (H.putsl i hi)).out
end
end Go.Proofs.YtmlldbkhphngeaaDoor
