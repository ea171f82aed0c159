/-
  Cuts of texts; slices of numbers.
-/
import Derived.Test.YtdblnbcclfenkaaDoorWords
import Derived.Test.YtdblnbcclfenkaaDoorBytes
import Derived.Test.YtdblnbcclfenkaaDoorModulo
namespace Go.Proofs.YtdblnbcclfenkaaDoor
open Go.RowKit Num

section
variable {ρ : Operand → Value} {x y z : Operand} {w : World} {dst : Option Tmp} {ty : TypeId} {pos : String} {aft : Array Edge} {gd : Option (Nat × Bool)} {s : ByteArray} {a b : Nat}
theorem run_min (hx : ρ x = iN .i64 a) (hy : ρ y = iN .i64 b) : (execOp ρ ⟨dst, .call { callee := .builtin .min, args := #[x, y], argTypes := #[3, 3] }, ty, pos, aft, gd⟩).run Tryd.prog w = .ok (.value (iN .i64 (min a b))) w := by
  simp only [execOp, iN] at hx hy ⊢
  go_simp
  split <;> omega
theorem run_cut_hi (hx : ρ x = .string s) (hy : ρ y = iN .i64 b) (hb : b ≤ s.size) : (execOp ρ ⟨dst, .slice 9 x none (some y) none, ty, pos, aft, gd⟩).run Tryd.prog w = .ok (.value (.string (s.extract 0 b))) w := by
  simp only [execOp, hx, Option.map, hy, iN]
  go_simp
theorem run_cut_mid (hx : ρ x = .string s) (hz : ρ z = iN .i64 a) (hy : ρ y = iN .i64 b) (hb : b ≤ s.size) (ha : a ≤ b) : (execOp ρ ⟨dst, .slice 9 x (some z) (some y) none, ty, pos, aft, gd⟩).run Tryd.prog w = .ok (.value (.string (s.extract a b))) w := by
  simp only [execOp, hx, Option.map, hy, hz, iN]
  go_simp
theorem run_cut_lo (hx : ρ x = .string s) (hz : ρ z = iN .i64 a) (ha : a ≤ s.size) : (execOp ρ ⟨dst, .slice 9 x (some z) none none, ty, pos, aft, gd⟩).run Tryd.prog w = .ok (.value (.string (s.extract a s.size))) w := by
  simp only [execOp, hx, Option.map, hz, iN]
  go_simp
theorem run_nes {t : ByteArray} {T T2 : TypeId} {P : Program} (hx : ρ x = .string s) (hy : ρ y = .string t) (r : Bool) (hr : decide (s ≠ t) = r) : (execOp ρ ⟨dst, .binOp .neq T x y T2, ty, pos, aft, gd⟩).run P w = .ok (.value (.bool r)) w := by
  subst hr
  simp only [execOp, hx, hy]
  by_cases h : s = t
  · subst h; simp [binOp, go_sem, Op.stringOp]
  · have h2 : ¬s.toList = t.toList := fun e => by
      rw [ByteArray.toList_eq, ByteArray.toList_eq] at e
      refine h ?_
      obtain ⟨⟨l⟩⟩ := s
      obtain ⟨⟨m⟩⟩ := t
      exact congrArg (fun l : List UInt8 => (⟨⟨l⟩⟩ : ByteArray)) e
    simp [binOp, go_sem, Op.stringOp, h, h2]
theorem run_parts2 {n m : Nat} (hx : ρ x = arr n) (hy : ρ y = arr m) : (execOp ρ ⟨dst, .buildSlice 47 2 #[(0, x), (1, y)], ty, pos, aft, gd⟩).run Tryd.prog w = .ok (.value (.slice (some ⟨w.heap.size, 0, none⟩) 2 2)) (w.alloc (.cells (el n ++ el m) 34)) := by
  obtain ⟨a0, a1, a2, a3, _, e2⟩ := arr_open n
  obtain ⟨b0, b1, b2, b3, _, f2⟩ := arr_open m
  have e3 : el n = #[.int .u64 a0, .int .u64 a1, .int .u64 a2, .int .u64 a3] := Value.agg.inj e2
  have f3 : el m = #[.int .u64 b0, .int .u64 b1, .int .u64 b2, .int .u64 b3] := Value.agg.inj f2
  rw [e3, f3]
  rw [e2] at hx
  rw [f2] at hy
  simp only [execOp, Array.map]
  go_simp
theorem run_parts1 {n : Nat} (hx : ρ x = arr n) : (execOp ρ ⟨dst, .buildSlice 47 1 #[(0, x)], ty, pos, aft, gd⟩).run Tryd.prog w = .ok (.value (.slice (some ⟨w.heap.size, 0, none⟩) 1 1)) (w.alloc (.cells (el n) 34)) := by
  obtain ⟨a0, a1, a2, a3, _, e2⟩ := arr_open n
  have e3 : el n = #[.int .u64 a0, .int .u64 a1, .int .u64 a2, .int .u64 a3] := Value.agg.inj e2
  rw [e3]
  rw [e2] at hx
  simp only [execOp, Array.map]
  go_simp
end
theorem parts_one {w : World} {q n : Nat} {t : TypeId} (h : Blk w q t (el n)) : Parts w q [n] := ⟨h.lt, fun k m hk => by
  match k, hk with
  | 0, hk =>
    obtain rfl : n = m := by simpa using hk
    exact h.range⟩
theorem parts_two {w : World} {q n m : Nat} {t : TypeId} (h : Blk w q t (el n ++ el m)) : Parts w q [n, m] := ⟨h.lt, fun k r hk j v hv => by
  have hj : j < 4 := by have := (List.getElem?_eq_some_iff.1 hv).1; simpa [el_size] using this
  rw [h.cell (4 * k + j)]
  rw [Array.getElem?_toList] at hv
  match k, hk with
  | 0, hk =>
    obtain rfl : n = r := by simpa using hk
    rw [Nat.mul_zero, Nat.zero_add, Array.getElem?_append_left (by rw [el_size]; exact hj)]
    exact hv
  | 1, hk =>
    obtain rfl : m = r := by simpa using hk
    rw [Array.getElem?_append_right (by rw [el_size]; omega), el_size, show 4 * 1 + j - 4 = j by omega]
    exact hv⟩
theorem mval_one (n : Nat) : mval [n] = n % Lq := by
  unfold mval
  rw [List.foldl_cons, List.foldl_nil, Nat.zero_mul, Nat.zero_add]
theorem mval_two (n m : Nat) : mval [n, m] = (n * K ^ 4 + m) % Lq := by
  unfold mval
  rw [List.foldl_cons, List.foldl_cons, List.foldl_nil, Nat.zero_mul, Nat.zero_add, mod_in]
theorem modulo_one (n q : Nat) (hn : n < K ^ 4) (t : TypeId) (w : World) (VV : Vars w) (h : Blk w q t (el n)) : Calls Tryd.prog 28 #[.slice (some ⟨q, 0, none⟩) 1 1] w fun e w' => e = .returned (arr (n % Lq)) ∧ Below w.heap.size w w' := by
  have := modulo_any [n] (fun p hp => by simp at hp; subst hp; exact hn) (by simp) q w VV (parts_one h)
  rw [mval_one] at this
  exact this
theorem modulo_two (n m q : Nat) (hn : n < K ^ 4) (hm : m < K ^ 4) (t : TypeId) (w : World) (VV : Vars w) (h : Blk w q t (el n ++ el m)) : Calls Tryd.prog 28 #[.slice (some ⟨q, 0, none⟩) 2 2] w fun e w' => e = .returned (arr ((n * K ^ 4 + m) % Lq)) ∧ Below w.heap.size w w' := by
  have := modulo_any [n, m] (fun p hp => by
    simp at hp
    rcases hp with rfl | rfl
    · exact hn
    · exact hm) (by simp) q w VV (parts_two h)
  rw [mval_two] at this
  exact this

/-- the first 64 bytes, and the number that they are modulo the order -/
def cut (s : ByteArray) : ByteArray := s.extract 0 (min s.size 64)
def val (s : ByteArray) : Nat := numS (cut s) % Lq
theorem bts_extract (s : ByteArray) (a b : Nat) : bts (s.extract a b) = ((bts s).drop a).take (b - a) := by
  unfold bts
  rw [ByteArray.data_extract, Array.toList_extract, List.extract_eq_take_drop, List.map_take, List.map_drop]
theorem size_extract (s : ByteArray) (a b : Nat) (hb : b ≤ s.size) : (s.extract a b).size = b - a := by
  rw [ByteArray.size_extract]
  omega
theorem val_lt (s : ByteArray) : val s < Lq := Nat.mod_lt _ Lq_pos
theorem of_parts (s : ByteArray) : (numS (s.extract (min s.size 32) (min s.size 64)) * K ^ 4 + numS (s.extract 0 (min s.size 32))) % Lq = val s := by
  unfold val cut
  refine congrArg (fun n : Nat => n % Lq) ?_
  unfold numS
  rw [bts_extract, bts_extract, bts_extract, Nat.sub_zero, Nat.sub_zero, List.drop_zero]
  have hl := bts_length s
  generalize bts s = l at *
  rw [← hl]
  by_cases h : l.length ≤ 32
  · rw [Nat.min_eq_left h, Nat.min_eq_left (show l.length ≤ 64 by omega), Nat.sub_self, List.take_zero, num_nil, Nat.zero_mul, Nat.zero_add]
  · rw [Nat.min_eq_right (show 32 ≤ l.length by omega)]
    have e : (l.take (min l.length 64)) = l.take 32 ++ (l.drop 32).take (min l.length 64 - 32) := by
      rw [show min l.length 64 = 32 + (min l.length 64 - 32) by omega, List.take_add]
      congr 2
      omega
    rw [e, num_append, List.length_take, Nat.min_eq_left (show 32 ≤ l.length by omega), show K ^ 4 = 256 ^ 32 by decide, Nat.mul_comm, Nat.add_comm]
theorem cut_short (s : ByteArray) (h : s.size ≤ 64) : numS (cut s) = numS s := by
  unfold cut numS
  rw [bts_extract, Nat.sub_zero, List.drop_zero, List.take_of_length_le (by rw [bts_length]; omega)]
theorem val_bytesOf (n : Nat) (h : n < Lq) : val (bytesOf n) = n := by
  unfold val
  rw [cut_short _ (by rw [bytesOf_size]; decide), numS_bytesOf n (Nat.lt_trans h (by decide)), Nat.mod_eq_of_lt h]
end Go.Proofs.YtdblnbcclfenkaaDoor
