/-
  Operations on numbers and cells, one by one; a loop by its rounds.
-/
import Derived.Test.YtiogegoepgkjlaaBlk
import Derived.Test.YtiogegoepgkjlaaRows
import Derived.LoopN
import Derived.WalkKit
import Derived.WalkSpells
import Derived.IntWalk
import Derived.Laws.Strings2
import Derived.Laws.Bits64b
import Derived.Laws.BitsAllLaws
namespace Go.Proofs.Ytiogegoepgkjlaa
open Go.RowKit

/-- a number as a value -/
def iN (k : IntKind) (n : Nat) : Value := .int k (n : Int)
/-- the numbers of a kind that are not negative lie below -/
def top : IntKind → Nat
  | .i8 => 128 | .u8 => 256 | .i16 => 32768 | .u16 => 65536 | .i32 => 2147483648 | .u32 => 4294967296 | .i64 => 9223372036854775808 | .u64 => 18446744073709551616
theorem wrap_top (k : IntKind) (n : Nat) (h : n < top k) : k.wrap (n : Int) = (n : Int) := by
  cases k <;> simp only [top] at h <;> simp [IntKind.wrap, IntKind.bits, IntKind.signed] <;> omega

section
variable {ρ : Operand → Value} {x y : Operand} {w : World} {dst : Option Tmp} {T T2 ty : TypeId} {pos : String} {aft : Array Edge} {gd : Option (Nat × Bool)} {k : IntKind} {a b c : Nat} {P : Program}

theorem run_add (hx : ρ x = iN k a) (hy : ρ y = iN k b) (hc : a + b < top k) : (execOp ρ ⟨dst, .binOp .add T x y T2, ty, pos, aft, gd⟩).run P w = .ok (.value (iN k (a + b))) w := by
  have h := wrap_top k (a + b) hc
  simp only [execOp, hx, hy, iN]
  simpa [binOp, go_sem] using h
theorem run_sub (hx : ρ x = iN k a) (hy : ρ y = iN k b) (hba : b ≤ a) (hc : a < top k) : (execOp ρ ⟨dst, .binOp .sub T x y T2, ty, pos, aft, gd⟩).run P w = .ok (.value (iN k (a - b))) w := by
  have h := wrap_top k (a - b) (by omega)
  rw [Int.ofNat_sub hba] at h
  simp only [execOp, hx, hy, iN]
  rw [Int.ofNat_sub hba]
  simpa [binOp, go_sem] using h
theorem run_mul (hx : ρ x = iN k a) (hy : ρ y = iN k b) (hc : a * b < top k) : (execOp ρ ⟨dst, .binOp .mul T x y T2, ty, pos, aft, gd⟩).run P w = .ok (.value (iN k (a * b))) w := by
  have h := wrap_top k (a * b) hc
  simp only [execOp, hx, hy, iN]
  simpa [binOp, go_sem] using h
theorem run_quo (hx : ρ x = iN k a) (hy : ρ y = iN k b) (hb : b ≠ 0) (hc : a < top k) : (execOp ρ ⟨dst, .binOp .quo T x y T2, ty, pos, aft, gd⟩).run P w = .ok (.value (iN k (a / b))) w := by
  have h := wrap_top k (a / b) (Nat.lt_of_le_of_lt (Nat.div_le_self a b) hc)
  simp only [execOp, hx, hy, iN]
  simpa [binOp, go_sem, hb] using h
theorem run_rem (hx : ρ x = iN k a) (hy : ρ y = iN k b) (hb : b ≠ 0) : (execOp ρ ⟨dst, .binOp .rem T x y T2, ty, pos, aft, gd⟩).run P w = .ok (.value (iN k (a % b))) w := by
  simp only [execOp, hx, hy, iN]
  simp [binOp, go_sem, hb]
  exact Int.tmod_eq_emod_of_nonneg (by omega)
set_option linter.unusedSimpArgs false in
theorem run_shr {k2 : IntKind} (hx : ρ x = iN k a) (hy : ρ y = iN k2 b) (hb : b ≤ k.bits) : (execOp ρ ⟨dst, .binOp .shr T x y T2, ty, pos, aft, gd⟩).run P w = .ok (.value (iN k (a / 2 ^ b))) w := by
  have e : min b k.bits = b := Nat.min_eq_left hb
  simp only [execOp, hx, hy, iN]
  cases k <;> simp [IntKind.bits] at e <;> first | simp [binOp, go_sem, e] | simp [binOp, go_sem]
theorem run_shl {k2 : IntKind} (hx : ρ x = iN k a) (hy : ρ y = iN k2 b) (hb : b ≤ k.bits) (hc : a * 2 ^ b < top k) : (execOp ρ ⟨dst, .binOp .shl T x y T2, ty, pos, aft, gd⟩).run P w = .ok (.value (iN k (a * 2 ^ b))) w := by
  have e : min b k.bits = b := Nat.min_eq_left hb
  have h := wrap_top k (a * 2 ^ b) hc
  simp only [execOp, hx, hy, iN]
  cases k <;> simp [IntKind.bits] at e <;> simpa [binOp, go_sem, e] using h
theorem run_conv (k2 : IntKind) (hT : P.underlying T = some (.int k)) (hT2 : P.underlying T2 = some (.int k2)) (hx : ρ x = iN k a) (ha : a < top k2) : (execOp ρ ⟨dst, .convert T T2 x, ty, pos, aft, gd⟩).run P w = .ok (.value (iN k2 a)) w := by
  have h := wrap_top k2 a ha
  simp only [execOp, hx, iN]
  simpa [go_sem, hT, hT2] using h
theorem run_and8 (hx : ρ x = iN .u8 a) (hy : ρ y = iN .u8 b) (ha : a < 256) (hb : b < 256) : (execOp ρ ⟨dst, .binOp .and T x y T2, ty, pos, aft, gd⟩).run P w = .ok (.value (iN .u8 (a &&& b))) w := by
  have h := u8_and_nat a b ha hb
  simp only [execOp, hx, hy, iN]
  simpa [binOp, go_sem] using h
theorem run_or8 (hx : ρ x = iN .u8 a) (hy : ρ y = iN .u8 b) (ha : a < 256) (hb : b < 256) : (execOp ρ ⟨dst, .binOp .or T x y T2, ty, pos, aft, gd⟩).run P w = .ok (.value (iN .u8 (a ||| b))) w := by
  have h := u8_or_nat a b ha hb
  simp only [execOp, hx, hy, iN]
  simpa [binOp, go_sem] using h
theorem run_and32 (hx : ρ x = iN .u32 a) (hy : ρ y = iN .u32 b) (ha : a < 4294967296) (hb : b < 4294967296) : (execOp ρ ⟨dst, .binOp .and T x y T2, ty, pos, aft, gd⟩).run P w = .ok (.value (iN .u32 (a &&& b))) w := by
  have h := u32_and_nat a b ha hb
  simp only [execOp, hx, hy, iN]
  simpa [binOp, go_sem] using h
theorem run_or32 (hx : ρ x = iN .u32 a) (hy : ρ y = iN .u32 b) (ha : a < 4294967296) (hb : b < 4294967296) : (execOp ρ ⟨dst, .binOp .or T x y T2, ty, pos, aft, gd⟩).run P w = .ok (.value (iN .u32 (a ||| b))) w := by
  have h := u32_or_nat a b ha hb
  simp only [execOp, hx, hy, iN]
  simpa [binOp, go_sem] using h
theorem run_and64 (hx : ρ x = iN .u64 a) (hy : ρ y = iN .u64 b) (ha : a < 18446744073709551616) (hb : b < 18446744073709551616) : (execOp ρ ⟨dst, .binOp .and T x y T2, ty, pos, aft, gd⟩).run P w = .ok (.value (iN .u64 (a &&& b))) w := by
  have h := bits_and_u64_nat a b ha hb
  simp only [execOp, hx, hy, iN]
  simpa [binOp, go_sem] using h
theorem run_or64 (hx : ρ x = iN .u64 a) (hy : ρ y = iN .u64 b) (ha : a < 18446744073709551616) (hb : b < 18446744073709551616) : (execOp ρ ⟨dst, .binOp .or T x y T2, ty, pos, aft, gd⟩).run P w = .ok (.value (iN .u64 (a ||| b))) w := by
  have h := bits_or_u64_nat a b ha hb
  simp only [execOp, hx, hy, iN]
  simpa [binOp, go_sem] using h
theorem run_lss (hx : ρ x = iN k a) (hy : ρ y = iN k b) (t : Bool) (ht : decide (a < b) = t) : (execOp ρ ⟨dst, .binOp .lss T x y T2, ty, pos, aft, gd⟩).run P w = .ok (.value (.bool t)) w := by
  subst ht
  simp only [execOp, hx, hy, iN]
  simp [binOp, go_sem]
theorem run_eqi (hx : ρ x = iN k a) (hy : ρ y = iN k b) (t : Bool) (ht : decide (a = b) = t) : (execOp ρ ⟨dst, .binOp .eql T x y T2, ty, pos, aft, gd⟩).run P w = .ok (.value (.bool t)) w := by
  subst ht
  simp only [execOp, hx, hy, iN]
  by_cases h : a = b
  · subst h; simp [binOp, go_sem]
  · have h2 : ((a : Int) == (b : Int)) = false := beq_eq_false_iff_ne.2 (by omega)
    simp [binOp, go_sem, h, h2]
theorem run_nei (hx : ρ x = iN k a) (hy : ρ y = iN k b) (t : Bool) (ht : decide (a ≠ b) = t) : (execOp ρ ⟨dst, .binOp .neq T x y T2, ty, pos, aft, gd⟩).run P w = .ok (.value (.bool t)) w := by
  subst ht
  simp only [execOp, hx, hy, iN]
  by_cases h : a = b
  · subst h; simp [binOp, go_sem]
  · have h2 : ((a : Int) == (b : Int)) = false := beq_eq_false_iff_ne.2 (by omega)
    simp [binOp, go_sem, h]
    omega
theorem run_eqs {s t : ByteArray} (hx : ρ x = .string s) (hy : ρ y = .string t) (r : Bool) (hr : decide (s = t) = r) : (execOp ρ ⟨dst, .binOp .eql T x y T2, ty, pos, aft, gd⟩).run P w = .ok (.value (.bool r)) w := by
  subst hr
  simp only [execOp, hx, hy]
  by_cases h : s = t
  · subst h; simp [binOp, go_sem, Op.stringOp]
  · have h2 : ¬s.toList = t.toList := fun e => by
      rw [ByteArray.toList_eq, ByteArray.toList_eq] at e
      refine h ?_
      obtain ⟨⟨l⟩⟩ := s
      obtain ⟨⟨m⟩⟩ := t
      exact congrArg (fun l : List UInt8 => (⟨⟨l⟩⟩ : ByteArray)) e
    simp [binOp, go_sem, Op.stringOp, h, h2]
theorem run_cat {s t : ByteArray} (hx : ρ x = .string s) (hy : ρ y = .string t) (h : s.size + t.size ≤ 9223372036854775807) : (execOp ρ ⟨dst, .binOp .add T x y T2, ty, pos, aft, gd⟩).run P w = .ok (.value (.string (s ++ t))) w := by
  simp only [execOp, hx, hy]
  simp [binOp, go_sem, h]
theorem run_addr_slice {q n m : Nat} {e : TypeId} (hT : P.underlying T = some (.slice e)) (hs : ∀ w, (sizeOf e).run P w = .ok 1 w) (hx : ρ x = .slice (some ⟨q, 0, none⟩) n m) (hy : ρ y = iN .i64 a) (ha : a < n) : (execOp ρ ⟨dst, .indexAddr T x y, ty, pos, aft, gd⟩).run P w = .ok (.value (.pointer (some ⟨q, a, none⟩))) w := by
  simp only [execOp, hx, hy, iN]
  have hu : ∀ w, (underlying T).run P w = .ok (.slice e) w := fun w => by simp [underlying, go_sem, hT]
  simp [go_sem, Instr.indexAt, hu, hs, ha]
theorem run_addr_arr {q n : Nat} {e : TypeId} (hT : P.underlying T = some (.array n e)) (hs : ∀ w, (sizeOf e).run P w = .ok 1 w) (hx : ρ x = .pointer (some ⟨q, 0, none⟩)) (hy : ρ y = iN .i64 a) (ha : a < n) : (execOp ρ ⟨dst, .indexAddr T x y, ty, pos, aft, gd⟩).run P w = .ok (.value (.pointer (some ⟨q, a, none⟩))) w := by
  simp only [execOp, hx, hy, iN]
  simp [go_sem, hT, hs, ha]
theorem run_load1 {q i : Nat} {v : Value} (hg : ∀ w, (isAgg T).run P w = .ok false w) (hx : ρ x = .pointer (some ⟨q, i, none⟩)) (h : w.cell? ⟨q, i, none⟩ = some v) : (execOp ρ ⟨dst, .load T x, ty, pos, aft, gd⟩).run P w = .ok (.value v) w := by
  simp only [execOp, hx]
  simp [go_sem, h, hg]
theorem run_store1 {q i : Nat} {z : Int} (hs : ∀ w, (sizeOf T).run P w = .ok 1 w) (hx : ρ x = .pointer (some ⟨q, i, none⟩)) (hy : ρ y = .int k z) (h : (w.cell? ⟨q, i, none⟩).isSome = true) (hf : w.frozen? ⟨q, i, none⟩ = false) :
    (execOp ρ ⟨dst, .store T x y, ty, pos, aft, gd⟩).run P w = .ok .skip (w.setCell ⟨q, i, none⟩ (.int k z)) := by
  obtain ⟨u, hu⟩ := Option.isSome_iff_exists.1 h
  simp only [execOp, hx, hy]
  simp [go_sem, hu, hs, hf]
theorem run_index_str {s : ByteArray} (hT : P.underlying T = some .string) (hx : ρ x = .string s) (hy : ρ y = iN .i64 a) (ha : a < s.size) : (execOp ρ ⟨dst, .index T x y, ty, pos, aft, gd⟩).run P w = .ok (.value (iN .u8 (s.get a ha).toNat)) w := by
  simp only [execOp, hx, hy, iN]
  simp [go_sem, hT, ha]
  rfl
end
theorem wp_count {P : Program} {Q : Exit → Act → World → Prop} {c : Code} (I : Nat → Act → World → Prop) (n : Nat) {a : Act} {w : World} (h0 : I 0 a w)
    (round : ∀ i, i < n → ∀ a w, I i a w → c.wp P (Exit.then (I (i + 1)) Q) a w) (last : ∀ a w, I n a w → c.wp P (Exit.then (fun _ _ => False) Q) a w) : (Code.loop c).wp P Q a w := by
  have key : ∀ m i a w, i + m = n → I i a w → Code.rounds P c Q (m + 1) a w := by
    intro m
    induction m with
    | zero =>
      intro i a w hi hI
      rw [Nat.add_zero] at hi
      subst hi
      exact last a w hI
    | succ m ih =>
      intro i a w hi hI
      rw [rounds_succ]
      exact Code.wp_mono (fun e a w he => by cases e <;> first | exact ih (i + 1) a w (by omega) he | exact he) (round i (by omega) a w hI)
  exact wp_loop_rounds (n + 1) (key n 0 a w (by omega) h0)
section
variable {P : Program} {Q : Exit → Act → World → Prop} {a : Act} {w : World} {w0 : Base} {L : List (Nat × TypeId × Array Value)}
theorem then_exit {K : Act → World → Prop} {i : Nat} (h : Q (.exit i) a w) : Exit.then K Q (.exit i) a w := h
theorem block_exit {i : Nat} (h : Q .normal a w) : Exit.inBlock i Q (.exit i) a w := by
  show (if i = i then Q .normal a w else Q (.exit i) a w)
  rw [if_pos rfl]
  exact h
theorem block_exit_ne {i j : Nat} (hne : j ≠ i) (h : Q (.exit j) a w) : Exit.inBlock i Q (.exit j) a w := by
  show (if j = i then Q .normal a w else Q (.exit j) a w)
  rw [if_neg hne]
  exact h
theorem block_normal {i : Nat} (h : Q .normal a w) : Exit.inBlock i Q .normal a w := h
theorem block_ret {i : Nat} (h : Q .ret a w) : Exit.inBlock i Q .ret a w := h
theorem then_I {K : Act → World → Prop} (h : K a w) : Exit.then K Q .normal a w := h

/-- one cell of a block is put -/
theorem HA.put (h : HA w0 L w) (i : Nat) {q : Nat} {t : TypeId} {c : Array Value} (hi : L[i]? = some (q, t, c)) (j : Nat) (v : Value) : HA w0 (L.set i (q, t, c.setIfInBounds j v)) (w.setCell ⟨q, j, none⟩ v) := by
  have hlt : i < L.length := (List.getElem?_eq_some_iff.1 hi).1
  have hmap : (L.set i (q, t, c.setIfInBounds j v)).map (·.1) = L.map (·.1) := by
    rw [List.map_set]
    refine List.ext_getElem? fun m => ?_
    by_cases hm : i = m
    · subst hm
      rw [List.getElem?_set_self (by simpa using hlt), List.getElem?_map, hi]
      rfl
    · rw [List.getElem?_set_ne hm]
  have hq := h.own _ (List.mem_of_getElem? hi)
  refine ⟨h.old.setCell hq (h.get i hi) v, fun x hx => ?_, fun x hx => ?_, by rw [hmap]; exact h.nd⟩
  · obtain ⟨m, hm⟩ := List.mem_iff_getElem?.1 hx
    by_cases him : i = m
    · subst him
      rw [List.getElem?_set_self hlt] at hm
      obtain rfl := Option.some.inj hm
      exact (h.get i hi).set j v
    · rw [List.getElem?_set_ne him] at hm
      refine Blk.far (h.get m hm) (fun e => him ?_)
      have h1 : (L.map (·.1))[i]? = some q := by rw [List.getElem?_map, hi]; rfl
      have h2 : (L.map (·.1))[m]? = some q := by rw [List.getElem?_map, hm]; exact congrArg some e
      exact (List.getElem?_inj (by simpa using hlt) h.nd).1 (h1.trans h2.symm)
  · have : x.1 ∈ L.map (·.1) := by rw [← hmap]; exact List.mem_map.2 ⟨x, hx, rfl⟩
    obtain ⟨y, hy, e⟩ := List.mem_map.1 this
    rw [← e]
    exact h.own y hy
theorem wl_put {ops : Array Oper} {rest : List Oper} {dst : Option Tmp} {T ty : TypeId} {pos : String} {aft : Array Edge} {gd : Option (Nat × Bool)} {x y : Operand} {q : Nat} {t : TypeId} {c : Array Value} {k : IntKind} {z : Int} (H : HA w0 L w) (i : Nat) (hi : L[i]? = some (q, t, c)) (j : Nat) (hj : j < c.size)
    (hw : Region.wanted ⟨dst, .store T x y, ty, pos, aft, gd⟩ (yielded ops a.tmps) = true) (hs : ∀ w, (sizeOf T).run P w = .ok 1 w) (hx : a.eval x = .pointer (some ⟨q, j, none⟩)) (hy : a.eval y = .int k z)
    (h : ∀ w', HA w0 (L.set i (q, t, c.setIfInBounds j (.int k z))) w' → WL P ops Q rest (a.put dst undef) w') : WL P ops Q (⟨dst, .store T x y, ty, pos, aft, gd⟩ :: rest) a w := by
  refine ⟨?_⟩
  unfold wpList
  rw [if_pos hw]
  refine .inl ?_
  unfold Oper.wp
  rw [run_store1 hs hx hy (by rw [(H.get i hi).cell j]; simp [hj]) ((H.get i hi).free j hj)]
  exact (h _ (H.put i hi j _)).out
theorem wl_mkslice {ops : Array Oper} {rest : List Oper} {o : Oper} {n : Nat} {c : Array Value} (H : HA w0 L w) (t : TypeId) (hw : Region.wanted o (yielded ops a.tmps) = true) (hr : (execOp a.eval o).run P w = .ok (.value (.slice (some ⟨w.heap.size, 0, none⟩) n n)) (w.alloc (.cells c t)))
    (h : ∀ q w', HA w0 ((q, t, c) :: L) w' → WL P ops Q rest (a.put o.dst (.slice (some ⟨q, 0, none⟩) n n)) w') : WL P ops Q (o :: rest) a w := by
  refine ⟨?_⟩
  unfold wpList
  rw [if_pos hw]
  refine .inl ?_
  unfold Oper.wp
  rw [hr]
  exact (h _ _ (H.make t c)).out
set_option linter.unusedSimpArgs false in
/-- what a function hands back -/
theorem res_cell {fn : Func} {p : Tmp} {t ty : TypeId} {ts : Array Value} {q : Nat} {c : Array Value} {D : TypeDesc} (hf : fn.results = #[.cell p ty]) (ht : ts.getD p undef = .pointer (some ⟨q, 0, none⟩)) (h : Blk w q t c) (hu : P.underlying ty = some D) (hd : D.isRow = true) (hi : (P.info? ty).map (·.size) = some c.size) :
    (results fn ts).run P w = .ok (.agg c) w := by
  have := run_loadVar_mid (P := P) w q 0 ty c.toList D h.range hu hd (by simpa using hi)
  have ht2 : ts[p]?.getD undef = .pointer (some ⟨q, 0, none⟩) := by simpa using ht
  simp [results, hf, Sem.run_bind, Sem.run_pure, Result.andThen_ok, asAddr, ht2, this]
set_option linter.unusedSimpArgs false in
theorem res_cell_tmp {fn : Func} {p r : Tmp} {t ty : TypeId} {ts : Array Value} {q : Nat} {c : Array Value} {D : TypeDesc} {v : Value} (hf : fn.results = #[.cell p ty, .tmp r]) (ht : ts.getD p undef = .pointer (some ⟨q, 0, none⟩)) (hv : ts.getD r undef = v) (h : Blk w q t c) (hu : P.underlying ty = some D) (hd : D.isRow = true) (hi : (P.info? ty).map (·.size) = some c.size) :
    (results fn ts).run P w = .ok (.tuple #[.agg c, v]) w := by
  have := run_loadVar_mid (P := P) w q 0 ty c.toList D h.range hu hd (by simpa using hi)
  have ht2 : ts[p]?.getD undef = .pointer (some ⟨q, 0, none⟩) := by simpa using ht
  have hv2 : ts[r]?.getD undef = v := by simpa using hv
  simp [results, hf, Sem.run_bind, Sem.run_pure, Result.andThen_ok, asAddr, ht2, hv2, this]
end
end Go.Proofs.Ytiogegoepgkjlaa
