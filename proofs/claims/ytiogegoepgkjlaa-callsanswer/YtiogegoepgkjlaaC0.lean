/-
  Rows of things in memory; lists, calls, answers.
-/
import Derived.Test.YtiogegoepgkjlaaX7
import Derived.Test.YtiogegoepgkjlaaXM
set_option maxRecDepth 100000
namespace Go.Proofs.Ytiogegoepgkjlaa
open Go.RowKit

section
variable {ρ : Operand → Value} {x y : Operand} {w : World} {dst : Option Tmp} {T e ty T2 : TypeId} {pos : String} {aft : Array Edge} {gd : Option (Nat × Bool)} {P : Program} {k : IntKind}
theorem run_addZ {a b : Int} (hx : ρ x = .int .i64 a) (hy : ρ y = .int .i64 b) (h : -9223372036854775808 ≤ a + b ∧ a + b ≤ 9223372036854775807) : (execOp ρ ⟨dst, .binOp .add T x y T2, ty, pos, aft, gd⟩).run P w = .ok (.value (.int .i64 (a + b))) w := by
  have e : IntKind.i64.wrap (a + b) = a + b := by
    rw [IntKind.wrap_i64]
    omega
  simp only [execOp, hx, hy]
  simp [binOp, go_sem, e]
theorem run_neZ {a b : Int} (hx : ρ x = .int k a) (hy : ρ y = .int k b) (r : Bool) (hr : decide (a = b) = r) : (execOp ρ ⟨dst, .binOp .neq T x y T2, ty, pos, aft, gd⟩).run P w = .ok (.value (.bool !r)) w := by
  subst hr
  simp only [execOp, hx, hy]
  simp [binOp, go_sem]
  rw [Bool.eq_iff_iff]
  simp
theorem run_neN {a b : Nat} (hx : ρ x = iN k a) (hy : ρ y = iN k b) (r : Bool) (hr : decide (a = b) = r) : (execOp ρ ⟨dst, .binOp .neq T x y T2, ty, pos, aft, gd⟩).run P w = .ok (.value (.bool !r)) w := run_neZ hx hy r (by subst hr; rw [decide_eq_decide]; omega)
theorem add_two' (a : Addr) (i j : Nat) : (a.add i).add j = a.add (i + j) := by
  unfold Addr.add
  by_cases hi : i = 0
  · subst hi; simp
  · by_cases hj : j = 0
    · subst hj; simp
    · rw [if_neg hi, if_neg hj, if_neg (by omega)]
      simp [Nat.add_assoc]
theorem add_lit (g j : Nat) : (⟨g, 0, none⟩ : Addr).add j = ⟨g, j, none⟩ := by unfold Addr.add; split <;> simp_all
theorem run_loadX {a : Addr} {c : Array Value} {D : TypeDesc} (hx : ρ x = .pointer (some a)) (hc : ∀ j v, c[j]? = some v → w.cell? (a.add j) = some v) (hu : Try.prog.underlying T = some D) (hd : D.isRow = true) (hi : (Try.prog.info? T).map (·.size) = some c.size) :
    (execOp ρ ⟨dst, .load T x, ty, pos, aft, gd⟩).run Try.prog w = .ok (.value (.agg c)) w := by
  have hl : (loadCells a c.toList.length).run Try.prog w = .ok c.toList.toArray w := run_loadCells_list (P := Try.prog) w a c.toList (fun j v hv => hc j v (by rw [← Array.getElem?_toList]; exact hv))
  cases hq : Try.prog.info? T with
  | none => simp [hq] at hi
  | some i =>
    have hs : i.size = c.toList.length := by simpa [hq] using hi
    have hagg : (isAgg T).run Try.prog w = .ok true w := by
      unfold isAgg
      rw [Sem.run_bind, run_underlying hu w]
      cases D <;> simp_all
    have hload : (loadVar T a).run Try.prog w = .ok (.agg c) w := by
      rw [Array.length_toList] at hl hs
      simp [loadVar, Sem.run_bind, hagg, sizeOf, typeInfo, hq, hs, hl]
    simp only [execOp, hx, Instr.loadAt, Instr.sureAddr, Sem.run_bind, Sem.run_pure, Result.andThen_ok, hload]
theorem run_addr23 {o : Option Addr} {a : Addr} {n m i : Nat} (ho : o = some a) (hx : ρ x = .slice o n m) (hy : ρ y = iN .i64 i) (hi : i < n) : (execOp ρ ⟨dst, .indexAddr 23 x y, ty, pos, aft, gd⟩).run Try.prog w = .ok (.value (.pointer (some (a.add (i * 3))))) w := by
  subst ho
  simp only [execOp, hx, hy, iN]
  simp [go_sem, Try.underlying23, Try.sizeOf67, hi]
theorem run_addr28 {o : Option Addr} {a : Addr} {n m i : Nat} (ho : o = some a) (hx : ρ x = .slice o n m) (hy : ρ y = iN .i64 i) (hi : i < n) : (execOp ρ ⟨dst, .indexAddr 28 x y, ty, pos, aft, gd⟩).run Try.prog w = .ok (.value (.pointer (some (a.add (i * 1))))) w := by
  subst ho
  simp only [execOp, hx, hy, iN]
  simp [go_sem, Try.underlying28, Try.sizeOf9, hi]
theorem run_addr45 {o : Option Addr} {a : Addr} {n m i : Nat} (ho : o = some a) (hx : ρ x = .slice o n m) (hy : ρ y = iN .i64 i) (hi : i < n) : (execOp ρ ⟨dst, .indexAddr 45 x y, ty, pos, aft, gd⟩).run Try.prog w = .ok (.value (.pointer (some (a.add (i * 4))))) w := by
  subst ho
  simp only [execOp, hx, hy, iN]
  simp [go_sem, Try.underlying45, Try.sizeOf62, hi]
end
/-- cells somewhere -/
def At (w : World) (o : Option Addr) (cs : List Value) : Prop := ∀ j v, cs[j]? = some v → ∃ a, o = some a ∧ w.cell? (a.add j) = some v
theorem At.nil {o : Option Addr} (w : World) : At w o [] := fun j v h => by simp at h
theorem cell_oldE {W w : World} {a : Addr} {v : Value} (hb : Below W.heap.size W w) (h : W.cell? a = some v) : w.cell? a = some v := by
  have hlt : a.block < W.heap.size := by
    unfold World.cell? at h
    cases hh : W.heap[a.block]? with
    | none => simp [hh] at h
    | some o => exact lt_of_block hh
  have := hb.block a.block hlt
  unfold World.cell? at h ⊢
  rw [this]
  exact h
theorem At.keep {w w' : World} {o : Option Addr} {cs : List Value} (h : At w o cs) (hb : Below w.heap.size w w') : At w' o cs := fun j v hv => by
  obtain ⟨a, h1, h2⟩ := h j v hv
  exact ⟨a, h1, cell_oldE hb h2⟩
theorem At.ex {w : World} {o : Option Addr} {cs : List Value} (h : At w o cs) (hl : 0 < cs.length) : ∃ a, o = some a ∧ At w (some a) cs := by
  obtain ⟨a, rfl, _⟩ := h 0 _ (List.getElem?_eq_getElem hl)
  exact ⟨a, rfl, h⟩
theorem At.get {w : World} {a : Addr} {cs : List Value} (h : At w (some a) cs) {j : Nat} {v : Value} (hj : cs[j]? = some v) : w.cell? (a.add j) = some v := by
  obtain ⟨b, h1, h2⟩ := h j v hj
  cases h1
  exact h2
theorem At.row {e sz n c : Nat} {w : World} {o : Option Addr} {cs : List Value} {Lp : BL} (h : Row e sz (.slice o n c) n cs Lp) (hB : ∀ y ∈ Lp, Blk w y.1 y.2.1 y.2.2) : At w o cs := fun j v hj => by
  have hl := (List.getElem?_eq_some_iff.1 hj).1
  rcases h.2 with ⟨_, h0, _⟩ | ⟨g, cap, cur, he, rfl, k1, k2, k3, k4⟩
  · have := h.1
    subst h0
    omega
  · cases he
    have hb := hB (g, e, cur) (by simp)
    refine ⟨⟨g, 0, none⟩, rfl, ?_⟩
    have h1 := h.1
    rw [add_lit, hb.cell, ← hj, ← k4, List.getElem?_take, if_pos (by omega)]
    simp
/-- a device on a list -/
structure Mb where
  dv : Int
  sg : ByteArray
  dh : ByteArray
  deriving DecidableEq
def mbC (m : Mb) : Array Value := #[.int .i64 m.dv, .string m.sg, .string m.dh]
def mb0 : Mb := ⟨0, { data := #[] }, { data := #[] }⟩
def mcl (l : List Mb) : List Value := l.flatMap fun x => [.int .i64 x.dv, .string x.sg, .string x.dh]
/-- an item -/
structure It where
  n : Nat
  f : Int
  o : Nat
  b : ByteArray
  deriving DecidableEq
def itC (m : It) : Array Value := #[iN .u64 m.n, .int .i64 m.f, iN .u64 m.o, .string m.b]
def it0 : It := ⟨0, 0, 0, { data := #[] }⟩
def icl (l : List It) : List Value := l.flatMap fun x => [iN .u64 x.n, .int .i64 x.f, iN .u64 x.o, .string x.b]
/-- texts as cells -/
def scl (l : List ByteArray) : List Value := l.map Value.string
theorem scl_snoc (l : List ByteArray) (x : ByteArray) : scl (l ++ [x]) = scl l ++ [.string x] := by simp [scl]
theorem scl_len (l : List ByteArray) : (scl l).length = l.length := by simp [scl]
theorem scl_at {l : List ByteArray} {i : Nat} (h : i < l.length) : (scl l)[i]? = some (.string (l.getD i ByteArray.empty)) := by
  simp [scl, List.getD_eq_getElem?_getD, List.getElem?_eq_getElem h]
theorem fm_len {α : Type} {k : Nat} (f : α → List Value) (hf : ∀ x, (f x).length = k) (l : List α) : (l.flatMap f).length = l.length * k := by
  induction l with
  | nil => simp
  | cons x l ih => rw [List.flatMap_cons, List.length_append, hf, ih, List.length_cons, Nat.succ_mul, Nat.add_comm]
theorem fm_at {α : Type} {k : Nat} (f : α → List Value) (hf : ∀ x, (f x).length = k) (l : List α) {i j : Nat} {x : α} (h : l[i]? = some x) (hj : j < k) : (l.flatMap f)[i * k + j]? = (f x)[j]? := by
  induction l generalizing i with
  | nil => simp at h
  | cons y l ih =>
    cases i with
    | zero =>
      obtain rfl : y = x := by simpa using h
      rw [List.flatMap_cons, Nat.zero_mul, Nat.zero_add, List.getElem?_append_left (by rw [hf]; exact hj)]
    | succ m =>
      have := ih (i := m) (by simpa using h)
      rw [List.flatMap_cons, List.getElem?_append_right (by rw [hf, Nat.succ_mul]; omega), hf, ← this]
      congr 1
      rw [Nat.succ_mul]
      omega
theorem mcl_len (l : List Mb) : (mcl l).length = l.length * 3 := fm_len (fun x : Mb => [.int .i64 x.dv, .string x.sg, .string x.dh]) (fun _ => rfl) l
theorem icl_len (l : List It) : (icl l).length = l.length * 4 := fm_len (fun x : It => [iN .u64 x.n, .int .i64 x.f, iN .u64 x.o, .string x.b]) (fun _ => rfl) l
theorem mcl_snoc (l : List Mb) (x : Mb) : mcl (l ++ [x]) = mcl l ++ [.int .i64 x.dv, .string x.sg, .string x.dh] := by simp [mcl]
theorem icl_snoc (l : List It) (x : It) : icl (l ++ [x]) = icl l ++ [iN .u64 x.n, .int .i64 x.f, iN .u64 x.o, .string x.b] := by simp [icl]
theorem gd_at {α : Type} {l : List α} {i : Nat} (d : α) (h : i < l.length) : l[i]? = some (l.getD i d) := by
  rw [List.getD_eq_getElem?_getD, List.getElem?_eq_getElem h]
  rfl
section
variable {ρ : Operand → Value} {x y : Operand} {w : World} {dst : Option Tmp} {T e ty T2 : TypeId} {pos : String} {aft : Array Edge} {gd : Option (Nat × Bool)} {P : Program} {k : IntKind}
theorem run_ld23 {a : Addr} {i : Nat} {ds : List Mb} (hA : At w (some a) (mcl ds)) (hi : i < ds.length) (hx : ρ x = .pointer (some (a.add (i * 3)))) : (execOp ρ ⟨dst, .load 67 x, ty, pos, aft, gd⟩).run Try.prog w = .ok (.value (.agg (mbC (ds.getD i mb0)))) w := by
  refine run_loadX (c := mbC (ds.getD i mb0)) hx (fun j v hv => ?_) Try.underlying67 rfl ky
  have hj : j < 3 := (Array.getElem?_eq_some_iff.1 hv).1
  rw [add_two']
  refine hA.get ?_
  rw [mcl, fm_at (fun x : Mb => [.int .i64 x.dv, .string x.sg, .string x.dh]) (fun _ => rfl) ds (gd_at mb0 hi) hj, ← hv]
  simp [mbC]
theorem run_ld45 {a : Addr} {i : Nat} {ds : List It} (hA : At w (some a) (icl ds)) (hi : i < ds.length) (hx : ρ x = .pointer (some (a.add (i * 4)))) : (execOp ρ ⟨dst, .load 62 x, ty, pos, aft, gd⟩).run Try.prog w = .ok (.value (.agg (itC (ds.getD i it0)))) w := by
  refine run_loadX (c := itC (ds.getD i it0)) hx (fun j v hv => ?_) Try.underlying62 rfl ky
  have hj : j < 4 := (Array.getElem?_eq_some_iff.1 hv).1
  rw [add_two']
  refine hA.get ?_
  rw [icl, fm_at (fun x : It => [iN .u64 x.n, .int .i64 x.f, iN .u64 x.o, .string x.b]) (fun _ => rfl) ds (gd_at it0 hi) hj, ← hv]
  simp [itC]
theorem run_ld28 {a : Addr} {i : Nat} {ds : List ByteArray} (hA : At w (some a) (scl ds)) (hi : i < ds.length) (hx : ρ x = .pointer (some (a.add (i * 1)))) : (execOp ρ ⟨dst, .load 9 x, ty, pos, aft, gd⟩).run Try.prog w = .ok (.value (.string (ds.getD i ByteArray.empty))) w := by
  have h := hA.get (scl_at hi)
  rw [Nat.mul_one] at hx
  simp only [execOp, hx, Instr.loadAt, Instr.sureAddr, Sem.run_bind, Sem.run_pure, Result.andThen_ok, loadVar, Try.isAgg9]
  simp [go_sem, h]
end
theorem mb_same (x y : Mb) (w : World) : (Op.equal 67 (.agg (mbC x)) (.agg (mbC y))).run Try.prog w = .ok (decide (x = y)) w := by
  show (Op.equalIn (9999 + 1) 67 (.agg _) (.agg _)).run Try.prog w = _
  rw [run_equalIn_struct (P := Try.prog) w 9999 67 _ _ ky ky]
  have e : (Try.prog.fieldsOf 67).toList = [⟨ "Device", 3, 0, false, "", "", 0⟩, ⟨ "Sign", 9, 1, false, "", "", 8⟩, ⟨ "Dh", 9, 2, false, "", "", 24⟩] := by kernel_rfl
  have hp : ∀ (t : TypeId) (c : Array Value) (i : Nat) (v : Value), (isAgg t).run Try.prog w = .ok false w → c[i]? = some v → (part t c i).run Try.prog w = .ok v w := fun t c i v h1 h2 => by
    simp [part, h1, h2]
  have q0 : ∀ x : Mb, (part 3 (mbC x) 0).run Try.prog w = .ok (.int .i64 x.dv) w := fun x => hp _ _ _ _ (Try.isAgg3 w) rfl
  have q1 : ∀ x : Mb, (part 9 (mbC x) 1).run Try.prog w = .ok (.string x.sg) w := fun x => hp _ _ _ _ (Try.isAgg9 w) rfl
  have q2 : ∀ x : Mb, (part 9 (mbC x) 2).run Try.prog w = .ok (.string x.dh) w := fun x => hp _ _ _ _ (Try.isAgg9 w) rfl
  have r3 : ∀ a b : Int, (Op.equalIn 9999 3 (.int .i64 a) (.int .i64 b)).run Try.prog w = .ok (decide (a = b)) w := fun a b => by
    skip
    rw [run_equalIn_int (P := Try.prog) w 9998 3 _ _ _ _ Try.underlying3]
    have e : (a == b) = decide (a = b) := by
      by_cases h : a = b
      · simp [h]
      · rw [decide_eq_false h]
        exact beq_eq_false_iff_ne.2 (by omega)
    rw [e]
  have r9 : ∀ a b : ByteArray, (Op.equalIn 9999 9 (.string a) (.string b)).run Try.prog w = .ok (decide (a = b)) w := fun a b => by
    rw [run_equalIn_string (P := Try.prog) w 9998 9 _ _ Try.underlying9, ← beq_toListBytes, bb_eq]
  rw [e]
  simp only [Op.eqFields, Sem.run_bind, Sem.run_ite, q0, q1, q2, r3, r9, Result.andThen_ok]
  rcases x with ⟨a, b, c⟩
  rcases y with ⟨a', b', c'⟩
  simp only [Mb.mk.injEq]
  by_cases h0 : a = a'
  · by_cases h1 : b = b'
    · by_cases h2 : c = c'
      · simp [h0, h1, h2]
      · simp [h0, h1, h2]
    · simp [h0, h1]
  · simp [h0]
theorem it_same (x y : It) (w : World) : (Op.equal 62 (.agg (itC x)) (.agg (itC y))).run Try.prog w = .ok (decide (x = y)) w := by
  show (Op.equalIn (9999 + 1) 62 (.agg _) (.agg _)).run Try.prog w = _
  rw [run_equalIn_struct (P := Try.prog) w 9999 62 _ _ ky ky]
  have e : (Try.prog.fieldsOf 62).toList = [⟨ "Number", 22, 0, false, "", "", 0⟩, ⟨ "From", 3, 1, false, "", "", 8⟩, ⟨ "Nonce", 22, 2, false, "", "", 16⟩, ⟨ "Bytes", 9, 3, false, "", "", 24⟩] := by kernel_rfl
  have hp : ∀ (t : TypeId) (c : Array Value) (i : Nat) (v : Value), (isAgg t).run Try.prog w = .ok false w → c[i]? = some v → (part t c i).run Try.prog w = .ok v w := fun t c i v h1 h2 => by
    simp [part, h1, h2]
  have q0 : ∀ x : It, (part 22 (itC x) 0).run Try.prog w = .ok (iN .u64 x.n) w := fun x => hp _ _ _ _ (Try.isAgg22 w) rfl
  have q1 : ∀ x : It, (part 3 (itC x) 1).run Try.prog w = .ok (.int .i64 x.f) w := fun x => hp _ _ _ _ (Try.isAgg3 w) rfl
  have q2 : ∀ x : It, (part 22 (itC x) 2).run Try.prog w = .ok (iN .u64 x.o) w := fun x => hp _ _ _ _ (Try.isAgg22 w) rfl
  have q3 : ∀ x : It, (part 9 (itC x) 3).run Try.prog w = .ok (.string x.b) w := fun x => hp _ _ _ _ (Try.isAgg9 w) rfl
  have r22 : ∀ a b : Nat, (Op.equalIn 9999 22 (iN .u64 a) (iN .u64 b)).run Try.prog w = .ok (decide (a = b)) w := fun a b => by
    unfold iN
    rw [run_equalIn_int (P := Try.prog) w 9998 22 _ _ _ _ Try.underlying22]
    have e : ((a : Int) == (b : Int)) = decide (a = b) := by
      by_cases h : a = b
      · simp [h]
      · rw [decide_eq_false h]
        exact beq_eq_false_iff_ne.2 (by omega)
    rw [e]
  have r3 : ∀ a b : Int, (Op.equalIn 9999 3 (.int .i64 a) (.int .i64 b)).run Try.prog w = .ok (decide (a = b)) w := fun a b => by
    skip
    rw [run_equalIn_int (P := Try.prog) w 9998 3 _ _ _ _ Try.underlying3]
    have e : (a == b) = decide (a = b) := by
      by_cases h : a = b
      · simp [h]
      · rw [decide_eq_false h]
        exact beq_eq_false_iff_ne.2 (by omega)
    rw [e]
  have r9 : ∀ a b : ByteArray, (Op.equalIn 9999 9 (.string a) (.string b)).run Try.prog w = .ok (decide (a = b)) w := fun a b => by
    rw [run_equalIn_string (P := Try.prog) w 9998 9 _ _ Try.underlying9, ← beq_toListBytes, bb_eq]
  rw [e]
  simp only [Op.eqFields, Sem.run_bind, Sem.run_ite, q0, q1, q2, q3, r22, r3, r9, Result.andThen_ok]
  rcases x with ⟨a, b, c, d⟩
  rcases y with ⟨a', b', c', d'⟩
  simp only [It.mk.injEq]
  by_cases h0 : a = a'
  · by_cases h1 : b = b'
    · by_cases h2 : c = c'
      · by_cases h3 : d = d'
        · simp [h0, h1, h2, h3]
        · simp [h0, h1, h2, h3]
      · simp [h0, h1, h2]
    · simp [h0, h1]
  · simp [h0]
section
variable {ρ : Operand → Value} {x y : Operand} {w : World} {dst : Option Tmp} {T T2 ty : TypeId} {pos : String} {aft : Array Edge} {gd : Option (Nat × Bool)}
theorem run_neM {a b : Mb} (hx : ρ x = .agg (mbC a)) (hy : ρ y = .agg (mbC b)) (r : Bool) (hr : decide (a = b) = r) : (execOp ρ ⟨dst, .binOp .neq 67 x y T2, ty, pos, aft, gd⟩).run Try.prog w = .ok (.value (.bool (!r))) w := by
  subst hr
  simp only [execOp, hx, hy, binOp, Sem.run_bind, mb_same, Result.andThen_ok, run_eqGuard_agg (P := Try.prog) (t := 67) (hm := by kernel_rfl)]
  rfl
theorem run_neI {a b : It} (hx : ρ x = .agg (itC a)) (hy : ρ y = .agg (itC b)) (r : Bool) (hr : decide (a = b) = r) : (execOp ρ ⟨dst, .binOp .neq 62 x y T2, ty, pos, aft, gd⟩).run Try.prog w = .ok (.value (.bool (!r))) w := by
  subst hr
  simp only [execOp, hx, hy, binOp, Sem.run_bind, it_same, Result.andThen_ok, run_eqGuard_agg (P := Try.prog) (t := 62) (hm := by kernel_rfl)]
  rfl
end
theorem sets_mid {c d c' : Array Value} {off : Nat} (he : c'.toList = c.toList.take off ++ d.toList ++ c.toList.drop (off + d.toList.length)) : (c.toList.take off ++ d.toList ++ c.toList.drop (off + d.toList.length)).toArray = c' := by
  rw [← he]
theorem HA.parts {w0 : Base} {L : BL} {w : World} (h : HA w0 L w) (i : Nat) {q : Nat} {t : TypeId} {c c' d : Array Value} (hi : L[i]? = some (q, t, c)) {off : Nat} (hb : off + d.size ≤ c.size) (he : c'.toList = c.toList.take off ++ d.toList ++ c.toList.drop (off + d.toList.length)) : HA w0 (L.set i (q, t, c')) (w.setCells q off d.toList) := by
  have hlt : i < L.length := (List.getElem?_eq_some_iff.1 hi).1
  have hmap : (L.set i (q, t, c')).map (·.1) = L.map (·.1) := by
    rw [List.map_set]
    refine List.ext_getElem? fun j => ?_
    by_cases hj : i = j
    · subst hj
      rw [List.getElem?_set_self (by simpa using hlt), List.getElem?_map, hi]
      rfl
    · rw [List.getElem?_set_ne hj]
  have hq := h.own _ (List.mem_of_getElem? hi)
  refine ⟨Old.setCells hq _ _ h.old (h.get i hi), fun x hx => ?_, fun x hx => ?_, by rw [hmap]; exact h.nd⟩
  · obtain ⟨j, hj⟩ := List.mem_iff_getElem?.1 hx
    by_cases hij : i = j
    · subst hij
      rw [List.getElem?_set_self hlt] at hj
      obtain rfl := Option.some.inj hj
      have := Blk.sets d.toList off w c (h.get i hi) (by simpa using hb)
      rwa [sets_mid he] at this
    · rw [List.getElem?_set_ne hij] at hj
      refine Blk.fars (fun e => hij ?_) _ _ _ (h.get j hj)
      have h1 : (L.map (·.1))[i]? = some q := by rw [List.getElem?_map, hi]; rfl
      have h2 : (L.map (·.1))[j]? = some q := by rw [List.getElem?_map, hj]; exact congrArg some e
      exact (List.getElem?_inj (by simpa using hlt) h.nd).1 (h1.trans h2.symm)
  · obtain ⟨j, hj⟩ := List.mem_iff_getElem?.1 hx
    have : x.1 ∈ L.map (·.1) := by rw [← hmap]; exact List.mem_map.2 ⟨x, hx, rfl⟩
    obtain ⟨y, hy, e⟩ := List.mem_map.1 this
    rw [← e]
    exact h.own y hy
theorem run_store_mid {ρ : Operand → Value} {x y : Operand} {q off : Nat} {t ty : TypeId} {c d : Array Value} {w : World} {dst : Option Tmp} {ty' : TypeId} {pos : String} {aft : Array Edge} {gd : Option (Nat × Bool)}
    (hx : ρ x = .pointer (some ⟨q, off, none⟩)) (hy : ρ y = .agg d) (h : Blk w q t c) (hb : off + d.size ≤ c.size) (hi : (Try.prog.info? ty).map (·.size) = some d.size) (h1 : d.all (·.oneCell') = true) :
    (execOp ρ ⟨dst, .store ty x y, ty', pos, aft, gd⟩).run Try.prog w = .ok .skip (w.setCells q off d.toList) := by
  have ht : w.there q off d.size := fun j hj => by
    have := h.there (off + j) (by omega)
    simpa using this
  simp only [execOp, hx, hy, Instr.storeAt, Instr.sureAddr, Sem.run_bind, Sem.run_pure, Result.andThen_ok, run_storeVar_mid w q off ty d ht hi h1]
theorem wl_puts {w0 : Base} {L : BL} {w : World} {ops : Array Oper} {Q : Exit → Act → World → Prop} {a : Act} {rest : List Oper} {dst : Option Tmp} {ty' ty : TypeId} {pos : String} {aft : Array Edge} {gd : Option (Nat × Bool)} {x y : Operand} {q off : Nat} {t : TypeId} {c c' d : Array Value} (H : HA w0 L w) (i : Nat) (hi : L[i]? = some (q, t, c)) (hw : Region.wanted ⟨dst, .store ty x y, ty', pos, aft, gd⟩ (yielded ops a.tmps) = true)
    (hx : a.eval x = .pointer (some ⟨q, off, none⟩)) (hy : a.eval y = .agg d) (hb : decide (off + d.size ≤ c.size) = true) (he : c'.toList = c.toList.take off ++ d.toList ++ c.toList.drop (off + d.toList.length)) (hz : (Try.prog.info? ty).map (·.size) = some d.size) (h1 : d.all (·.oneCell') = true)
    (h : ∀ w', HA w0 (L.set i (q, t, c')) w' → WL Try.prog ops Q rest (a.put dst undef) w') : WL Try.prog ops Q (⟨dst, .store ty x y, ty', pos, aft, gd⟩ :: rest) a w := by
  have hb := of_decide_eq_true hb
  refine ⟨?_⟩
  unfold wpList
  rw [if_pos hw]
  refine .inl ?_
  unfold Oper.wp
  rw [run_store_mid hx hy (H.get i hi) hb hz h1]
  exact (h _ (H.parts i hi hb he)).out
theorem ex_puts {z : Base} {L : BL} {w : World} {ops : Array Oper} {S : World → Prop} {J : Act → World → Prop} {n i : Nat} {l lp : List Nat} {a : Act} {dst : Option Tmp} {ty' ty : TypeId} {pos : String} {aft : Array Edge} {gd : Option (Nat × Bool)} {x y : Operand} {q off : Nat} {t : TypeId} {c c' d : Array Value} (ho : ops.toList[i]? = some ⟨dst, .store ty x y, ty', pos, aft, gd⟩) (hw : Region.wanted ⟨dst, .store ty x y, ty', pos, aft, gd⟩ (yielded ops a.tmps) = true) (H : HA z L w) (j : Nat) (hi : L[j]? = some (q, t, c))
    (hx : a.eval x = .pointer (some ⟨q, off, none⟩)) (hy : a.eval y = .agg d) (hb : decide (off + d.size ≤ c.size) = true) (he : c'.toList = c.toList.take off ++ d.toList ++ c.toList.drop (off + d.toList.length)) (hz : (Try.prog.info? ty).map (·.size) = some d.size) (h1 : d.all (·.oneCell') = true)
    (h : ∀ w', HA z (L.set j (q, t, c')) w' → ∃ S', (barB ops i l lp = true ∨ S' = S) ∧ S' w' ∧ WXS Try.prog ops J n S' (i :: l) (i :: lp) (a.put dst undef) w') : EX Try.prog ops J n S l lp i a w :=
  ex_skipT ho hw H fun _ H1 => ⟨_, run_store_mid hx hy (H1.get j hi) (of_decide_eq_true hb) hz h1, h _ (H1.parts j hi (of_decide_eq_true hb) he)⟩
/-- a thing behind a row: told by its run -/
theorem row_more {e t : TypeId} {sz n p : Nat} {v : Value} {xs : List Value} {news : Array Value} {z : Base} {L Lr : BL} {w : World} (hR : Row e sz v n xs Lr) (H : HA z ((p, e, news) :: (Lr ++ L)) w) (he : e ≠ 5) (zv : Value) (bytes : Nat) (ty : TypeId)
    (ht : Try.prog.underlying t = some (.slice e)) (hi : (Try.prog.info? e).map (fun i => (i.zero, i.size, i.bytes)) = some (some zv, sz, bytes)) (hzs : zv.cells.size = sz) (hsz : 0 < sz) (hl : news.size = 1 * sz) (h1 : news.all (·.oneCell') = true) (h63 : n + 1 ≤ maxLen) (hbytes : (n + 1) * bytes ≤ 140737488355328) :
    ∃ v' w' Lr', (Builtin.append_ #[t, t] ty #[v, .slice (some ⟨p, 0, none⟩) 1 1]).run Try.prog w = .ok v' w' ∧ Row e sz v' (n + 1) (xs ++ news.toList) Lr' ∧ HA z (Lr' ++ L) w' := by
  obtain ⟨i, hi, hh⟩ := Option.map_eq_some_iff.1 hi
  simp only [Prod.mk.injEq] at hh
  have hp := H.get 0 rfl
  exact hR.append H.tl he t ty i zv bytes ht hi hh.1 hh.2.1 hh.2.2 hzs hsz ⟨p, 0, none⟩ 1 1 news.toList (by simpa using hl) (fun j u hu => by
    have hadd : (⟨p, 0, none⟩ : Addr).add j = ⟨p, j, none⟩ := by unfold Addr.add; split <;> simp_all
    rw [hadd, hp.cell j]
    simpa using hu) (fun u hu => by
    obtain ⟨j, hj, rfl⟩ := List.mem_iff_getElem.1 hu
    have := Array.all_eq_true.1 h1 j (by simpa using hj)
    simpa using this) h63 hbytes (by decide)
theorem run_app_ops {ρ : Operand → Value} {x y : Operand} {w w' : World} {dst : Option Tmp} {t ty : TypeId} {pos : String} {aft : Array Edge} {gd : Option (Nat × Bool)} {u v v' : Value} (hx : ρ x = v) (hy : ρ y = u) (hrun : (Builtin.append_ #[t, t] ty #[v, u]).run Try.prog w = .ok v' w') :
    (execOp ρ ⟨dst, .call { callee := .builtin .append, args := #[x, y], argTypes := #[t, t] }, ty, pos, aft, gd⟩).run Try.prog w = .ok (.value v') w' := by
  unfold execOp
  simp only [resolve, invoke, builtin, Sem.run_bind, Sem.run_pure, Result.andThen_ok, List.map_toArray, List.map_cons, List.map_nil, hx, hy, hrun]
/-- a list -/
structure Li where
  u : Int
  v : Int
  ac : ByteArray
  ds : List Mb
  sg : ByteArray
  deriving DecidableEq
def liC (l : Li) (sv : Value) : Array Value := #[.int .i64 l.u, .int .i64 l.v, .string l.ac, sv, .string l.sg]
def li0 : Li := ⟨0, 0, { data := #[] }, [], { data := #[] }⟩
/-- a call -/
structure Ca where
  kd : Int
  us : Int
  dv : Int
  li : Li
  bu : Bu
  on : List ByteArray
  tt : Int
  no : Nat
  af : Nat
  nm : ByteArray
  ix : Int
  bt : ByteArray
  deriving DecidableEq
def caC (c : Ca) (sv so : Value) : Array Value := #[.int .i64 c.kd, .int .i64 c.us, .int .i64 c.dv, .int .i64 c.li.u, .int .i64 c.li.v, .string c.li.ac, sv, .string c.li.sg, .int .i64 c.bu.u, .int .i64 c.bu.d, .string c.bu.sg, .string c.bu.dh, .int .i64 c.bu.pi, .string c.bu.pr, .string c.bu.ps, .int .i64 c.bu.oi, .string c.bu.on, so, .int .i64 c.tt, iN .u64 c.no, iN .u64 c.af, .string c.nm, .int .i64 c.ix, .string c.bt]
def ca0 : Ca := ⟨0, 0, 0, li0, bu0, [], 0, 0, 0, { data := #[] }, 0, { data := #[] }⟩
/-- an answer -/
structure An where
  er : Int
  li : Li
  bu : Bu
  its : List It
  bt : ByteArray
  lf : Int
  deriving DecidableEq
def anC (c : An) (sv si : Value) : Array Value := #[.int .i64 c.er, .int .i64 c.li.u, .int .i64 c.li.v, .string c.li.ac, sv, .string c.li.sg, .int .i64 c.bu.u, .int .i64 c.bu.d, .string c.bu.sg, .string c.bu.dh, .int .i64 c.bu.pi, .string c.bu.pr, .string c.bu.ps, .int .i64 c.bu.oi, .string c.bu.on, si, .string c.bt, .int .i64 c.lf]
def an0 : An := ⟨0, li0, bu0, [], { data := #[] }, 0⟩
end Go.Proofs.Ytiogegoepgkjlaa
