/-
  Base: operations, bytes, appending; what is the same at every seat.
-/
import Derived.Test.YtoogiblkommdfaaGreatOps
import Derived.Lib.ConvBytes
import Derived.BigCall
import Derived.Deep.OwnRows
import Derived.Laws.AppendOwn
import Derived.Laws.IdiomCopy
import Derived.Lib.AppendStr
import Derived.Laws.MakeOwn
import Derived.Maps.AppendAt
namespace Go.Proofs.YtoogiblkommdfaaGreat
open Go.RowKit

/-! HB -/
theorem enter10 (args : Array Value) (w : World) : (callFunc 10 args).run Tryz.prog w = .ok (.enter 10 args) w := by go_simp
theorem enter14 (args : Array Value) (w : World) : (callFunc 14 args).run Tryz.prog w = .ok (.enter 14 args) w := by go_simp
theorem enter15 (args : Array Value) (w : World) : (callFunc 15 args).run Tryz.prog w = .ok (.enter 15 args) w := by go_simp
theorem enter18 (args : Array Value) (w : World) : (callFunc 18 args).run Tryz.prog w = .ok (.enter 18 args) w := by go_simp
theorem enter20 (args : Array Value) (w : World) : (callFunc 20 args).run Tryz.prog w = .ok (.enter 20 args) w := by go_simp
theorem enter22 (args : Array Value) (w : World) : (callFunc 22 args).run Tryz.prog w = .ok (.enter 22 args) w := by go_simp
theorem enter26 (args : Array Value) (w : World) : (callFunc 26 args).run Tryz.prog w = .ok (.enter 26 args) w := by go_simp
theorem enter27 (args : Array Value) (w : World) : (callFunc 27 args).run Tryz.prog w = .ok (.enter 27 args) w := by go_simp
theorem enter30 (args : Array Value) (w : World) : (callFunc 30 args).run Tryz.prog w = .ok (.enter 30 args) w := by go_simp
theorem enter33 (args : Array Value) (w : World) : (callFunc 33 args).run Tryz.prog w = .ok (.enter 33 args) w := by go_simp
theorem enter34 (args : Array Value) (w : World) : (callFunc 34 args).run Tryz.prog w = .ok (.enter 34 args) w := by go_simp
theorem enter35 (args : Array Value) (w : World) : (callFunc 35 args).run Tryz.prog w = .ok (.enter 35 args) w := by go_simp
theorem enter36 (args : Array Value) (w : World) : (callFunc 36 args).run Tryz.prog w = .ok (.enter 36 args) w := by go_simp
theorem enter37 (args : Array Value) (w : World) : (callFunc 37 args).run Tryz.prog w = .ok (.enter 37 args) w := by go_simp
theorem enter38 (args : Array Value) (w : World) : (callFunc 38 args).run Tryz.prog w = .ok (.enter 38 args) w := by go_simp
theorem enter39 (args : Array Value) (w : World) : (callFunc 39 args).run Tryz.prog w = .ok (.enter 39 args) w := by go_simp
theorem enter40 (args : Array Value) (w : World) : (callFunc 40 args).run Tryz.prog w = .ok (.enter 40 args) w := by go_simp
theorem enter44 (args : Array Value) (w : World) : (callFunc 44 args).run Tryz.prog w = .ok (.enter 44 args) w := by go_simp
theorem enter46 (args : Array Value) (w : World) : (callFunc 46 args).run Tryz.prog w = .ok (.enter 46 args) w := by go_simp
theorem enter54 (args : Array Value) (w : World) : (callFunc 54 args).run Tryz.prog w = .ok (.enter 54 args) w := by go_simp
theorem enter56 (args : Array Value) (w : World) : (callFunc 56 args).run Tryz.prog w = .ok (.enter 56 args) w := by go_simp
theorem enter61 (args : Array Value) (w : World) : (callFunc 61 args).run Tryz.prog w = .ok (.enter 61 args) w := by go_simp
theorem enter62 (args : Array Value) (w : World) : (callFunc 62 args).run Tryz.prog w = .ok (.enter 62 args) w := by go_simp
theorem enter66 (args : Array Value) (w : World) : (callFunc 66 args).run Tryz.prog w = .ok (.enter 66 args) w := by go_simp
theorem enter67 (args : Array Value) (w : World) : (callFunc 67 args).run Tryz.prog w = .ok (.enter 67 args) w := by go_simp
theorem enter68 (args : Array Value) (w : World) : (callFunc 68 args).run Tryz.prog w = .ok (.enter 68 args) w := by go_simp
theorem enter69 (args : Array Value) (w : World) : (callFunc 69 args).run Tryz.prog w = .ok (.enter 69 args) w := by go_simp
theorem enter70 (args : Array Value) (w : World) : (callFunc 70 args).run Tryz.prog w = .ok (.enter 70 args) w := by go_simp
theorem enter73 (args : Array Value) (w : World) : (callFunc 73 args).run Tryz.prog w = .ok (.enter 73 args) w := by go_simp
theorem enter74 (args : Array Value) (w : World) : (callFunc 74 args).run Tryz.prog w = .ok (.enter 74 args) w := by go_simp
theorem enter75 (args : Array Value) (w : World) : (callFunc 75 args).run Tryz.prog w = .ok (.enter 75 args) w := by go_simp
theorem enter76 (args : Array Value) (w : World) : (callFunc 76 args).run Tryz.prog w = .ok (.enter 76 args) w := by go_simp
theorem enter77 (args : Array Value) (w : World) : (callFunc 77 args).run Tryz.prog w = .ok (.enter 77 args) w := by go_simp
theorem enter78 (args : Array Value) (w : World) : (callFunc 78 args).run Tryz.prog w = .ok (.enter 78 args) w := by go_simp
theorem enter79 (args : Array Value) (w : World) : (callFunc 79 args).run Tryz.prog w = .ok (.enter 79 args) w := by go_simp
theorem enter80 (args : Array Value) (w : World) : (callFunc 80 args).run Tryz.prog w = .ok (.enter 80 args) w := by go_simp
theorem enter81 (args : Array Value) (w : World) : (callFunc 81 args).run Tryz.prog w = .ok (.enter 81 args) w := by go_simp
theorem enter82 (args : Array Value) (w : World) : (callFunc 82 args).run Tryz.prog w = .ok (.enter 82 args) w := by go_simp
theorem enter83 (args : Array Value) (w : World) : (callFunc 83 args).run Tryz.prog w = .ok (.enter 83 args) w := by go_simp
theorem enter84 (args : Array Value) (w : World) : (callFunc 84 args).run Tryz.prog w = .ok (.enter 84 args) w := by go_simp
theorem enter85 (args : Array Value) (w : World) : (callFunc 85 args).run Tryz.prog w = .ok (.enter 85 args) w := by go_simp
theorem enter99 (args : Array Value) (w : World) : (callFunc 99 args).run Tryz.prog w = .ok (.enter 99 args) w := by go_simp
theorem enter100 (args : Array Value) (w : World) : (callFunc 100 args).run Tryz.prog w = .ok (.enter 100 args) w := by go_simp
theorem enter108 (args : Array Value) (w : World) : (callFunc 108 args).run Tryz.prog w = .ok (.enter 108 args) w := by go_simp
theorem enter109 (args : Array Value) (w : World) : (callFunc 109 args).run Tryz.prog w = .ok (.enter 109 args) w := by go_simp
theorem enter110 (args : Array Value) (w : World) : (callFunc 110 args).run Tryz.prog w = .ok (.enter 110 args) w := by go_simp
theorem enter113 (args : Array Value) (w : World) : (callFunc 113 args).run Tryz.prog w = .ok (.enter 113 args) w := by go_simp
theorem enter115 (args : Array Value) (w : World) : (callFunc 115 args).run Tryz.prog w = .ok (.enter 115 args) w := by go_simp
theorem enter116 (args : Array Value) (w : World) : (callFunc 116 args).run Tryz.prog w = .ok (.enter 116 args) w := by go_simp
theorem enter119 (args : Array Value) (w : World) : (callFunc 119 args).run Tryz.prog w = .ok (.enter 119 args) w := by go_simp
theorem enter120 (args : Array Value) (w : World) : (callFunc 120 args).run Tryz.prog w = .ok (.enter 120 args) w := by go_simp
theorem enter137 (args : Array Value) (w : World) : (callFunc 137 args).run Tryz.prog w = .ok (.enter 137 args) w := by go_simp
theorem enter152 (args : Array Value) (w : World) : (callFunc 152 args).run Tryz.prog w = .ok (.enter 152 args) w := by go_simp
theorem enter157 (args : Array Value) (w : World) : (callFunc 157 args).run Tryz.prog w = .ok (.enter 157 args) w := by go_simp
theorem enter169 (args : Array Value) (w : World) : (callFunc 169 args).run Tryz.prog w = .ok (.enter 169 args) w := by go_simp
theorem enter199 (args : Array Value) (w : World) : (callFunc 199 args).run Tryz.prog w = .ok (.enter 199 args) w := by go_simp
theorem enter211 (args : Array Value) (w : World) : (callFunc 211 args).run Tryz.prog w = .ok (.enter 211 args) w := by go_simp
theorem enter214 (args : Array Value) (w : World) : (callFunc 214 args).run Tryz.prog w = .ok (.enter 214 args) w := by go_simp
theorem enter215 (args : Array Value) (w : World) : (callFunc 215 args).run Tryz.prog w = .ok (.enter 215 args) w := by go_simp
theorem enter234 (args : Array Value) (w : World) : (callFunc 234 args).run Tryz.prog w = .ok (.enter 234 args) w := by go_simp
theorem enter357 (args : Array Value) (w : World) : (callFunc 357 args).run Tryz.prog w = .ok (.enter 357 args) w := by go_simp
theorem enter364 (args : Array Value) (w : World) : (callFunc 364 args).run Tryz.prog w = .ok (.enter 364 args) w := by go_simp
theorem enter365 (args : Array Value) (w : World) : (callFunc 365 args).run Tryz.prog w = .ok (.enter 365 args) w := by go_simp
theorem enter366 (args : Array Value) (w : World) : (callFunc 366 args).run Tryz.prog w = .ok (.enter 366 args) w := by go_simp
theorem enter367 (args : Array Value) (w : World) : (callFunc 367 args).run Tryz.prog w = .ok (.enter 367 args) w := by go_simp
theorem enter368 (args : Array Value) (w : World) : (callFunc 368 args).run Tryz.prog w = .ok (.enter 368 args) w := by go_simp
theorem enter369 (args : Array Value) (w : World) : (callFunc 369 args).run Tryz.prog w = .ok (.enter 369 args) w := by go_simp
theorem enter370 (args : Array Value) (w : World) : (callFunc 370 args).run Tryz.prog w = .ok (.enter 370 args) w := by go_simp
theorem enter371 (args : Array Value) (w : World) : (callFunc 371 args).run Tryz.prog w = .ok (.enter 371 args) w := by go_simp
theorem enter372 (args : Array Value) (w : World) : (callFunc 372 args).run Tryz.prog w = .ok (.enter 372 args) w := by go_simp
theorem enter374 (args : Array Value) (w : World) : (callFunc 374 args).run Tryz.prog w = .ok (.enter 374 args) w := by go_simp
theorem enter375 (args : Array Value) (w : World) : (callFunc 375 args).run Tryz.prog w = .ok (.enter 375 args) w := by go_simp
theorem enter376 (args : Array Value) (w : World) : (callFunc 376 args).run Tryz.prog w = .ok (.enter 376 args) w := by go_simp
theorem enter377 (args : Array Value) (w : World) : (callFunc 377 args).run Tryz.prog w = .ok (.enter 377 args) w := by go_simp
theorem enter378 (args : Array Value) (w : World) : (callFunc 378 args).run Tryz.prog w = .ok (.enter 378 args) w := by go_simp
theorem enter379 (args : Array Value) (w : World) : (callFunc 379 args).run Tryz.prog w = .ok (.enter 379 args) w := by go_simp
theorem enter380 (args : Array Value) (w : World) : (callFunc 380 args).run Tryz.prog w = .ok (.enter 380 args) w := by go_simp
theorem enter382 (args : Array Value) (w : World) : (callFunc 382 args).run Tryz.prog w = .ok (.enter 382 args) w := by go_simp
theorem enter383 (args : Array Value) (w : World) : (callFunc 383 args).run Tryz.prog w = .ok (.enter 383 args) w := by go_simp
theorem enter387 (args : Array Value) (w : World) : (callFunc 387 args).run Tryz.prog w = .ok (.enter 387 args) w := by go_simp
/-! whole loads, new variables and their filling, words without world, in a region that makes variables -/
/-- a loop whose measure gets less -/
theorem rounds_more {P : Program} {Q : Exit → Act → World → Prop} {c : Code} : ∀ (n : Nat) (a : Act) (w : World), Code.rounds P c Q n a w → Code.rounds P c Q (n + 1) a w
  | 0, _, _, h => h.elim
  | n + 1, a, w, h => by
    rw [rounds_succ] at h ⊢
    exact Code.wp_mono (fun e a w he => by cases e <;> first | exact rounds_more n a w he | exact he) h
theorem rounds_le {P : Program} {Q : Exit → Act → World → Prop} {c : Code} {n m : Nat} (h : n ≤ m) {a : Act} {w : World} (hr : Code.rounds P c Q n a w) : Code.rounds P c Q m a w := by
  induction h with
  | refl => exact hr
  | step _ ih => exact rounds_more _ _ _ ih
theorem wp_while {P : Program} {Q : Exit → Act → World → Prop} {c : Code} (I : Nat → Act → World → Prop) (m : Nat) {a : Act} {w : World} (h0 : I m a w)
    (round : ∀ m a w, I m a w → c.wp P (Exit.then (fun a' w' => ∃ m', m' < m ∧ I m' a' w') Q) a w) : (Code.loop c).wp P Q a w := by
  have key : ∀ m a w, I m a w → Code.rounds P c Q (m + 1) a w := by
    intro m
    induction m using Nat.strongRecOn with
    | ind m ih =>
      intro a w hI
      rw [rounds_succ]
      refine Code.wp_mono (fun e a w he => ?_) (round m a w hI)
      cases e with
      | normal =>
        obtain ⟨m', hm, h'⟩ := he
        exact rounds_le hm (ih m' hm a w h')
      | _ => exact he
  exact wp_loop_rounds (m + 1) (key m a w h0)
theorem run_callv {ρ : Operand → Value} {x : Operand} {xs : Array Operand} {ats : Array TypeId} {w : World} {dst : Option Tmp} {ty : TypeId} {pos : String} {aft : Array Edge} {gd : Option (Nat × Bool)} {f : FuncId} {cap args : Array Value}
    (hr : ∀ args w, (callFunc f args).run Tryz.prog w = .ok (.enter f args) w) (hx : ρ x = .func (.func f) #[] cap) (ha : #[] ++ xs.map ρ ++ cap = args) :
    (execOp ρ ⟨dst, .call { callee := .value x, args := xs, argTypes := ats }, ty, pos, aft, gd⟩).run Tryz.prog w = .ok (.enter f args) w := by
  subst ha
  simp only [execOp, resolve, hx, invoke, Deferred.ofValue, Sem.run_bind, Sem.run_pure, Result.andThen_ok]
  exact hr _ w
theorem up_true {d : Nat → Bool} {i m : Nat} (h : d m = true) : up d i true m = true := by
  by_cases e : m = i
  · rw [e]; exact up_at _ _ _
  · rw [up_ne _ _ e]; exact h
/-- pre: who comes ahead of whom -/
def Cl (pre : Nat → List Nat) (d : Nat → Bool) : Prop := ∀ i, d i = true → ∀ m ∈ pre i, d m = true
def ahead (aft : Array Edge) (l : List Nat) : Bool := l.all fun m => aft.any fun e => Region.binds .any e && e.on == m
theorem ahead_ok {aft : Array Edge} {l : List Nat} {d : Nat → Bool} (he : ahead aft l = true) (haft : ∀ e ∈ aft, Region.binds .any e = true → d e.on = true) : ∀ m ∈ l, d m = true := fun m hm => by
  obtain ⟨k, hk, h3⟩ := Array.any_eq_true.1 (List.all_eq_true.1 he m hm)
  rw [Bool.and_eq_true, beq_iff_eq] at h3
  rw [← h3.2]
  exact haft _ (Array.getElem_mem hk) h3.1
theorem Cl.up {pre : Nat → List Nat} {d : Nat → Bool} {i : Nat} (h : Cl pre d) (hm : ∀ m ∈ pre i, d m = true) : Cl pre (up d i true) := fun i' h' m hm' => by
  by_cases e : i' = i
  · rw [e] at hm'; exact up_true (hm m hm')
  · rw [up_ne _ _ e] at h'; exact up_true (h i' h' m hm')
theorem Cl.start {ll : List (List Nat)} {n : Nat} {d : Nat → Bool} (hd : ∀ j, j < n → d j = false) (hn : ll.length ≤ n) : Cl (fun i => ll.getD i []) d := fun i h m hm => by
  by_cases hi : i < ll.length
  · rw [hd i (Nat.lt_of_lt_of_le hi hn)] at h; cases h
  · have hm2 : m ∈ ll.getD i [] := hm
    rw [List.getD_eq_getElem?_getD, List.getElem?_eq_none (Nat.le_of_not_lt hi)] at hm2; cases hm2

/-! HW -/
/-- the two kinds of words -/
inductive WK : IntKind → Nat → Prop
  | s : WK .u32 32
  | l : WK .u64 64
/-- a word as a value -/
def bv {n : Nat} (k : IntKind) (x : BitVec n) : Value := iN k x.toNat
section
variable {ρ : Operand → Value} {x y : Operand} {w : World} {dst : Option Tmp} {T T2 ty : TypeId} {pos : String} {aft : Array Edge} {gd : Option (Nat × Bool)} {k : IntKind} {n : Nat} {a b : BitVec n} {P : Program}
theorem run_shrv {k2 : IntKind} {m : Nat} (hk : WK k n) (hx : ρ x = bv k a) (hy : ρ y = iN k2 m) : (execOp ρ ⟨dst, .binOp .shr T x y T2, ty, pos, aft, gd⟩).run P w = .ok (.value (bv k (a >>> m))) w := by
  have e : (a >>> m).toNat = a.toNat / 2 ^ m := by rw [BitVec.toNat_ushiftRight, Nat.shiftRight_eq_div_pow]
  have key : m ≤ k.bits ∨ k.bits < m := Nat.lt_or_ge k.bits m |>.symm
  rcases key with h | h
  · have := run_shr (P := P) (w := w) (dst := dst) (T := T) (T2 := T2) (ty := ty) (pos := pos) (aft := aft) (gd := gd) hx hy h
    rw [this, bv, e]
  · have hz : ∀ {j : Nat}, n ≤ j → a.toNat / 2 ^ j = 0 := fun {j} hj => Nat.div_eq_of_lt (Nat.lt_of_lt_of_le a.isLt (Nat.pow_le_pow_right (by decide) hj))
    have e2 : min m k.bits = k.bits := Nat.min_eq_right (Nat.le_of_lt h)
    cases hk
    · have h3 : a.toNat / 2 ^ m = a.toNat / 2 ^ 32 := by rw [hz (j := m) (by simp [IntKind.bits] at h; omega), hz (j := 32) (by omega)]
      simp only [execOp, hx, hy, bv, iN, e, h3]
      simp [IntKind.bits] at e2
      simp [binOp, go_sem, e2]
    · have h3 : a.toNat / 2 ^ m = a.toNat / 2 ^ 64 := by rw [hz (j := m) (by simp [IntKind.bits] at h; omega), hz (j := 64) (by omega)]
      simp only [execOp, hx, hy, bv, iN, e, h3]
      simp [IntKind.bits] at e2
      simp [binOp, go_sem, e2]
end
/-! HX -/
def bl (s : ByteArray) : List UInt8 := s.data.toList
theorem bl_len (s : ByteArray) : (bl s).length = s.size := by unfold bl; rw [Array.length_toList]; rfl
/-- a byte as a value -/
def by8 (u : UInt8) : Value := iN .u8 u.toNat
/-- bytes as cells -/
def bc (l : List UInt8) : Array Value := (l.map by8).toArray
theorem bc_size (l : List UInt8) : (bc l).size = l.length := by simp [bc]
theorem bc_get (l : List UInt8) (i : Nat) (h : i < l.length) : (bc l)[i]? = some (by8 (l.getD i 0)) := by
  simp [bc, List.getElem?_eq_getElem h]
section
variable {ρ : Operand → Value} {x y : Operand} {w : World} {dst : Option Tmp} {T T2 ty : TypeId} {pos : String} {aft : Array Edge} {gd : Option (Nat × Bool)} {k : IntKind} {n : Nat} {a b : BitVec n} 
theorem run_len {s : ByteArray} (hx : ρ x = .string s) : (execOp ρ ⟨dst, .call { callee := .builtin .len, args := #[x], argTypes := #[9] }, ty, pos, aft, gd⟩).run Tryz.prog w = .ok (.value (iN .i64 s.size)) w := by
  simp only [execOp, iN]
  go_simp
theorem run_min {i j : Nat} (hx : ρ x = iN .i64 i) (hy : ρ y = iN .i64 j) : (execOp ρ ⟨dst, .call { callee := .builtin .min, args := #[x, y], argTypes := #[3, 3] }, ty, pos, aft, gd⟩).run Tryz.prog w = .ok (.value (iN .i64 (min i j))) w := by
  simp only [execOp, iN] at hx hy ⊢
  go_simp
  split <;> omega
theorem run_cut_hi {s : ByteArray} {b : Nat} (hx : ρ x = .string s) (hy : ρ y = iN .i64 b) (hb : b ≤ s.size) : (execOp ρ ⟨dst, .slice 9 x none (some y) none, ty, pos, aft, gd⟩).run Tryz.prog w = .ok (.value (.string (s.extract 0 b))) w := by
  simp only [execOp, hx, Option.map, hy, iN]
  go_simp
theorem run_cut_lo {z : Operand} {s : ByteArray} {a : Nat} (hx : ρ x = .string s) (hz : ρ z = iN .i64 a) (ha : a ≤ s.size) : (execOp ρ ⟨dst, .slice 9 x (some z) none none, ty, pos, aft, gd⟩).run Tryz.prog w = .ok (.value (.string (s.extract a s.size))) w := by
  simp only [execOp, hx, Option.map, hz, iN]
  go_simp
theorem info5 : (Tryz.prog.info? 5).map (fun i => (i.zero, i.size, i.bytes)) = some (some (.int .u8 0), 1, 1) := by kernel_rfl
theorem made_bc (c : Nat) : madeCells #[.int .u8 0] c = bc (List.replicate c 0) := by
  unfold madeCells bc
  apply Array.ext
  · simp
  · intro i h1 h2
    simp [Nat.mod_one, by8, iN]
theorem run_mk {m c : Nat} (hx : ρ x = iN .i64 m) (hy : ρ y = iN k c) (hmc : m ≤ c) (hc : c ≤ 2000000) : (execOp ρ ⟨dst, .makeSlice 75 x y, ty, pos, aft, gd⟩).run Tryz.prog w = .ok (.value (.slice (some ⟨w.heap.size, 0, none⟩) m c)) (w.alloc (.cells (bc (List.replicate c 0)) 5)) := by
  obtain ⟨i, hi, h⟩ := Option.map_eq_some_iff.1 info5
  simp only [Prod.mk.injEq] at h
  have e := run_makeSlice (P := Tryz.prog) w 75 5 i (.int .u8 0) Tryz.underlying75 hi h.1 .i64 k (m : Int) (c : Int) (by omega) (by omega) (by rw [h.2.1]; omega) (by rw [h.2.2]; omega) (by omega)
  rw [h.2.1] at e
  simp only [Int.toNat_natCast, Nat.mul_one] at e
  simp only [execOp, hx, hy, iN, Sem.run_bind, e, Result.andThen_ok, Sem.run_pure]
  rw [show (Value.int IntKind.u8 0).cells = #[Value.int IntKind.u8 0] from rfl, made_bc]
end
/-! HY -/
/-- one block is turned -/
theorem HA.turn {A B : World} {w0 : Base} {L : List (Nat × TypeId × Array Value)} {q : Nat} {t : TypeId} {c c' : Array Value} (h : HA w0 L A) (i : Nat) (hi : L[i]? = some (q, t, c)) (hg : A.grownBy B (some q)) (hb : Blk B q t c') : HA w0 (L.set i (q, t, c')) B := by
  have hlt : i < L.length := (List.getElem?_eq_some_iff.1 hi).1
  have hmap : (L.set i (q, t, c')).map (·.1) = L.map (·.1) := by
    rw [List.map_set]
    refine List.ext_getElem? fun m => ?_
    by_cases hm : i = m
    · subst hm
      rw [List.getElem?_set_self (by simpa using hlt), List.getElem?_map, hi]
      rfl
    · rw [List.getElem?_set_ne hm]
  have hq := h.own _ (List.mem_of_getElem? hi)
  refine ⟨h.old.grown hq (h.get i hi) hg, fun x hx => ?_, fun x hx => ?_, by rw [hmap]; exact h.nd⟩
  · obtain ⟨m, hm⟩ := List.mem_iff_getElem?.1 hx
    by_cases him : i = m
    · subst him
      rw [List.getElem?_set_self hlt] at hm
      obtain rfl := Option.some.inj hm
      exact hb
    · rw [List.getElem?_set_ne him] at hm
      have hx1 := h.get m hm
      unfold Blk
      rw [hg.block x.1 hx1.lt (fun e => him ?_)]
      · exact hx1
      · have h1 : (L.map (·.1))[i]? = some q := by rw [List.getElem?_map, hi]; rfl
        have h2 : (L.map (·.1))[m]? = some q := by rw [List.getElem?_map, hm]; exact e
        exact (List.getElem?_inj (by simpa using hlt) h.nd).1 (h1.trans h2.symm)
  · have : x.1 ∈ L.map (·.1) := by rw [← hmap]; exact List.mem_map.2 ⟨x, hx, rfl⟩
    obtain ⟨y, hy, e⟩ := List.mem_map.1 this
    rw [← e]
    exact h.own y hy
theorem grown_sets {w : World} {q o : Nat} {vs : List Value} : w.grownBy (w.setCells q o vs) (some q) := by
  have key : ∀ (vs : List Value) (o : Nat) (w2 : World), w.grownBy w2 (some q) → w.grownBy (w2.setCells q o vs) (some q) := by
    intro vs
    induction vs with
    | nil => intro o w2 h; exact h
    | cons v r ih =>
      intro o w2 h
      refine ih (o + 1) _ ⟨h.os, h.tape, h.output, by simpa using h.size, fun k hk hne => ?_⟩
      rw [Below.heap_setCell w2 ⟨q, o, none⟩ v k (fun e => hne (by rw [e]))]
      exact h.block k hk hne
  exact key vs o w ⟨rfl, rfl, rfl, Nat.le_refl _, fun _ _ _ => rfl⟩

theorem HA.part {w : World} {w0 : Base} {L : List (Nat × TypeId × Array Value)} {q o : Nat} {t : TypeId} {c : Array Value} {vs : List Value} (h : HA w0 L w) (i : Nat) (hi : L[i]? = some (q, t, c)) (ho : o + vs.length ≤ c.size) :
    HA w0 (L.set i (q, t, (c.toList.take o ++ vs ++ c.toList.drop (o + vs.length)).toArray)) (w.setCells q o vs) := h.turn i hi grown_sets (Blk.sets vs o w c (h.get i hi) ho)
/-- m bytes stand, then come others -/
def laidOn (l : List UInt8) (m : Nat) (r : List UInt8) : List UInt8 := l.take m ++ r ++ l.drop (m + r.length)
theorem laid_bc (l : List UInt8) (m : Nat) (r : List UInt8) : ((bc l).toList.take m ++ (r.map by8) ++ (bc l).toList.drop (m + (r.map by8).length)).toArray = bc (laidOn l m r) := by
  unfold bc laidOn
  simp [List.map_take, List.map_drop]
section
variable {ρ : Operand → Value} {x y : Operand} {w : World} {dst : Option Tmp} {T T2 ty : TypeId} {pos : String} {aft : Array Edge} {gd : Option (Nat × Bool)}
theorem run_app {q r m c j c2 : Nat} {l n : List UInt8} (hx : ρ x = .slice (some ⟨q, 0, none⟩) m c) (hy : ρ y = .slice (some ⟨r, 0, none⟩) j c2) (hq : Blk w q 5 (bc l)) (hr : Blk w r 5 (bc n)) (hj : n.length = j) (hroom : m + j ≤ c) (hl : l.length = c) :
    (execOp ρ ⟨dst, .call { callee := .builtin .append, args := #[x, y], argTypes := #[75, 75] }, ty, pos, aft, gd⟩).run Tryz.prog w = .ok (.value (.slice (some ⟨q, 0, none⟩) (m + j) c)) (w.setCells q m (n.map by8)) := by
  obtain ⟨i, hi, h⟩ := Option.map_eq_some_iff.1 info5
  simp only [Prod.mk.injEq] at h
  have hf := run_firstCells_some (P := Tryz.prog) w 1 j ⟨r, 0, none⟩ j c2 (n.map by8) (by rw [List.length_map, hj, Nat.mul_one]) (fun k v hv => by
    have hadd : (⟨r, 0, none⟩ : Addr).add k = ⟨r, k, none⟩ := by unfold Addr.add; split <;> simp_all
    rw [hadd, hr.cell k]
    simpa [bc] using hv)
  have hst := run_storeCells_cells (P := Tryz.prog) q m (n.map by8) 0 w (fun k hk => by
    rw [hq.cell]
    rw [List.length_map] at hk
    simp [bc_size]
    omega) (fun k hk => by
    rw [List.length_map] at hk
    exact hq.free _ (by rw [bc_size]; omega)) (fun v hv => by
    obtain ⟨u, _, rfl⟩ := List.mem_map.1 hv
    rfl)
  simp only [Nat.add_zero] at hst
  have e : (Builtin.append_ #[75, 75] ty #[.slice (some ⟨q, 0, none⟩) m c, .slice (some ⟨r, 0, none⟩) j c2]).run Tryz.prog w = .ok (.slice (some ⟨q, 0, none⟩) (m + j) c) (w.setCells q m (n.map by8)) := by
    simp [Builtin.append_, run_underlying Tryz.underlying75, sizeOf, typeInfo, hi, h.2.1, Builtin.lenOf, hroom, hf, Addr.add_lit, hst]
  have e0 : (execOp ρ ⟨dst, .call { callee := .builtin .append, args := #[x, y], argTypes := #[75, 75] }, ty, pos, aft, gd⟩).run Tryz.prog w = ((Builtin.append_ #[75, 75] ty #[ρ x, ρ y]).run Tryz.prog w).andThen (fun a w' => .ok (.value a) w') := by simp [go_sem]
  rw [e0, hx, hy, e]
  rfl
theorem run_apps {q m c : Nat} {l : List UInt8} {s : ByteArray} (hx : ρ x = .slice (some ⟨q, 0, none⟩) m c) (hy : ρ y = .string s) (hq : Blk w q 5 (bc l)) (hroom : m + s.size ≤ c) (hl : l.length = c) :
    (execOp ρ ⟨dst, .call { callee := .builtin .append, args := #[x, y], argTypes := #[75, 9] }, ty, pos, aft, gd⟩).run Tryz.prog w = .ok (.value (.slice (some ⟨q, 0, none⟩) (m + s.size) c)) (w.setCells q m ((bl s).map by8)) := by
  obtain ⟨i, hi, h⟩ := Option.map_eq_some_iff.1 info5
  simp only [Prod.mk.injEq] at h
  have hf := Lib.run_firstCells_string (P := Tryz.prog) w 1 s
  have hst := run_storeCells_cells (P := Tryz.prog) q m ((bl s).map by8) 0 w (fun k hk => by
    rw [hq.cell]
    rw [List.length_map, bl_len] at hk
    simp [bc_size]
    omega) (fun k hk => by
    rw [List.length_map, bl_len] at hk
    exact hq.free _ (by rw [bc_size]; omega)) (fun v hv => by
    obtain ⟨u, _, rfl⟩ := List.mem_map.1 hv
    rfl)
  simp only [Nat.add_zero] at hst
  have e2 : Lib.strCells s = (bl s).map by8 := rfl
  rw [e2] at hf
  have e : (Builtin.append_ #[75, 9] ty #[.slice (some ⟨q, 0, none⟩) m c, .string s]).run Tryz.prog w = .ok (.slice (some ⟨q, 0, none⟩) (m + s.size) c) (w.setCells q m ((bl s).map by8)) := by
    simp [Builtin.append_, run_underlying Tryz.underlying75, run_underlying Tryz.underlying9, sizeOf, typeInfo, hi, h.2.1, Builtin.lenOf, hroom, hf, Addr.add_lit, hst]
  have e0 : (execOp ρ ⟨dst, .call { callee := .builtin .append, args := #[x, y], argTypes := #[75, 9] }, ty, pos, aft, gd⟩).run Tryz.prog w = ((Builtin.append_ #[75, 9] ty #[ρ x, ρ y]).run Tryz.prog w).andThen (fun a w' => .ok (.value a) w') := by simp [go_sem]
  rw [e0, hx, hy, e]
  rfl
end
/-! HT -/
theorem HA.tl {w : World} {w0 : Base} {L : List (Nat × TypeId × Array Value)} {x : Nat × TypeId × Array Value} (h : HA w0 (x :: L) w) : HA w0 L w :=
  ⟨h.old, fun y hy => h.blk y (List.mem_cons_of_mem _ hy), fun y hy => h.own y (List.mem_cons_of_mem _ hy), by have := h.nd; rw [List.map_cons, List.nodup_cons] at this; exact this.2⟩
section
variable {ρ : Operand → Value} {x y : Operand} {w : World} {dst : Option Tmp} {T T2 ty : TypeId} {pos : String} {aft : Array Edge} {gd : Option (Nat × Bool)} {P : Program} {k : IntKind} {a b : Nat}
theorem run_leq (hx : ρ x = iN k a) (hy : ρ y = iN k b) (t : Bool) (ht : decide (a ≤ b) = t) : (execOp ρ ⟨dst, .binOp .leq T x y T2, ty, pos, aft, gd⟩).run P w = .ok (.value (.bool t)) w := by
  subst ht
  simp only [execOp, hx, hy, iN]
  simp [binOp, go_sem]
theorem run_gtr (hx : ρ x = iN k a) (hy : ρ y = iN k b) (t : Bool) (ht : decide (b < a) = t) : (execOp ρ ⟨dst, .binOp .gtr T x y T2, ty, pos, aft, gd⟩).run P w = .ok (.value (.bool t)) w := by
  subst ht
  simp only [execOp, hx, hy, iN]
  simp [binOp, go_sem]
theorem run_shrn {k2 : IntKind} (ha : a < 18446744073709551616) (hx : ρ x = iN .u64 a) (hy : ρ y = iN k2 b) : (execOp ρ ⟨dst, .binOp .shr T x y T2, ty, pos, aft, gd⟩).run P w = .ok (.value (iN .u64 (a / 2 ^ b))) w := by
  have e : a = (BitVec.ofNat 64 a).toNat := by rw [BitVec.toNat_ofNat, Nat.mod_eq_of_lt ha]
  have h := run_shrv (P := P) (w := w) (dst := dst) (T := T) (T2 := T2) (ty := ty) (pos := pos) (aft := aft) (gd := gd) (a := BitVec.ofNat 64 a) (ρ := ρ) WK.l (by unfold bv; rw [← e]; exact hx) hy
  rw [h]
  unfold bv
  rw [BitVec.toNat_ushiftRight, ← e, Nat.shiftRight_eq_div_pow]
theorem run_lown (hx : ρ x = iN k a) (hT : P.underlying T = some (.int k)) (hT2 : P.underlying T2 = some (.int .u8)) : (execOp ρ ⟨dst, .convert T T2 x, ty, pos, aft, gd⟩).run P w = .ok (.value (by8 (UInt8.ofNat a))) w := by
  have h : IntKind.u8.wrap (a : Int) = ((a % 256 : Nat) : Int) := by simp [IntKind.wrap, IntKind.bits, IntKind.signed]
  simp only [execOp, hx, by8, iN, UInt8.toNat_ofNat']
  simpa [go_sem, hT, hT2] using h
theorem run_build1 {u : UInt8} (hx : ρ x = by8 u) : (execOp ρ ⟨dst, .buildSlice 75 1 #[(0, x)], ty, pos, aft, gd⟩).run Tryz.prog w = .ok (.value (.slice (some ⟨w.heap.size, 0, none⟩) 1 1)) (w.alloc (.cells (bc [u]) 5)) := by
  simp only [by8, iN] at hx
  simp only [execOp]
  go_simp
  rfl
end
section
variable {ops : Array Oper} {Q : Exit → Act → World → Prop} {a : Act} {w : World} {w0 : Base} {L : List (Nat × TypeId × Array Value)} {rest : List Oper} {dst : Option Tmp} {ty : TypeId} {pos : String} {aft : Array Edge} {gd : Option (Nat × Bool)} {x y : Operand}
theorem HA.app {q m : Nat} {l n l' : List UInt8} (H : HA w0 L w) (i : Nat) (hi : L[i]? = some (q, 5, bc l)) (hroom : m + n.length ≤ l.length) (he : laidOn l m n = l') : HA w0 (L.set i (q, 5, bc l')) (w.setCells q m (n.map by8)) := by
  have := H.part i hi (o := m) (vs := n.map by8) (by rw [List.length_map, bc_size]; exact hroom)
  rw [laid_bc, he] at this
  exact this
theorem wl_app {q r m c j c2 : Nat} {l n l' : List UInt8} (H : HA w0 L w) (i i' : Nat) (hi : L[i]? = some (q, 5, bc l)) (hi' : L[i']? = some (r, 5, bc n))
    (hw : Region.wanted ⟨dst, .call { callee := .builtin .append, args := #[x, y], argTypes := #[75, 75] }, ty, pos, aft, gd⟩ (yielded ops a.tmps) = true)
    (hx : a.eval x = .slice (some ⟨q, 0, none⟩) m c) (hy : a.eval y = .slice (some ⟨r, 0, none⟩) j c2) (hj : n.length = j) (hroom : m + j ≤ c) (hl : l.length = c) (he : laidOn l m n = l')
    (h : ∀ w', HA w0 (L.set i (q, 5, bc l')) w' → WL Tryz.prog ops Q rest (a.put dst (.slice (some ⟨q, 0, none⟩) (m + j) c)) w') :
    WL Tryz.prog ops Q (⟨dst, .call { callee := .builtin .append, args := #[x, y], argTypes := #[75, 75] }, ty, pos, aft, gd⟩ :: rest) a w := by
  refine ⟨?_⟩
  unfold wpList
  rw [if_pos hw]
  refine .inl ?_
  unfold Oper.wp
  rw [run_app hx hy (H.get i hi) (H.get i' hi') hj hroom hl]
  exact (h _ (H.app i hi (by omega) he)).out
theorem wl_mks {o : Oper} {n m : Nat} {c : Array Value} (H : HA w0 L w) (t : TypeId) (hw : Region.wanted o (yielded ops a.tmps) = true) (hr : (execOp a.eval o).run Tryz.prog w = .ok (.value (.slice (some ⟨w.heap.size, 0, none⟩) n m)) (w.alloc (.cells c t)))
    (h : ∀ q w', HA w0 ((q, t, c) :: L) w' → WL Tryz.prog ops Q rest (a.put o.dst (.slice (some ⟨q, 0, none⟩) n m)) w') : WL Tryz.prog ops Q (o :: rest) a w := by
  refine ⟨?_⟩
  unfold wpList
  rw [if_pos hw]
  refine .inl ?_
  unfold Oper.wp
  rw [hr]
  exact (h _ _ (H.make t c)).out
end
theorem padb_len (l : List UInt8) (m : Nat) : (l ++ List.replicate m 0).length = l.length + m := by simp
theorem app_pad (l : List UInt8) (m c : Nat) (e : UInt8) (hl : l.length = m) (hm : m < c) : laidOn (l ++ List.replicate (c - m) 0) m [e] = (l ++ [e]) ++ List.replicate (c - (m + 1)) 0 := by
  subst hl
  unfold laidOn
  rw [List.take_left, List.length_cons, List.length_nil, List.drop_append, List.drop_eq_nil_of_le (by omega), List.nil_append, show l.length + (0 + 1) - l.length = 1 by omega, List.drop_replicate]
  rfl
/-! HU -/
theorem bl_extract (t : ByteArray) (a b : Nat) : bl (t.extract a b) = ((bl t).drop a).take (b - a) := by
  unfold bl
  rw [ByteArray.data_extract, Array.toList_extract, List.extract_eq_take_drop]
theorem bl_inj {s t : ByteArray} (h : bl s = bl t) : s = t := by
  cases s; cases t
  congr 1
  exact Array.toList_inj.1 h
/-! MA -/
section
variable {ρ : Operand → Value} {x y z u : Operand} {w : World} {dst : Option Tmp} {T T2 ty : TypeId} {pos : String} {aft : Array Edge} {gd : Option (Nat × Bool)} {q : Nat}
theorem run_textg {m c : Nat} {t : TypeId} {l : List UInt8} (hx : ρ x = .slice (some ⟨q, 0, none⟩) m c) (h : Blk w q t (bc l)) (hm : m ≤ l.length) :
    (execOp ρ ⟨dst, .convert 75 9 x, ty, pos, aft, gd⟩).run Tryz.prog w = .ok (.value (.string ⟨(l.take m).toArray⟩)) w := by
  have e0 : (l.take m).length = m := by rw [List.length_take]; omega
  have e := run_convert_bytes_back (P := Tryz.prog) w 75 9 5 ⟨q, 0, none⟩ c (l.take m) Tryz.underlying75 Tryz.underlying5 Tryz.underlying9 (fun j hj => by
    have hadd : (⟨q, 0, none⟩ : Addr).add j = ⟨q, j, none⟩ := by unfold Addr.add; split <;> simp_all
    rw [e0] at hj
    rw [hadd, h.cell j, bc_get l j (by omega), List.getElem_take, List.getD_eq_getElem?_getD, List.getElem?_eq_getElem (by omega)]
    rfl)
  rw [e0] at e
  simp only [execOp, hx, Sem.run_bind, e, Result.andThen_ok, Sem.run_pure]
end
/-! AO -/
section
variable {ρ : Operand → Value} {x y z u : Operand} {w : World} {dst : Option Tmp} {T T2 ty : TypeId} {pos : String} {aft : Array Edge} {gd : Option (Nat × Bool)} {q : Nat} {k : IntKind} {c : Array Value}
theorem run_cut2 {s : ByteArray} {a b : Nat} (hx : ρ x = .string s) (hz : ρ z = iN .i64 a) (hy : ρ y = iN .i64 b) (ha : a ≤ b) (hb : b ≤ s.size) : (execOp ρ ⟨dst, .slice 9 x (some z) (some y) none, ty, pos, aft, gd⟩).run Tryz.prog w = .ok (.value (.string (s.extract a b))) w := by
  simp only [execOp, hx, Option.map, hy, hz, iN]
  go_simp
end
/-! changes of a whole block, or of a part of it, in a drawn region -/
/-! rows that are filled from the front -/
/-! A9 -/
section
variable {ρ : Operand → Value} {x y : Operand} {w : World} {dst : Option Tmp} {T T2 ty : TypeId} {pos : String} {aft : Array Edge} {gd : Option (Nat × Bool)} {k : IntKind} {a b : Nat} {P : Program}
theorem run_geq (hx : ρ x = iN k a) (hy : ρ y = iN k b) (t : Bool) (ht : decide (b ≤ a) = t) : (execOp ρ ⟨dst, .binOp .geq T x y T2, ty, pos, aft, gd⟩).run P w = .ok (.value (.bool t)) w := by
  subst ht
  simp only [execOp, hx, hy, iN]
  simp [binOp, go_sem]
end
/-! Aa -/
section
variable {ops : Array Oper} {Q : Exit → Act → World → Prop} {a : Act} {w : World} {w0 : Base} {L : List (Nat × TypeId × Array Value)} {rest : List Oper} {dst : Option Tmp} {ty : TypeId} {pos : String} {aft : Array Edge} {gd : Option (Nat × Bool)} {x y : Operand}
theorem wl_apps {q m c : Nat} {l l' : List UInt8} {s : ByteArray} (H : HA w0 L w) (i : Nat) (hi : L[i]? = some (q, 5, bc l))
    (hw : Region.wanted ⟨dst, .call { callee := .builtin .append, args := #[x, y], argTypes := #[75, 9] }, ty, pos, aft, gd⟩ (yielded ops a.tmps) = true)
    (hx : a.eval x = .slice (some ⟨q, 0, none⟩) m c) (hy : a.eval y = .string s) (hroom : m + s.size ≤ c) (hl : l.length = c) (he : laidOn l m (bl s) = l')
    (h : ∀ w', HA w0 (L.set i (q, 5, bc l')) w' → WL Tryz.prog ops Q rest (a.put dst (.slice (some ⟨q, 0, none⟩) (m + s.size) c)) w') :
    WL Tryz.prog ops Q (⟨dst, .call { callee := .builtin .append, args := #[x, y], argTypes := #[75, 9] }, ty, pos, aft, gd⟩ :: rest) a w := by
  refine ⟨?_⟩
  unfold wpList
  rw [if_pos hw]
  refine .inl ?_
  unfold Oper.wp
  rw [run_apps hx hy (H.get i hi) hroom hl]
  have hp := H.part i hi (o := m) (vs := (bl s).map by8) (by rw [List.length_map, bc_size, bl_len]; show m + s.size ≤ l.length; omega)
  rw [laid_bc, he] at hp
  exact (h _ hp).out
end
theorem laid_first (n : List UInt8) (m : Nat) : laidOn (List.replicate (n.length + m) 0) 0 n = n ++ List.replicate m 0 := by
  unfold laidOn
  rw [List.take_zero, List.nil_append, Nat.zero_add, List.drop_replicate]
  congr 2
  omega
theorem takepad {l r : List UInt8} {m : Nat} (h : l.length = m) : (l ++ r).take m = l := by subst h; exact List.take_left
def p4 (s : ByteArray) (n : Nat) : List UInt8 := (((bl s ++ [UInt8.ofNat (n / 2 ^ 24)]) ++ [UInt8.ofNat (n / 2 ^ 16)]) ++ [UInt8.ofNat (n / 2 ^ 8)]) ++ [UInt8.ofNat (n / 2 ^ 0)]
def putS (s : ByteArray) (n : Nat) : ByteArray := ⟨(p4 s n).toArray⟩
theorem p4_len (s : ByteArray) (n : Nat) : (p4 s n).length = s.size + 4 := by unfold p4; simp only [List.length_append, List.length_singleton, bl_len]
theorem pl1 (s : ByteArray) (n : Nat) : ((bl s) ++ [UInt8.ofNat (n / 2 ^ 24)]).length = s.size + 1 := by rw [List.length_append, bl_len]; rfl
theorem pl2 (s : ByteArray) (n : Nat) : (((bl s) ++ [UInt8.ofNat (n / 2 ^ 24)]) ++ [UInt8.ofNat (n / 2 ^ 16)]).length = s.size + 2 := by rw [List.length_append, pl1]; rfl
theorem pl3 (s : ByteArray) (n : Nat) : ((((bl s) ++ [UInt8.ofNat (n / 2 ^ 24)]) ++ [UInt8.ofNat (n / 2 ^ 16)]) ++ [UInt8.ofNat (n / 2 ^ 8)]).length = s.size + 3 := by rw [List.length_append, pl2]; rfl
theorem pl4 (s : ByteArray) (n : Nat) : (((((bl s) ++ [UInt8.ofNat (n / 2 ^ 24)]) ++ [UInt8.ofNat (n / 2 ^ 16)]) ++ [UInt8.ofNat (n / 2 ^ 8)]) ++ [UInt8.ofNat (n / 2 ^ 0)]).length = s.size + 4 := by rw [List.length_append, pl3]; rfl
theorem pb_len {l : List UInt8} {m c : Nat} (h : l.length = m) (hm : m ≤ c) : (l ++ List.replicate (c - m) 0).length = c := by rw [padb_len, h]; omega

set_option linter.unusedVariables false in
set_option maxRecDepth 100000 in
set_option maxHeartbeats 2000000 in
theorem PutNumber_4 (s : ByteArray) (n : Nat) (hs : s.size ≤ 1000) (hn : n < 18446744073709551616) (w : World) :
    Calls Tryz.prog 75 #[.string s, iN .i64 4, iN .u64 n] w fun e w' => e = .returned (.string (putS s n)) ∧ Below w.heap.size w w' := by
  have H0 := HA.start w
  go_enter Tryz.func75, Tryz.ntmps75
  refine wp_seq (wl_region ?_)
  refine zv (.string { data := #[] }) ?_
  refine wl_nil ?_
  refine then_at (F := ⟨(.string s :: iN .i64 4 :: iN .u64 n :: un :: un :: un :: .string { data := #[] } :: List.replicate 30 un).toArray, []⟩) ky ?_
  refine wp_seq (wl_region ?_)
  refine zv (iN .i64 4) ?_
  refine zv (iN .i64 4) ?_
  refine zv (iN .i64 4) ?_
  refine zv (iN .i64 4) ?_
  refine wl_nil ?_
  refine then_at (F := ⟨(.string s :: iN .i64 4 :: iN .u64 n :: un :: un :: un :: .string { data := #[] } :: iN .i64 4 :: un :: un :: iN .i64 4 :: iN .i64 4 :: iN .i64 4 :: List.replicate 24 un).toArray, []⟩) ky ?_
  refine wp_seq (wl_region ?_)
  refine zv (.string s) ?_
  refine zu (iN .i64 s.size) (run_len (s := s) ky) ?_
  refine zv (iN .i64 4) ?_
  refine zu (iN .i64 (s.size + 4)) (run_add (k := .i64) (a := s.size) (b := 4) ky ky (by simp only [top]; omega)) ?_
  refine wl_mks (n := 0) (m := s.size + 4) H0 5 ky (run_mk (k := .i64) (m := 0) (c := s.size + 4) ky ky (by omega) (by omega)) ?_
  intro q1 w2 h3
  refine zv (.slice (some ⟨q1, 0, none⟩) 0 (s.size + 4)) ?_
  refine wl_nil ?_
  refine then_at (F := ⟨(.string s :: iN .i64 4 :: iN .u64 n :: un :: un :: un :: .string { data := #[] } :: iN .i64 4 :: .slice (some ⟨q1, 0, none⟩) 0 (s.size + 4) :: un :: iN .i64 4 :: iN .i64 4 :: iN .i64 4 :: .string s :: iN .i64 s.size :: iN .i64 4 :: iN .i64 (s.size + 4) :: .slice (some ⟨q1, 0, none⟩) 0 (s.size + 4) :: List.replicate 19 un).toArray, []⟩) ky ?_
  refine wp_seq (wl_region ?_)
  refine zv (.slice (some ⟨q1, 0, none⟩) 0 (s.size + 4)) ?_
  refine zv (.string s) ?_
  refine wl_apps (q := q1) (m := 0) (c := s.size + 4) (l := List.replicate (s.size + 4) 0) (l' := (bl s) ++ List.replicate (s.size + 4 - (0 + s.size)) 0) (s := s) h3 0 rfl ky ky ky (by omega) List.length_replicate (by rw [show s.size + 4 = (bl s).length + 4 by rw [bl_len], laid_first, bl_len]; congr 2; omega) ?_
  intro w4 (h5 : HA (bs w) [(q1, 5, bc ((bl s) ++ List.replicate (s.size + 4 - (0 + s.size)) 0))] w4)
  refine zv (.slice (some ⟨q1, 0, none⟩) (0 + s.size) (s.size + 4)) ?_
  refine wl_nil ?_
  refine then_at (F := ⟨(.string s :: iN .i64 4 :: iN .u64 n :: un :: un :: un :: .string { data := #[] } :: iN .i64 4 :: .slice (some ⟨q1, 0, none⟩) (0 + s.size) (s.size + 4) :: un :: iN .i64 4 :: iN .i64 4 :: iN .i64 4 :: .string s :: iN .i64 s.size :: iN .i64 4 :: iN .i64 (s.size + 4) :: .slice (some ⟨q1, 0, none⟩) 0 (s.size + 4) :: .slice (some ⟨q1, 0, none⟩) 0 (s.size + 4) :: .string s :: .slice (some ⟨q1, 0, none⟩) (0 + s.size) (s.size + 4) :: List.replicate 16 un).toArray, []⟩) ky ?_
  refine wp_seq (wp_seq (wl_region ?_))
  refine zv (iN .i64 4) ?_
  refine zv (iN .i64 3) ?_
  refine zv (iN .i64 3) ?_
  refine wl_nil ?_
  refine then_at (F := ⟨(.string s :: iN .i64 4 :: iN .u64 n :: un :: un :: un :: .string { data := #[] } :: iN .i64 4 :: .slice (some ⟨q1, 0, none⟩) (0 + s.size) (s.size + 4) :: iN .i64 3 :: iN .i64 4 :: iN .i64 4 :: iN .i64 4 :: .string s :: iN .i64 s.size :: iN .i64 4 :: iN .i64 (s.size + 4) :: .slice (some ⟨q1, 0, none⟩) 0 (s.size + 4) :: .slice (some ⟨q1, 0, none⟩) 0 (s.size + 4) :: .string s :: .slice (some ⟨q1, 0, none⟩) (0 + s.size) (s.size + 4) :: iN .i64 4 :: iN .i64 3 :: List.replicate 14 un).toArray, []⟩) ky ?_
  refine wp_block ?_
  refine wp_loop_rounds 5 ?_
  try rw [rounds_succ]
  refine wp_seq (wp_seq (wl_region ?_))
  refine zv (iN .i64 3) ?_
  refine zv (.bool true) ?_
  refine wl_nil ?_
  refine then_at (F := ⟨(.string s :: iN .i64 4 :: iN .u64 n :: un :: un :: un :: .string { data := #[] } :: iN .i64 4 :: .slice (some ⟨q1, 0, none⟩) (0 + s.size) (s.size + 4) :: iN .i64 3 :: iN .i64 4 :: iN .i64 4 :: iN .i64 4 :: .string s :: iN .i64 s.size :: iN .i64 4 :: iN .i64 (s.size + 4) :: .slice (some ⟨q1, 0, none⟩) 0 (s.size + 4) :: .slice (some ⟨q1, 0, none⟩) 0 (s.size + 4) :: .string s :: .slice (some ⟨q1, 0, none⟩) (0 + s.size) (s.size + 4) :: iN .i64 4 :: iN .i64 3 :: iN .i64 3 :: .bool true :: List.replicate 12 un).toArray, []⟩) ky ?_
  refine wp_cond_true ky ?_
  refine wp_skip ?_
  refine then_at (F := ⟨(.string s :: iN .i64 4 :: iN .u64 n :: un :: un :: un :: .string { data := #[] } :: iN .i64 4 :: .slice (some ⟨q1, 0, none⟩) (0 + s.size) (s.size + 4) :: iN .i64 3 :: iN .i64 4 :: iN .i64 4 :: iN .i64 4 :: .string s :: iN .i64 s.size :: iN .i64 4 :: iN .i64 (s.size + 4) :: .slice (some ⟨q1, 0, none⟩) 0 (s.size + 4) :: .slice (some ⟨q1, 0, none⟩) 0 (s.size + 4) :: .string s :: .slice (some ⟨q1, 0, none⟩) (0 + s.size) (s.size + 4) :: iN .i64 4 :: iN .i64 3 :: iN .i64 3 :: .bool true :: List.replicate 12 un).toArray, []⟩) ky ?_
  refine wp_seq (wp_block (wl_region ?_))
  refine zv (.slice (some ⟨q1, 0, none⟩) (0 + s.size) (s.size + 4)) ?_
  refine zv (iN .u64 n) ?_
  refine zv (iN .i64 3) ?_
  refine zu (iN .i64 24) (run_mul (k := .i64) (a := 8) (b := 3) ky ky (by decide)) ?_
  refine zu (iN .u64 (n / 2 ^ 24)) (run_shrn (k2 := .i64) (a := n) (b := 24) hn ky ky) ?_
  refine zu (by8 (UInt8.ofNat (n / 2 ^ 24))) (run_lown (a := n / 2 ^ 24) ky Tryz.underlying95 Tryz.underlying5) ?_
  refine wl_mks (n := 1) (m := 1) h5 5 ky (run_build1 (u := UInt8.ofNat (n / 2 ^ 24)) ky) ?_
  intro q6 w7 h8
  refine wl_app (q := q1) (r := q6) (m := 0 + s.size) (c := s.size + 4) (j := 1) (c2 := 1) (l := (bl s) ++ List.replicate (s.size + 4 - (0 + s.size)) 0) (n := [UInt8.ofNat (n / 2 ^ 24)]) (l' := ((bl s) ++ [UInt8.ofNat (n / 2 ^ 24)]) ++ List.replicate (s.size + 4 - (0 + s.size + 1)) 0) h8 1 0 rfl rfl ky ky ky rfl (by omega) (pb_len (m := 0 + s.size) (c := s.size + 4) ((bl_len s).trans (by omega)) (by omega)) (app_pad (bl s) (0 + s.size) (s.size + 4) _ ((bl_len s).trans (by omega)) (by omega)) ?_
  intro w9 (h10 : HA (bs w) [(q6, 5, bc ([UInt8.ofNat (n / 2 ^ 24)])), (q1, 5, bc (((bl s) ++ [UInt8.ofNat (n / 2 ^ 24)]) ++ List.replicate (s.size + 4 - (0 + s.size + 1)) 0))] w9)
  have h11 : HA (bs w) [(q1, 5, bc (((bl s) ++ [UInt8.ofNat (n / 2 ^ 24)]) ++ List.replicate (s.size + 4 - (0 + s.size + 1)) 0))] w9 := h10.tl
  clear h10
  refine zv (.slice (some ⟨q1, 0, none⟩) (0 + s.size + 1) (s.size + 4)) ?_
  refine wl_nil (block_normal ?_)
  refine then_at (F := ⟨(.string s :: iN .i64 4 :: iN .u64 n :: un :: un :: un :: .string { data := #[] } :: iN .i64 4 :: .slice (some ⟨q1, 0, none⟩) (0 + s.size + 1) (s.size + 4) :: iN .i64 3 :: iN .i64 4 :: iN .i64 4 :: iN .i64 4 :: .string s :: iN .i64 s.size :: iN .i64 4 :: iN .i64 (s.size + 4) :: .slice (some ⟨q1, 0, none⟩) 0 (s.size + 4) :: .slice (some ⟨q1, 0, none⟩) 0 (s.size + 4) :: .string s :: .slice (some ⟨q1, 0, none⟩) (0 + s.size) (s.size + 4) :: iN .i64 4 :: iN .i64 3 :: iN .i64 3 :: .bool true :: un :: un :: .slice (some ⟨q1, 0, none⟩) (0 + s.size) (s.size + 4) :: iN .u64 n :: iN .i64 3 :: iN .i64 24 :: iN .u64 (n / 2 ^ 24) :: by8 (UInt8.ofNat (n / 2 ^ 24)) :: .slice (some ⟨q6, 0, none⟩) 1 1 :: .slice (some ⟨q1, 0, none⟩) (0 + s.size + 1) (s.size + 4) :: List.replicate 2 un).toArray, []⟩) ky ?_
  refine wl_region ?_
  refine zv (iN .i64 3) ?_
  refine zv (iN .i64 2) ?_
  refine zv (iN .i64 2) ?_
  refine wl_nil ?_
  refine then_at (F := ⟨(.string s :: iN .i64 4 :: iN .u64 n :: un :: un :: un :: .string { data := #[] } :: iN .i64 4 :: .slice (some ⟨q1, 0, none⟩) (0 + s.size + 1) (s.size + 4) :: iN .i64 2 :: iN .i64 4 :: iN .i64 4 :: iN .i64 4 :: .string s :: iN .i64 s.size :: iN .i64 4 :: iN .i64 (s.size + 4) :: .slice (some ⟨q1, 0, none⟩) 0 (s.size + 4) :: .slice (some ⟨q1, 0, none⟩) 0 (s.size + 4) :: .string s :: .slice (some ⟨q1, 0, none⟩) (0 + s.size) (s.size + 4) :: iN .i64 4 :: iN .i64 3 :: iN .i64 3 :: .bool true :: iN .i64 3 :: iN .i64 2 :: .slice (some ⟨q1, 0, none⟩) (0 + s.size) (s.size + 4) :: iN .u64 n :: iN .i64 3 :: iN .i64 24 :: iN .u64 (n / 2 ^ 24) :: by8 (UInt8.ofNat (n / 2 ^ 24)) :: .slice (some ⟨q6, 0, none⟩) 1 1 :: .slice (some ⟨q1, 0, none⟩) (0 + s.size + 1) (s.size + 4) :: List.replicate 2 un).toArray, []⟩) ky ?_
  try rw [rounds_succ]
  refine wp_seq (wp_seq (wl_region ?_))
  refine zv (iN .i64 2) ?_
  refine zv (.bool true) ?_
  refine wl_nil ?_
  refine then_at (F := ⟨(.string s :: iN .i64 4 :: iN .u64 n :: un :: un :: un :: .string { data := #[] } :: iN .i64 4 :: .slice (some ⟨q1, 0, none⟩) (0 + s.size + 1) (s.size + 4) :: iN .i64 2 :: iN .i64 4 :: iN .i64 4 :: iN .i64 4 :: .string s :: iN .i64 s.size :: iN .i64 4 :: iN .i64 (s.size + 4) :: .slice (some ⟨q1, 0, none⟩) 0 (s.size + 4) :: .slice (some ⟨q1, 0, none⟩) 0 (s.size + 4) :: .string s :: .slice (some ⟨q1, 0, none⟩) (0 + s.size) (s.size + 4) :: iN .i64 4 :: iN .i64 3 :: iN .i64 2 :: .bool true :: iN .i64 3 :: iN .i64 2 :: .slice (some ⟨q1, 0, none⟩) (0 + s.size) (s.size + 4) :: iN .u64 n :: iN .i64 3 :: iN .i64 24 :: iN .u64 (n / 2 ^ 24) :: by8 (UInt8.ofNat (n / 2 ^ 24)) :: .slice (some ⟨q6, 0, none⟩) 1 1 :: .slice (some ⟨q1, 0, none⟩) (0 + s.size + 1) (s.size + 4) :: List.replicate 2 un).toArray, []⟩) ky ?_
  refine wp_cond_true ky ?_
  refine wp_skip ?_
  refine then_at (F := ⟨(.string s :: iN .i64 4 :: iN .u64 n :: un :: un :: un :: .string { data := #[] } :: iN .i64 4 :: .slice (some ⟨q1, 0, none⟩) (0 + s.size + 1) (s.size + 4) :: iN .i64 2 :: iN .i64 4 :: iN .i64 4 :: iN .i64 4 :: .string s :: iN .i64 s.size :: iN .i64 4 :: iN .i64 (s.size + 4) :: .slice (some ⟨q1, 0, none⟩) 0 (s.size + 4) :: .slice (some ⟨q1, 0, none⟩) 0 (s.size + 4) :: .string s :: .slice (some ⟨q1, 0, none⟩) (0 + s.size) (s.size + 4) :: iN .i64 4 :: iN .i64 3 :: iN .i64 2 :: .bool true :: iN .i64 3 :: iN .i64 2 :: .slice (some ⟨q1, 0, none⟩) (0 + s.size) (s.size + 4) :: iN .u64 n :: iN .i64 3 :: iN .i64 24 :: iN .u64 (n / 2 ^ 24) :: by8 (UInt8.ofNat (n / 2 ^ 24)) :: .slice (some ⟨q6, 0, none⟩) 1 1 :: .slice (some ⟨q1, 0, none⟩) (0 + s.size + 1) (s.size + 4) :: List.replicate 2 un).toArray, []⟩) ky ?_
  refine wp_seq (wp_block (wl_region ?_))
  refine zv (.slice (some ⟨q1, 0, none⟩) (0 + s.size + 1) (s.size + 4)) ?_
  refine zv (iN .u64 n) ?_
  refine zv (iN .i64 2) ?_
  refine zu (iN .i64 16) (run_mul (k := .i64) (a := 8) (b := 2) ky ky (by decide)) ?_
  refine zu (iN .u64 (n / 2 ^ 16)) (run_shrn (k2 := .i64) (a := n) (b := 16) hn ky ky) ?_
  refine zu (by8 (UInt8.ofNat (n / 2 ^ 16))) (run_lown (a := n / 2 ^ 16) ky Tryz.underlying95 Tryz.underlying5) ?_
  refine wl_mks (n := 1) (m := 1) h11 5 ky (run_build1 (u := UInt8.ofNat (n / 2 ^ 16)) ky) ?_
  intro q12 w13 h14
  refine wl_app (q := q1) (r := q12) (m := 0 + s.size + 1) (c := s.size + 4) (j := 1) (c2 := 1) (l := ((bl s) ++ [UInt8.ofNat (n / 2 ^ 24)]) ++ List.replicate (s.size + 4 - (0 + s.size + 1)) 0) (n := [UInt8.ofNat (n / 2 ^ 16)]) (l' := (((bl s) ++ [UInt8.ofNat (n / 2 ^ 24)]) ++ [UInt8.ofNat (n / 2 ^ 16)]) ++ List.replicate (s.size + 4 - (0 + s.size + 1 + 1)) 0) h14 1 0 rfl rfl ky ky ky rfl (by omega) (pb_len (m := 0 + s.size + 1) (c := s.size + 4) (((pl1 s n)).trans (by omega)) (by omega)) (app_pad ((bl s) ++ [UInt8.ofNat (n / 2 ^ 24)]) (0 + s.size + 1) (s.size + 4) _ (((pl1 s n)).trans (by omega)) (by omega)) ?_
  intro w15 (h16 : HA (bs w) [(q12, 5, bc ([UInt8.ofNat (n / 2 ^ 16)])), (q1, 5, bc ((((bl s) ++ [UInt8.ofNat (n / 2 ^ 24)]) ++ [UInt8.ofNat (n / 2 ^ 16)]) ++ List.replicate (s.size + 4 - (0 + s.size + 1 + 1)) 0))] w15)
  have h17 : HA (bs w) [(q1, 5, bc ((((bl s) ++ [UInt8.ofNat (n / 2 ^ 24)]) ++ [UInt8.ofNat (n / 2 ^ 16)]) ++ List.replicate (s.size + 4 - (0 + s.size + 1 + 1)) 0))] w15 := h16.tl
  clear h16
  refine zv (.slice (some ⟨q1, 0, none⟩) (0 + s.size + 1 + 1) (s.size + 4)) ?_
  refine wl_nil (block_normal ?_)
  refine then_at (F := ⟨(.string s :: iN .i64 4 :: iN .u64 n :: un :: un :: un :: .string { data := #[] } :: iN .i64 4 :: .slice (some ⟨q1, 0, none⟩) (0 + s.size + 1 + 1) (s.size + 4) :: iN .i64 2 :: iN .i64 4 :: iN .i64 4 :: iN .i64 4 :: .string s :: iN .i64 s.size :: iN .i64 4 :: iN .i64 (s.size + 4) :: .slice (some ⟨q1, 0, none⟩) 0 (s.size + 4) :: .slice (some ⟨q1, 0, none⟩) 0 (s.size + 4) :: .string s :: .slice (some ⟨q1, 0, none⟩) (0 + s.size) (s.size + 4) :: iN .i64 4 :: iN .i64 3 :: iN .i64 2 :: .bool true :: iN .i64 3 :: iN .i64 2 :: .slice (some ⟨q1, 0, none⟩) (0 + s.size + 1) (s.size + 4) :: iN .u64 n :: iN .i64 2 :: iN .i64 16 :: iN .u64 (n / 2 ^ 16) :: by8 (UInt8.ofNat (n / 2 ^ 16)) :: .slice (some ⟨q12, 0, none⟩) 1 1 :: .slice (some ⟨q1, 0, none⟩) (0 + s.size + 1 + 1) (s.size + 4) :: List.replicate 2 un).toArray, []⟩) ky ?_
  refine wl_region ?_
  refine zv (iN .i64 2) ?_
  refine zv (iN .i64 1) ?_
  refine zv (iN .i64 1) ?_
  refine wl_nil ?_
  refine then_at (F := ⟨(.string s :: iN .i64 4 :: iN .u64 n :: un :: un :: un :: .string { data := #[] } :: iN .i64 4 :: .slice (some ⟨q1, 0, none⟩) (0 + s.size + 1 + 1) (s.size + 4) :: iN .i64 1 :: iN .i64 4 :: iN .i64 4 :: iN .i64 4 :: .string s :: iN .i64 s.size :: iN .i64 4 :: iN .i64 (s.size + 4) :: .slice (some ⟨q1, 0, none⟩) 0 (s.size + 4) :: .slice (some ⟨q1, 0, none⟩) 0 (s.size + 4) :: .string s :: .slice (some ⟨q1, 0, none⟩) (0 + s.size) (s.size + 4) :: iN .i64 4 :: iN .i64 3 :: iN .i64 2 :: .bool true :: iN .i64 2 :: iN .i64 1 :: .slice (some ⟨q1, 0, none⟩) (0 + s.size + 1) (s.size + 4) :: iN .u64 n :: iN .i64 2 :: iN .i64 16 :: iN .u64 (n / 2 ^ 16) :: by8 (UInt8.ofNat (n / 2 ^ 16)) :: .slice (some ⟨q12, 0, none⟩) 1 1 :: .slice (some ⟨q1, 0, none⟩) (0 + s.size + 1 + 1) (s.size + 4) :: List.replicate 2 un).toArray, []⟩) ky ?_
  try rw [rounds_succ]
  refine wp_seq (wp_seq (wl_region ?_))
  refine zv (iN .i64 1) ?_
  refine zv (.bool true) ?_
  refine wl_nil ?_
  refine then_at (F := ⟨(.string s :: iN .i64 4 :: iN .u64 n :: un :: un :: un :: .string { data := #[] } :: iN .i64 4 :: .slice (some ⟨q1, 0, none⟩) (0 + s.size + 1 + 1) (s.size + 4) :: iN .i64 1 :: iN .i64 4 :: iN .i64 4 :: iN .i64 4 :: .string s :: iN .i64 s.size :: iN .i64 4 :: iN .i64 (s.size + 4) :: .slice (some ⟨q1, 0, none⟩) 0 (s.size + 4) :: .slice (some ⟨q1, 0, none⟩) 0 (s.size + 4) :: .string s :: .slice (some ⟨q1, 0, none⟩) (0 + s.size) (s.size + 4) :: iN .i64 4 :: iN .i64 3 :: iN .i64 1 :: .bool true :: iN .i64 2 :: iN .i64 1 :: .slice (some ⟨q1, 0, none⟩) (0 + s.size + 1) (s.size + 4) :: iN .u64 n :: iN .i64 2 :: iN .i64 16 :: iN .u64 (n / 2 ^ 16) :: by8 (UInt8.ofNat (n / 2 ^ 16)) :: .slice (some ⟨q12, 0, none⟩) 1 1 :: .slice (some ⟨q1, 0, none⟩) (0 + s.size + 1 + 1) (s.size + 4) :: List.replicate 2 un).toArray, []⟩) ky ?_
  refine wp_cond_true ky ?_
  refine wp_skip ?_
  refine then_at (F := ⟨(.string s :: iN .i64 4 :: iN .u64 n :: un :: un :: un :: .string { data := #[] } :: iN .i64 4 :: .slice (some ⟨q1, 0, none⟩) (0 + s.size + 1 + 1) (s.size + 4) :: iN .i64 1 :: iN .i64 4 :: iN .i64 4 :: iN .i64 4 :: .string s :: iN .i64 s.size :: iN .i64 4 :: iN .i64 (s.size + 4) :: .slice (some ⟨q1, 0, none⟩) 0 (s.size + 4) :: .slice (some ⟨q1, 0, none⟩) 0 (s.size + 4) :: .string s :: .slice (some ⟨q1, 0, none⟩) (0 + s.size) (s.size + 4) :: iN .i64 4 :: iN .i64 3 :: iN .i64 1 :: .bool true :: iN .i64 2 :: iN .i64 1 :: .slice (some ⟨q1, 0, none⟩) (0 + s.size + 1) (s.size + 4) :: iN .u64 n :: iN .i64 2 :: iN .i64 16 :: iN .u64 (n / 2 ^ 16) :: by8 (UInt8.ofNat (n / 2 ^ 16)) :: .slice (some ⟨q12, 0, none⟩) 1 1 :: .slice (some ⟨q1, 0, none⟩) (0 + s.size + 1 + 1) (s.size + 4) :: List.replicate 2 un).toArray, []⟩) ky ?_
  refine wp_seq (wp_block (wl_region ?_))
  refine zv (.slice (some ⟨q1, 0, none⟩) (0 + s.size + 1 + 1) (s.size + 4)) ?_
  refine zv (iN .u64 n) ?_
  refine zv (iN .i64 1) ?_
  refine zu (iN .i64 8) (run_mul (k := .i64) (a := 8) (b := 1) ky ky (by decide)) ?_
  refine zu (iN .u64 (n / 2 ^ 8)) (run_shrn (k2 := .i64) (a := n) (b := 8) hn ky ky) ?_
  refine zu (by8 (UInt8.ofNat (n / 2 ^ 8))) (run_lown (a := n / 2 ^ 8) ky Tryz.underlying95 Tryz.underlying5) ?_
  refine wl_mks (n := 1) (m := 1) h17 5 ky (run_build1 (u := UInt8.ofNat (n / 2 ^ 8)) ky) ?_
  intro q18 w19 h20
  refine wl_app (q := q1) (r := q18) (m := 0 + s.size + 1 + 1) (c := s.size + 4) (j := 1) (c2 := 1) (l := (((bl s) ++ [UInt8.ofNat (n / 2 ^ 24)]) ++ [UInt8.ofNat (n / 2 ^ 16)]) ++ List.replicate (s.size + 4 - (0 + s.size + 1 + 1)) 0) (n := [UInt8.ofNat (n / 2 ^ 8)]) (l' := ((((bl s) ++ [UInt8.ofNat (n / 2 ^ 24)]) ++ [UInt8.ofNat (n / 2 ^ 16)]) ++ [UInt8.ofNat (n / 2 ^ 8)]) ++ List.replicate (s.size + 4 - (0 + s.size + 1 + 1 + 1)) 0) h20 1 0 rfl rfl ky ky ky rfl (by omega) (pb_len (m := 0 + s.size + 1 + 1) (c := s.size + 4) (((pl2 s n)).trans (by omega)) (by omega)) (app_pad (((bl s) ++ [UInt8.ofNat (n / 2 ^ 24)]) ++ [UInt8.ofNat (n / 2 ^ 16)]) (0 + s.size + 1 + 1) (s.size + 4) _ (((pl2 s n)).trans (by omega)) (by omega)) ?_
  intro w21 (h22 : HA (bs w) [(q18, 5, bc ([UInt8.ofNat (n / 2 ^ 8)])), (q1, 5, bc (((((bl s) ++ [UInt8.ofNat (n / 2 ^ 24)]) ++ [UInt8.ofNat (n / 2 ^ 16)]) ++ [UInt8.ofNat (n / 2 ^ 8)]) ++ List.replicate (s.size + 4 - (0 + s.size + 1 + 1 + 1)) 0))] w21)
  have h23 : HA (bs w) [(q1, 5, bc (((((bl s) ++ [UInt8.ofNat (n / 2 ^ 24)]) ++ [UInt8.ofNat (n / 2 ^ 16)]) ++ [UInt8.ofNat (n / 2 ^ 8)]) ++ List.replicate (s.size + 4 - (0 + s.size + 1 + 1 + 1)) 0))] w21 := h22.tl
  clear h22
  refine zv (.slice (some ⟨q1, 0, none⟩) (0 + s.size + 1 + 1 + 1) (s.size + 4)) ?_
  refine wl_nil (block_normal ?_)
  refine then_at (F := ⟨(.string s :: iN .i64 4 :: iN .u64 n :: un :: un :: un :: .string { data := #[] } :: iN .i64 4 :: .slice (some ⟨q1, 0, none⟩) (0 + s.size + 1 + 1 + 1) (s.size + 4) :: iN .i64 1 :: iN .i64 4 :: iN .i64 4 :: iN .i64 4 :: .string s :: iN .i64 s.size :: iN .i64 4 :: iN .i64 (s.size + 4) :: .slice (some ⟨q1, 0, none⟩) 0 (s.size + 4) :: .slice (some ⟨q1, 0, none⟩) 0 (s.size + 4) :: .string s :: .slice (some ⟨q1, 0, none⟩) (0 + s.size) (s.size + 4) :: iN .i64 4 :: iN .i64 3 :: iN .i64 1 :: .bool true :: iN .i64 2 :: iN .i64 1 :: .slice (some ⟨q1, 0, none⟩) (0 + s.size + 1 + 1) (s.size + 4) :: iN .u64 n :: iN .i64 1 :: iN .i64 8 :: iN .u64 (n / 2 ^ 8) :: by8 (UInt8.ofNat (n / 2 ^ 8)) :: .slice (some ⟨q18, 0, none⟩) 1 1 :: .slice (some ⟨q1, 0, none⟩) (0 + s.size + 1 + 1 + 1) (s.size + 4) :: List.replicate 2 un).toArray, []⟩) ky ?_
  refine wl_region ?_
  refine zv (iN .i64 1) ?_
  refine zv (iN .i64 0) ?_
  refine zv (iN .i64 0) ?_
  refine wl_nil ?_
  refine then_at (F := ⟨(.string s :: iN .i64 4 :: iN .u64 n :: un :: un :: un :: .string { data := #[] } :: iN .i64 4 :: .slice (some ⟨q1, 0, none⟩) (0 + s.size + 1 + 1 + 1) (s.size + 4) :: iN .i64 0 :: iN .i64 4 :: iN .i64 4 :: iN .i64 4 :: .string s :: iN .i64 s.size :: iN .i64 4 :: iN .i64 (s.size + 4) :: .slice (some ⟨q1, 0, none⟩) 0 (s.size + 4) :: .slice (some ⟨q1, 0, none⟩) 0 (s.size + 4) :: .string s :: .slice (some ⟨q1, 0, none⟩) (0 + s.size) (s.size + 4) :: iN .i64 4 :: iN .i64 3 :: iN .i64 1 :: .bool true :: iN .i64 1 :: iN .i64 0 :: .slice (some ⟨q1, 0, none⟩) (0 + s.size + 1 + 1) (s.size + 4) :: iN .u64 n :: iN .i64 1 :: iN .i64 8 :: iN .u64 (n / 2 ^ 8) :: by8 (UInt8.ofNat (n / 2 ^ 8)) :: .slice (some ⟨q18, 0, none⟩) 1 1 :: .slice (some ⟨q1, 0, none⟩) (0 + s.size + 1 + 1 + 1) (s.size + 4) :: List.replicate 2 un).toArray, []⟩) ky ?_
  try rw [rounds_succ]
  refine wp_seq (wp_seq (wl_region ?_))
  refine zv (iN .i64 0) ?_
  refine zv (.bool true) ?_
  refine wl_nil ?_
  refine then_at (F := ⟨(.string s :: iN .i64 4 :: iN .u64 n :: un :: un :: un :: .string { data := #[] } :: iN .i64 4 :: .slice (some ⟨q1, 0, none⟩) (0 + s.size + 1 + 1 + 1) (s.size + 4) :: iN .i64 0 :: iN .i64 4 :: iN .i64 4 :: iN .i64 4 :: .string s :: iN .i64 s.size :: iN .i64 4 :: iN .i64 (s.size + 4) :: .slice (some ⟨q1, 0, none⟩) 0 (s.size + 4) :: .slice (some ⟨q1, 0, none⟩) 0 (s.size + 4) :: .string s :: .slice (some ⟨q1, 0, none⟩) (0 + s.size) (s.size + 4) :: iN .i64 4 :: iN .i64 3 :: iN .i64 0 :: .bool true :: iN .i64 1 :: iN .i64 0 :: .slice (some ⟨q1, 0, none⟩) (0 + s.size + 1 + 1) (s.size + 4) :: iN .u64 n :: iN .i64 1 :: iN .i64 8 :: iN .u64 (n / 2 ^ 8) :: by8 (UInt8.ofNat (n / 2 ^ 8)) :: .slice (some ⟨q18, 0, none⟩) 1 1 :: .slice (some ⟨q1, 0, none⟩) (0 + s.size + 1 + 1 + 1) (s.size + 4) :: List.replicate 2 un).toArray, []⟩) ky ?_
  refine wp_cond_true ky ?_
  refine wp_skip ?_
  refine then_at (F := ⟨(.string s :: iN .i64 4 :: iN .u64 n :: un :: un :: un :: .string { data := #[] } :: iN .i64 4 :: .slice (some ⟨q1, 0, none⟩) (0 + s.size + 1 + 1 + 1) (s.size + 4) :: iN .i64 0 :: iN .i64 4 :: iN .i64 4 :: iN .i64 4 :: .string s :: iN .i64 s.size :: iN .i64 4 :: iN .i64 (s.size + 4) :: .slice (some ⟨q1, 0, none⟩) 0 (s.size + 4) :: .slice (some ⟨q1, 0, none⟩) 0 (s.size + 4) :: .string s :: .slice (some ⟨q1, 0, none⟩) (0 + s.size) (s.size + 4) :: iN .i64 4 :: iN .i64 3 :: iN .i64 0 :: .bool true :: iN .i64 1 :: iN .i64 0 :: .slice (some ⟨q1, 0, none⟩) (0 + s.size + 1 + 1) (s.size + 4) :: iN .u64 n :: iN .i64 1 :: iN .i64 8 :: iN .u64 (n / 2 ^ 8) :: by8 (UInt8.ofNat (n / 2 ^ 8)) :: .slice (some ⟨q18, 0, none⟩) 1 1 :: .slice (some ⟨q1, 0, none⟩) (0 + s.size + 1 + 1 + 1) (s.size + 4) :: List.replicate 2 un).toArray, []⟩) ky ?_
  refine wp_seq (wp_block (wl_region ?_))
  refine zv (.slice (some ⟨q1, 0, none⟩) (0 + s.size + 1 + 1 + 1) (s.size + 4)) ?_
  refine zv (iN .u64 n) ?_
  refine zv (iN .i64 0) ?_
  refine zu (iN .i64 0) (run_mul (k := .i64) (a := 8) (b := 0) ky ky (by decide)) ?_
  refine zu (iN .u64 (n / 2 ^ 0)) (run_shrn (k2 := .i64) (a := n) (b := 0) hn ky ky) ?_
  refine zu (by8 (UInt8.ofNat (n / 2 ^ 0))) (run_lown (a := n / 2 ^ 0) ky Tryz.underlying95 Tryz.underlying5) ?_
  refine wl_mks (n := 1) (m := 1) h23 5 ky (run_build1 (u := UInt8.ofNat (n / 2 ^ 0)) ky) ?_
  intro q24 w25 h26
  refine wl_app (q := q1) (r := q24) (m := 0 + s.size + 1 + 1 + 1) (c := s.size + 4) (j := 1) (c2 := 1) (l := ((((bl s) ++ [UInt8.ofNat (n / 2 ^ 24)]) ++ [UInt8.ofNat (n / 2 ^ 16)]) ++ [UInt8.ofNat (n / 2 ^ 8)]) ++ List.replicate (s.size + 4 - (0 + s.size + 1 + 1 + 1)) 0) (n := [UInt8.ofNat (n / 2 ^ 0)]) (l' := (((((bl s) ++ [UInt8.ofNat (n / 2 ^ 24)]) ++ [UInt8.ofNat (n / 2 ^ 16)]) ++ [UInt8.ofNat (n / 2 ^ 8)]) ++ [UInt8.ofNat (n / 2 ^ 0)]) ++ List.replicate (s.size + 4 - (0 + s.size + 1 + 1 + 1 + 1)) 0) h26 1 0 rfl rfl ky ky ky rfl (by omega) (pb_len (m := 0 + s.size + 1 + 1 + 1) (c := s.size + 4) (((pl3 s n)).trans (by omega)) (by omega)) (app_pad ((((bl s) ++ [UInt8.ofNat (n / 2 ^ 24)]) ++ [UInt8.ofNat (n / 2 ^ 16)]) ++ [UInt8.ofNat (n / 2 ^ 8)]) (0 + s.size + 1 + 1 + 1) (s.size + 4) _ (((pl3 s n)).trans (by omega)) (by omega)) ?_
  intro w27 (h28 : HA (bs w) [(q24, 5, bc ([UInt8.ofNat (n / 2 ^ 0)])), (q1, 5, bc ((((((bl s) ++ [UInt8.ofNat (n / 2 ^ 24)]) ++ [UInt8.ofNat (n / 2 ^ 16)]) ++ [UInt8.ofNat (n / 2 ^ 8)]) ++ [UInt8.ofNat (n / 2 ^ 0)]) ++ List.replicate (s.size + 4 - (0 + s.size + 1 + 1 + 1 + 1)) 0))] w27)
  have h29 : HA (bs w) [(q1, 5, bc ((((((bl s) ++ [UInt8.ofNat (n / 2 ^ 24)]) ++ [UInt8.ofNat (n / 2 ^ 16)]) ++ [UInt8.ofNat (n / 2 ^ 8)]) ++ [UInt8.ofNat (n / 2 ^ 0)]) ++ List.replicate (s.size + 4 - (0 + s.size + 1 + 1 + 1 + 1)) 0))] w27 := h28.tl
  clear h28
  refine zv (.slice (some ⟨q1, 0, none⟩) (0 + s.size + 1 + 1 + 1 + 1) (s.size + 4)) ?_
  refine wl_nil (block_normal ?_)
  refine then_at (F := ⟨(.string s :: iN .i64 4 :: iN .u64 n :: un :: un :: un :: .string { data := #[] } :: iN .i64 4 :: .slice (some ⟨q1, 0, none⟩) (0 + s.size + 1 + 1 + 1 + 1) (s.size + 4) :: iN .i64 0 :: iN .i64 4 :: iN .i64 4 :: iN .i64 4 :: .string s :: iN .i64 s.size :: iN .i64 4 :: iN .i64 (s.size + 4) :: .slice (some ⟨q1, 0, none⟩) 0 (s.size + 4) :: .slice (some ⟨q1, 0, none⟩) 0 (s.size + 4) :: .string s :: .slice (some ⟨q1, 0, none⟩) (0 + s.size) (s.size + 4) :: iN .i64 4 :: iN .i64 3 :: iN .i64 0 :: .bool true :: iN .i64 1 :: iN .i64 0 :: .slice (some ⟨q1, 0, none⟩) (0 + s.size + 1 + 1 + 1) (s.size + 4) :: iN .u64 n :: iN .i64 0 :: iN .i64 0 :: iN .u64 (n / 2 ^ 0) :: by8 (UInt8.ofNat (n / 2 ^ 0)) :: .slice (some ⟨q24, 0, none⟩) 1 1 :: .slice (some ⟨q1, 0, none⟩) (0 + s.size + 1 + 1 + 1 + 1) (s.size + 4) :: List.replicate 2 un).toArray, []⟩) ky ?_
  refine wl_region ?_
  refine zv (iN .i64 0) ?_
  refine zv (.int .i64 (-1)) ?_
  refine zv (.int .i64 (-1)) ?_
  refine wl_nil ?_
  refine then_at (F := ⟨(.string s :: iN .i64 4 :: iN .u64 n :: un :: un :: un :: .string { data := #[] } :: iN .i64 4 :: .slice (some ⟨q1, 0, none⟩) (0 + s.size + 1 + 1 + 1 + 1) (s.size + 4) :: .int .i64 (-1) :: iN .i64 4 :: iN .i64 4 :: iN .i64 4 :: .string s :: iN .i64 s.size :: iN .i64 4 :: iN .i64 (s.size + 4) :: .slice (some ⟨q1, 0, none⟩) 0 (s.size + 4) :: .slice (some ⟨q1, 0, none⟩) 0 (s.size + 4) :: .string s :: .slice (some ⟨q1, 0, none⟩) (0 + s.size) (s.size + 4) :: iN .i64 4 :: iN .i64 3 :: iN .i64 0 :: .bool true :: iN .i64 0 :: .int .i64 (-1) :: .slice (some ⟨q1, 0, none⟩) (0 + s.size + 1 + 1 + 1) (s.size + 4) :: iN .u64 n :: iN .i64 0 :: iN .i64 0 :: iN .u64 (n / 2 ^ 0) :: by8 (UInt8.ofNat (n / 2 ^ 0)) :: .slice (some ⟨q24, 0, none⟩) 1 1 :: .slice (some ⟨q1, 0, none⟩) (0 + s.size + 1 + 1 + 1 + 1) (s.size + 4) :: List.replicate 2 un).toArray, []⟩) ky ?_
  try rw [rounds_succ]
  refine wp_seq (wp_seq (wl_region ?_))
  refine zv (.int .i64 (-1)) ?_
  refine zv (.bool false) ?_
  refine wl_nil ?_
  refine then_at (F := ⟨(.string s :: iN .i64 4 :: iN .u64 n :: un :: un :: un :: .string { data := #[] } :: iN .i64 4 :: .slice (some ⟨q1, 0, none⟩) (0 + s.size + 1 + 1 + 1 + 1) (s.size + 4) :: .int .i64 (-1) :: iN .i64 4 :: iN .i64 4 :: iN .i64 4 :: .string s :: iN .i64 s.size :: iN .i64 4 :: iN .i64 (s.size + 4) :: .slice (some ⟨q1, 0, none⟩) 0 (s.size + 4) :: .slice (some ⟨q1, 0, none⟩) 0 (s.size + 4) :: .string s :: .slice (some ⟨q1, 0, none⟩) (0 + s.size) (s.size + 4) :: iN .i64 4 :: iN .i64 3 :: .int .i64 (-1) :: .bool false :: iN .i64 0 :: .int .i64 (-1) :: .slice (some ⟨q1, 0, none⟩) (0 + s.size + 1 + 1 + 1) (s.size + 4) :: iN .u64 n :: iN .i64 0 :: iN .i64 0 :: iN .u64 (n / 2 ^ 0) :: by8 (UInt8.ofNat (n / 2 ^ 0)) :: .slice (some ⟨q24, 0, none⟩) 1 1 :: .slice (some ⟨q1, 0, none⟩) (0 + s.size + 1 + 1 + 1 + 1) (s.size + 4) :: List.replicate 2 un).toArray, []⟩) ky ?_
  refine wp_cond_false ky ?_
  refine wp_exit ?_
  repeat first | refine then_exit ?_ | refine block_exit ?_ | refine block_exit_ne (by decide) ?_
  refine then_at (F := ⟨(.string s :: iN .i64 4 :: iN .u64 n :: un :: un :: un :: .string { data := #[] } :: iN .i64 4 :: .slice (some ⟨q1, 0, none⟩) (0 + s.size + 1 + 1 + 1 + 1) (s.size + 4) :: .int .i64 (-1) :: iN .i64 4 :: iN .i64 4 :: iN .i64 4 :: .string s :: iN .i64 s.size :: iN .i64 4 :: iN .i64 (s.size + 4) :: .slice (some ⟨q1, 0, none⟩) 0 (s.size + 4) :: .slice (some ⟨q1, 0, none⟩) 0 (s.size + 4) :: .string s :: .slice (some ⟨q1, 0, none⟩) (0 + s.size) (s.size + 4) :: iN .i64 4 :: iN .i64 3 :: .int .i64 (-1) :: .bool false :: iN .i64 0 :: .int .i64 (-1) :: .slice (some ⟨q1, 0, none⟩) (0 + s.size + 1 + 1 + 1) (s.size + 4) :: iN .u64 n :: iN .i64 0 :: iN .i64 0 :: iN .u64 (n / 2 ^ 0) :: by8 (UInt8.ofNat (n / 2 ^ 0)) :: .slice (some ⟨q24, 0, none⟩) 1 1 :: .slice (some ⟨q1, 0, none⟩) (0 + s.size + 1 + 1 + 1 + 1) (s.size + 4) :: List.replicate 2 un).toArray, []⟩) ky ?_
  refine wp_seq (wl_region ?_)
  refine zv (.slice (some ⟨q1, 0, none⟩) (0 + s.size + 1 + 1 + 1 + 1) (s.size + 4)) ?_
  refine zu (.string (⟨(((((((bl s) ++ [UInt8.ofNat (n / 2 ^ 24)]) ++ [UInt8.ofNat (n / 2 ^ 16)]) ++ [UInt8.ofNat (n / 2 ^ 8)]) ++ [UInt8.ofNat (n / 2 ^ 0)]) ++ List.replicate (s.size + 4 - (0 + s.size + 1 + 1 + 1 + 1)) 0).take (0 + s.size + 1 + 1 + 1 + 1)).toArray⟩)) (run_textg (q := q1) (m := 0 + s.size + 1 + 1 + 1 + 1) (c := s.size + 4) (l := (((((bl s) ++ [UInt8.ofNat (n / 2 ^ 24)]) ++ [UInt8.ofNat (n / 2 ^ 16)]) ++ [UInt8.ofNat (n / 2 ^ 8)]) ++ [UInt8.ofNat (n / 2 ^ 0)]) ++ List.replicate (s.size + 4 - (0 + s.size + 1 + 1 + 1 + 1)) 0) ky (h29.get 0 rfl) (by rw [(pb_len (m := 0 + s.size + 1 + 1 + 1 + 1) (c := s.size + 4) (((pl4 s n)).trans (by omega)) (by omega))]; omega)) ?_
  refine zv (.string (⟨(((((((bl s) ++ [UInt8.ofNat (n / 2 ^ 24)]) ++ [UInt8.ofNat (n / 2 ^ 16)]) ++ [UInt8.ofNat (n / 2 ^ 8)]) ++ [UInt8.ofNat (n / 2 ^ 0)]) ++ List.replicate (s.size + 4 - (0 + s.size + 1 + 1 + 1 + 1)) 0).take (0 + s.size + 1 + 1 + 1 + 1)).toArray⟩)) ?_
  refine wl_nil ?_
  refine then_at (F := ⟨(.string s :: iN .i64 4 :: iN .u64 n :: un :: un :: un :: .string (⟨(((((((bl s) ++ [UInt8.ofNat (n / 2 ^ 24)]) ++ [UInt8.ofNat (n / 2 ^ 16)]) ++ [UInt8.ofNat (n / 2 ^ 8)]) ++ [UInt8.ofNat (n / 2 ^ 0)]) ++ List.replicate (s.size + 4 - (0 + s.size + 1 + 1 + 1 + 1)) 0).take (0 + s.size + 1 + 1 + 1 + 1)).toArray⟩) :: iN .i64 4 :: .slice (some ⟨q1, 0, none⟩) (0 + s.size + 1 + 1 + 1 + 1) (s.size + 4) :: .int .i64 (-1) :: iN .i64 4 :: iN .i64 4 :: iN .i64 4 :: .string s :: iN .i64 s.size :: iN .i64 4 :: iN .i64 (s.size + 4) :: .slice (some ⟨q1, 0, none⟩) 0 (s.size + 4) :: .slice (some ⟨q1, 0, none⟩) 0 (s.size + 4) :: .string s :: .slice (some ⟨q1, 0, none⟩) (0 + s.size) (s.size + 4) :: iN .i64 4 :: iN .i64 3 :: .int .i64 (-1) :: .bool false :: iN .i64 0 :: .int .i64 (-1) :: .slice (some ⟨q1, 0, none⟩) (0 + s.size + 1 + 1 + 1) (s.size + 4) :: iN .u64 n :: iN .i64 0 :: iN .i64 0 :: iN .u64 (n / 2 ^ 0) :: by8 (UInt8.ofNat (n / 2 ^ 0)) :: .slice (some ⟨q24, 0, none⟩) 1 1 :: .slice (some ⟨q1, 0, none⟩) (0 + s.size + 1 + 1 + 1 + 1) (s.size + 4) :: .slice (some ⟨q1, 0, none⟩) (0 + s.size + 1 + 1 + 1 + 1) (s.size + 4) :: .string (⟨(((((((bl s) ++ [UInt8.ofNat (n / 2 ^ 24)]) ++ [UInt8.ofNat (n / 2 ^ 16)]) ++ [UInt8.ofNat (n / 2 ^ 8)]) ++ [UInt8.ofNat (n / 2 ^ 0)]) ++ List.replicate (s.size + 4 - (0 + s.size + 1 + 1 + 1 + 1)) 0).take (0 + s.size + 1 + 1 + 1 + 1)).toArray⟩) :: List.replicate 0 un).toArray, []⟩) ky ?_
  refine wp_ret ?_
  repeat first | refine then_ret ?_ | refine block_ret ?_
  exact bodyPost_ret (v := .string (⟨(((((((bl s) ++ [UInt8.ofNat (n / 2 ^ 24)]) ++ [UInt8.ofNat (n / 2 ^ 16)]) ++ [UInt8.ofNat (n / 2 ^ 8)]) ++ [UInt8.ofNat (n / 2 ^ 0)]) ++ List.replicate (s.size + 4 - (0 + s.size + 1 + 1 + 1 + 1)) 0).take (0 + s.size + 1 + 1 + 1 + 1)).toArray⟩)) ky rfl ⟨by rw [takepad ((pl4 s n).trans (by omega))]; rfl, h29.old.old⟩
end Go.Proofs.YtoogiblkommdfaaGreat
