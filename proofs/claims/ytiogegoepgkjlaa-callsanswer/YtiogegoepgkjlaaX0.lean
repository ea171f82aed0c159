/-
  A bundle; when it may be.
-/
import Derived.Test.YtiogegoepgkjlaaGE
import Derived.Test.YtiogegoepgkjlaaRS
import Derived.Test.YtiogegoepgkjlaaWR
set_option maxRecDepth 100000
namespace Go.Proofs.Ytiogegoepgkjlaa
open Go.RowKit

/-- a bundle -/
structure Bu where
  u : Int
  d : Int
  sg : ByteArray
  dh : ByteArray
  pi : Int
  pr : ByteArray
  ps : ByteArray
  oi : Int
  on : ByteArray
  deriving DecidableEq
def buC (x : Bu) : Array Value := #[.int .i64 x.u, .int .i64 x.d, .string x.sg, .string x.dh, .int .i64 x.pi, .string x.pr, .string x.ps, .int .i64 x.oi, .string x.on]
theorem bu_same (x y : Bu) (w : World) : (Op.equal 27 (.agg (buC x)) (.agg (buC y))).run Try.prog w = .ok (decide (x = y)) w := by
  show (Op.equalIn (9999 + 1) 27 (.agg _) (.agg _)).run Try.prog w = _
  rw [run_equalIn_struct (P := Try.prog) w 9999 27 _ _ ky ky]
  have e : (Try.prog.fieldsOf 27).toList = [⟨ "User", 3, 0, false, "", "", 0⟩, ⟨ "Device", 3, 1, false, "", "", 8⟩, ⟨ "Sign", 9, 2, false, "", "", 16⟩, ⟨ "Dh", 9, 3, false, "", "", 32⟩, ⟨ "PreId", 3, 4, false, "", "", 48⟩, ⟨ "Pre", 9, 5, false, "", "", 56⟩, ⟨ "PreSig", 9, 6, false, "", "", 72⟩, ⟨ "OnceId", 3, 7, false, "", "", 88⟩, ⟨ "Once", 9, 8, false, "", "", 96⟩] := by kernel_rfl
  have hp : ∀ (t : TypeId) (c : Array Value) (i : Nat) (v : Value), (isAgg t).run Try.prog w = .ok false w → c[i]? = some v → (part t c i).run Try.prog w = .ok v w := fun t c i v h1 h2 => by
    simp [part, h1, h2]
  have q0 : ∀ x : Bu, (part 3 (buC x) 0).run Try.prog w = .ok (.int .i64 x.u) w := fun x => hp _ _ _ _ (Try.isAgg3 w) rfl
  have q1 : ∀ x : Bu, (part 3 (buC x) 1).run Try.prog w = .ok (.int .i64 x.d) w := fun x => hp _ _ _ _ (Try.isAgg3 w) rfl
  have q2 : ∀ x : Bu, (part 9 (buC x) 2).run Try.prog w = .ok (.string x.sg) w := fun x => hp _ _ _ _ (Try.isAgg9 w) rfl
  have q3 : ∀ x : Bu, (part 9 (buC x) 3).run Try.prog w = .ok (.string x.dh) w := fun x => hp _ _ _ _ (Try.isAgg9 w) rfl
  have q4 : ∀ x : Bu, (part 3 (buC x) 4).run Try.prog w = .ok (.int .i64 x.pi) w := fun x => hp _ _ _ _ (Try.isAgg3 w) rfl
  have q5 : ∀ x : Bu, (part 9 (buC x) 5).run Try.prog w = .ok (.string x.pr) w := fun x => hp _ _ _ _ (Try.isAgg9 w) rfl
  have q6 : ∀ x : Bu, (part 9 (buC x) 6).run Try.prog w = .ok (.string x.ps) w := fun x => hp _ _ _ _ (Try.isAgg9 w) rfl
  have q7 : ∀ x : Bu, (part 3 (buC x) 7).run Try.prog w = .ok (.int .i64 x.oi) w := fun x => hp _ _ _ _ (Try.isAgg3 w) rfl
  have q8 : ∀ x : Bu, (part 9 (buC x) 8).run Try.prog w = .ok (.string x.on) w := fun x => hp _ _ _ _ (Try.isAgg9 w) rfl
  have r0 : ∀ a b : Int, (Op.equalIn 9999 3 (.int .i64 a) (.int .i64 b)).run Try.prog w = .ok (decide (a = b)) w := fun a b => by
    rw [run_equalIn_int (P := Try.prog) w 9998 3 _ _ _ _ Try.underlying3]
    have e : (a == b) = decide (a = b) := by
      by_cases h : a = b
      · simp [h]
      · rw [decide_eq_false h]
        exact beq_eq_false_iff_ne.2 h
    rw [e]
  have r1 : ∀ a b : ByteArray, (Op.equalIn 9999 9 (.string a) (.string b)).run Try.prog w = .ok (decide (a = b)) w := fun a b => by
    rw [run_equalIn_string (P := Try.prog) w 9998 9 _ _ Try.underlying9, ← beq_toListBytes, bb_eq]
  rw [e]
  simp only [Op.eqFields, Sem.run_bind, Sem.run_ite, q0, q1, q2, q3, q4, q5, q6, q7, q8, r0, r1, Result.andThen_ok]
  rcases x with ⟨a, b, c, d, e, f, g, h, i⟩
  rcases y with ⟨a', b', c', d', e', f', g', h', i'⟩
  simp only [Bu.mk.injEq]
  by_cases h1 : a = a'
  · by_cases h2 : b = b'
    · by_cases h3 : c = c'
      · by_cases h4 : d = d'
        · by_cases h5 : e = e'
          · by_cases h6 : f = f'
            · by_cases h7 : g = g'
              · by_cases h8 : h = h'
                · by_cases h9 : i = i'
                  · simp [h1, h2, h3, h4, h5, h6, h7, h8, h9]
                  · simp [h1, h2, h3, h4, h5, h6, h7, h8, h9]
                · simp [h1, h2, h3, h4, h5, h6, h7, h8]
              · simp [h1, h2, h3, h4, h5, h6, h7]
            · simp [h1, h2, h3, h4, h5, h6]
          · simp [h1, h2, h3, h4, h5]
        · simp [h1, h2, h3, h4]
      · simp [h1, h2, h3]
    · simp [h1, h2]
  · simp [h1]
section
variable {ρ : Operand → Value} {x y : Operand} {w : World} {dst : Option Tmp} {T T2 ty : TypeId} {pos : String} {aft : Array Edge} {gd : Option (Nat × Bool)} {P : Program} {k : IntKind}
theorem run_eqB {a b : Bu} (hx : ρ x = .agg (buC a)) (hy : ρ y = .agg (buC b)) (r : Bool) (hr : decide (a = b) = r) : (execOp ρ ⟨dst, .binOp .eql 27 x y T2, ty, pos, aft, gd⟩).run Try.prog w = .ok (.value (.bool r)) w := by
  subst hr
  simp only [execOp, hx, hy, binOp, Sem.run_bind, bu_same, Result.andThen_ok, run_eqGuard_agg (P := Try.prog) (t := 27) (hm := by kernel_rfl)]
  rfl
theorem run_neB {a b : Bu} (hx : ρ x = .agg (buC a)) (hy : ρ y = .agg (buC b)) (r : Bool) (hr : decide (a = b) = r) : (execOp ρ ⟨dst, .binOp .neq 27 x y T2, ty, pos, aft, gd⟩).run Try.prog w = .ok (.value (.bool !r)) w := by
  subst hr
  simp only [execOp, hx, hy, binOp, Sem.run_bind, bu_same, Result.andThen_ok, run_eqGuard_agg (P := Try.prog) (t := 27) (hm := by kernel_rfl)]
  rfl
theorem run_geZ {a b : Int} (hx : ρ x = .int k a) (hy : ρ y = .int k b) (r : Bool) (hr : decide (b ≤ a) = r) : (execOp ρ ⟨dst, .binOp .geq T x y T2, ty, pos, aft, gd⟩).run P w = .ok (.value (.bool r)) w := by
  subst hr
  simp only [execOp, hx, hy]
  simp [binOp, go_sem]
theorem run_leZ {a b : Int} (hx : ρ x = .int k a) (hy : ρ y = .int k b) (r : Bool) (hr : decide (a ≤ b) = r) : (execOp ρ ⟨dst, .binOp .leq T x y T2, ty, pos, aft, gd⟩).run P w = .ok (.value (.bool r)) w := by
  subst hr
  simp only [execOp, hx, hy]
  simp [binOp, go_sem]
theorem run_ltZ {a b : Int} (hx : ρ x = .int k a) (hy : ρ y = .int k b) (r : Bool) (hr : decide (a < b) = r) : (execOp ρ ⟨dst, .binOp .lss T x y T2, ty, pos, aft, gd⟩).run P w = .ok (.value (.bool r)) w := by
  subst hr
  simp only [execOp, hx, hy]
  simp [binOp, go_sem]
theorem run_gtZ {a b : Int} (hx : ρ x = .int k a) (hy : ρ y = .int k b) (r : Bool) (hr : decide (b < a) = r) : (execOp ρ ⟨dst, .binOp .gtr T x y T2, ty, pos, aft, gd⟩).run P w = .ok (.value (.bool r)) w := by
  subst hr
  simp only [execOp, hx, hy]
  simp [binOp, go_sem]
theorem run_eqZ {a b : Int} (hx : ρ x = .int k a) (hy : ρ y = .int k b) (r : Bool) (hr : decide (a = b) = r) : (execOp ρ ⟨dst, .binOp .eql T x y T2, ty, pos, aft, gd⟩).run P w = .ok (.value (.bool r)) w := by
  subst hr
  simp only [execOp, hx, hy]
  simp [binOp, go_sem]
  rw [Bool.eq_iff_iff]
  simp
end
def wi (v lo hi : Int) : Bool := decide (lo ≤ v) && decide (v ≤ hi)
def wo (s : ByteArray) : Bool := wi s.size 1 16384
/-- without a once key -/
def bare (x : Bu) : Bu := { x with oi := 0, on := { data := #[] } }
/-- may a bundle be? -/
def mayX (x : Bu) : Bool := wi x.u 0 2 && wi x.d 0 1 && wi x.pi 1 1073741824 && (wo x.sg && wo x.dh && wo x.pr && wo x.ps) && (decide (x = bare x) || (wi x.oi 1 1073741824 && wo x.on))
def bu0 : Bu := ⟨0, 0, { data := #[] }, { data := #[] }, 0, { data := #[] }, { data := #[] }, 0, { data := #[] }⟩
end Go.Proofs.Ytiogegoepgkjlaa
