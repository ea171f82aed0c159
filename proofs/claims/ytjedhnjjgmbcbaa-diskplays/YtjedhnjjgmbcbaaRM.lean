/-
  The reference's disk: what lies in memory, and what is told of it.
-/
import Derived.Test.YtjedhnjjgmbcbaaDX
namespace Go.Proofs.Ytjedhnjjgmbcbaa
open Go.RowKit

/-- a file of the reference's: name, bytes, how many are synced -/
structure RF where
  nm : ByteArray
  b : ByteArray
  sy : Nat
structure RS where
  room : Nat
  fs : List RF
  down : Bool
  left : Nat
  sizes : List Nat
def rf1 (f : RF) : List Value := [.string f.nm, .string f.b, iN .i64 f.sy]
def fcl (fs : List RF) : List Value := fs.flatMap rf1
theorem fcl_len (fs : List RF) : (fcl fs).length = fs.length * 3 := by
  induction fs with
  | nil => rfl
  | cons f fs ih => simp only [fcl, List.flatMap_cons, List.length_append, List.length_cons] at ih ⊢; rw [ih]; simp [rf1]; omega
theorem fcl_get : ∀ (fs : List RF) (i : Nat) (f : RF), fs[i]? = some f → (fcl fs)[3 * i]? = some (.string f.nm) ∧ (fcl fs)[3 * i + 1]? = some (.string f.b) ∧ (fcl fs)[3 * i + 2]? = some (iN .i64 f.sy)
  | [], _, _, h => by simp at h
  | g :: fs, 0, f, h => by
    have : g = f := by simpa using h
    subst this
    exact ⟨rfl, rfl, rfl⟩
  | g :: fs, i + 1, f, h => by
    obtain ⟨h1, h2, h3⟩ := fcl_get fs i f (by simpa using h)
    have e : fcl (g :: fs) = rf1 g ++ fcl fs := rfl
    have l : (rf1 g).length = 3 := rfl
    refine ⟨?_, ?_, ?_⟩
    · rw [e, List.getElem?_append_right (by omega), l, show 3 * (i + 1) - 3 = 3 * i by omega]; exact h1
    · rw [e, List.getElem?_append_right (by omega), l, show 3 * (i + 1) + 1 - 3 = 3 * i + 1 by omega]; exact h2
    · rw [e, List.getElem?_append_right (by omega), l, show 3 * (i + 1) + 2 - 3 = 3 * i + 2 by omega]; exact h3
/-- a row of files among the blocks N -/
def RFL (v : Value) (fs : List RF) (N : BL) : Prop :=
  (v = .slice none 0 0 ∧ fs = []) ∨ ∃ g cap cur, v = .slice (some ⟨g, 0, none⟩) fs.length cap ∧ (g, 75, cur) ∈ N ∧ fs.length ≤ cap ∧ cap ≤ maxLen ∧ cur.toList.take (fs.length * 3) = fcl fs
def RZL (v : Value) (zs : List Nat) (N : BL) : Prop :=
  (v = .slice none 0 0 ∧ zs = []) ∨ ∃ g cap cur, v = .slice (some ⟨g, 0, none⟩) zs.length cap ∧ (g, 3, cur) ∈ N ∧ zs.length ≤ cap ∧ cap ≤ maxLen ∧ cur.toList.take zs.length = zs.map (iN .i64 ·)
/-- the reference's disk as a value -/
def rdc (R : RS) (vf vz : Value) : Array Value := #[iN .i64 R.room, vf, .bool R.down, iN .i64 R.left, vz]
def Stand (w : World) (N : BL) : Prop := ∀ x ∈ N, Blk w x.1 x.2.1 x.2.2
theorem Stand.keep {w w' : World} {N : BL} (h : Stand w N) (hb : Below w.heap.size w w') : Stand w' N := fun x hx => (h x hx).keep hb
theorem RFL.form {v : Value} {fs : List RF} {N : BL} (h : RFL v fs N) : ∃ p c, v = .slice p fs.length c := by
  rcases h with ⟨rfl, rfl⟩ | ⟨g, cap, cur, rfl, _⟩
  · exact ⟨_, _, rfl⟩
  · exact ⟨_, _, rfl⟩
theorem RZL.form {v : Value} {zs : List Nat} {N : BL} (h : RZL v zs N) : ∃ p c, v = .slice p zs.length c := by
  rcases h with ⟨rfl, rfl⟩ | ⟨g, cap, cur, rfl, _⟩
  · exact ⟨_, _, rfl⟩
  · exact ⟨_, _, rfl⟩
theorem RFL.at {p : Option Addr} {n c : Nat} {fs : List RF} {N : BL} (h : RFL (.slice p n c) fs N) {i : Nat} {f : RF} (hi : fs[i]? = some f) : ∃ g cur, p = some ⟨g, 0, none⟩ ∧ n = fs.length ∧ (g, 75, cur) ∈ N ∧ cur[3 * i]? = some (.string f.nm) ∧ cur[3 * i + 1]? = some (.string f.b) ∧ cur[3 * i + 2]? = some (iN .i64 f.sy) := by
  rcases h with ⟨_, rfl⟩ | ⟨g, cap, cur, h1, h2, _, _, h3⟩
  · simp at hi
  · cases h1
    have hl := (List.getElem?_eq_some_iff.1 hi).1
    obtain ⟨a, b, d⟩ := fcl_get fs i f hi
    have e : ∀ j, j < fs.length * 3 → cur[j]? = (fcl fs)[j]? := fun j hj => by
      rw [← h3, List.getElem?_take, if_pos hj]; simp
    exact ⟨g, cur, rfl, rfl, h2, (e _ (by omega)).trans a, (e _ (by omega)).trans b, (e _ (by omega)).trans d⟩
theorem RFL.mono {v : Value} {fs : List RF} {N N' : BL} (h : RFL v fs N) (hs : N ⊆ N') : RFL v fs N' := h.imp id (fun ⟨g, c, u, h1, h2, h3⟩ => ⟨g, c, u, h1, hs h2, h3⟩)
theorem RZL.mono {v : Value} {zs : List Nat} {N N' : BL} (h : RZL v zs N) (hs : N ⊆ N') : RZL v zs N' := h.imp id (fun ⟨g, c, u, h1, h2, h3⟩ => ⟨g, c, u, h1, hs h2, h3⟩)
section
variable {ρ : Operand → Value} {x y : Operand} {w : World} {dst : Option Tmp} {T T2 ty : TypeId} {pos : String} {aft : Array Edge} {gd : Option (Nat × Bool)}
theorem run_addr75 {q n m a : Nat} (hx : ρ x = .slice (some ⟨q, 0, none⟩) n m) (hy : ρ y = iN .i64 a) (ha : a < n) : (execOp ρ ⟨dst, .indexAddr 25 x y, ty, pos, aft, gd⟩).run Try.prog w = .ok (.value (.pointer (some ⟨q, 3 * a, none⟩))) w := by
  simp only [execOp, hx, hy, iN]
  go_simp
end
/-- names in order -/
def leN (a b : ByteArray) : Bool := decide (bl a ≤ bl b)
def gateR (R : RS) : RS × Bool := if R.down = true then (R, false) else if R.left = 0 then (R, true) else ({ R with left := R.left - 1, down := decide (R.left - 1 = 0) }, !decide (R.left - 1 = 0))
end Go.Proofs.Ytjedhnjjgmbcbaa
