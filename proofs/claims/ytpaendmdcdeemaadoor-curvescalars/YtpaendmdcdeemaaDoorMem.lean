/-
  Rows of numbers in memory.
-/
import Derived.Test.YtpaendmdcdeemaaDoorWord
import Derived.Deep.RegionHeld3
import Derived.Deep.QuietTactic
import Derived.BigQuiet
import Derived.BigRegion
import Derived.Laws.Tables
namespace Go.Proofs.YtpaendmdcdeemaaDoor
open Go.RowKit Num

/-- numbers as cells -/
def cl (k : IntKind) (l : List Nat) : Array Value := (l.map fun n : Nat => Value.int k (n : Int)).toArray

/-- a block holds these numbers -/
def Row (w : World) (b : Nat) (t : TypeId) (k : IntKind) (l : List Nat) : Prop := w.heap[b]? = some (.cells (cl k l) t (0, 0))

theorem cl_size (k : IntKind) (l : List Nat) : (cl k l).size = l.length := by simp [cl]
theorem cl_get (k : IntKind) (l : List Nat) (i : Nat) (h : i < l.length) : (cl k l)[i]? = some (.int k (l[i] : Nat)) := by
  simp [cl, h]

theorem Row.cell {w : World} {b : Nat} {t : TypeId} {k : IntKind} {l : List Nat} (h : Row w b t k l) (i : Nat) (hi : i < l.length) : w.cell? ⟨b, i, none⟩ = some (.int k (l[i] : Nat)) := by
  rw [cell_of_row w b i _ t _ h, cl_get k l i hi]

theorem Row.lt {w : World} {b : Nat} {t : TypeId} {k : IntKind} {l : List Nat} (h : Row w b t k l) : b < w.heap.size := lt_of_block h
theorem Row.free {w : World} {b : Nat} {t : TypeId} {k : IntKind} {l : List Nat} (h : Row w b t k l) (i : Nat) : w.frozen? ⟨b, i, none⟩ = false := by
  unfold Row at h
  simp [World.frozen?, h]

theorem Row.set {w : World} {b : Nat} {t : TypeId} {k : IntKind} {l : List Nat} (h : Row w b t k l) (i x : Nat) : Row (w.setCell ⟨b, i, none⟩ (.int k (x : Nat))) b t k (l.set i x) := by
  have e := setCell_eq_setRow w b i (cl k l) t (0, 0) (.int k (x : Nat)) h
  unfold Row
  rw [e, setRow_heap w b _ _ t (0, 0) h]
  congr 2
  simp [cl, List.map_set]
theorem Row.other {w : World} {b : Nat} {t : TypeId} {k : IntKind} {l : List Nat} (h : Row w b t k l) {p : Addr} (hp : b ≠ p.block) (v : Value) : Row (w.setCell p v) b t k l := by
  unfold Row
  rw [Below.heap_setCell w p v b hp]
  exact h
theorem Row.drew {w : World} {b : Nat} {t : TypeId} {k : IntKind} {l : List Nat} (h : Row w b t k l) : Row w.drew b t k l := h
theorem Row.alloc {w : World} {b : Nat} {t : TypeId} {k : IntKind} {l : List Nat} (h : Row w b t k l) (o : Obj) : Row (w.alloc o) b t k l := by
  unfold Row
  rw [Below.heap_alloc w o b h.lt]
  exact h
theorem Row.below {w w' : World} {B b : Nat} {t : TypeId} {k : IntKind} {l : List Nat} (h : Row w b t k l) (hb : Below B w w') (hB : b < B) : Row w' b t k l := by
  unfold Row
  rw [hb.block b hB]
  exact h
theorem Row.new (w : World) (t : TypeId) (k : IntKind) (l : List Nat) : Row (w.alloc (.cells (cl k l) t)) w.heap.size t k l := by
  show (w.heap.push _)[w.heap.size]? = _
  simp

theorem Row.mk {w : World} {c : Array Value} {t : TypeId} {k : IntKind} {l : List Nat} {b : Nat} (hb : b = w.heap.size) (hc : c = cl k l) : Row (w.alloc (.cells c t)) b t k l := by
  subst hb hc
  exact Row.new w t k l
theorem Row.off {w : World} {b : Nat} {t : TypeId} {k : IntKind} {l : List Nat} (h : Row w b t k l) {g o : Nat} {v : Value} (hp : b ≠ g) : Row (w.setCell ⟨g, o, none⟩ v) b t k l := h.other hp v
theorem put_below {B : Nat} {a w : World} (h : Below B a w) {g o : Nat} {v : Value} (hp : B ≤ g) : Below B a (w.setCell ⟨g, o, none⟩ v) := h.setCell hp v
theorem new_below {B : Nat} {a w : World} (h : Below B a w) (hB : B ≤ a.heap.size) {o : Obj} : Below B a (w.alloc o) := h.alloc (Nat.le_trans hB h.size) o
theorem int_eq {k : IntKind} {a b : Int} (h : a = b) : Value.int k a = .int k b := by rw [h]

/-- an array of four words -/
def arr (n : Nat) : Value := .agg (cl .u64 (digs K 4 n))
theorem arr_open (n : Nat) : ∃ a b c d : Nat, digs K 4 n = [a, b, c, d] ∧ arr n = .agg #[.int .u64 a, .int .u64 b, .int .u64 c, .int .u64 d] := ⟨_, _, _, _, rfl, rfl⟩
theorem Row.four {w : World} {g : Nat} {t : TypeId} {k : IntKind} {a b c d : Nat} (h : Row w g t k [a, b, c, d]) :
    w.cell? ⟨g, 0, none⟩ = some (.int k a) ∧ w.cell? ⟨g, 1, none⟩ = some (.int k b) ∧ w.cell? ⟨g, 2, none⟩ = some (.int k c) ∧ w.cell? ⟨g, 3, none⟩ = some (.int k d) :=
  ⟨h.cell 0 (by simp), h.cell 1 (by simp), h.cell 2 (by simp), h.cell 3 (by simp)⟩
theorem Row.frees {w : World} {g : Nat} {t : TypeId} {k : IntKind} {l : List Nat} (h : Row w g t k l) :
    w.frozen? ⟨g, 0, none⟩ = false ∧ w.frozen? ⟨g, 1, none⟩ = false ∧ w.frozen? ⟨g, 2, none⟩ = false ∧ w.frozen? ⟨g, 3, none⟩ = false :=
  ⟨h.free 0, h.free 1, h.free 2, h.free 3⟩
theorem Row.dig {w : World} {b : Nat} {t : TypeId} {k : IntKind} {B m n : Nat} (h : Row w b t k (digs B m n)) (i : Nat) (hi : i < m) : w.cell? ⟨b, i, none⟩ = some (.int k (n / B ^ i % B : Nat)) := by
  rw [h.cell i (by rw [digs_length]; exact hi), digs_get]
end Go.Proofs.YtpaendmdcdeemaaDoor
