/-
  The package's variables as laid, what the rows' proofs share.
-/
import Derived.Test.YtdblnbcclfenkaaDoorLaid
import Derived.LaidLaws
import Derived.Test.YtdblnbcclfenkaaDoorCards
import Derived.Test.YtdblnbcclfenkaaDoorTie
import Derived.SevenTiedAt
import Derived.Handed
namespace Go.Proofs.YtdblnbcclfenkaaDoor
open Go.ChangeShapes Go.WideShapes Go.ChangeAt Go.RowKit Num Go.Lib

theorem g0 : Tryd.prog.globalNamed "missive/scalar.extra" = some 0 := by kernel_rfl
theorem g1 : Tryd.prog.globalNamed "missive/scalar.order" = some 1 := by kernel_rfl
theorem t0 : (Tryd.prog.globals[0]?).map (·.type) = some 34 := by kernel_rfl
theorem t1 : (Tryd.prog.globals[1]?).map (·.type) = some 34 := by kernel_rfl
theorem own : ownKnob Tryd.prog.godebug = none := by kernel_rfl
theorem laidOut : laidOutB Tryd.prog = true := by kernel_rfl

/-- the two variables, as every row lists them -/
def laidList : List (String × DataW Unit) := [("missive/scalar.order", Rows.laid_missive_scalar_order), ("missive/scalar.extra", Rows.laid_missive_scalar_extra)]

theorem lt_of_at {w : World} {g n : Nat} (h : At w g n) : g < w.heap.size := World.block_lt_of_cell? w ⟨g, 0, none⟩ (h 0 (by omega))
theorem vars_of_laid {W : World} (h : laidMet Tryd.prog laidList W) : Vars W := by
  have h1 := at_of_reads (n := Lq) g1 t1 rfl (laidMet.reads h (.head _))
  have h0 := at_of_reads (n := Ext) g0 t0 rfl (laidMet.reads h (.tail _ (.head _)))
  exact ⟨lt_of_at h1, h0, h1⟩

/-- a block's cells, laid -/
def laidCells (c : Array Value) : Obj → Obj
  | .cells _ t f => .cells c t f
  | o => o
/-- a world in which they lie so -/
theorem laid_met (os : Os) (args : Array Value) : laidMet Tryd.prog laidList (({ World.holding Tryd.prog os ⟨#[], #[], []⟩ with heap := ((World.holding Tryd.prog os ⟨#[], #[], []⟩).heap.modify 0 (laidCells #[.int .u64 6346243789798364141, .int .u64 1503914060200516822, .int .u64 0, .int .u64 0])).modify 1 (laidCells #[.int .u64 6346243789798364141, .int .u64 1503914060200516822, .int .u64 0, .int .u64 1152921504606846976]) } : World).forCall (fun _ _ => 0) ⟨#[], args, []⟩).memory :=
  laidMet_of_run' 8 (by kernel_rfl) (by kernel_rfl)
end Go.Proofs.YtdblnbcclfenkaaDoor
