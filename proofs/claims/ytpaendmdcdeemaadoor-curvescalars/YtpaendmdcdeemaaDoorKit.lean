/-
  The package's variables as laid, an argument of 32 bytes: what the rows' proofs share.
-/
import Derived.Test.YtpaendmdcdeemaaDoorLaid
import Derived.LaidLaws
import Derived.Test.YtpaendmdcdeemaaDoorCards
import Derived.Test.YtpaendmdcdeemaaDoorTie
import Derived.SevenTiedAt
import Derived.Handed
namespace Go.Proofs.YtpaendmdcdeemaaDoor
open Go.ChangeShapes Go.WideShapes Go.ChangeAt Go.RowKit Num Go.Lib

theorem g0 : Tryd.prog.globalNamed "missive/field.prime" = some 0 := by kernel_rfl
theorem g2 : Tryd.prog.globalNamed "missive/field.toRoot" = some 2 := by kernel_rfl
theorem g3 : Tryd.prog.globalNamed "missive/field.rootMinus" = some 3 := by kernel_rfl
theorem g1 : Tryd.prog.globalNamed "missive/field.toInverse" = some 1 := by kernel_rfl
theorem t0 : (Tryd.prog.globals[0]?).map (·.type) = some 23 := by kernel_rfl
theorem t1 : (Tryd.prog.globals[1]?).map (·.type) = some 23 := by kernel_rfl
theorem t2 : (Tryd.prog.globals[2]?).map (·.type) = some 23 := by kernel_rfl
theorem t3 : (Tryd.prog.globals[3]?).map (·.type) = some 23 := by kernel_rfl
theorem own : ownKnob Tryd.prog.godebug = none := by kernel_rfl
theorem laidOut : laidOutB Tryd.prog = true := by kernel_rfl

/-- the four variables, as every row lists them -/
def laidList : List (String × DataW Unit) := [("missive/field.prime", Rows.laid_missive_field_prime), ("missive/field.toInverse", Rows.laid_missive_field_toInverse), ("missive/field.toRoot", Rows.laid_missive_field_toRoot), ("missive/field.rootMinus", Rows.laid_missive_field_rootMinus)]

theorem lt_of_at {w : World} {g n : Nat} (h : At w g n) : g < w.heap.size := World.block_lt_of_cell? w ⟨g, 0, none⟩ (h 0 (by omega))
theorem vars_of_laid {W : World} (h : laidMet Tryd.prog laidList W) : Vars W := by
  have h0 := at_of_reads (n := P) g0 t0 rfl (laidMet.reads h (.head _))
  have h1 := at_of_reads (n := P - 2) g1 t1 rfl (laidMet.reads h (.tail _ (.head _)))
  have h2 := at_of_reads (n := eighth) g2 t2 rfl (laidMet.reads h (.tail _ (.tail _ (.head _))))
  have h3 := at_of_reads (n := rootI) g3 t3 rfl (laidMet.reads h (.tail _ (.tail _ (.tail _ (.head _)))))
  exact ⟨lt_of_at h3, h0, h2, h3, h1⟩

/-- a block's cells, laid -/
def laidCells (c : Array Value) : Obj → Obj
  | .cells _ t f => .cells c t f
  | o => o
/-- a world in which they lie so -/
theorem laid_met (os : Os) (args : Array Value) : laidMet Tryd.prog laidList (({ World.holding Tryd.prog os ⟨#[], #[], []⟩ with heap := ((((World.holding Tryd.prog os ⟨#[], #[], []⟩).heap.modify 0 (laidCells #[.int .u64 18446744073709551597, .int .u64 18446744073709551615, .int .u64 18446744073709551615, .int .u64 9223372036854775807])).modify 1 (laidCells #[.int .u64 18446744073709551595, .int .u64 18446744073709551615, .int .u64 18446744073709551615, .int .u64 9223372036854775807])).modify 2 (laidCells #[.int .u64 18446744073709551614, .int .u64 18446744073709551615, .int .u64 18446744073709551615, .int .u64 1152921504606846975])).modify 3 (laidCells #[.int .u64 14190309331451158704, .int .u64 3405592160176694392, .int .u64 3120150775007532967, .int .u64 3135389899092516619]) } : World).forCall (fun _ _ => 0) ⟨#[], args, []⟩).memory :=
  laidMet_of_run' 8 (by kernel_rfl) (by kernel_rfl)

end Go.Proofs.YtpaendmdcdeemaaDoor
