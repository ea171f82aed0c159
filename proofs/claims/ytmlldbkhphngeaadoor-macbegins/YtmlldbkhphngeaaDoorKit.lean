/-
  The package's variables as laid, what the rows' proofs share.
-/
import Derived.Test.YtmlldbkhphngeaaDoorLaid
import Derived.LaidLaws
import Derived.Test.YtmlldbkhphngeaaDoorCards
import Derived.Test.YtmlldbkhphngeaaDoorTie
import Derived.SevenTiedAt
import Derived.Handed
import Derived.SliceStrings
namespace Go.Proofs.YtmlldbkhphngeaaDoor
open Go.ChangeShapes Go.WideShapes Go.ChangeAt Go.RowKit Go.Lib

theorem g0 : Tryd.prog.globalNamed "missive/hash.short" = some 0 := by kernel_rfl
theorem g1 : Tryd.prog.globalNamed "missive/hash.firstWords" = some 1 := by kernel_rfl
theorem g2 : Tryd.prog.globalNamed "missive/hash.roundWords" = some 2 := by kernel_rfl
theorem t0 : (Tryd.prog.globals[0]?).map (·.type) = some 52 := by kernel_rfl
theorem t1 : (Tryd.prog.globals[1]?).map (·.type) = some 64 := by kernel_rfl
theorem t2 : (Tryd.prog.globals[2]?).map (·.type) = some 69 := by kernel_rfl
theorem own : ownKnob Tryd.prog.godebug = none := by kernel_rfl
theorem laidOut : laidOutB Tryd.prog = true := by kernel_rfl

/-- the three variables, as every row lists them -/
def laidList : List (String × DataW Unit) := [("missive/hash.short", Rows.laid_missive_hash_short), ("missive/hash.firstWords", Rows.laid_missive_hash_firstWords), ("missive/hash.roundWords", Rows.laid_missive_hash_roundWords)]
theorem fw_laid : (Rows.laid_missive_hash_firstWords : DataW Unit) = .agg (fws.map fun z => .lit (.int .u64 (z.toNat : Int))) := by kernel_rfl
theorem rw_laid : (Rows.laid_missive_hash_roundWords : DataW Unit) = .agg (rws.map fun z => .lit (.int .u64 (z.toNat : Int))) := by kernel_rfl
theorem vars_of_laid {W : World} (h : laidMet Tryd.prog laidList W) : Vars W := by
  have h0 := range_S g0 t0 (laidMet.reads h (.head _))
  have r1 : VarReads Tryd.prog W "missive/hash.firstWords" Rows.laid_missive_hash_firstWords := laidMet.reads h (.tail _ (.head _))
  have r2 : VarReads Tryd.prog W "missive/hash.roundWords" Rows.laid_missive_hash_roundWords := laidMet.reads h (.tail _ (.tail _ (.head _)))
  rw [fw_laid] at r1
  rw [rw_laid] at r2
  have h1 := range_words g1 t1 Tryd.underlying64 (show fws.length = 8 by kernel_rfl) r1
  have h2 := range_words g2 t2 Tryd.underlying69 (show rws.length = 80 by kernel_rfl) r2
  refine ⟨World.block_lt_of_cell? W ⟨2, 0, none⟩ (h2 0 (bv .u64 (rws.getD 0 0)) ?_), h0, h1, h2⟩
  rw [Array.getElem?_toList]
  exact wc_get .u64 rws 0 (by decide)

/-- a block's cells, laid -/
def laidCells (c : Array Value) : Obj → Obj
  | .cells _ t f => .cells c t f
  | o => o
/-- a world in which they lie so -/
theorem laid_met (os : Os) (args : Array Value) : laidMet Tryd.prog laidList (({ World.holding Tryd.prog os ⟨#[], #[], []⟩ with heap := (((World.holding Tryd.prog os ⟨#[], #[], []⟩).heap.modify 0 (laidCells kcS)).modify 1 (laidCells (wc .u64 fws))).modify 2 (laidCells (wc .u64 rws)) } : World).forCall (fun _ _ => 0) ⟨#[], args, []⟩).memory :=
  laidMet_of_run' 8 (by kernel_rfl) (by kernel_rfl)
end Go.Proofs.YtmlldbkhphngeaaDoor
