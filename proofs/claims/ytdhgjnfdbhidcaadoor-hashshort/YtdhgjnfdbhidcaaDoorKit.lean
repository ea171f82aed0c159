/-
  The package's variables as laid, what the rows' proofs share.
-/
import Derived.Test.YtdhgjnfdbhidcaaDoorLaid
import Derived.LaidLaws
import Derived.Test.YtdhgjnfdbhidcaaDoorCards
import Derived.Test.YtdhgjnfdbhidcaaDoorTie
import Derived.SevenTiedAt
import Derived.Handed
import Derived.SliceStrings
namespace Go.Proofs.YtdhgjnfdbhidcaaDoor
open Go.ChangeShapes Go.WideShapes Go.ChangeAt Go.RowKit Go.Lib

theorem g0 : Tryd.prog.globalNamed "missive/hash.short" = some 0 := by kernel_rfl
theorem g1 : Tryd.prog.globalNamed "missive/hash.long" = some 1 := by kernel_rfl
theorem g2 : Tryd.prog.globalNamed "missive/hash.firstWords" = some 2 := by kernel_rfl
theorem g3 : Tryd.prog.globalNamed "missive/hash.roundWords" = some 3 := by kernel_rfl
theorem t0 : (Tryd.prog.globals[0]?).map (·.type) = some 36 := by kernel_rfl
theorem t1 : (Tryd.prog.globals[1]?).map (·.type) = some 36 := by kernel_rfl
theorem t2 : (Tryd.prog.globals[2]?).map (·.type) = some 43 := by kernel_rfl
theorem t3 : (Tryd.prog.globals[3]?).map (·.type) = some 44 := by kernel_rfl
theorem own : ownKnob Tryd.prog.godebug = none := by kernel_rfl
theorem laidOut : laidOutB Tryd.prog = true := by kernel_rfl

/-- the four variables, as every row lists them -/
def laidList : List (String × DataW Unit) := [("missive/hash.short", Rows.laid_missive_hash_short), ("missive/hash.long", Rows.laid_missive_hash_long), ("missive/hash.firstWords", Rows.laid_missive_hash_firstWords), ("missive/hash.roundWords", Rows.laid_missive_hash_roundWords)]
theorem fw_laid : (Rows.laid_missive_hash_firstWords : DataW Unit) = .agg (fws.map fun z => .lit (.int .u64 (z.toNat : Int))) := by kernel_rfl
theorem rw_laid : (Rows.laid_missive_hash_roundWords : DataW Unit) = .agg (rws.map fun z => .lit (.int .u64 (z.toNat : Int))) := by kernel_rfl
theorem vars_of_laid {W : World} (h : laidMet Tryd.prog laidList W) : Vars W := by
  have h0 := range_S g0 t0 (laidMet.reads h (.head _))
  have h1 := range_L g1 t1 (laidMet.reads h (.tail _ (.head _)))
  have r2 : VarReads Tryd.prog W "missive/hash.firstWords" Rows.laid_missive_hash_firstWords := laidMet.reads h (.tail _ (.tail _ (.head _)))
  have r3 : VarReads Tryd.prog W "missive/hash.roundWords" Rows.laid_missive_hash_roundWords := laidMet.reads h (.tail _ (.tail _ (.tail _ (.head _))))
  rw [fw_laid] at r2
  rw [rw_laid] at r3
  have h2 := range_words g2 t2 Tryd.underlying43 (show fws.length = 8 by kernel_rfl) r2
  have h3 := range_words g3 t3 Tryd.underlying44 (show rws.length = 80 by kernel_rfl) r3
  refine ⟨World.block_lt_of_cell? W ⟨3, 0, none⟩ (h3 0 (bv .u64 (rws.getD 0 0)) ?_), h0, h1, h2, h3⟩
  rw [Array.getElem?_toList]
  exact wc_get .u64 rws 0 (by decide)

/-- a block's cells, laid -/
def laidCells (c : Array Value) : Obj → Obj
  | .cells _ t f => .cells c t f
  | o => o
/-- a world in which they lie so -/
theorem laid_met (os : Os) (args : Array Value) : laidMet Tryd.prog laidList (({ World.holding Tryd.prog os ⟨#[], #[], []⟩ with heap := ((((World.holding Tryd.prog os ⟨#[], #[], []⟩).heap.modify 0 (laidCells kcS)).modify 1 (laidCells kcL)).modify 2 (laidCells (wc .u64 fws))).modify 3 (laidCells (wc .u64 rws)) } : World).forCall (fun _ _ => 0) ⟨#[], args, []⟩).memory :=
  laidMet_of_run' 8 (by kernel_rfl) (by kernel_rfl)

/-- a slice of texts -/
theorem openp {H : Type} {enc : TypeId × Value → H} {W : World} {r : Reach} {base : Nat} {v : Value} {d : DataW H} {p : List MemPlace} (hv : Value.okWide Tryd.prog W r base 26 v)
    (h : DataW.Trod enc Tryd.prog W 0 (fun _ => true) true 26 v d p) : ∃ (o : Option Addr) (len cap : Nat) (ss : List ByteArray), v = .slice o len cap ∧ len ≤ 9223372036854775807 ∧ ∀ i, i < len → ∃ a, o = some a ∧ W.cell? (a.add i) = some (.string (ss.getD i ByteArray.empty)) := by
  obtain ⟨a0, len, cap, rfl⟩ := okWide_slice Tryd.underlying26 hv
  obtain ⟨fuel, hf⟩ := h
  rcases open_strings Tryd.underlying26 Tryd.underlying9 cells9 hf with ⟨hcs, _⟩ | ⟨a, len', cap', ss, hcs, _, hl, hm, hz, _, hcell, _⟩
  · have e : Value.slice a0 len cap = .slice none 0 0 := by simpa [Value.cells] using hcs
    cases e
    exact ⟨none, 0, 0, [], rfl, by decide, fun i hi => by omega⟩
  · have e : Value.slice a0 len cap = .slice (some a) len' cap' := by simpa [Value.cells] using hcs
    cases e
    have hz2 : ss.length = cap := by simpa using hz
    exact ⟨some a, len, cap, ss, rfl, Nat.le_trans hl hm, fun i hi => ⟨a, rfl, hcell i (by omega)⟩⟩
end Go.Proofs.YtdhgjnfdbhidcaaDoor
