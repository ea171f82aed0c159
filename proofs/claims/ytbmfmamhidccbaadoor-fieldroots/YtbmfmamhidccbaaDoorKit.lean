/-
  The package's variables as laid, an argument of 32 bytes: what the rows' proofs share.
-/
import Derived.Test.YtbmfmamhidccbaaDoorLaid
import Derived.LaidLaws
import Derived.Test.YtbmfmamhidccbaaDoorCards
import Derived.Test.YtbmfmamhidccbaaDoorTie
import Derived.SevenTiedAt
import Derived.Handed
namespace Go.Proofs.YtbmfmamhidccbaaDoor
open Go.ChangeShapes Go.WideShapes Go.ChangeAt Go.RowKit Num Go.Lib

theorem g0 : Tryd.prog.globalNamed "missive/field.prime" = some 0 := by kernel_rfl
theorem g1 : Tryd.prog.globalNamed "missive/field.toRoot" = some 1 := by kernel_rfl
theorem g2 : Tryd.prog.globalNamed "missive/field.rootMinus" = some 2 := by kernel_rfl
theorem g3 : Tryd.prog.globalNamed "missive/field.toInverse" = some 3 := by kernel_rfl
theorem t0 : (Tryd.prog.globals[0]?).map (·.type) = some 24 := by kernel_rfl
theorem t1 : (Tryd.prog.globals[1]?).map (·.type) = some 24 := by kernel_rfl
theorem t2 : (Tryd.prog.globals[2]?).map (·.type) = some 24 := by kernel_rfl
theorem t3 : (Tryd.prog.globals[3]?).map (·.type) = some 24 := by kernel_rfl
theorem own : ownKnob Tryd.prog.godebug = none := by kernel_rfl
theorem laidOut : laidOutB Tryd.prog = true := by kernel_rfl

/-- the four variables, as every row lists them -/
def laidList : List (String × DataW Unit) := [("missive/field.prime", Rows.laid_missive_field_prime), ("missive/field.toInverse", Rows.laid_missive_field_toInverse), ("missive/field.toRoot", Rows.laid_missive_field_toRoot), ("missive/field.rootMinus", Rows.laid_missive_field_rootMinus)]

theorem lt_of_at {w : World} {g n : Nat} (h : At w g n) : g < w.heap.size := World.block_lt_of_cell? w ⟨g, 0, none⟩ (h 0 (by omega))
theorem vars_of_laid {W : World} (h : laidMet Tryd.prog laidList W) : Vars W := by
  have h0 := at_of_reads (n := P) g0 t0 rfl (laidMet.reads h (.head _))
  have h3 := at_of_reads (n := P - 2) g3 t3 rfl (laidMet.reads h (.tail _ (.head _)))
  have h1 := at_of_reads (n := eighth) g1 t1 rfl (laidMet.reads h (.tail _ (.tail _ (.head _))))
  have h2 := at_of_reads (n := rootI) g2 t2 rfl (laidMet.reads h (.tail _ (.tail _ (.tail _ (.head _)))))
  exact ⟨lt_of_at h3, h0, h1, h2, h3⟩

/-- a block's cells, laid -/
def laidCells (c : Array Value) : Obj → Obj
  | .cells _ t f => .cells c t f
  | o => o
/-- a world in which they lie so -/
theorem laid_met (os : Os) (args : Array Value) : laidMet Tryd.prog laidList (({ World.holding Tryd.prog os ⟨#[], #[], []⟩ with heap := ((((World.holding Tryd.prog os ⟨#[], #[], []⟩).heap.modify 0 (laidCells #[.int .u64 18446744073709551597, .int .u64 18446744073709551615, .int .u64 18446744073709551615, .int .u64 9223372036854775807])).modify 1 (laidCells #[.int .u64 18446744073709551614, .int .u64 18446744073709551615, .int .u64 18446744073709551615, .int .u64 1152921504606846975])).modify 2 (laidCells #[.int .u64 14190309331451158704, .int .u64 3405592160176694392, .int .u64 3120150775007532967, .int .u64 3135389899092516619])).modify 3 (laidCells #[.int .u64 18446744073709551595, .int .u64 18446744073709551615, .int .u64 18446744073709551615, .int .u64 9223372036854775807]) } : World).forCall (fun _ _ => 0) ⟨#[], args, []⟩).memory :=
  laidMet_of_run' 8 (by kernel_rfl) (by kernel_rfl)

theorem okWide_arr {Q : Program} {w : World} {r : Reach} {base n : Nat} {t e : TypeId} {v : Value} (ht : Q.underlying t = some (.array n e)) (h : Value.okWide Q w r base t v) : ∃ c, v = .agg c ∧ c.size = Q.cellsOf t := by
  simp only [Value.okWide, ht] at h
  obtain ⟨c, h1, h2, _⟩ := h
  exact ⟨c, h1, h2⟩
theorem cells40 : Tryd.prog.cellsOf 40 = 32 := by kernel_rfl

/-- 32 bytes by value -/
theorem open32 {H : Type} {enc : TypeId × Value → H} {W : World} {r : Reach} {base : Nat} {v : Value} {d : DataW H} {p : List MemPlace} (hv : Value.okWide Tryd.prog W r base 40 v)
    (h : DataW.Trod enc Tryd.prog W 0 (fun _ => true) true 40 v d p) : ∃ l : List UInt8, l.length = 32 ∧ v = .agg (cs l).toArray := by
  obtain ⟨c, rfl, hc⟩ := okWide_arr Tryd.underlying40 hv
  rw [cells40] at hc
  obtain ⟨fuel, hf⟩ := h
  obtain ⟨xs, m, _, _, _, hxl, hall⟩ := DataW.trod_array Tryd.underlying40 hf
  have key : ∀ i, i < 32 → ∃ u : UInt8, c[i]? = some (.int .u8 (u.toNat : Int)) := fun i hi => by
    have h1 := hall i hi
    obtain ⟨b, hb⟩ : ∃ b, xs[i]? = some b := ⟨xs[i]'(by omega), List.getElem?_eq_getElem (by omega)⟩
    rw [hb, cells5, Nat.mul_one] at h1
    obtain ⟨z, hz, _, wz⟩ := DataW.trod_int Tryd.underlying5 h1
    have bz : 0 ≤ z ∧ z ≤ 255 := by simpa [Lit.wf, IntKind.min, IntKind.max, IntKind.signed, IntKind.bits] using wz
    have h2 : c[i]? = some (.int .u8 z) := by
      have := congrArg (·[0]?) hz
      simpa [Value.cells, List.getElem?_take, List.getElem?_drop] using this
    refine ⟨UInt8.ofNat z.toNat, ?_⟩
    rw [h2, UInt8.toNat_ofNat']
    congr 2
    omega
  let f : Nat → UInt8 := fun i => if h : i < 32 then (key i h).choose else 0
  refine ⟨(List.range 32).map f, by simp, ?_⟩
  congr 1
  apply Array.ext_getElem?
  intro i
  by_cases hi : i < 32
  · rw [(key i hi).choose_spec]
    have e : f i = (key i hi).choose := dif_pos hi
    simp [cs, hi, e]
  · rw [Array.getElem?_eq_none (by omega), Array.getElem?_eq_none (by simp [cs]; omega)]

end Go.Proofs.YtbmfmamhidccbaaDoor
