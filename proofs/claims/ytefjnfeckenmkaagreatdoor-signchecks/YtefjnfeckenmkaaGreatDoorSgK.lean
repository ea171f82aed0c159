/-
 The nine variables as laid, an argument of 32 bytes: what the rows' proofs share.
-/
import Derived.Test.YtefjnfeckenmkaaGreatDoorSg1
import Derived.Test.YtefjnfeckenmkaaGreatDoorSgL
import Derived.LaidLaws
import Derived.Test.YtefjnfeckenmkaaGreatDoorCards
import Derived.Test.YtefjnfeckenmkaaGreatDoorTie
import Derived.SevenTiedAt
import Derived.Handed
import Derived.Lib.LaidU8
import Derived.ProofKit
import Derived.OpenShut
import Derived.ShutString
import Derived.ChangeOld
namespace Go.Proofs.YtefjnfeckenmkaaGreatDoor
open Go.ChangeShapes Go.WideShapes Go.ChangeAt Go.RowKit Num Go.Lib
theorem cells22 : Tryz.prog.cellsOf 34 = 1 := by kernel_rfl
theorem at_of_reads {w : World} {T : TypeId} (hT : Tryz.prog.underlying T = some (.array 4 34)) {name : String} {g n a b c d : Nat} (hg : Tryz.prog.globalNamed name = some g) (ht : (Tryz.prog.globals[g]?).map (·.type) = some T)
  (hn : digs K 4 n = [a, b, c, d])
  (h : VarReads Tryz.prog w name (.agg [.lit (.int .u64 a), .lit (.int .u64 b), .lit (.int .u64 c), .lit (.int .u64 d)])) : At w g n := by
 obtain ⟨g', t, cs, fuel, p, h1, h2, h3, h4⟩ := h
 rw [hg] at h1
 obtain rfl := Option.some.inj h1
 rw [ht] at h2
 obtain rfl := Option.some.inj h2
 have key : ∀ i (hi : i < 4) (z : Nat), [a, b, c, d][i]? = some z → w.cell? ⟨g, i, none⟩ = some (.int .u64 (z : Int)) := fun i hi z hz => by
  obtain ⟨f', d', q, e1, e2⟩ := array_elem hT h4 i hi
  rw [cells22, Nat.mul_one] at e2
  have e3 : d' = .lit (.int .u64 (z : Int)) := by
   have : ([a, b, c, d].map fun x : Nat => (DataW.lit (.int .u64 (x : Int)) : DataW Unit))[i]? = some d' := e1
   rw [List.getElem?_map, hz] at this
   exact (Option.some.inj this).symm
  subst e3
  obtain ⟨y, hy, hd, _⟩ := DataW.trod_int Tryz.underlying34 e2
  have ey : y = (z : Int) := by
   simp at hd
   exact hd.1.symm
  subst ey
  rw [var?_cell hg h3 i]
  have := congrArg (·[0]?) hy
  simpa [List.getElem?_take, List.getElem?_drop] using this
 intro i hi
 have hz : [a, b, c, d][i]? = some (n / K ^ i % K) := by
  rw [← hn, List.getElem?_eq_getElem (by rw [digs_length]; exact hi), digs_get]
 exact key i hi _ hz
theorem gv0 : Tryz.prog.globalNamed "missive/field.prime" = some 1 := by kernel_rfl
theorem tv0 : (Tryz.prog.globals[1]?).map (·.type) = some 35 := by kernel_rfl
theorem gv1 : Tryz.prog.globalNamed "missive/field.toInverse" = some 2 := by kernel_rfl
theorem tv1 : (Tryz.prog.globals[2]?).map (·.type) = some 35 := by kernel_rfl
theorem gv2 : Tryz.prog.globalNamed "missive/field.toRoot" = some 5 := by kernel_rfl
theorem tv2 : (Tryz.prog.globals[5]?).map (·.type) = some 35 := by kernel_rfl
theorem gv3 : Tryz.prog.globalNamed "missive/field.rootMinus" = some 6 := by kernel_rfl
theorem tv3 : (Tryz.prog.globals[6]?).map (·.type) = some 35 := by kernel_rfl
theorem gv4 : Tryz.prog.globalNamed "missive/hash.long" = some 0 := by kernel_rfl
theorem tv4 : (Tryz.prog.globals[0]?).map (·.type) = some 103 := by kernel_rfl
theorem gv5 : Tryz.prog.globalNamed "missive/hash.firstWords" = some 7 := by kernel_rfl
theorem tv5 : (Tryz.prog.globals[7]?).map (·.type) = some 107 := by kernel_rfl
theorem gv6 : Tryz.prog.globalNamed "missive/hash.roundWords" = some 8 := by kernel_rfl
theorem tv6 : (Tryz.prog.globals[8]?).map (·.type) = some 109 := by kernel_rfl
theorem gv7 : Tryz.prog.globalNamed "missive/scalar.order" = some 4 := by kernel_rfl
theorem tv7 : (Tryz.prog.globals[4]?).map (·.type) = some 73 := by kernel_rfl
theorem gv8 : Tryz.prog.globalNamed "missive/scalar.extra" = some 3 := by kernel_rfl
theorem tv8 : (Tryz.prog.globals[3]?).map (·.type) = some 73 := by kernel_rfl
theorem own : ownKnob Tryz.prog.godebug = none := by kernel_rfl
def laidList : List (String × DataW Unit) := [("missive/field.prime", Rows.laid_missive_field_prime), ("missive/field.toInverse", Rows.laid_missive_field_toInverse), ("missive/field.toRoot", Rows.laid_missive_field_toRoot), ("missive/field.rootMinus", Rows.laid_missive_field_rootMinus), ("missive/hash.long", Rows.laid_missive_hash_long), ("missive/hash.firstWords", Rows.laid_missive_hash_firstWords), ("missive/hash.roundWords", Rows.laid_missive_hash_roundWords), ("missive/scalar.order", Rows.laid_missive_scalar_order), ("missive/scalar.extra", Rows.laid_missive_scalar_extra)]
theorem fw_laid : (Rows.laid_missive_hash_firstWords : DataW Unit) = .agg (Hh.fws.map fun z => .lit (.int .u64 (z.toNat : Int))) := by kernel_rfl
theorem rw_laid : (Rows.laid_missive_hash_roundWords : DataW Unit) = .agg (Hh.rws.map fun z => .lit (.int .u64 (z.toNat : Int))) := by kernel_rfl
theorem vars_of_laid {W : World} (h : laidMet Tryz.prog laidList W) : VA W := by
 have h0 := at_of_reads (n := P) Tryz.underlying35 gv0 tv0 rfl (laidMet.reads h (.head _))
 have h1 := at_of_reads (n := P - 2) Tryz.underlying35 gv1 tv1 rfl (laidMet.reads h (.tail _ (.head _)))
 have h2 := at_of_reads (n := eighth) Tryz.underlying35 gv2 tv2 rfl (laidMet.reads h (.tail _ (.tail _ (.head _))))
 have h3 := at_of_reads (n := rootI) Tryz.underlying35 gv3 tv3 rfl (laidMet.reads h (.tail _ (.tail _ (.tail _ (.head _)))))
 have h4 := Hh.range_L gv4 tv4 (laidMet.reads h (.tail _ (.tail _ (.tail _ (.tail _ (.head _))))))
 have r5 : VarReads Tryz.prog W "missive/hash.firstWords" Rows.laid_missive_hash_firstWords := laidMet.reads h (.tail _ (.tail _ (.tail _ (.tail _ (.tail _ (.head _))))))
 rw [fw_laid] at r5
 have h5 := Hh.range_words gv5 tv5 Tryz.underlying107 (show Hh.fws.length = 8 by kernel_rfl) r5
 have r6 : VarReads Tryz.prog W "missive/hash.roundWords" Rows.laid_missive_hash_roundWords := laidMet.reads h (.tail _ (.tail _ (.tail _ (.tail _ (.tail _ (.tail _ (.head _)))))))
 rw [rw_laid] at r6
 have h6 := Hh.range_words gv6 tv6 Tryz.underlying109 (show Hh.rws.length = 80 by kernel_rfl) r6
 have h7 := at_of_reads (n := Sc.Lq) Tryz.underlying73 gv7 tv7 rfl (laidMet.reads h (.tail _ (.tail _ (.tail _ (.tail _ (.tail _ (.tail _ (.tail _ (.head _)))))))))
 have h8 := at_of_reads (n := Sc.Ext) Tryz.underlying73 gv8 tv8 rfl (laidMet.reads h (.tail _ (.tail _ (.tail _ (.tail _ (.tail _ (.tail _ (.tail _ (.tail _ (.head _))))))))))
 have hb : 9 ≤ W.heap.size := World.block_lt_of_cell? W ⟨8, 0, none⟩ (h6 0 (Hh.bv .u64 (Hh.rws.getD 0 0)) (by rw [Array.getElem?_toList]; exact Hh.wc_get .u64 Hh.rws 0 (by decide)))
 exact ⟨⟨hb, h0, h2, h3, h1⟩, ⟨hb, h8, h7⟩, ⟨hb, h4, h5, h6⟩⟩
def laidCells (c : Array Value) : Obj → Obj
 | .cells _ t f => .cells c t f
 | o => o
theorem laid_met (os : Os) (args : Array Value) : laidMet Tryz.prog laidList (({ World.holding Tryz.prog os ⟨#[], #[], []⟩ with heap := ((((((((((World.holding Tryz.prog os ⟨#[], #[], []⟩).heap.modify 1 (laidCells #[.int .u64 18446744073709551597, .int .u64 18446744073709551615, .int .u64 18446744073709551615, .int .u64 9223372036854775807])).modify 2 (laidCells #[.int .u64 18446744073709551595, .int .u64 18446744073709551615, .int .u64 18446744073709551615, .int .u64 9223372036854775807])).modify 5 (laidCells #[.int .u64 18446744073709551614, .int .u64 18446744073709551615, .int .u64 18446744073709551615, .int .u64 1152921504606846975])).modify 6 (laidCells #[.int .u64 14190309331451158704, .int .u64 3405592160176694392, .int .u64 3120150775007532967, .int .u64 3135389899092516619])).modify 0 (laidCells Hh.kcL)).modify 7 (laidCells (Hh.wc .u64 Hh.fws))).modify 8 (laidCells (Hh.wc .u64 Hh.rws))).modify 4 (laidCells #[.int .u64 6346243789798364141, .int .u64 1503914060200516822, .int .u64 0, .int .u64 1152921504606846976])).modify 3 (laidCells #[.int .u64 6346243789798364141, .int .u64 1503914060200516822, .int .u64 0, .int .u64 0])) } : World).forCall (fun _ _ => 0) ⟨#[], args, []⟩).memory :=
 laidMet_of_run' 8 (by kernel_rfl) (by kernel_rfl)
end Go.Proofs.YtefjnfeckenmkaaGreatDoor
