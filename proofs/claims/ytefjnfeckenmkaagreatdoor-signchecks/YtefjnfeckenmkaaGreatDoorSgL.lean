/-
 hash's variables as they are laid.
-/
import Derived.Test.YtefjnfeckenmkaaGreatDoorH3
import Derived.Lib.LaidU8
import Derived.ProofKit
import Derived.OpenShut
import Derived.ShutString
import Derived.ChangeOld
import Derived.ChangeArms
namespace Go.Proofs.YtefjnfeckenmkaaGreatDoor.Hh
set_option maxRecDepth 100000
open Go.RowKit Go.Lib
theorem c42 : Tryz.prog.cellsOf 34 = 1 := by kernel_rfl
theorem c32 : Tryz.prog.cellsOf 86 = 1 := by kernel_rfl
theorem c3 : Tryz.prog.cellsOf 3 = 1 := by kernel_rfl
section
variable {w : World}
theorem range_words {name : String} {g T n : Nat} {zs : List (BitVec 64)} (hg : Tryz.prog.globalNamed name = some g) (ht : (Tryz.prog.globals[g]?).map (·.type) = some T) (hT : Tryz.prog.underlying T = some (.array n 34)) (hn : zs.length = n)
  (h : VarReads Tryz.prog w name (.agg (zs.map fun z => .lit (.int .u64 (z.toNat : Int))))) : w.rangeAt g 0 (wc .u64 zs).toList := by
 obtain ⟨g', t, cs, fuel, p, h1, h2, h3, h4⟩ := h
 rw [hg] at h1
 obtain rfl := Option.some.inj h1
 rw [ht] at h2
 obtain rfl := Option.some.inj h2
 intro i v hv
 have hi : i < zs.length := by have := (List.getElem?_eq_some_iff.1 hv).1; simpa [wc] using this
 obtain ⟨f', d', q, e1, e2⟩ := array_elem hT h4 i (by omega)
 rw [c42, Nat.mul_one] at e2
 rw [List.getElem?_map, List.getElem?_eq_getElem hi] at e1
 obtain rfl := Option.some.inj e1
 obtain ⟨y, hy, hd, _⟩ := DataW.trod_int Tryz.underlying34 e2
 have ey : y = (zs[i].toNat : Int) := by
  simp at hd
  exact hd.1.symm
 subst ey
 have hvv : v = .int .u64 (zs[i].toNat : Int) := by
  rw [Array.getElem?_toList, wc_get .u64 zs i hi] at hv
  rw [← Option.some.inj hv, List.getD_eq_getElem?_getD, List.getElem?_eq_getElem hi]
  rfl
 rw [hvv, Nat.zero_add, var?_cell hg h3 i]
 have := congrArg (·[0]?) hy
 simpa [List.getElem?_take, List.getElem?_drop] using this
theorem int_field {H : Type} {enc : TypeId × Value → H} {base : Nat} {sp : Nat → Bool} {held : Bool} {cs : List Value} {off T fuel : Nat} {k : IntKind} {z : Int} {q : List MemPlace} (hT : Tryz.prog.underlying T = some (.int k)) (h1 : Tryz.prog.cellsOf T = 1)
  (h : DataW.trod enc Tryz.prog w base sp held fuel T ((cs.drop off).take (Tryz.prog.cellsOf T)) = some (.lit (.int k z), q)) : cs[off]? = some (.int k z) := by
 rw [h1] at h
 obtain ⟨y, hy, hd, _⟩ := DataW.trod_int hT h
 have ey : y = z := by
  simp at hd
  exact hd.1.symm
 subst ey
 have := congrArg (·[0]?) hy
 simpa [List.getElem?_take, List.getElem?_drop] using this
theorem struct_elem {H : Type} {enc : TypeId × Value → H} {base : Nat} {sp : Nat → Bool} {held : Bool} {fuel T : Nat} {fs : Array Field} {cs : List Value} {ds : List (DataW H)} {p : List MemPlace} (hT : Tryz.prog.underlying T = some (.struct fs))
  (h : DataW.trod enc Tryz.prog w base sp held fuel T cs = some (.agg ds, p)) (i : Nat) {f : Field} (hf : fs[i]? = some f) {d : DataW H} (hd : ds[i]? = some d) :
  ∃ fuel' q, DataW.trod enc Tryz.prog w base sp held fuel' f.type ((cs.drop f.offset).take (Tryz.prog.cellsOf f.type)) = some (d, q) := by
 obtain ⟨xs, n, _, hx, _, hlen, hall⟩ := DataW.trod_struct hT h
 have hds : ds = xs.map (·.1) := by
  have := congrArg Prod.fst hx
  simpa using this
 have h2 := hall i f hf
 rw [hds, List.getElem?_map] at hd
 cases hy : xs[i]? with
 | none => rw [hy] at hd; cases hd
 | some y =>
  rw [hy] at hd h2
  obtain rfl := Option.some.inj hd
  exact ⟨n, y.2, h2⟩
theorem range_L {name : String} {g : Nat} (hg : Tryz.prog.globalNamed name = some g) (ht : (Tryz.prog.globals[g]?).map (·.type) = some 103)
  (h : VarReads Tryz.prog w name (.agg [.lit (.int .u64 64), .lit (.int .i64 128), .lit (.int .i64 80), .lit (.int .i64 16), .agg [.lit (.int .u64 28), .lit (.int .u64 34), .lit (.int .u64 39)], .agg [.lit (.int .u64 14), .lit (.int .u64 18), .lit (.int .u64 41)], .agg [.lit (.int .u64 1), .lit (.int .u64 8), .lit (.int .u64 7)], .agg [.lit (.int .u64 19), .lit (.int .u64 61), .lit (.int .u64 6)]])) : w.rangeAt g 0 kcL.toList := by
 obtain ⟨g', t, cs, fuel, p, h1, h2, h3, h4⟩ := h
 rw [hg] at h1
 obtain rfl := Option.some.inj h1
 rw [ht] at h2
 obtain rfl := Option.some.inj h2
 have a0 : cs.toList[0]? = some (.int .u64 64) := by
  obtain ⟨f', q, e⟩ := struct_elem Tryz.underlying103 h4 0 rfl rfl
  exact int_field (off := 0) (T := 86) Tryz.underlying86 c32 e
 have a1 : cs.toList[1]? = some (.int .i64 128) := by
  obtain ⟨f', q, e⟩ := struct_elem Tryz.underlying103 h4 1 rfl rfl
  exact int_field (off := 1) (T := 3) Tryz.underlying3 c3 e
 have a2 : cs.toList[2]? = some (.int .i64 80) := by
  obtain ⟨f', q, e⟩ := struct_elem Tryz.underlying103 h4 2 rfl rfl
  exact int_field (off := 2) (T := 3) Tryz.underlying3 c3 e
 have a3 : cs.toList[3]? = some (.int .i64 16) := by
  obtain ⟨f', q, e⟩ := struct_elem Tryz.underlying103 h4 3 rfl rfl
  exact int_field (off := 3) (T := 3) Tryz.underlying3 c3 e
 have a4 : cs.toList[4]? = some (.int .u64 28) := by
  obtain ⟨f', q, e⟩ := struct_elem Tryz.underlying103 h4 4 rfl rfl
  obtain ⟨f2, q2, e2⟩ := struct_elem Tryz.underlying101 e 0 rfl rfl
  have e3 := int_field (off := 0) (T := 86) Tryz.underlying86 c32 e2
  have e4 : ((cs.toList.drop 4).take 3)[0]? = some (.int .u64 28) := e3
  simpa [List.getElem?_take, List.getElem?_drop] using e4
 have a5 : cs.toList[5]? = some (.int .u64 34) := by
  obtain ⟨f', q, e⟩ := struct_elem Tryz.underlying103 h4 4 rfl rfl
  obtain ⟨f2, q2, e2⟩ := struct_elem Tryz.underlying101 e 1 rfl rfl
  have e3 := int_field (off := 1) (T := 86) Tryz.underlying86 c32 e2
  have e4 : ((cs.toList.drop 4).take 3)[1]? = some (.int .u64 34) := e3
  simpa [List.getElem?_take, List.getElem?_drop] using e4
 have a6 : cs.toList[6]? = some (.int .u64 39) := by
  obtain ⟨f', q, e⟩ := struct_elem Tryz.underlying103 h4 4 rfl rfl
  obtain ⟨f2, q2, e2⟩ := struct_elem Tryz.underlying101 e 2 rfl rfl
  have e3 := int_field (off := 2) (T := 86) Tryz.underlying86 c32 e2
  have e4 : ((cs.toList.drop 4).take 3)[2]? = some (.int .u64 39) := e3
  simpa [List.getElem?_take, List.getElem?_drop] using e4
 have a7 : cs.toList[7]? = some (.int .u64 14) := by
  obtain ⟨f', q, e⟩ := struct_elem Tryz.underlying103 h4 5 rfl rfl
  obtain ⟨f2, q2, e2⟩ := struct_elem Tryz.underlying101 e 0 rfl rfl
  have e3 := int_field (off := 0) (T := 86) Tryz.underlying86 c32 e2
  have e4 : ((cs.toList.drop 7).take 3)[0]? = some (.int .u64 14) := e3
  simpa [List.getElem?_take, List.getElem?_drop] using e4
 have a8 : cs.toList[8]? = some (.int .u64 18) := by
  obtain ⟨f', q, e⟩ := struct_elem Tryz.underlying103 h4 5 rfl rfl
  obtain ⟨f2, q2, e2⟩ := struct_elem Tryz.underlying101 e 1 rfl rfl
  have e3 := int_field (off := 1) (T := 86) Tryz.underlying86 c32 e2
  have e4 : ((cs.toList.drop 7).take 3)[1]? = some (.int .u64 18) := e3
  simpa [List.getElem?_take, List.getElem?_drop] using e4
 have a9 : cs.toList[9]? = some (.int .u64 41) := by
  obtain ⟨f', q, e⟩ := struct_elem Tryz.underlying103 h4 5 rfl rfl
  obtain ⟨f2, q2, e2⟩ := struct_elem Tryz.underlying101 e 2 rfl rfl
  have e3 := int_field (off := 2) (T := 86) Tryz.underlying86 c32 e2
  have e4 : ((cs.toList.drop 7).take 3)[2]? = some (.int .u64 41) := e3
  simpa [List.getElem?_take, List.getElem?_drop] using e4
 have a10 : cs.toList[10]? = some (.int .u64 1) := by
  obtain ⟨f', q, e⟩ := struct_elem Tryz.underlying103 h4 6 rfl rfl
  obtain ⟨f2, q2, e2⟩ := struct_elem Tryz.underlying101 e 0 rfl rfl
  have e3 := int_field (off := 0) (T := 86) Tryz.underlying86 c32 e2
  have e4 : ((cs.toList.drop 10).take 3)[0]? = some (.int .u64 1) := e3
  simpa [List.getElem?_take, List.getElem?_drop] using e4
 have a11 : cs.toList[11]? = some (.int .u64 8) := by
  obtain ⟨f', q, e⟩ := struct_elem Tryz.underlying103 h4 6 rfl rfl
  obtain ⟨f2, q2, e2⟩ := struct_elem Tryz.underlying101 e 1 rfl rfl
  have e3 := int_field (off := 1) (T := 86) Tryz.underlying86 c32 e2
  have e4 : ((cs.toList.drop 10).take 3)[1]? = some (.int .u64 8) := e3
  simpa [List.getElem?_take, List.getElem?_drop] using e4
 have a12 : cs.toList[12]? = some (.int .u64 7) := by
  obtain ⟨f', q, e⟩ := struct_elem Tryz.underlying103 h4 6 rfl rfl
  obtain ⟨f2, q2, e2⟩ := struct_elem Tryz.underlying101 e 2 rfl rfl
  have e3 := int_field (off := 2) (T := 86) Tryz.underlying86 c32 e2
  have e4 : ((cs.toList.drop 10).take 3)[2]? = some (.int .u64 7) := e3
  simpa [List.getElem?_take, List.getElem?_drop] using e4
 have a13 : cs.toList[13]? = some (.int .u64 19) := by
  obtain ⟨f', q, e⟩ := struct_elem Tryz.underlying103 h4 7 rfl rfl
  obtain ⟨f2, q2, e2⟩ := struct_elem Tryz.underlying101 e 0 rfl rfl
  have e3 := int_field (off := 0) (T := 86) Tryz.underlying86 c32 e2
  have e4 : ((cs.toList.drop 13).take 3)[0]? = some (.int .u64 19) := e3
  simpa [List.getElem?_take, List.getElem?_drop] using e4
 have a14 : cs.toList[14]? = some (.int .u64 61) := by
  obtain ⟨f', q, e⟩ := struct_elem Tryz.underlying103 h4 7 rfl rfl
  obtain ⟨f2, q2, e2⟩ := struct_elem Tryz.underlying101 e 1 rfl rfl
  have e3 := int_field (off := 1) (T := 86) Tryz.underlying86 c32 e2
  have e4 : ((cs.toList.drop 13).take 3)[1]? = some (.int .u64 61) := e3
  simpa [List.getElem?_take, List.getElem?_drop] using e4
 have a15 : cs.toList[15]? = some (.int .u64 6) := by
  obtain ⟨f', q, e⟩ := struct_elem Tryz.underlying103 h4 7 rfl rfl
  obtain ⟨f2, q2, e2⟩ := struct_elem Tryz.underlying101 e 2 rfl rfl
  have e3 := int_field (off := 2) (T := 86) Tryz.underlying86 c32 e2
  have e4 : ((cs.toList.drop 13).take 3)[2]? = some (.int .u64 6) := e3
  simpa [List.getElem?_take, List.getElem?_drop] using e4
 intro i v hv
 rw [Nat.zero_add, var?_cell hg h3 i, ← Array.getElem?_toList]
 rcases i with _ | _ | _ | _ | _ | _ | _ | _ | _ | _ | _ | _ | _ | _ | _ | _ | i
 ·exact a0.trans hv
 ·exact a1.trans hv
 ·exact a2.trans hv
 ·exact a3.trans hv
 ·exact a4.trans hv
 ·exact a5.trans hv
 ·exact a6.trans hv
 ·exact a7.trans hv
 ·exact a8.trans hv
 ·exact a9.trans hv
 ·exact a10.trans hv
 ·exact a11.trans hv
 ·exact a12.trans hv
 ·exact a13.trans hv
 ·exact a14.trans hv
 ·exact a15.trans hv
 ·cases hv
end
end Go.Proofs.YtefjnfeckenmkaaGreatDoor.Hh
