/- the base so many times hangs on the number modulo L alone. -/
import Derived.Test.YtpaendmdcdeemaaDoorScZ
import Derived.Test.YtpaendmdcdeemaaDoorKit
import Derived.Test.YtpaendmdcdeemaaDoorScX
namespace Go.Proofs.YtpaendmdcdeemaaDoor
open Go.ChangeShapes Go.WideShapes Go.ChangeAt Go.RowKit Num Go.Lib

/-- a variable that reads as four words holds them -/
theorem at_of_reads95 {w : World} {name : String} {g n a b c d : Nat} (hg : Tryd.prog.globalNamed name = some g) (ht : (Tryd.prog.globals[g]?).map (·.type) = some 95)
    (hn : digs K 4 n = [a, b, c, d])
    (h : VarReads Tryd.prog w name (.agg [.lit (.int .u64 a), .lit (.int .u64 b), .lit (.int .u64 c), .lit (.int .u64 d)])) : At w g n := by
  obtain ⟨g', t, cs, fuel, p, h1, h2, h3, h4⟩ := h
  rw [hg] at h1
  obtain rfl := Option.some.inj h1
  rw [ht] at h2
  obtain rfl := Option.some.inj h2
  have key : ∀ i (hi : i < 4) (z : Nat), [a, b, c, d][i]? = some z → w.cell? ⟨g, i, none⟩ = some (.int .u64 (z : Int)) := fun i hi z hz => by
    obtain ⟨f', d', q, e1, e2⟩ := array_elem Tryd.underlying95 h4 i hi
    rw [cells22, Nat.mul_one] at e2
    have e3 : d' = .lit (.int .u64 (z : Int)) := by
      have : ([a, b, c, d].map fun x : Nat => (DataW.lit (.int .u64 (x : Int)) : DataW Unit))[i]? = some d' := e1
      rw [List.getElem?_map, hz] at this
      exact (Option.some.inj this).symm
    subst e3
    obtain ⟨y, hy, hd, _⟩ := DataW.trod_int Tryd.underlying22 e2
    have ey : y = (z : Int) := by
      simp at hd
      exact hd.1.symm
    subst ey
    rw [var?_cell hg h3 i]
    have := congrArg (·[0]?) hy
    simpa [List.getElem?_take, List.getElem?_drop] using this
  intro i hi
  have hz : [a, b, c, d][i]? = some (n / K ^ i % K) := by
    rw [← hn, List.getElem?_eq_getElem (by rw [digs_length]; exact hi), digs_get]
  exact key i hi _ hz

theorem g4 : Tryd.prog.globalNamed "missive/scalar.extra" = some 4 := by kernel_rfl
theorem g5 : Tryd.prog.globalNamed "missive/scalar.order" = some 5 := by kernel_rfl
theorem t4 : (Tryd.prog.globals[4]?).map (·.type) = some 95 := by kernel_rfl
theorem t5 : (Tryd.prog.globals[5]?).map (·.type) = some 95 := by kernel_rfl
def laidList6 : List (String × DataW Unit) := [("missive/field.prime", Rows.laid_missive_field_prime), ("missive/field.toInverse", Rows.laid_missive_field_toInverse), ("missive/field.toRoot", Rows.laid_missive_field_toRoot), ("missive/field.rootMinus", Rows.laid_missive_field_rootMinus), ("missive/scalar.order", Rows.laid_missive_scalar_order), ("missive/scalar.extra", Rows.laid_missive_scalar_extra)]
theorem vars_of_laid6 {W : World} (h : laidMet Tryd.prog laidList6 W) : Vars W ∧ Sc.Vars W := by
  have h0 := at_of_reads (n := P) g0 t0 rfl (laidMet.reads h (.head _))
  have h1 := at_of_reads (n := P - 2) g1 t1 rfl (laidMet.reads h (.tail _ (.head _)))
  have h2 := at_of_reads (n := eighth) g2 t2 rfl (laidMet.reads h (.tail _ (.tail _ (.head _))))
  have h3 := at_of_reads (n := rootI) g3 t3 rfl (laidMet.reads h (.tail _ (.tail _ (.tail _ (.head _)))))
  have h4 := at_of_reads95 (n := Sc.Ext) g4 t4 rfl (laidMet.reads h (.tail _ (.tail _ (.tail _ (.tail _ (.tail _ (.head _)))))))
  have h5 := at_of_reads95 (n := Sc.Lq) g5 t5 rfl (laidMet.reads h (.tail _ (.tail _ (.tail _ (.tail _ (.head _))))))
  exact ⟨⟨lt_of_at h3, h0, h2, h3, h1⟩, ⟨lt_of_at h5, h4, h5⟩⟩
theorem laid_met6 (os : Os) (args : Array Value) : laidMet Tryd.prog laidList6 (({ World.holding Tryd.prog os ⟨#[], #[], []⟩ with heap := ((((((World.holding Tryd.prog os ⟨#[], #[], []⟩).heap.modify 0 (laidCells #[.int .u64 18446744073709551597, .int .u64 18446744073709551615, .int .u64 18446744073709551615, .int .u64 9223372036854775807])).modify 1 (laidCells #[.int .u64 18446744073709551595, .int .u64 18446744073709551615, .int .u64 18446744073709551615, .int .u64 9223372036854775807])).modify 2 (laidCells #[.int .u64 18446744073709551614, .int .u64 18446744073709551615, .int .u64 18446744073709551615, .int .u64 1152921504606846975])).modify 3 (laidCells #[.int .u64 14190309331451158704, .int .u64 3405592160176694392, .int .u64 3120150775007532967, .int .u64 3135389899092516619])).modify 4 (laidCells #[.int .u64 6346243789798364141, .int .u64 1503914060200516822, .int .u64 0, .int .u64 0])).modify 5 (laidCells #[.int .u64 6346243789798364141, .int .u64 1503914060200516822, .int .u64 0, .int .u64 1152921504606846976]) } : World).forCall (fun _ _ => 0) ⟨#[], args, []⟩).memory :=
  laidMet_of_run' 8 (by kernel_rfl) (by kernel_rfl)
end Go.Proofs.YtpaendmdcdeemaaDoor
namespace Go.Proofs.YtpaendmdcdeemaaDoor
open Go.ChangeShapes Go.WideShapes Go.ChangeAt Go.RowKit Num Go.Lib

theorem okWide_arr' {Q : Program} {w : World} {r : Reach} {base n : Nat} {t e : TypeId} {v : Value} (ht : Q.underlying t = some (.array n e)) (h : Value.okWide Q w r base t v) : ∃ c, v = .agg c ∧ c.size = Q.cellsOf t := by
  simp only [Value.okWide, ht] at h
  obtain ⟨c, h1, h2, _⟩ := h
  exact ⟨c, h1, h2⟩
theorem cells41 : Tryd.prog.cellsOf 41 = 32 := by kernel_rfl
set_option maxRecDepth 100000 in
/-- 32 bytes by value -/
theorem open32 {H : Type} {enc : TypeId × Value → H} {W : World} {r : Reach} {base : Nat} {v : Value} {d : DataW H} {p : List MemPlace} (hv : Value.okWide Tryd.prog W r base 41 v)
    (h : DataW.Trod enc Tryd.prog W 0 (fun _ => true) true 41 v d p) : ∃ l : List UInt8, l.length = 32 ∧ v = .agg (cs l).toArray := by
  obtain ⟨c, rfl, hc⟩ := okWide_arr' Tryd.underlying41 hv
  rw [cells41] at hc
  obtain ⟨fuel, hf⟩ := h
  obtain ⟨xs, m, _, _, _, hxl, hall⟩ := DataW.trod_array Tryd.underlying41 hf
  have key : ∀ i, i < 32 → ∃ u : UInt8, c[i]? = some (.int .u8 (u.toNat : Int)) := fun i hi => by
    have h1 := hall i hi
    obtain ⟨b, hb⟩ : ∃ b, xs[i]? = some b := ⟨xs[i]'(by omega), List.getElem?_eq_getElem (by omega)⟩
    rw [hb, cells5, Nat.mul_one] at h1
    obtain ⟨z, hz, _, wz⟩ := DataW.trod_int Tryd.underlying5 h1
    have bz : 0 ≤ z ∧ z ≤ 255 := by simpa [Lit.wf, IntKind.min, IntKind.max, IntKind.signed, IntKind.bits] using wz
    have h2 : c[i]? = some (.int .u8 z) := by
      have := congrArg (·[0]?) hz
      simpa [Value.cells, List.getElem?_take, List.getElem?_drop] using this
    refine ⟨UInt8.ofNat z.toNat, ?_⟩
    rw [h2, UInt8.toNat_ofNat']
    congr 2
    omega
  let f : Nat → UInt8 := fun i => if h : i < 32 then (key i h).choose else 0
  refine ⟨(List.range 32).map f, by simp, ?_⟩
  congr 1
  apply Array.ext_getElem?
  intro i
  by_cases hi : i < 32
  · rw [(key i hi).choose_spec]
    have e : f i = (key i hi).choose := dif_pos hi
    simp [cs, hi, e]
  · rw [Array.getElem?_eq_none (by omega), Array.getElem?_eq_none (by simp [cs]; omega)]

namespace curveScalars
set_option maxRecDepth 100000 in
theorem lifted (os : Os) (started : os.Started) (H : Type) (enc : TypeId × Value → H) :
    ReturnsInHanded {} Tryd.checked os 8 .any (fun w args => (Rows.curveScalarsSpec.pre enc Tryd.prog Tryd.f8 Rows.curveScalarsRow.domain false w args ∧ laidMet Tryd.prog Rows.curveScalarsRow.laid w) ∧ sizedMet enc Tryd.prog Tryd.f8 (OpenSpec.ofChange Rows.curveScalarsSpec) false w args)
      (Rows.curveScalarsSpec.post enc Tryd.prog Tryd.f8 false true false false) := by
  refine returnsInHanded_of_change_and (C := Tryd.checked) (X := fun w _ => laidMet Tryd.prog Rows.curveScalarsRow.laid w) (fun _ _ _ hh h => h.of_heap hh) own started (by kernel_rfl) Tryd.func8
    (ChangeSpec.witness_at (enc := enc) (C := Tryd.checked) (os := os) (X := fun w _ => laidMet Tryd.prog Rows.curveScalarsRow.laid w) false ({ World.holding Tryd.prog os ⟨#[], #[], []⟩ with heap := ((((((World.holding Tryd.prog os ⟨#[], #[], []⟩).heap.modify 0 (laidCells #[.int .u64 18446744073709551597, .int .u64 18446744073709551615, .int .u64 18446744073709551615, .int .u64 9223372036854775807])).modify 1 (laidCells #[.int .u64 18446744073709551595, .int .u64 18446744073709551615, .int .u64 18446744073709551615, .int .u64 9223372036854775807])).modify 2 (laidCells #[.int .u64 18446744073709551614, .int .u64 18446744073709551615, .int .u64 18446744073709551615, .int .u64 1152921504606846975])).modify 3 (laidCells #[.int .u64 14190309331451158704, .int .u64 3405592160176694392, .int .u64 3120150775007532967, .int .u64 3135389899092516619])).modify 4 (laidCells #[.int .u64 6346243789798364141, .int .u64 1503914060200516822, .int .u64 0, .int .u64 0])).modify 5 (laidCells #[.int .u64 6346243789798364141, .int .u64 1503914060200516822, .int .u64 0, .int .u64 1152921504606846976]) } : World) #[.agg (Array.replicate 32 (.int .u8 0)), .agg (Array.replicate 32 (.int .u8 0))] 8 rfl (by kernel_rfl) (by kernel_rfl) (by kernel_rfl) (by kernel_rfl) (by kernel_rfl) (laid_met6 os _)) ?_
  intro W base args ds gs before hval0 hW _ _ hL _
  have hval : ∀ (j : Nat) t v, Tryd.f8.params[j]? = some t → args[j]? = some v → Value.okWide Tryd.prog W .any base t v := hval0
  have hW' := hW
  obtain ⟨p, q, hA0, hV, rfl, hfz, hnd⟩ := hW
  have hA : DataW.TrodAll enc Tryd.prog W 0 (fun _ => true) true Tryd.f8.params.toList args.toList ds p := hA0
  rw [Tryd.params8] at hA hval
  obtain ⟨v0, vs0, d0, ds0, p0, q0, hargs, rfl, rfl, h0, r0⟩ := trodAll_cons hA
  obtain ⟨v1, vs1, d1, ds1, p1, q1, rfl, rfl, rfl, h1, r1⟩ := trodAll_cons r0
  obtain ⟨rfl, rfl, rfl⟩ := trodAll_nil r1
  obtain rfl : args = #[v0, v1] := by cases args; simp_all
  obtain ⟨rfl, rfl⟩ := trodVars_none hV
  have lt0 : ∀ x ∈ p0, x.block < W.heap.size := by obtain ⟨m, hm⟩ := h0; exact DataW.trod_lt m _ _ _ hm
  obtain ⟨l0, hl0, rfl⟩ := open32 (hval 0 41 v0 rfl rfl) h0
  have lt1 : ∀ x ∈ p1, x.block < W.heap.size := by obtain ⟨m, hm⟩ := h1; exact DataW.trod_lt m _ _ _ hm
  obtain ⟨l1, hl1, rfl⟩ := open32 (hval 1 41 v1 rfl rfl) h1
  clear hA0 hval0
  refine (CurveScalars_any l0 l1 hl0 hl1 W (vars_of_laid6 hL).1 (vars_of_laid6 hL).2).mono fun e W' ⟨he, bel⟩ => ?_
  subst he
  exact ⟨_, rfl, _, _, _, [], _, [], hW', trodAll_mk1 (shut_bool Tryd.underlying4 _), (trodAll_cons_mk (Below.trod laidOut (by kernel_rfl) (of_decide_eq_true (by kernel_rfl)) h0 bel lt0) (trodAll_cons_mk (Below.trod laidOut (by kernel_rfl) (of_decide_eq_true (by kernel_rfl)) h1 bel lt1) (trodAll_mk0))), rfl, bel.frame _, fun h => by cases h⟩

theorem over : Rows.CurveScalarsSaid :=
  OpenClaim.holds_of_wide 8 Tryd.f8 rfl rfl rfl rfl rfl rfl rfl ⟨rfl, rfl, rfl, rfl, rfl⟩ rfl rfl rfl rfl rfl (by kernel_rfl) Tryd.func8 (by kernel_rfl)
    (of_decide_eq_true (by kernel_rfl)) (by unfold Func.isWrapper; first | (rw [if_pos (by decide +kernel)]; kernel_rfl) | (rw [if_neg (by decide +kernel)]; exact ⟨rfl, rfl⟩))
    (fun os started H enc _ => lifted os started H enc)
end curveScalars

theorem curveScalars_card : Rows.CurveScalarsCardSaid :=
  Claim7.holds_tied_plain_at .later [] [.data, .data, .data, .data, .data, .data] true (true, "c1fe7c3feaafa87d18d9948de3135ce0744ae438c62809106cd5f94a78a2a5a8") false
    curveScalars.over (fun _ h => by cases h) (by kernel_rfl) (fun _ h => by cases h) curveScalars_row_tie rfl ⟨rfl, rfl⟩ (by kernel_rfl) rfl
    (fun f fn hf hfn => by
      obtain rfl : f = 8 := Option.some.inj ((show Tryd.prog.funcNamed "missive/missivelaw04.CurveScalars" = some 8 by kernel_rfl).symm.trans hf) |>.symm
      obtain rfl : fn = Tryd.f8 := (Option.some.inj (Tryd.func8.symm.trans hfn)).symm
      exact ⟨by kernel_rfl, fun j t ht => by
        rw [Tryd.params8] at ht
        rcases j with _ | _ | j
        · obtain rfl : t = 41 := by simpa using ht.symm
          exact (show Tryd.prog.wantsStandIn 41 = false by kernel_rfl)
        · obtain rfl : t = 41 := by simpa using ht.symm
          exact (show Tryd.prog.wantsStandIn 41 = false by kernel_rfl)
        · simp at ht⟩)
    (by kernel_rfl)
end Go.Proofs.YtpaendmdcdeemaaDoor
