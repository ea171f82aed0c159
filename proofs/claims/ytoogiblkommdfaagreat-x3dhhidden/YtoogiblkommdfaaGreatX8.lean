/-
  A device: made.
-/
import Derived.Test.YtoogiblkommdfaaGreatX4
import Derived.Test.YtoogiblkommdfaaGreatX7
set_option linter.unusedVariables false
namespace Go.Proofs.YtoogiblkommdfaaGreat
open Go.RowKit

section
variable {P : Program} {ops : Array Oper} {Q : Exit → Act → World → Prop} {a : Act} {rest : List Oper} {dst : Option Tmp} {ty ty' : TypeId} {pos : String} {aft : Array Edge} {gd : Option (Nat × Bool)} {w : World} {w0 : Base} {L : BL}
theorem wl_part {x y : Operand} {q off : Nat} {t : TypeId} {c0 c1 c : Array Value} (H : HA w0 L w) (i : Nat) (hi : L[i]? = some (q, t, c0)) (hw : Region.wanted ⟨dst, .store ty x y, ty', pos, aft, gd⟩ (yielded ops a.tmps) = true)
    (hx : a.eval x = .pointer (some ⟨q, off, none⟩)) (hy : a.eval y = .agg c1) (hoff : off + c1.size ≤ c0.size) (hc : (c0.toList.take off ++ c1.toList ++ c0.toList.drop (off + c1.size)).toArray = c) (hz : (P.info? ty).map (·.size) = some c1.size) (h1 : c1.all (·.oneCell') = true)
    (h : ∀ w', HA w0 (L.set i (q, t, c)) w' → WL P ops Q rest (a.put dst undef) w') : WL P ops Q (⟨dst, .store ty x y, ty', pos, aft, gd⟩ :: rest) a w := by
  have hb := H.get i hi
  have hth : w.there q off c1.size := fun j hj => ⟨by rw [hb.cell (off + j)]; simp; omega, hb.free (off + j) (by show _ < c0.size; omega)⟩
  have e : (execOp a.eval ⟨dst, .store ty x y, ty', pos, aft, gd⟩).run P w = .ok .skip (w.setCells q off c1.toList) := by
    simp only [execOp, hx, hy, Instr.storeAt, Instr.sureAddr, Sem.run_bind, Sem.run_pure, Result.andThen_ok, run_storeVar_mid w q off ty c1 hth hz h1]
  refine ⟨?_⟩
  unfold wpList
  rw [if_pos hw]
  refine .inl ?_
  unfold Oper.wp
  rw [e]
  have hp := H.part i hi (o := off) (vs := c1.toList) (by rw [Array.length_toList]; exact hoff)
  rw [Array.length_toList, hc] at hp
  exact (h _ hp).out
end
/-- a device -/
def dvC (s p o k : ByteArray) (x : Bu) : Array Value := #[.string s, .string p, .string o, .string k, .int .i64 x.u, .int .i64 x.d, .string x.sg, .string x.dh, .int .i64 x.pi, .string x.pr, .string x.ps, .int .i64 x.oi, .string x.on]
/-- what a device signs -/
def pre3 : ByteArray := ⟨(({ data := #[112, 114, 101] } : ByteArray).data.toList ++ Wi.be 3 (Wi.wd 4)).toArray⟩
def sg3 (q : ByteArray) : ByteArray := ⟨(pre3.data.toList ++ Wi.pt q.data.toList).toArray⟩
theorem sg3_size (q : Nat) : (sg3 (txt q)).size ≤ 1000 := by
  unfold sg3 pre3
  have h := txt_size q
  have e : (txt q).data.toList.length = 8 := by rw [Array.length_toList]; exact h
  show ((_ ++ Wi.pt (txt q).data.toList).toArray).size ≤ _
  rw [List.size_toArray, List.length_append, Wi.pt, List.length_append, Wi.be_length, e]
  show ((({ data := #[112, 114, 101] } : ByteArray).data.toList ++ Wi.be 3 (Wi.wd 4)).toArray).toList.length + _ ≤ _
  simp [Wi.be_length, Wi.wd]
  omega
set_option maxRecDepth 100000 in
set_option maxHeartbeats 2000000 in
theorem made_t {w0 w : World} {M : ML} {p : Pr} {A : List Ent} {n : Nat} {L : BL} (H : PH w0 M p A n L w) {A1 A2 A3 A4 A5 A6 A7 A8 : List Ent} {x0 x1 x2 k q s y1 g : Nat} (f0 : frA A = A1) (n0 : A.length = x0) (f1 : frA A1 = A2) (n1 : A1.length = x1) (f2 : frA A2 = A3) (n2 : A2.length = x2) (e3 : mkA A3 3 { data := #[] } [txt x0] = (A4, k)) (e4 : mkA A4 3 { data := #[] } [txt x1] = (A5, q)) (e5 : mkA A5 3 { data := #[] } [txt x2] = (A6, s)) (e6 : mkA A6 3 { data := #[] } [txt x2] = (A7, y1)) (e7 : mkA A7 7 { data := #[] } [txt x2, sg3 (txt q)] = (A8, g)) (l0 : A.length < 50000) (l1 : A1.length < 50000) (l2 : A2.length < 50000) (l3 : A3.length < 50000) (l4 : A4.length < 50000) (l5 : A5.length < 50000) (l6 : A6.length < 50000) (hj : n < 1000) {A9 A10 : List Ent} {x8 o : Nat} (f8 : frA A8 = A9) (n8 : A8.length = x8) (e9 : mkA A9 3 { data := #[] } [txt x8] = (A10, o)) (l8 : A8.length < 50000) (l9 : A9.length < 50000)  :
    Calls Tryz.prog 34 #[pt p.q, .agg #[.string { data := #[] }, .string { data := #[] }, .string { data := #[] }, .string { data := #[] }], .bool true] w fun e w' => e = .returned (.tuple #[.agg (dvC ((txt x0)) ((txt x1)) ((txt x8)) ((txt k)) (mkB 1 1 ((txt s)) ((txt k)) 3 ((txt q)) ((txt g)) 9 ((txt o)))), .bool true]) ∧ PH w0 M p A10 (n + 1) L w' := by
  obtain ⟨z0, X0, hcl0, hbe0, H0⟩ := PH.front H
  go_enter Tryz.func34, Tryz.ntmps34
  refine wp_seq (wl_region ?_)
  refine wl_make (c := #[.string ({ data := #[] }), .string ({ data := #[] }), .string ({ data := #[] }), .string ({ data := #[] })]) H0 80 ky ky ?_
  intro q1 w2 (h3 : HA z0 ((q1, 80, #[.string ({ data := #[] }), .string ({ data := #[] }), .string ({ data := #[] }), .string ({ data := #[] })]) :: (L ++ X0)) w2)
  refine wl_make (c := dvC ({ data := #[] }) ({ data := #[] }) ({ data := #[] }) ({ data := #[] }) (mkB 0 0 ({ data := #[] }) ({ data := #[] }) 0 ({ data := #[] }) ({ data := #[] }) 0 ({ data := #[] }))) h3 77 ky ky ?_
  intro q4 w5 (h6 : HA z0 ((q4, 77, dvC ({ data := #[] }) ({ data := #[] }) ({ data := #[] }) ({ data := #[] }) (mkB 0 0 ({ data := #[] }) ({ data := #[] }) 0 ({ data := #[] }) ({ data := #[] }) 0 ({ data := #[] }))) :: (q1, 80, #[.string ({ data := #[] }), .string ({ data := #[] }), .string ({ data := #[] }), .string ({ data := #[] })]) :: (L ++ X0)) w5)
  refine zv (.bool false) ?_
  refine wl_nil (then_at rfl (wp_seq (wl_region ?_)))
  refine wl_make (c := dvC ({ data := #[] }) ({ data := #[] }) ({ data := #[] }) ({ data := #[] }) (mkB 0 0 ({ data := #[] }) ({ data := #[] }) 0 ({ data := #[] }) ({ data := #[] }) 0 ({ data := #[] }))) h6 77 ky ky ?_
  intro q7 w8 (h9 : HA z0 ((q7, 77, dvC ({ data := #[] }) ({ data := #[] }) ({ data := #[] }) ({ data := #[] }) (mkB 0 0 ({ data := #[] }) ({ data := #[] }) 0 ({ data := #[] }) ({ data := #[] }) 0 ({ data := #[] }))) :: (q4, 77, dvC ({ data := #[] }) ({ data := #[] }) ({ data := #[] }) ({ data := #[] }) (mkB 0 0 ({ data := #[] }) ({ data := #[] }) 0 ({ data := #[] }) ({ data := #[] }) 0 ({ data := #[] }))) :: (q1, 80, #[.string ({ data := #[] }), .string ({ data := #[] }), .string ({ data := #[] }), .string ({ data := #[] })]) :: (L ++ X0)) w8)
  refine wl_nil (then_at rfl (wp_seq (wl_region ?_)))
  refine zv (.pointer (some ⟨p.q, 0, none⟩)) ?_
  refine zu (.pointer (some ⟨q1, 0, none⟩)) (run_addr_arr (q := q1) (a := 0) Tryz.underlying80 (fun w => Tryz.sizeOf9 w) ky ky (by decide)) ?_
  refine zu (.string ({ data := #[] })) (run_load1 (fun w => Tryz.isAgg9 w) ky (((h9.get 2 rfl).cell 0).trans rfl)) ?_
  refine wl_callx ky enter18 #[.pointer (some ⟨p.q, 0, none⟩), .string ({ data := #[] })] ky (Secret_E (hcl0 ((q7, 77, dvC ({ data := #[] }) ({ data := #[] }) ({ data := #[] }) ({ data := #[] }) (mkB 0 0 ({ data := #[] }) ({ data := #[] }) 0 ({ data := #[] }) ({ data := #[] }) 0 ({ data := #[] }))) :: (q4, 77, dvC ({ data := #[] }) ({ data := #[] }) ({ data := #[] }) ({ data := #[] }) (mkB 0 0 ({ data := #[] }) ({ data := #[] }) 0 ({ data := #[] }) ({ data := #[] }) 0 ({ data := #[] }))) :: (q1, 80, #[.string ({ data := #[] }), .string ({ data := #[] }), .string ({ data := #[] }), .string ({ data := #[] })]) :: L) _ h9) ({ data := #[] }) (by omega) f0 n0) ?_
  rintro _ w11 ⟨rfl, hD10⟩
  refine ⟨_, rfl, ?_⟩
  obtain ⟨z12, X13, hcl14, hbe15, h16⟩ := PH.front hD10
  have h17 : HA z12 ((q7, 77, dvC ({ data := #[] }) ({ data := #[] }) ({ data := #[] }) ({ data := #[] }) (mkB 0 0 ({ data := #[] }) ({ data := #[] }) 0 ({ data := #[] }) ({ data := #[] }) 0 ({ data := #[] }))) :: (q4, 77, dvC ({ data := #[] }) ({ data := #[] }) ({ data := #[] }) ({ data := #[] }) (mkB 0 0 ({ data := #[] }) ({ data := #[] }) 0 ({ data := #[] }) ({ data := #[] }) 0 ({ data := #[] }))) :: (q1, 80, #[.string ({ data := #[] }), .string ({ data := #[] }), .string ({ data := #[] }), .string ({ data := #[] })]) :: (L ++ X13)) w11 := h16
  refine zv (.pointer (some ⟨q7, 0, none⟩)) ?_
  refine wl_putv (v := .string ((txt x0))) h17 0 rfl 0 (by show 0 < 13; decide) ky (fun w => Tryz.sizeOf9 w) ky ky ky ?_
  intro w18 (h19 : HA z12 ((q7, 77, dvC ((txt x0)) ({ data := #[] }) ({ data := #[] }) ({ data := #[] }) (mkB 0 0 ({ data := #[] }) ({ data := #[] }) 0 ({ data := #[] }) ({ data := #[] }) 0 ({ data := #[] }))) :: (q4, 77, dvC ({ data := #[] }) ({ data := #[] }) ({ data := #[] }) ({ data := #[] }) (mkB 0 0 ({ data := #[] }) ({ data := #[] }) 0 ({ data := #[] }) ({ data := #[] }) 0 ({ data := #[] }))) :: (q1, 80, #[.string ({ data := #[] }), .string ({ data := #[] }), .string ({ data := #[] }), .string ({ data := #[] })]) :: (L ++ X13)) w18)
  refine wl_nil (then_at rfl (wp_seq (wl_region ?_)))
  refine zv (.pointer (some ⟨p.q, 0, none⟩)) ?_
  refine zu (.pointer (some ⟨q1, 1, none⟩)) (run_addr_arr (q := q1) (a := 1) Tryz.underlying80 (fun w => Tryz.sizeOf9 w) ky ky (by decide)) ?_
  refine zu (.string ({ data := #[] })) (run_load1 (fun w => Tryz.isAgg9 w) ky (((h19.get 2 rfl).cell 1).trans rfl)) ?_
  refine wl_callx ky enter18 #[.pointer (some ⟨p.q, 0, none⟩), .string ({ data := #[] })] ky (Secret_E (hcl14 ((q7, 77, dvC ((txt x0)) ({ data := #[] }) ({ data := #[] }) ({ data := #[] }) (mkB 0 0 ({ data := #[] }) ({ data := #[] }) 0 ({ data := #[] }) ({ data := #[] }) 0 ({ data := #[] }))) :: (q4, 77, dvC ({ data := #[] }) ({ data := #[] }) ({ data := #[] }) ({ data := #[] }) (mkB 0 0 ({ data := #[] }) ({ data := #[] }) 0 ({ data := #[] }) ({ data := #[] }) 0 ({ data := #[] }))) :: (q1, 80, #[.string ({ data := #[] }), .string ({ data := #[] }), .string ({ data := #[] }), .string ({ data := #[] })]) :: L) _ h19) ({ data := #[] }) (by omega) f1 n1) ?_
  rintro _ w21 ⟨rfl, hD20⟩
  refine ⟨_, rfl, ?_⟩
  obtain ⟨z22, X23, hcl24, hbe25, h26⟩ := PH.front hD20
  have h27 : HA z22 ((q7, 77, dvC ((txt x0)) ({ data := #[] }) ({ data := #[] }) ({ data := #[] }) (mkB 0 0 ({ data := #[] }) ({ data := #[] }) 0 ({ data := #[] }) ({ data := #[] }) 0 ({ data := #[] }))) :: (q4, 77, dvC ({ data := #[] }) ({ data := #[] }) ({ data := #[] }) ({ data := #[] }) (mkB 0 0 ({ data := #[] }) ({ data := #[] }) 0 ({ data := #[] }) ({ data := #[] }) 0 ({ data := #[] }))) :: (q1, 80, #[.string ({ data := #[] }), .string ({ data := #[] }), .string ({ data := #[] }), .string ({ data := #[] })]) :: (L ++ X23)) w21 := h26
  refine zv (.pointer (some ⟨q7, 1, none⟩)) ?_
  refine wl_putv (v := .string ((txt x1))) h27 0 rfl 1 (by show 1 < 13; decide) ky (fun w => Tryz.sizeOf9 w) ky ky ky ?_
  intro w28 (h29 : HA z22 ((q7, 77, dvC ((txt x0)) ((txt x1)) ({ data := #[] }) ({ data := #[] }) (mkB 0 0 ({ data := #[] }) ({ data := #[] }) 0 ({ data := #[] }) ({ data := #[] }) 0 ({ data := #[] }))) :: (q4, 77, dvC ({ data := #[] }) ({ data := #[] }) ({ data := #[] }) ({ data := #[] }) (mkB 0 0 ({ data := #[] }) ({ data := #[] }) 0 ({ data := #[] }) ({ data := #[] }) 0 ({ data := #[] }))) :: (q1, 80, #[.string ({ data := #[] }), .string ({ data := #[] }), .string ({ data := #[] }), .string ({ data := #[] })]) :: (L ++ X23)) w28)
  refine wl_nil (then_at rfl (wp_seq (wl_region ?_)))
  refine zv (.pointer (some ⟨p.q, 0, none⟩)) ?_
  refine zu (.pointer (some ⟨q1, 2, none⟩)) (run_addr_arr (q := q1) (a := 2) Tryz.underlying80 (fun w => Tryz.sizeOf9 w) ky ky (by decide)) ?_
  refine zu (.string ({ data := #[] })) (run_load1 (fun w => Tryz.isAgg9 w) ky (((h29.get 2 rfl).cell 2).trans rfl)) ?_
  refine wl_callx ky enter18 #[.pointer (some ⟨p.q, 0, none⟩), .string ({ data := #[] })] ky (Secret_E (hcl24 ((q7, 77, dvC ((txt x0)) ((txt x1)) ({ data := #[] }) ({ data := #[] }) (mkB 0 0 ({ data := #[] }) ({ data := #[] }) 0 ({ data := #[] }) ({ data := #[] }) 0 ({ data := #[] }))) :: (q4, 77, dvC ({ data := #[] }) ({ data := #[] }) ({ data := #[] }) ({ data := #[] }) (mkB 0 0 ({ data := #[] }) ({ data := #[] }) 0 ({ data := #[] }) ({ data := #[] }) 0 ({ data := #[] }))) :: (q1, 80, #[.string ({ data := #[] }), .string ({ data := #[] }), .string ({ data := #[] }), .string ({ data := #[] })]) :: L) _ h29) ({ data := #[] }) (by omega) f2 n2) ?_
  rintro _ w31 ⟨rfl, hD30⟩
  refine ⟨_, rfl, ?_⟩
  obtain ⟨z32, X33, hcl34, hbe35, h36⟩ := PH.front hD30
  have h37 : HA z32 ((q7, 77, dvC ((txt x0)) ((txt x1)) ({ data := #[] }) ({ data := #[] }) (mkB 0 0 ({ data := #[] }) ({ data := #[] }) 0 ({ data := #[] }) ({ data := #[] }) 0 ({ data := #[] }))) :: (q4, 77, dvC ({ data := #[] }) ({ data := #[] }) ({ data := #[] }) ({ data := #[] }) (mkB 0 0 ({ data := #[] }) ({ data := #[] }) 0 ({ data := #[] }) ({ data := #[] }) 0 ({ data := #[] }))) :: (q1, 80, #[.string ({ data := #[] }), .string ({ data := #[] }), .string ({ data := #[] }), .string ({ data := #[] })]) :: (L ++ X33)) w31 := h36
  refine zv (.string ((txt x2))) ?_
  refine wl_nil (then_at rfl (wp_seq (wl_region ?_)))
  refine zv (.pointer (some ⟨p.q, 0, none⟩)) ?_
  refine zv (.pointer (some ⟨q7, 0, none⟩)) ?_
  refine zu (.string ((txt x0))) (run_load1 (fun w => Tryz.isAgg9 w) ky (((h37.get 0 rfl).cell 0).trans rfl)) ?_
  refine wl_callx ky enter33 #[.pointer (some ⟨p.q, 0, none⟩), .string ((txt x0))] ky (Public_E (hcl34 ((q7, 77, dvC ((txt x0)) ((txt x1)) ({ data := #[] }) ({ data := #[] }) (mkB 0 0 ({ data := #[] }) ({ data := #[] }) 0 ({ data := #[] }) ({ data := #[] }) 0 ({ data := #[] }))) :: (q4, 77, dvC ({ data := #[] }) ({ data := #[] }) ({ data := #[] }) ({ data := #[] }) (mkB 0 0 ({ data := #[] }) ({ data := #[] }) 0 ({ data := #[] }) ({ data := #[] }) 0 ({ data := #[] }))) :: (q1, 80, #[.string ({ data := #[] }), .string ({ data := #[] }), .string ({ data := #[] }), .string ({ data := #[] })]) :: L) _ h37) ((txt x0)) (txL _) (by omega) e3) ?_
  rintro _ w39 ⟨rfl, hD38⟩
  refine ⟨_, rfl, ?_⟩
  obtain ⟨z40, X41, hcl42, hbe43, h44⟩ := PH.front hD38
  have h45 : HA z40 ((q7, 77, dvC ((txt x0)) ((txt x1)) ({ data := #[] }) ({ data := #[] }) (mkB 0 0 ({ data := #[] }) ({ data := #[] }) 0 ({ data := #[] }) ({ data := #[] }) 0 ({ data := #[] }))) :: (q4, 77, dvC ({ data := #[] }) ({ data := #[] }) ({ data := #[] }) ({ data := #[] }) (mkB 0 0 ({ data := #[] }) ({ data := #[] }) 0 ({ data := #[] }) ({ data := #[] }) 0 ({ data := #[] }))) :: (q1, 80, #[.string ({ data := #[] }), .string ({ data := #[] }), .string ({ data := #[] }), .string ({ data := #[] })]) :: (L ++ X41)) w39 := h44
  refine zv (.tuple #[.string ((txt k)), iN .i64 0]) ?_
  refine zv (.string ((txt k))) ?_
  refine zv (iN .i64 0) ?_
  refine zv (.string ((txt k))) ?_
  refine zv (iN .i64 0) ?_
  refine wl_nil (then_at rfl (wp_seq (wl_region ?_)))
  refine zv (.pointer (some ⟨p.q, 0, none⟩)) ?_
  refine zv (.pointer (some ⟨q7, 1, none⟩)) ?_
  refine zu (.string ((txt x1))) (run_load1 (fun w => Tryz.isAgg9 w) ky (((h45.get 0 rfl).cell 1).trans rfl)) ?_
  refine wl_callx ky enter33 #[.pointer (some ⟨p.q, 0, none⟩), .string ((txt x1))] ky (Public_E (hcl42 ((q7, 77, dvC ((txt x0)) ((txt x1)) ({ data := #[] }) ({ data := #[] }) (mkB 0 0 ({ data := #[] }) ({ data := #[] }) 0 ({ data := #[] }) ({ data := #[] }) 0 ({ data := #[] }))) :: (q4, 77, dvC ({ data := #[] }) ({ data := #[] }) ({ data := #[] }) ({ data := #[] }) (mkB 0 0 ({ data := #[] }) ({ data := #[] }) 0 ({ data := #[] }) ({ data := #[] }) 0 ({ data := #[] }))) :: (q1, 80, #[.string ({ data := #[] }), .string ({ data := #[] }), .string ({ data := #[] }), .string ({ data := #[] })]) :: L) _ h45) ((txt x1)) (txL _) (by omega) e4) ?_
  rintro _ w47 ⟨rfl, hD46⟩
  refine ⟨_, rfl, ?_⟩
  obtain ⟨z48, X49, hcl50, hbe51, h52⟩ := PH.front hD46
  have h53 : HA z48 ((q7, 77, dvC ((txt x0)) ((txt x1)) ({ data := #[] }) ({ data := #[] }) (mkB 0 0 ({ data := #[] }) ({ data := #[] }) 0 ({ data := #[] }) ({ data := #[] }) 0 ({ data := #[] }))) :: (q4, 77, dvC ({ data := #[] }) ({ data := #[] }) ({ data := #[] }) ({ data := #[] }) (mkB 0 0 ({ data := #[] }) ({ data := #[] }) 0 ({ data := #[] }) ({ data := #[] }) 0 ({ data := #[] }))) :: (q1, 80, #[.string ({ data := #[] }), .string ({ data := #[] }), .string ({ data := #[] }), .string ({ data := #[] })]) :: (L ++ X49)) w47 := h52
  refine zv (.tuple #[.string ((txt q)), iN .i64 0]) ?_
  refine zv (.string ((txt q))) ?_
  refine zv (iN .i64 0) ?_
  refine zv (.string ((txt q))) ?_
  refine zv (iN .i64 0) ?_
  refine wl_nil (then_at rfl (wp_seq (wl_region ?_)))
  refine zv (.pointer (some ⟨p.q, 0, none⟩)) ?_
  refine zv (.string ((txt x2))) ?_
  refine wl_callx ky enter20 #[.pointer (some ⟨p.q, 0, none⟩), .string ((txt x2))] ky (Signer_E (hcl50 ((q7, 77, dvC ((txt x0)) ((txt x1)) ({ data := #[] }) ({ data := #[] }) (mkB 0 0 ({ data := #[] }) ({ data := #[] }) 0 ({ data := #[] }) ({ data := #[] }) 0 ({ data := #[] }))) :: (q4, 77, dvC ({ data := #[] }) ({ data := #[] }) ({ data := #[] }) ({ data := #[] }) (mkB 0 0 ({ data := #[] }) ({ data := #[] }) 0 ({ data := #[] }) ({ data := #[] }) 0 ({ data := #[] }))) :: (q1, 80, #[.string ({ data := #[] }), .string ({ data := #[] }), .string ({ data := #[] }), .string ({ data := #[] })]) :: L) _ h53) ((txt x2)) (txL _) (by omega) e5) ?_
  rintro _ w55 ⟨rfl, hD54⟩
  refine ⟨_, rfl, ?_⟩
  obtain ⟨z56, X57, hcl58, hbe59, h60⟩ := PH.front hD54
  have h61 : HA z56 ((q7, 77, dvC ((txt x0)) ((txt x1)) ({ data := #[] }) ({ data := #[] }) (mkB 0 0 ({ data := #[] }) ({ data := #[] }) 0 ({ data := #[] }) ({ data := #[] }) 0 ({ data := #[] }))) :: (q4, 77, dvC ({ data := #[] }) ({ data := #[] }) ({ data := #[] }) ({ data := #[] }) (mkB 0 0 ({ data := #[] }) ({ data := #[] }) 0 ({ data := #[] }) ({ data := #[] }) 0 ({ data := #[] }))) :: (q1, 80, #[.string ({ data := #[] }), .string ({ data := #[] }), .string ({ data := #[] }), .string ({ data := #[] })]) :: (L ++ X57)) w55 := h60
  refine zv (.tuple #[.string ((txt s)), iN .i64 0]) ?_
  refine zv (.string ((txt s))) ?_
  refine zv (iN .i64 0) ?_
  refine zv (.string ((txt s))) ?_
  refine zv (iN .i64 0) ?_
  refine wl_nil (then_at rfl (wp_seq (wl_region ?_)))
  refine zv (.string ((txt k))) ?_
  refine zv (.pointer (some ⟨q7, 3, none⟩)) ?_
  refine wl_putv (v := .string ((txt k))) h61 0 rfl 3 (by show 3 < 13; decide) ky (fun w => Tryz.sizeOf9 w) ky ky ky ?_
  intro w62 (h63 : HA z56 ((q7, 77, dvC ((txt x0)) ((txt x1)) ({ data := #[] }) ((txt k)) (mkB 0 0 ({ data := #[] }) ({ data := #[] }) 0 ({ data := #[] }) ({ data := #[] }) 0 ({ data := #[] }))) :: (q4, 77, dvC ({ data := #[] }) ({ data := #[] }) ({ data := #[] }) ({ data := #[] }) (mkB 0 0 ({ data := #[] }) ({ data := #[] }) 0 ({ data := #[] }) ({ data := #[] }) 0 ({ data := #[] }))) :: (q1, 80, #[.string ({ data := #[] }), .string ({ data := #[] }), .string ({ data := #[] }), .string ({ data := #[] })]) :: (L ++ X57)) w62)
  refine wl_nil (then_at rfl (wp_seq (wl_region ?_)))
  refine zv (.string ((txt s))) ?_
  refine zv (.string ((txt k))) ?_
  refine zv (.string ((txt q))) ?_
  refine zv (.agg (buC (mkB 1 1 ((txt s)) ((txt k)) 3 ((txt q)) ({ data := #[] }) 0 ({ data := #[] })))) ?_
  refine zv (.pointer (some ⟨q7, 4, none⟩)) ?_
  refine wl_part (off := 4) (c1 := buC (mkB 1 1 ((txt s)) ((txt k)) 3 ((txt q)) ({ data := #[] }) 0 ({ data := #[] }))) (c := dvC ((txt x0)) ((txt x1)) ({ data := #[] }) ((txt k)) (mkB 1 1 ((txt s)) ((txt k)) 3 ((txt q)) ({ data := #[] }) 0 ({ data := #[] }))) h63 0 rfl ky ky ky (show 13 ≤ 13 from Nat.le_refl _) rfl ky ky ?_
  intro w64 (h65 : HA z56 ((q7, 77, dvC ((txt x0)) ((txt x1)) ({ data := #[] }) ((txt k)) (mkB 1 1 ((txt s)) ((txt k)) 3 ((txt q)) ({ data := #[] }) 0 ({ data := #[] }))) :: (q4, 77, dvC ({ data := #[] }) ({ data := #[] }) ({ data := #[] }) ({ data := #[] }) (mkB 0 0 ({ data := #[] }) ({ data := #[] }) 0 ({ data := #[] }) ({ data := #[] }) 0 ({ data := #[] }))) :: (q1, 80, #[.string ({ data := #[] }), .string ({ data := #[] }), .string ({ data := #[] }), .string ({ data := #[] })]) :: (L ++ X57)) w64)
  refine wl_nil (then_at rfl (wp_seq (wl_region ?_)))
  refine zv (.pointer (some ⟨p.q, 0, none⟩)) ?_
  refine zv (.string ((txt x2))) ?_
  refine wl_call (v := .string pre3) h65 ky enter75 #[.string ({ data := #[112, 114, 101] }), iN .i64 4, iN .u64 3] ky (Wi.PutNumber_any w64 { data := #[112, 114, 101] } 4 3 (by decide)) ?_
  intro w66 h67
  refine zv (.string ((txt q))) ?_
  refine wl_call (v := .string ((sg3 ((txt q))))) h67 ky enter74 #[.string pre3, .string ((txt q))] ky (Wi.PutText_any w66 pre3 ((txt q)) (by decide) (by rw [txt_size]; decide)) ?_
  intro w68 h69
  refine wl_callx ky enter22 #[.pointer (some ⟨p.q, 0, none⟩), .string ((txt x2)), .string ((sg3 ((txt q))))] ky (Sign_P (hcl58 ((q7, 77, dvC ((txt x0)) ((txt x1)) ({ data := #[] }) ((txt k)) (mkB 1 1 ((txt s)) ((txt k)) 3 ((txt q)) ({ data := #[] }) 0 ({ data := #[] }))) :: (q4, 77, dvC ({ data := #[] }) ({ data := #[] }) ({ data := #[] }) ({ data := #[] }) (mkB 0 0 ({ data := #[] }) ({ data := #[] }) 0 ({ data := #[] }) ({ data := #[] }) 0 ({ data := #[] }))) :: (q1, 80, #[.string ({ data := #[] }), .string ({ data := #[] }), .string ({ data := #[] }), .string ({ data := #[] })]) :: L) _ h69) ((txt x2)) ((sg3 ((txt q)))) (txL _) (Nat.le_trans (sg3_size _) (by decide)) (by omega) (by omega) e6 e7) ?_
  rintro _ w71 ⟨rfl, hD70⟩
  refine ⟨_, rfl, ?_⟩
  obtain ⟨z72, X73, hcl74, hbe75, h76⟩ := PH.front hD70
  have h77 : HA z72 ((q7, 77, dvC ((txt x0)) ((txt x1)) ({ data := #[] }) ((txt k)) (mkB 1 1 ((txt s)) ((txt k)) 3 ((txt q)) ({ data := #[] }) 0 ({ data := #[] }))) :: (q4, 77, dvC ({ data := #[] }) ({ data := #[] }) ({ data := #[] }) ({ data := #[] }) (mkB 0 0 ({ data := #[] }) ({ data := #[] }) 0 ({ data := #[] }) ({ data := #[] }) 0 ({ data := #[] }))) :: (q1, 80, #[.string ({ data := #[] }), .string ({ data := #[] }), .string ({ data := #[] }), .string ({ data := #[] })]) :: (L ++ X73)) w71 := h76
  refine zv (.tuple #[.string ((txt g)), iN .i64 0]) ?_
  refine zv (.string ((txt g))) ?_
  refine zv (iN .i64 0) ?_
  refine zv (.string ((txt g))) ?_
  refine zv (iN .i64 0) ?_
  refine wl_nil (then_at rfl (wp_seq (wl_region ?_)))
  refine zv (.string ((txt g))) ?_
  refine zv (.pointer (some ⟨q7, 4, none⟩)) ?_
  refine zv (.pointer (some ⟨q7, 10, none⟩)) ?_
  refine wl_putv (v := .string ((txt g))) h77 0 rfl 10 (by show 10 < 13; decide) ky (fun w => Tryz.sizeOf9 w) ky ky ky ?_
  intro w78 (h79 : HA z72 ((q7, 77, dvC ((txt x0)) ((txt x1)) ({ data := #[] }) ((txt k)) (mkB 1 1 ((txt s)) ((txt k)) 3 ((txt q)) ((txt g)) 0 ({ data := #[] }))) :: (q4, 77, dvC ({ data := #[] }) ({ data := #[] }) ({ data := #[] }) ({ data := #[] }) (mkB 0 0 ({ data := #[] }) ({ data := #[] }) 0 ({ data := #[] }) ({ data := #[] }) 0 ({ data := #[] }))) :: (q1, 80, #[.string ({ data := #[] }), .string ({ data := #[] }), .string ({ data := #[] }), .string ({ data := #[] })]) :: (L ++ X73)) w78)
  refine wl_nil (then_at rfl (wp_seq (wp_seq (wl_region ?_))))
  refine zv (.bool true) ?_
  refine wl_nil (then_at rfl ?_)
  refine wp_cond_true ky ?_
  refine wp_seq (wl_region ?_)
  refine zv (.pointer (some ⟨p.q, 0, none⟩)) ?_
  refine zu (.pointer (some ⟨q1, 3, none⟩)) (run_addr_arr (q := q1) (a := 3) Tryz.underlying80 (fun w => Tryz.sizeOf9 w) ky ky (by decide)) ?_
  refine zu (.string ({ data := #[] })) (run_load1 (fun w => Tryz.isAgg9 w) ky (((h79.get 2 rfl).cell 3).trans rfl)) ?_
  refine wl_callx ky enter18 #[.pointer (some ⟨p.q, 0, none⟩), .string ({ data := #[] })] ky (Secret_E (hcl74 ((q7, 77, dvC ((txt x0)) ((txt x1)) ({ data := #[] }) ((txt k)) (mkB 1 1 ((txt s)) ((txt k)) 3 ((txt q)) ((txt g)) 0 ({ data := #[] }))) :: (q4, 77, dvC ({ data := #[] }) ({ data := #[] }) ({ data := #[] }) ({ data := #[] }) (mkB 0 0 ({ data := #[] }) ({ data := #[] }) 0 ({ data := #[] }) ({ data := #[] }) 0 ({ data := #[] }))) :: (q1, 80, #[.string ({ data := #[] }), .string ({ data := #[] }), .string ({ data := #[] }), .string ({ data := #[] })]) :: L) _ h79) ({ data := #[] }) (by omega) f8 n8) ?_
  rintro _ w81 ⟨rfl, hD80⟩
  refine ⟨_, rfl, ?_⟩
  obtain ⟨z82, X83, hcl84, hbe85, h86⟩ := PH.front hD80
  have h87 : HA z82 ((q7, 77, dvC ((txt x0)) ((txt x1)) ({ data := #[] }) ((txt k)) (mkB 1 1 ((txt s)) ((txt k)) 3 ((txt q)) ((txt g)) 0 ({ data := #[] }))) :: (q4, 77, dvC ({ data := #[] }) ({ data := #[] }) ({ data := #[] }) ({ data := #[] }) (mkB 0 0 ({ data := #[] }) ({ data := #[] }) 0 ({ data := #[] }) ({ data := #[] }) 0 ({ data := #[] }))) :: (q1, 80, #[.string ({ data := #[] }), .string ({ data := #[] }), .string ({ data := #[] }), .string ({ data := #[] })]) :: (L ++ X83)) w81 := h86
  refine zv (.pointer (some ⟨q7, 2, none⟩)) ?_
  refine wl_putv (v := .string ((txt x8))) h87 0 rfl 2 (by show 2 < 13; decide) ky (fun w => Tryz.sizeOf9 w) ky ky ky ?_
  intro w88 (h89 : HA z82 ((q7, 77, dvC ((txt x0)) ((txt x1)) ((txt x8)) ((txt k)) (mkB 1 1 ((txt s)) ((txt k)) 3 ((txt q)) ((txt g)) 0 ({ data := #[] }))) :: (q4, 77, dvC ({ data := #[] }) ({ data := #[] }) ({ data := #[] }) ({ data := #[] }) (mkB 0 0 ({ data := #[] }) ({ data := #[] }) 0 ({ data := #[] }) ({ data := #[] }) 0 ({ data := #[] }))) :: (q1, 80, #[.string ({ data := #[] }), .string ({ data := #[] }), .string ({ data := #[] }), .string ({ data := #[] })]) :: (L ++ X83)) w88)
  refine wl_nil (then_at rfl (wp_seq (wl_region ?_)))
  refine zv (.pointer (some ⟨p.q, 0, none⟩)) ?_
  refine zv (.pointer (some ⟨q7, 2, none⟩)) ?_
  refine zu (.string ((txt x8))) (run_load1 (fun w => Tryz.isAgg9 w) ky (((h89.get 0 rfl).cell 2).trans rfl)) ?_
  refine wl_callx ky enter33 #[.pointer (some ⟨p.q, 0, none⟩), .string ((txt x8))] ky (Public_E (hcl84 ((q7, 77, dvC ((txt x0)) ((txt x1)) ((txt x8)) ((txt k)) (mkB 1 1 ((txt s)) ((txt k)) 3 ((txt q)) ((txt g)) 0 ({ data := #[] }))) :: (q4, 77, dvC ({ data := #[] }) ({ data := #[] }) ({ data := #[] }) ({ data := #[] }) (mkB 0 0 ({ data := #[] }) ({ data := #[] }) 0 ({ data := #[] }) ({ data := #[] }) 0 ({ data := #[] }))) :: (q1, 80, #[.string ({ data := #[] }), .string ({ data := #[] }), .string ({ data := #[] }), .string ({ data := #[] })]) :: L) _ h89) ((txt x8)) (txL _) (by omega) e9) ?_
  rintro _ w91 ⟨rfl, hD90⟩
  refine ⟨_, rfl, ?_⟩
  obtain ⟨z92, X93, hcl94, hbe95, h96⟩ := PH.front hD90
  have h97 : HA z92 ((q7, 77, dvC ((txt x0)) ((txt x1)) ((txt x8)) ((txt k)) (mkB 1 1 ((txt s)) ((txt k)) 3 ((txt q)) ((txt g)) 0 ({ data := #[] }))) :: (q4, 77, dvC ({ data := #[] }) ({ data := #[] }) ({ data := #[] }) ({ data := #[] }) (mkB 0 0 ({ data := #[] }) ({ data := #[] }) 0 ({ data := #[] }) ({ data := #[] }) 0 ({ data := #[] }))) :: (q1, 80, #[.string ({ data := #[] }), .string ({ data := #[] }), .string ({ data := #[] }), .string ({ data := #[] })]) :: (L ++ X93)) w91 := h96
  refine zv (.tuple #[.string ((txt o)), iN .i64 0]) ?_
  refine zv (.string ((txt o))) ?_
  refine zv (iN .i64 0) ?_
  refine zv (.string ((txt o))) ?_
  refine zv (iN .i64 0) ?_
  refine wl_nil (then_at rfl (wp_seq (wl_region ?_)))
  refine zv (.pointer (some ⟨q7, 4, none⟩)) ?_
  refine zv (.pointer (some ⟨q7, 11, none⟩)) ?_
  refine wl_putv (v := iN .i64 9) h97 0 rfl 11 (by show 11 < 13; decide) ky (fun w => Tryz.sizeOf3 w) ky ky ky ?_
  intro w98 (h99 : HA z92 ((q7, 77, dvC ((txt x0)) ((txt x1)) ((txt x8)) ((txt k)) (mkB 1 1 ((txt s)) ((txt k)) 3 ((txt q)) ((txt g)) 9 ({ data := #[] }))) :: (q4, 77, dvC ({ data := #[] }) ({ data := #[] }) ({ data := #[] }) ({ data := #[] }) (mkB 0 0 ({ data := #[] }) ({ data := #[] }) 0 ({ data := #[] }) ({ data := #[] }) 0 ({ data := #[] }))) :: (q1, 80, #[.string ({ data := #[] }), .string ({ data := #[] }), .string ({ data := #[] }), .string ({ data := #[] })]) :: (L ++ X93)) w98)
  refine wl_nil (then_at rfl (wp_seq (wl_region ?_)))
  refine zv (.string ((txt o))) ?_
  refine zv (.pointer (some ⟨q7, 4, none⟩)) ?_
  refine zv (.pointer (some ⟨q7, 12, none⟩)) ?_
  refine wl_putv (v := .string ((txt o))) h99 0 rfl 12 (by show 12 < 13; decide) ky (fun w => Tryz.sizeOf9 w) ky ky ky ?_
  intro w100 (h101 : HA z92 ((q7, 77, dvC ((txt x0)) ((txt x1)) ((txt x8)) ((txt k)) (mkB 1 1 ((txt s)) ((txt k)) 3 ((txt q)) ((txt g)) 9 ((txt o)))) :: (q4, 77, dvC ({ data := #[] }) ({ data := #[] }) ({ data := #[] }) ({ data := #[] }) (mkB 0 0 ({ data := #[] }) ({ data := #[] }) 0 ({ data := #[] }) ({ data := #[] }) 0 ({ data := #[] }))) :: (q1, 80, #[.string ({ data := #[] }), .string ({ data := #[] }), .string ({ data := #[] }), .string ({ data := #[] })]) :: (L ++ X93)) w100)
  refine wl_nil (then_at rfl (wp_seq (wl_region ?_)))
  refine wl_load h101 0 rfl ky ky Tryz.underlying77 rfl ky ?_
  refine zv (iN .i64 0) ?_
  refine zv (.bool true) ?_
  refine zv (.bool true) ?_
  refine zv (iN .i64 0) ?_
  refine zv (.bool true) ?_
  refine zv (.bool true) ?_
  refine zv (.bool true) ?_
  refine zv (iN .i64 0) ?_
  refine zv (.bool true) ?_
  refine zv (.bool true) ?_
  refine zv (.bool true) ?_
  refine zv (iN .i64 0) ?_
  refine zv (.bool true) ?_
  refine zv (.bool true) ?_
  refine zv (.bool true) ?_
  refine zv (iN .i64 0) ?_
  refine zv (.bool true) ?_
  refine zv (.bool true) ?_
  refine wl_fill (c' := dvC ((txt x0)) ((txt x1)) ((txt x8)) ((txt k)) (mkB 1 1 ((txt s)) ((txt k)) 3 ((txt q)) ((txt g)) 9 ((txt o)))) h101 1 rfl ky ky ky rfl ky ky ?_
  intro w102 (h103 : HA z92 ((q7, 77, dvC ((txt x0)) ((txt x1)) ((txt x8)) ((txt k)) (mkB 1 1 ((txt s)) ((txt k)) 3 ((txt q)) ((txt g)) 9 ((txt o)))) :: (q4, 77, dvC ((txt x0)) ((txt x1)) ((txt x8)) ((txt k)) (mkB 1 1 ((txt s)) ((txt k)) 3 ((txt q)) ((txt g)) 9 ((txt o)))) :: (q1, 80, #[.string ({ data := #[] }), .string ({ data := #[] }), .string ({ data := #[] }), .string ({ data := #[] })]) :: (L ++ X93)) w102)
  refine zv (.bool true) ?_
  refine wl_nil (then_at rfl ?_)
  refine wp_ret ?_
  repeat first | refine then_ret ?_ | refine block_ret ?_
  exact bodyPost_ret (v := .tuple #[.agg (dvC ((txt x0)) ((txt x1)) ((txt x8)) ((txt k)) (mkB 1 1 ((txt s)) ((txt k)) 3 ((txt q)) ((txt g)) 9 ((txt o)))), .bool true]) (res_cell_tmp (p := 6) (r := 7) ky ky ky (h103.get 1 rfl) Tryz.underlying77 rfl ky) rfl ⟨rfl, PH.sub (hcl94 ((q7, 77, dvC ((txt x0)) ((txt x1)) ((txt x8)) ((txt k)) (mkB 1 1 ((txt s)) ((txt k)) 3 ((txt q)) ((txt g)) 9 ((txt o)))) :: (q4, 77, dvC ((txt x0)) ((txt x1)) ((txt x8)) ((txt k)) (mkB 1 1 ((txt s)) ((txt k)) 3 ((txt q)) ((txt g)) 9 ((txt o)))) :: (q1, 80, #[.string ({ data := #[] }), .string ({ data := #[] }), .string ({ data := #[] }), .string ({ data := #[] })]) :: L) _ h103) (List.Sublist.cons _ (List.Sublist.cons _ (List.Sublist.cons _ (List.Sublist.refl _))))⟩
set_option maxRecDepth 100000 in
set_option maxHeartbeats 2000000 in
theorem made_f {w0 w : World} {M : ML} {p : Pr} {A : List Ent} {n : Nat} {L : BL} (H : PH w0 M p A n L w) {A1 A2 A3 A4 A5 A6 A7 A8 : List Ent} {x0 x1 x2 k q s y1 g : Nat} (f0 : frA A = A1) (n0 : A.length = x0) (f1 : frA A1 = A2) (n1 : A1.length = x1) (f2 : frA A2 = A3) (n2 : A2.length = x2) (e3 : mkA A3 3 { data := #[] } [txt x0] = (A4, k)) (e4 : mkA A4 3 { data := #[] } [txt x1] = (A5, q)) (e5 : mkA A5 3 { data := #[] } [txt x2] = (A6, s)) (e6 : mkA A6 3 { data := #[] } [txt x2] = (A7, y1)) (e7 : mkA A7 7 { data := #[] } [txt x2, sg3 (txt q)] = (A8, g)) (l0 : A.length < 50000) (l1 : A1.length < 50000) (l2 : A2.length < 50000) (l3 : A3.length < 50000) (l4 : A4.length < 50000) (l5 : A5.length < 50000) (l6 : A6.length < 50000) (hj : n < 1000)  :
    Calls Tryz.prog 34 #[pt p.q, .agg #[.string { data := #[] }, .string { data := #[] }, .string { data := #[] }, .string { data := #[] }], .bool false] w fun e w' => e = .returned (.tuple #[.agg (dvC ((txt x0)) ((txt x1)) ({ data := #[] }) ((txt k)) (mkB 1 1 ((txt s)) ((txt k)) 3 ((txt q)) ((txt g)) 0 ({ data := #[] }))), .bool true]) ∧ PH w0 M p A8 (n + 1) L w' := by
  obtain ⟨z0, X0, hcl0, hbe0, H0⟩ := PH.front H
  go_enter Tryz.func34, Tryz.ntmps34
  refine wp_seq (wl_region ?_)
  refine wl_make (c := #[.string ({ data := #[] }), .string ({ data := #[] }), .string ({ data := #[] }), .string ({ data := #[] })]) H0 80 ky ky ?_
  intro q1 w2 (h3 : HA z0 ((q1, 80, #[.string ({ data := #[] }), .string ({ data := #[] }), .string ({ data := #[] }), .string ({ data := #[] })]) :: (L ++ X0)) w2)
  refine wl_make (c := dvC ({ data := #[] }) ({ data := #[] }) ({ data := #[] }) ({ data := #[] }) (mkB 0 0 ({ data := #[] }) ({ data := #[] }) 0 ({ data := #[] }) ({ data := #[] }) 0 ({ data := #[] }))) h3 77 ky ky ?_
  intro q4 w5 (h6 : HA z0 ((q4, 77, dvC ({ data := #[] }) ({ data := #[] }) ({ data := #[] }) ({ data := #[] }) (mkB 0 0 ({ data := #[] }) ({ data := #[] }) 0 ({ data := #[] }) ({ data := #[] }) 0 ({ data := #[] }))) :: (q1, 80, #[.string ({ data := #[] }), .string ({ data := #[] }), .string ({ data := #[] }), .string ({ data := #[] })]) :: (L ++ X0)) w5)
  refine zv (.bool false) ?_
  refine wl_nil (then_at rfl (wp_seq (wl_region ?_)))
  refine wl_make (c := dvC ({ data := #[] }) ({ data := #[] }) ({ data := #[] }) ({ data := #[] }) (mkB 0 0 ({ data := #[] }) ({ data := #[] }) 0 ({ data := #[] }) ({ data := #[] }) 0 ({ data := #[] }))) h6 77 ky ky ?_
  intro q7 w8 (h9 : HA z0 ((q7, 77, dvC ({ data := #[] }) ({ data := #[] }) ({ data := #[] }) ({ data := #[] }) (mkB 0 0 ({ data := #[] }) ({ data := #[] }) 0 ({ data := #[] }) ({ data := #[] }) 0 ({ data := #[] }))) :: (q4, 77, dvC ({ data := #[] }) ({ data := #[] }) ({ data := #[] }) ({ data := #[] }) (mkB 0 0 ({ data := #[] }) ({ data := #[] }) 0 ({ data := #[] }) ({ data := #[] }) 0 ({ data := #[] }))) :: (q1, 80, #[.string ({ data := #[] }), .string ({ data := #[] }), .string ({ data := #[] }), .string ({ data := #[] })]) :: (L ++ X0)) w8)
  refine wl_nil (then_at rfl (wp_seq (wl_region ?_)))
  refine zv (.pointer (some ⟨p.q, 0, none⟩)) ?_
  refine zu (.pointer (some ⟨q1, 0, none⟩)) (run_addr_arr (q := q1) (a := 0) Tryz.underlying80 (fun w => Tryz.sizeOf9 w) ky ky (by decide)) ?_
  refine zu (.string ({ data := #[] })) (run_load1 (fun w => Tryz.isAgg9 w) ky (((h9.get 2 rfl).cell 0).trans rfl)) ?_
  refine wl_callx ky enter18 #[.pointer (some ⟨p.q, 0, none⟩), .string ({ data := #[] })] ky (Secret_E (hcl0 ((q7, 77, dvC ({ data := #[] }) ({ data := #[] }) ({ data := #[] }) ({ data := #[] }) (mkB 0 0 ({ data := #[] }) ({ data := #[] }) 0 ({ data := #[] }) ({ data := #[] }) 0 ({ data := #[] }))) :: (q4, 77, dvC ({ data := #[] }) ({ data := #[] }) ({ data := #[] }) ({ data := #[] }) (mkB 0 0 ({ data := #[] }) ({ data := #[] }) 0 ({ data := #[] }) ({ data := #[] }) 0 ({ data := #[] }))) :: (q1, 80, #[.string ({ data := #[] }), .string ({ data := #[] }), .string ({ data := #[] }), .string ({ data := #[] })]) :: L) _ h9) ({ data := #[] }) (by omega) f0 n0) ?_
  rintro _ w11 ⟨rfl, hD10⟩
  refine ⟨_, rfl, ?_⟩
  obtain ⟨z12, X13, hcl14, hbe15, h16⟩ := PH.front hD10
  have h17 : HA z12 ((q7, 77, dvC ({ data := #[] }) ({ data := #[] }) ({ data := #[] }) ({ data := #[] }) (mkB 0 0 ({ data := #[] }) ({ data := #[] }) 0 ({ data := #[] }) ({ data := #[] }) 0 ({ data := #[] }))) :: (q4, 77, dvC ({ data := #[] }) ({ data := #[] }) ({ data := #[] }) ({ data := #[] }) (mkB 0 0 ({ data := #[] }) ({ data := #[] }) 0 ({ data := #[] }) ({ data := #[] }) 0 ({ data := #[] }))) :: (q1, 80, #[.string ({ data := #[] }), .string ({ data := #[] }), .string ({ data := #[] }), .string ({ data := #[] })]) :: (L ++ X13)) w11 := h16
  refine zv (.pointer (some ⟨q7, 0, none⟩)) ?_
  refine wl_putv (v := .string ((txt x0))) h17 0 rfl 0 (by show 0 < 13; decide) ky (fun w => Tryz.sizeOf9 w) ky ky ky ?_
  intro w18 (h19 : HA z12 ((q7, 77, dvC ((txt x0)) ({ data := #[] }) ({ data := #[] }) ({ data := #[] }) (mkB 0 0 ({ data := #[] }) ({ data := #[] }) 0 ({ data := #[] }) ({ data := #[] }) 0 ({ data := #[] }))) :: (q4, 77, dvC ({ data := #[] }) ({ data := #[] }) ({ data := #[] }) ({ data := #[] }) (mkB 0 0 ({ data := #[] }) ({ data := #[] }) 0 ({ data := #[] }) ({ data := #[] }) 0 ({ data := #[] }))) :: (q1, 80, #[.string ({ data := #[] }), .string ({ data := #[] }), .string ({ data := #[] }), .string ({ data := #[] })]) :: (L ++ X13)) w18)
  refine wl_nil (then_at rfl (wp_seq (wl_region ?_)))
  refine zv (.pointer (some ⟨p.q, 0, none⟩)) ?_
  refine zu (.pointer (some ⟨q1, 1, none⟩)) (run_addr_arr (q := q1) (a := 1) Tryz.underlying80 (fun w => Tryz.sizeOf9 w) ky ky (by decide)) ?_
  refine zu (.string ({ data := #[] })) (run_load1 (fun w => Tryz.isAgg9 w) ky (((h19.get 2 rfl).cell 1).trans rfl)) ?_
  refine wl_callx ky enter18 #[.pointer (some ⟨p.q, 0, none⟩), .string ({ data := #[] })] ky (Secret_E (hcl14 ((q7, 77, dvC ((txt x0)) ({ data := #[] }) ({ data := #[] }) ({ data := #[] }) (mkB 0 0 ({ data := #[] }) ({ data := #[] }) 0 ({ data := #[] }) ({ data := #[] }) 0 ({ data := #[] }))) :: (q4, 77, dvC ({ data := #[] }) ({ data := #[] }) ({ data := #[] }) ({ data := #[] }) (mkB 0 0 ({ data := #[] }) ({ data := #[] }) 0 ({ data := #[] }) ({ data := #[] }) 0 ({ data := #[] }))) :: (q1, 80, #[.string ({ data := #[] }), .string ({ data := #[] }), .string ({ data := #[] }), .string ({ data := #[] })]) :: L) _ h19) ({ data := #[] }) (by omega) f1 n1) ?_
  rintro _ w21 ⟨rfl, hD20⟩
  refine ⟨_, rfl, ?_⟩
  obtain ⟨z22, X23, hcl24, hbe25, h26⟩ := PH.front hD20
  have h27 : HA z22 ((q7, 77, dvC ((txt x0)) ({ data := #[] }) ({ data := #[] }) ({ data := #[] }) (mkB 0 0 ({ data := #[] }) ({ data := #[] }) 0 ({ data := #[] }) ({ data := #[] }) 0 ({ data := #[] }))) :: (q4, 77, dvC ({ data := #[] }) ({ data := #[] }) ({ data := #[] }) ({ data := #[] }) (mkB 0 0 ({ data := #[] }) ({ data := #[] }) 0 ({ data := #[] }) ({ data := #[] }) 0 ({ data := #[] }))) :: (q1, 80, #[.string ({ data := #[] }), .string ({ data := #[] }), .string ({ data := #[] }), .string ({ data := #[] })]) :: (L ++ X23)) w21 := h26
  refine zv (.pointer (some ⟨q7, 1, none⟩)) ?_
  refine wl_putv (v := .string ((txt x1))) h27 0 rfl 1 (by show 1 < 13; decide) ky (fun w => Tryz.sizeOf9 w) ky ky ky ?_
  intro w28 (h29 : HA z22 ((q7, 77, dvC ((txt x0)) ((txt x1)) ({ data := #[] }) ({ data := #[] }) (mkB 0 0 ({ data := #[] }) ({ data := #[] }) 0 ({ data := #[] }) ({ data := #[] }) 0 ({ data := #[] }))) :: (q4, 77, dvC ({ data := #[] }) ({ data := #[] }) ({ data := #[] }) ({ data := #[] }) (mkB 0 0 ({ data := #[] }) ({ data := #[] }) 0 ({ data := #[] }) ({ data := #[] }) 0 ({ data := #[] }))) :: (q1, 80, #[.string ({ data := #[] }), .string ({ data := #[] }), .string ({ data := #[] }), .string ({ data := #[] })]) :: (L ++ X23)) w28)
  refine wl_nil (then_at rfl (wp_seq (wl_region ?_)))
  refine zv (.pointer (some ⟨p.q, 0, none⟩)) ?_
  refine zu (.pointer (some ⟨q1, 2, none⟩)) (run_addr_arr (q := q1) (a := 2) Tryz.underlying80 (fun w => Tryz.sizeOf9 w) ky ky (by decide)) ?_
  refine zu (.string ({ data := #[] })) (run_load1 (fun w => Tryz.isAgg9 w) ky (((h29.get 2 rfl).cell 2).trans rfl)) ?_
  refine wl_callx ky enter18 #[.pointer (some ⟨p.q, 0, none⟩), .string ({ data := #[] })] ky (Secret_E (hcl24 ((q7, 77, dvC ((txt x0)) ((txt x1)) ({ data := #[] }) ({ data := #[] }) (mkB 0 0 ({ data := #[] }) ({ data := #[] }) 0 ({ data := #[] }) ({ data := #[] }) 0 ({ data := #[] }))) :: (q4, 77, dvC ({ data := #[] }) ({ data := #[] }) ({ data := #[] }) ({ data := #[] }) (mkB 0 0 ({ data := #[] }) ({ data := #[] }) 0 ({ data := #[] }) ({ data := #[] }) 0 ({ data := #[] }))) :: (q1, 80, #[.string ({ data := #[] }), .string ({ data := #[] }), .string ({ data := #[] }), .string ({ data := #[] })]) :: L) _ h29) ({ data := #[] }) (by omega) f2 n2) ?_
  rintro _ w31 ⟨rfl, hD30⟩
  refine ⟨_, rfl, ?_⟩
  obtain ⟨z32, X33, hcl34, hbe35, h36⟩ := PH.front hD30
  have h37 : HA z32 ((q7, 77, dvC ((txt x0)) ((txt x1)) ({ data := #[] }) ({ data := #[] }) (mkB 0 0 ({ data := #[] }) ({ data := #[] }) 0 ({ data := #[] }) ({ data := #[] }) 0 ({ data := #[] }))) :: (q4, 77, dvC ({ data := #[] }) ({ data := #[] }) ({ data := #[] }) ({ data := #[] }) (mkB 0 0 ({ data := #[] }) ({ data := #[] }) 0 ({ data := #[] }) ({ data := #[] }) 0 ({ data := #[] }))) :: (q1, 80, #[.string ({ data := #[] }), .string ({ data := #[] }), .string ({ data := #[] }), .string ({ data := #[] })]) :: (L ++ X33)) w31 := h36
  refine zv (.string ((txt x2))) ?_
  refine wl_nil (then_at rfl (wp_seq (wl_region ?_)))
  refine zv (.pointer (some ⟨p.q, 0, none⟩)) ?_
  refine zv (.pointer (some ⟨q7, 0, none⟩)) ?_
  refine zu (.string ((txt x0))) (run_load1 (fun w => Tryz.isAgg9 w) ky (((h37.get 0 rfl).cell 0).trans rfl)) ?_
  refine wl_callx ky enter33 #[.pointer (some ⟨p.q, 0, none⟩), .string ((txt x0))] ky (Public_E (hcl34 ((q7, 77, dvC ((txt x0)) ((txt x1)) ({ data := #[] }) ({ data := #[] }) (mkB 0 0 ({ data := #[] }) ({ data := #[] }) 0 ({ data := #[] }) ({ data := #[] }) 0 ({ data := #[] }))) :: (q4, 77, dvC ({ data := #[] }) ({ data := #[] }) ({ data := #[] }) ({ data := #[] }) (mkB 0 0 ({ data := #[] }) ({ data := #[] }) 0 ({ data := #[] }) ({ data := #[] }) 0 ({ data := #[] }))) :: (q1, 80, #[.string ({ data := #[] }), .string ({ data := #[] }), .string ({ data := #[] }), .string ({ data := #[] })]) :: L) _ h37) ((txt x0)) (txL _) (by omega) e3) ?_
  rintro _ w39 ⟨rfl, hD38⟩
  refine ⟨_, rfl, ?_⟩
  obtain ⟨z40, X41, hcl42, hbe43, h44⟩ := PH.front hD38
  have h45 : HA z40 ((q7, 77, dvC ((txt x0)) ((txt x1)) ({ data := #[] }) ({ data := #[] }) (mkB 0 0 ({ data := #[] }) ({ data := #[] }) 0 ({ data := #[] }) ({ data := #[] }) 0 ({ data := #[] }))) :: (q4, 77, dvC ({ data := #[] }) ({ data := #[] }) ({ data := #[] }) ({ data := #[] }) (mkB 0 0 ({ data := #[] }) ({ data := #[] }) 0 ({ data := #[] }) ({ data := #[] }) 0 ({ data := #[] }))) :: (q1, 80, #[.string ({ data := #[] }), .string ({ data := #[] }), .string ({ data := #[] }), .string ({ data := #[] })]) :: (L ++ X41)) w39 := h44
  refine zv (.tuple #[.string ((txt k)), iN .i64 0]) ?_
  refine zv (.string ((txt k))) ?_
  refine zv (iN .i64 0) ?_
  refine zv (.string ((txt k))) ?_
  refine zv (iN .i64 0) ?_
  refine wl_nil (then_at rfl (wp_seq (wl_region ?_)))
  refine zv (.pointer (some ⟨p.q, 0, none⟩)) ?_
  refine zv (.pointer (some ⟨q7, 1, none⟩)) ?_
  refine zu (.string ((txt x1))) (run_load1 (fun w => Tryz.isAgg9 w) ky (((h45.get 0 rfl).cell 1).trans rfl)) ?_
  refine wl_callx ky enter33 #[.pointer (some ⟨p.q, 0, none⟩), .string ((txt x1))] ky (Public_E (hcl42 ((q7, 77, dvC ((txt x0)) ((txt x1)) ({ data := #[] }) ({ data := #[] }) (mkB 0 0 ({ data := #[] }) ({ data := #[] }) 0 ({ data := #[] }) ({ data := #[] }) 0 ({ data := #[] }))) :: (q4, 77, dvC ({ data := #[] }) ({ data := #[] }) ({ data := #[] }) ({ data := #[] }) (mkB 0 0 ({ data := #[] }) ({ data := #[] }) 0 ({ data := #[] }) ({ data := #[] }) 0 ({ data := #[] }))) :: (q1, 80, #[.string ({ data := #[] }), .string ({ data := #[] }), .string ({ data := #[] }), .string ({ data := #[] })]) :: L) _ h45) ((txt x1)) (txL _) (by omega) e4) ?_
  rintro _ w47 ⟨rfl, hD46⟩
  refine ⟨_, rfl, ?_⟩
  obtain ⟨z48, X49, hcl50, hbe51, h52⟩ := PH.front hD46
  have h53 : HA z48 ((q7, 77, dvC ((txt x0)) ((txt x1)) ({ data := #[] }) ({ data := #[] }) (mkB 0 0 ({ data := #[] }) ({ data := #[] }) 0 ({ data := #[] }) ({ data := #[] }) 0 ({ data := #[] }))) :: (q4, 77, dvC ({ data := #[] }) ({ data := #[] }) ({ data := #[] }) ({ data := #[] }) (mkB 0 0 ({ data := #[] }) ({ data := #[] }) 0 ({ data := #[] }) ({ data := #[] }) 0 ({ data := #[] }))) :: (q1, 80, #[.string ({ data := #[] }), .string ({ data := #[] }), .string ({ data := #[] }), .string ({ data := #[] })]) :: (L ++ X49)) w47 := h52
  refine zv (.tuple #[.string ((txt q)), iN .i64 0]) ?_
  refine zv (.string ((txt q))) ?_
  refine zv (iN .i64 0) ?_
  refine zv (.string ((txt q))) ?_
  refine zv (iN .i64 0) ?_
  refine wl_nil (then_at rfl (wp_seq (wl_region ?_)))
  refine zv (.pointer (some ⟨p.q, 0, none⟩)) ?_
  refine zv (.string ((txt x2))) ?_
  refine wl_callx ky enter20 #[.pointer (some ⟨p.q, 0, none⟩), .string ((txt x2))] ky (Signer_E (hcl50 ((q7, 77, dvC ((txt x0)) ((txt x1)) ({ data := #[] }) ({ data := #[] }) (mkB 0 0 ({ data := #[] }) ({ data := #[] }) 0 ({ data := #[] }) ({ data := #[] }) 0 ({ data := #[] }))) :: (q4, 77, dvC ({ data := #[] }) ({ data := #[] }) ({ data := #[] }) ({ data := #[] }) (mkB 0 0 ({ data := #[] }) ({ data := #[] }) 0 ({ data := #[] }) ({ data := #[] }) 0 ({ data := #[] }))) :: (q1, 80, #[.string ({ data := #[] }), .string ({ data := #[] }), .string ({ data := #[] }), .string ({ data := #[] })]) :: L) _ h53) ((txt x2)) (txL _) (by omega) e5) ?_
  rintro _ w55 ⟨rfl, hD54⟩
  refine ⟨_, rfl, ?_⟩
  obtain ⟨z56, X57, hcl58, hbe59, h60⟩ := PH.front hD54
  have h61 : HA z56 ((q7, 77, dvC ((txt x0)) ((txt x1)) ({ data := #[] }) ({ data := #[] }) (mkB 0 0 ({ data := #[] }) ({ data := #[] }) 0 ({ data := #[] }) ({ data := #[] }) 0 ({ data := #[] }))) :: (q4, 77, dvC ({ data := #[] }) ({ data := #[] }) ({ data := #[] }) ({ data := #[] }) (mkB 0 0 ({ data := #[] }) ({ data := #[] }) 0 ({ data := #[] }) ({ data := #[] }) 0 ({ data := #[] }))) :: (q1, 80, #[.string ({ data := #[] }), .string ({ data := #[] }), .string ({ data := #[] }), .string ({ data := #[] })]) :: (L ++ X57)) w55 := h60
  refine zv (.tuple #[.string ((txt s)), iN .i64 0]) ?_
  refine zv (.string ((txt s))) ?_
  refine zv (iN .i64 0) ?_
  refine zv (.string ((txt s))) ?_
  refine zv (iN .i64 0) ?_
  refine wl_nil (then_at rfl (wp_seq (wl_region ?_)))
  refine zv (.string ((txt k))) ?_
  refine zv (.pointer (some ⟨q7, 3, none⟩)) ?_
  refine wl_putv (v := .string ((txt k))) h61 0 rfl 3 (by show 3 < 13; decide) ky (fun w => Tryz.sizeOf9 w) ky ky ky ?_
  intro w62 (h63 : HA z56 ((q7, 77, dvC ((txt x0)) ((txt x1)) ({ data := #[] }) ((txt k)) (mkB 0 0 ({ data := #[] }) ({ data := #[] }) 0 ({ data := #[] }) ({ data := #[] }) 0 ({ data := #[] }))) :: (q4, 77, dvC ({ data := #[] }) ({ data := #[] }) ({ data := #[] }) ({ data := #[] }) (mkB 0 0 ({ data := #[] }) ({ data := #[] }) 0 ({ data := #[] }) ({ data := #[] }) 0 ({ data := #[] }))) :: (q1, 80, #[.string ({ data := #[] }), .string ({ data := #[] }), .string ({ data := #[] }), .string ({ data := #[] })]) :: (L ++ X57)) w62)
  refine wl_nil (then_at rfl (wp_seq (wl_region ?_)))
  refine zv (.string ((txt s))) ?_
  refine zv (.string ((txt k))) ?_
  refine zv (.string ((txt q))) ?_
  refine zv (.agg (buC (mkB 1 1 ((txt s)) ((txt k)) 3 ((txt q)) ({ data := #[] }) 0 ({ data := #[] })))) ?_
  refine zv (.pointer (some ⟨q7, 4, none⟩)) ?_
  refine wl_part (off := 4) (c1 := buC (mkB 1 1 ((txt s)) ((txt k)) 3 ((txt q)) ({ data := #[] }) 0 ({ data := #[] }))) (c := dvC ((txt x0)) ((txt x1)) ({ data := #[] }) ((txt k)) (mkB 1 1 ((txt s)) ((txt k)) 3 ((txt q)) ({ data := #[] }) 0 ({ data := #[] }))) h63 0 rfl ky ky ky (show 13 ≤ 13 from Nat.le_refl _) rfl ky ky ?_
  intro w64 (h65 : HA z56 ((q7, 77, dvC ((txt x0)) ((txt x1)) ({ data := #[] }) ((txt k)) (mkB 1 1 ((txt s)) ((txt k)) 3 ((txt q)) ({ data := #[] }) 0 ({ data := #[] }))) :: (q4, 77, dvC ({ data := #[] }) ({ data := #[] }) ({ data := #[] }) ({ data := #[] }) (mkB 0 0 ({ data := #[] }) ({ data := #[] }) 0 ({ data := #[] }) ({ data := #[] }) 0 ({ data := #[] }))) :: (q1, 80, #[.string ({ data := #[] }), .string ({ data := #[] }), .string ({ data := #[] }), .string ({ data := #[] })]) :: (L ++ X57)) w64)
  refine wl_nil (then_at rfl (wp_seq (wl_region ?_)))
  refine zv (.pointer (some ⟨p.q, 0, none⟩)) ?_
  refine zv (.string ((txt x2))) ?_
  refine wl_call (v := .string pre3) h65 ky enter75 #[.string ({ data := #[112, 114, 101] }), iN .i64 4, iN .u64 3] ky (Wi.PutNumber_any w64 { data := #[112, 114, 101] } 4 3 (by decide)) ?_
  intro w66 h67
  refine zv (.string ((txt q))) ?_
  refine wl_call (v := .string ((sg3 ((txt q))))) h67 ky enter74 #[.string pre3, .string ((txt q))] ky (Wi.PutText_any w66 pre3 ((txt q)) (by decide) (by rw [txt_size]; decide)) ?_
  intro w68 h69
  refine wl_callx ky enter22 #[.pointer (some ⟨p.q, 0, none⟩), .string ((txt x2)), .string ((sg3 ((txt q))))] ky (Sign_P (hcl58 ((q7, 77, dvC ((txt x0)) ((txt x1)) ({ data := #[] }) ((txt k)) (mkB 1 1 ((txt s)) ((txt k)) 3 ((txt q)) ({ data := #[] }) 0 ({ data := #[] }))) :: (q4, 77, dvC ({ data := #[] }) ({ data := #[] }) ({ data := #[] }) ({ data := #[] }) (mkB 0 0 ({ data := #[] }) ({ data := #[] }) 0 ({ data := #[] }) ({ data := #[] }) 0 ({ data := #[] }))) :: (q1, 80, #[.string ({ data := #[] }), .string ({ data := #[] }), .string ({ data := #[] }), .string ({ data := #[] })]) :: L) _ h69) ((txt x2)) ((sg3 ((txt q)))) (txL _) (Nat.le_trans (sg3_size _) (by decide)) (by omega) (by omega) e6 e7) ?_
  rintro _ w71 ⟨rfl, hD70⟩
  refine ⟨_, rfl, ?_⟩
  obtain ⟨z72, X73, hcl74, hbe75, h76⟩ := PH.front hD70
  have h77 : HA z72 ((q7, 77, dvC ((txt x0)) ((txt x1)) ({ data := #[] }) ((txt k)) (mkB 1 1 ((txt s)) ((txt k)) 3 ((txt q)) ({ data := #[] }) 0 ({ data := #[] }))) :: (q4, 77, dvC ({ data := #[] }) ({ data := #[] }) ({ data := #[] }) ({ data := #[] }) (mkB 0 0 ({ data := #[] }) ({ data := #[] }) 0 ({ data := #[] }) ({ data := #[] }) 0 ({ data := #[] }))) :: (q1, 80, #[.string ({ data := #[] }), .string ({ data := #[] }), .string ({ data := #[] }), .string ({ data := #[] })]) :: (L ++ X73)) w71 := h76
  refine zv (.tuple #[.string ((txt g)), iN .i64 0]) ?_
  refine zv (.string ((txt g))) ?_
  refine zv (iN .i64 0) ?_
  refine zv (.string ((txt g))) ?_
  refine zv (iN .i64 0) ?_
  refine wl_nil (then_at rfl (wp_seq (wl_region ?_)))
  refine zv (.string ((txt g))) ?_
  refine zv (.pointer (some ⟨q7, 4, none⟩)) ?_
  refine zv (.pointer (some ⟨q7, 10, none⟩)) ?_
  refine wl_putv (v := .string ((txt g))) h77 0 rfl 10 (by show 10 < 13; decide) ky (fun w => Tryz.sizeOf9 w) ky ky ky ?_
  intro w78 (h79 : HA z72 ((q7, 77, dvC ((txt x0)) ((txt x1)) ({ data := #[] }) ((txt k)) (mkB 1 1 ((txt s)) ((txt k)) 3 ((txt q)) ((txt g)) 0 ({ data := #[] }))) :: (q4, 77, dvC ({ data := #[] }) ({ data := #[] }) ({ data := #[] }) ({ data := #[] }) (mkB 0 0 ({ data := #[] }) ({ data := #[] }) 0 ({ data := #[] }) ({ data := #[] }) 0 ({ data := #[] }))) :: (q1, 80, #[.string ({ data := #[] }), .string ({ data := #[] }), .string ({ data := #[] }), .string ({ data := #[] })]) :: (L ++ X73)) w78)
  refine wl_nil (then_at rfl (wp_seq (wp_seq (wl_region ?_))))
  refine zv (.bool false) ?_
  refine wl_nil (then_at rfl ?_)
  refine wp_cond_false ky ?_
  refine wp_skip (then_at rfl (wp_seq (wl_region ?_)))
  refine wl_load h79 0 rfl ky ky Tryz.underlying77 rfl ky ?_
  refine zv (iN .i64 0) ?_
  refine zv (.bool true) ?_
  refine zv (.bool true) ?_
  refine zv (iN .i64 0) ?_
  refine zv (.bool true) ?_
  refine zv (.bool true) ?_
  refine zv (.bool true) ?_
  refine zv (iN .i64 0) ?_
  refine zv (.bool true) ?_
  refine zv (.bool true) ?_
  refine zv (.bool true) ?_
  refine zv (iN .i64 0) ?_
  refine zv (.bool true) ?_
  refine zv (.bool true) ?_
  refine wl_fill (c' := dvC ((txt x0)) ((txt x1)) ({ data := #[] }) ((txt k)) (mkB 1 1 ((txt s)) ((txt k)) 3 ((txt q)) ((txt g)) 0 ({ data := #[] }))) h79 1 rfl ky ky ky rfl ky ky ?_
  intro w80 (h81 : HA z72 ((q7, 77, dvC ((txt x0)) ((txt x1)) ({ data := #[] }) ((txt k)) (mkB 1 1 ((txt s)) ((txt k)) 3 ((txt q)) ((txt g)) 0 ({ data := #[] }))) :: (q4, 77, dvC ((txt x0)) ((txt x1)) ({ data := #[] }) ((txt k)) (mkB 1 1 ((txt s)) ((txt k)) 3 ((txt q)) ((txt g)) 0 ({ data := #[] }))) :: (q1, 80, #[.string ({ data := #[] }), .string ({ data := #[] }), .string ({ data := #[] }), .string ({ data := #[] })]) :: (L ++ X73)) w80)
  refine zv (.bool true) ?_
  refine wl_nil (then_at rfl ?_)
  refine wp_ret ?_
  repeat first | refine then_ret ?_ | refine block_ret ?_
  exact bodyPost_ret (v := .tuple #[.agg (dvC ((txt x0)) ((txt x1)) ({ data := #[] }) ((txt k)) (mkB 1 1 ((txt s)) ((txt k)) 3 ((txt q)) ((txt g)) 0 ({ data := #[] }))), .bool true]) (res_cell_tmp (p := 6) (r := 7) ky ky ky (h81.get 1 rfl) Tryz.underlying77 rfl ky) rfl ⟨rfl, PH.sub (hcl74 ((q7, 77, dvC ((txt x0)) ((txt x1)) ({ data := #[] }) ((txt k)) (mkB 1 1 ((txt s)) ((txt k)) 3 ((txt q)) ((txt g)) 0 ({ data := #[] }))) :: (q4, 77, dvC ((txt x0)) ((txt x1)) ({ data := #[] }) ((txt k)) (mkB 1 1 ((txt s)) ((txt k)) 3 ((txt q)) ((txt g)) 0 ({ data := #[] }))) :: (q1, 80, #[.string ({ data := #[] }), .string ({ data := #[] }), .string ({ data := #[] }), .string ({ data := #[] })]) :: L) _ h81) (List.Sublist.cons _ (List.Sublist.cons _ (List.Sublist.cons _ (List.Sublist.refl _))))⟩
end Go.Proofs.YtoogiblkommdfaaGreat
