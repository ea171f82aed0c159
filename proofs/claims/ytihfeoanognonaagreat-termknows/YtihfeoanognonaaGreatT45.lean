/-
 The law's acts: both tables behind them.
-/
import Derived.Test.YtihfeoanognonaaGreatT44
import Derived.Test.YtihfeoanognonaaGreatT9
namespace Go.Proofs.YtihfeoanognonaaGreat
set_option linter.unusedVariables false
set_option maxRecDepth 100000
set_option maxHeartbeats 8000000
open Go.RowKit
structure Ac where
 z : Int
 lb : ByteArray
 po : Option Addr
 pc : Nat
 ps : List (Int × ByteArray)
def ac0 : Ac := ⟨0, ByteArray.empty, none, 0, []⟩
def ActA (w : World) (o : Option Addr) (al : List Ac) : Prop :=
 ∀ i, i < al.length → ∃ a, o = some a ∧ w.cell? (a.add (i * 3)) = some (.int .i64 (al.getD i ac0).z) ∧ w.cell? (a.add (i * 3 + 1)) = some (.string (al.getD i ac0).lb) ∧
  w.cell? (a.add (i * 3 + 2)) = some (.slice (al.getD i ac0).po (al.getD i ac0).ps.length (al.getD i ac0).pc) ∧ PcA w (al.getD i ac0).po (al.getD i ac0).ps ∧ (al.getD i ac0).ps.length ≤ 9223372036854775807
section
variable {w0 w : World} {M : ML} {t : Tb} {es : List Ent} {L : BL}
theorem perm_tab (L Lr PBe : BL) (x : Nat × TypeId × Array Value) : (L ++ (x :: (Lr ++ PBe))).Perm (x :: (Lr ++ (PBe ++ L))) := by
 refine List.perm_append_comm.trans ?_
 rw [List.cons_append, List.append_assoc]
theorem TH.cl {v : Value} {Lr : BL} (L : BL) (hR : Row 67 1 v es.length (es.map ev) Lr) (H : HA (zb w0 M t es) (L ++ ((t.q, 61, tcell t (nms es) v) :: (Lr ++ PB es))) w) : TH w0 M t es L w := ⟨v, Lr, hR, H.perm (perm_tab L Lr (PB es) _)⟩
theorem TH.op (H : TH w0 M t es L w) : ∃ p c Lr, Row 67 1 (.slice p es.length c) es.length (es.map ev) Lr ∧ HA (zb w0 M t es) (L ++ ((t.q, 61, tcell t (nms es) (.slice p es.length c)) :: (Lr ++ PB es))) w := by
 obtain ⟨v, Lr, hR, H⟩ := H
 obtain ⟨p, c, rfl⟩ := hR.form
 exact ⟨p, c, Lr, hR, H.perm (perm_tab L Lr (PB es) _).symm⟩
end
theorem perm_ref (B RL TT N : BL) : (B ++ ((RL ++ TT) ++ N)).Perm (B ++ ((N ++ RL) ++ TT)) := by
 refine List.Perm.append_left _ (List.perm_append_comm.trans ?_)
 rw [List.append_assoc]
theorem Stand.ofHA {z : Base} {w : World} {L RL : BL} (H : HA z L w) (h : RL ⊆ L) : Stand w RL := fun x hx => H.blk x (h hx)
theorem sub_mid (B RL TT : BL) : RL ⊆ B ++ (RL ++ TT) := fun _ hx => List.mem_append_right _ (List.mem_append_left _ hx)
set_option linter.unusedSimpArgs false in
theorem res_tmp_cell_tmp {w : World} {fn : Func} {p r r2 : Tmp} {t ty : TypeId} {ts : Array Value} {q : Nat} {c : Array Value} {D : TypeDesc} {v u : Value} (hf : fn.results = #[.tmp r, .cell p ty, .tmp r2]) (ht : ts.getD p undef = .pointer (some ⟨q, 0, none⟩)) (hv : ts.getD r undef = v) (hu2 : ts.getD r2 undef = u) (h : Blk w q t c) (hu : Tryz.prog.underlying ty = some D) (hd : D.isRow = true) (hi : (Tryz.prog.info? ty).map (·.size) = some c.size) :
  (results fn ts).run Tryz.prog w = .ok (.tuple #[v, .agg c, u]) w := by
 have := run_loadVar_mid (P := Tryz.prog) w q 0 ty c.toList D h.range hu hd (by simpa using hi)
 have ht2 : ts[p]?.getD undef = .pointer (some ⟨q, 0, none⟩) := by simpa using ht
 have hv2 : ts[r]?.getD undef = v := by simpa using hv
 have hv3 : ts[r2]?.getD undef = u := by simpa using hu2
 simp [results, hf, Sem.run_bind, Sem.run_pure, Result.andThen_ok, asAddr, ht2, hv2, hv3, this]
def kz (z : Int) : Int := IntKind.i64.wrap (z - 1)
theorem run_subz1 {ρ : Operand → Value} {x y : Operand} {w : World} {dst : Option Tmp} {T T2 ty : TypeId} {pos : String} {aft : Array Edge} {gd : Option (Nat × Bool)} {P : Program} {z : Int} (hx : ρ x = .int .i64 z) (hy : ρ y = iN .i64 1) : (execOp ρ ⟨dst, .binOp .sub T x y T2, ty, pos, aft, gd⟩).run P w = .ok (.value (.int .i64 (kz z))) w := by
 simp only [execOp, hx, hy, iN, kz]
 simp [go_sem]
theorem run_subz1k {ρ : Operand → Value} {x y : Operand} {w : World} {dst : Option Tmp} {T T2 ty : TypeId} {pos : String} {aft : Array Edge} {gd : Option (Nat × Bool)} {P : Program} {z : Int} {k : Nat} (hk : kz z = (k : Int)) (hx : ρ x = .int .i64 z) (hy : ρ y = iN .i64 1) : (execOp ρ ⟨dst, .binOp .sub T x y T2, ty, pos, aft, gd⟩).run P w = .ok (.value (iN .i64 k)) w := by
 rw [run_subz1 hx hy, hk]; rfl
theorem mayB_nat {z : Int} {label : ByteArray} {n : Nat} (h : mayB z label n = true) : ∃ k : Nat, z = (k : Int) ∧ 3 ≤ k ∧ (k = 3 → n = 1) ∧ (k = 4 → n = 2 ∧ label = { data := #[] }) ∧ n ≤ 100 ∧ (k = 6 → n = 4) ∧ (k = 7 → n = 2) := by
 unfold mayB at h
 by_cases h3 : z = 3
 ·rw [if_pos h3] at h; have := of_decide_eq_true h; exact ⟨3, by omega, by omega, fun _ => this.2, fun e => by omega, by omega, fun e => by omega, fun e => by omega⟩
 rw [if_neg h3] at h
 by_cases h4 : z = 4 ∨ z = 7
 ·rw [if_pos h4] at h
  have := of_decide_eq_true h
  rcases h4 with h4 | h4
  ·exact ⟨4, by omega, by omega, fun e => by omega, fun _ => ⟨this.2, this.1⟩, by omega, fun e => by omega, fun e => by omega⟩
  ·exact ⟨7, by omega, by omega, fun e => by omega, fun e => by omega, by omega, fun e => by omega, fun _ => this.2⟩
 rw [if_neg h4] at h
 by_cases h6 : z = 6
 ·rw [if_pos h6] at h; have := of_decide_eq_true h; exact ⟨6, by omega, by omega, fun e => by omega, fun e => by omega, by omega, fun _ => this.2, fun e => by omega⟩
 rw [if_neg h6] at h
 by_cases h5 : z = 5
 ·rw [if_pos h5] at h; have := of_decide_eq_true h; exact ⟨5, by omega, by omega, fun e => by omega, fun e => by omega, by omega, fun e => by omega, fun e => by omega⟩
 rw [if_neg h5] at h
 cases h
theorem txl_get (ps : List (Int × ByteArray)) (m i : Nat) : ((txl ps m).getD i ByteArray.empty).size ≤ 60 := by
 rw [List.getD_eq_getElem?_getD]
 cases h : (txl ps m)[i]? with
 | none => simp
 | some s => exact txl_size ps m s (List.mem_of_getElem? h)
theorem played_a {w : World} (al : List Ac) (o : Option Addr) (c : Nat) (hp : ActA w o al) (hln : al.length ≤ 9223372036854775807) (hm : al.length ≤ 40) :
  Calls Tryz.prog 4 #[.slice o al.length c] w fun e w' => ∃ tb es rv RL, e = .returned (.tuple #[pt tb.q, .agg #[rv], .bool true]) ∧ TH w [] tb es RL w' ∧ RTL rv (es.map trm) RL ∧ Iv es ∧ es.length ≤ 280 := by
 have H0 := HA.start w
 go_enter Tryz.func4, Tryz.ntmps4
 refine zsr ?_
 refine zwv (.pointer none) ?_
 refine wl_make (c := #[.slice none 0 0]) H0 27 ?_
 intro q1 w2 (h3 : HA (bs w) [(q1, 27, #[.slice none 0 0])] w2)
 refine zwv (.bool false) ?_
 refine znt ?_
 refine zsr ?_
 refine wl_callx enter9 #[] (New_ok (w0 := w) (M := []) (L := [(q1, 27, #[.slice none 0 0])]) h3) ?_
 rintro _ w4 ⟨tb, rfl, hN0⟩
 refine ⟨_, rfl, ?_⟩
 obtain ⟨tp5, tc6, Lr7, hR8, h9⟩ := TH.op hN0
 have h10 : HA (zb w [] tb []) ((q1, 27, #[.slice none 0 0]) :: ([] ++ ((tb.q, 61, tcell tb (nms []) (.slice tp5 [].length tc6)) :: (Lr7 ++ PB [])))) w4 := h9
 refine zwv (.pointer (some ⟨tb.q, 0, none⟩)) ?_
 refine znt ?_
 refine zsr ?_
 refine wl_make (c := #[.slice none 0 0]) h10 27 ?_
 intro q11 w12 (h13 : HA (zb w [] tb []) ((q11, 27, #[.slice none 0 0]) :: (q1, 27, #[.slice none 0 0]) :: ([] ++ ((tb.q, 61, tcell tb (nms []) (.slice tp5 [].length tc6)) :: (Lr7 ++ PB [])))) w12)
 refine znt ?_
 refine wp_seq ?_
 refine zsr ?_
 refine zwv (.pointer (some ⟨tb.q, 0, none⟩)) ?_
 refine zwv (.bool false) ?_
 refine znt ?_
 refine zcf ?_
 refine wp_skip ?_
 refine then_at rfl ?_
 refine wp_seq ?_
 refine zsr ?_
 refine zwv (iN .i64 0) ?_
 refine znt ?_
 refine wp_block ?_
 refine wp_count (fun i A w' => ∃ u14 : Nat → Value, A = ⟨(.slice o al.length c :: un :: u14 2 :: pt q1 :: u14 4 :: pt tb.q :: pt q11 :: iN .i64 i :: u14 8 :: u14 9 :: u14 10 :: u14 11 :: u14 12 :: u14 13 :: u14 14 :: u14 15 :: u14 16 :: u14 17 :: u14 18 :: u14 19 :: u14 20 :: u14 21 :: u14 22 :: u14 23 :: pt tb.q :: pt tb.q :: .bool false :: un :: u14 28 :: u14 29 :: u14 30 :: u14 31 :: u14 32 :: u14 33 :: u14 34 :: u14 35 :: u14 36 :: u14 37 :: u14 38 :: u14 39 :: u14 40 :: u14 41 :: u14 42 :: u14 43 :: u14 44 :: u14 45 :: u14 46 :: u14 47 :: u14 48 :: u14 49 :: u14 50 :: u14 51 :: u14 52 :: u14 53 :: u14 54 :: u14 55 :: u14 56 :: u14 57 :: u14 58 :: u14 59 :: u14 60 :: u14 61 :: u14 62 :: u14 63 :: u14 64 :: u14 65 :: u14 66 :: u14 67 :: u14 68 :: u14 69 :: u14 70 :: u14 71 :: u14 72 :: u14 73 :: u14 74 :: u14 75 :: u14 76 :: u14 77 :: u14 78 :: u14 79 :: u14 80 :: u14 81 :: u14 82 :: u14 83 :: u14 84 :: u14 85 :: u14 86 :: u14 87 :: u14 88 :: u14 89 :: u14 90 :: u14 91 :: u14 92 :: u14 93 :: u14 94 :: u14 95 :: u14 96 :: u14 97 :: u14 98 :: u14 99 :: u14 100 :: u14 101 :: u14 102 :: u14 103 :: u14 104 :: u14 105 :: u14 106 :: u14 107 :: u14 108 :: u14 109 :: u14 110 :: u14 111 :: u14 112 :: u14 113 :: u14 114 :: u14 115 :: u14 116 :: u14 117 :: u14 118 :: u14 119 :: u14 120 :: u14 121 :: u14 122 :: u14 123 :: u14 124 :: u14 125 :: u14 126 :: u14 127 :: List.replicate 2 un).toArray, []⟩ ∧ ∃ es tp tc Lr ro rc RL, Iv es ∧ es.length ≤ 7 * i ∧ Row 67 1 (.slice tp es.length tc) es.length (es.map ev) Lr ∧ RTL (.slice ro (es.map trm).length rc) (es.map trm) RL ∧ HA (zb w [] tb es) ((q11, 27, #[.slice ro (es.map trm).length rc]) :: (q1, 27, #[.slice none 0 0]) :: (RL ++ ((tb.q, 61, tcell tb (nms es) (.slice tp es.length tc)) :: (Lr ++ PB es)))) w') al.length ?_ ?_ ?_
 ·exact zex (⟨[], tp5, tc6, Lr7, none, 0, [], Iv.nil, by simp, hR8, .inl ⟨rfl, rfl⟩, h13⟩)
 ·rintro i hk _ w15 ⟨u14, rfl, ⟨es, tp, tc, Lr, ro, rc, RL, hI, hle, hR, hr, hA⟩⟩
  obtain ⟨pa, rfl, d1, d2, d3, hpc, hpl⟩ := hp i (by omega)
  generalize al.getD i ac0 = ac at d1 d2 d3 hpc hpl
  obtain ⟨z, lb, po, pc, ps⟩ := ac
  simp only at d1 d2 d3 hpc hpl
  have hca : ∀ j v, (#[Value.int .i64 z, Value.string lb, Value.slice po ps.length pc] : Array Value)[j]? = some v → w.cell? ((pa.add (i * 3)).add j) = some v := by
   intro j v hv
   rw [Addr.add_addr]
   match j, hv with
   | 0, hv => cases hv; exact d1
   | 1, hv => cases hv; exact d2
   | 2, hv => cases hv; exact d3
  have hle2 : es.length ≤ 280 := by omega
  refine wp_seq ?_
  refine zsr ?_
  refine zwv (iN .i64 i) ?_
  refine zwv (.slice (some pa) al.length c) ?_
  refine zwv (iN .i64 al.length) ?_
  refine zwu (run_lss (k := .i64) (a := i) (b := al.length) true (decide_eq_true (by omega))) ?_
  refine zwv (.bool true) ?_
  refine zwv (iN .i64 i) ?_
  refine zwu (run_lss (k := .i64) (a := i) (b := 40) true (decide_eq_true (by omega))) ?_
  refine zwv (.bool true) ?_
  refine znt ?_
  refine zct ?_
  refine wp_skip ?_
  refine then_at rfl ?_
  refine wp_seq ?_
  refine wp_block ?_
  refine zsr ?_
  refine zwv (.slice (some pa) al.length c) ?_
  refine zwv (iN .i64 i) ?_
  refine zwu (v := .pointer (some (pa.add (i * 3)))) (run_addrg (a := pa) (n := al.length) (m := c) (i := i) (sz := 3) Tryz.underlying22 Tryz.sizeOf40 (by kernel_rfl) (by kernel_rfl) (by omega)) ?_
  refine zwu (v := .agg #[.int .i64 z, .string lb, .slice po ps.length pc]) (run_loadg (a := (pa.add (i * 3))) (c := #[.int .i64 z, .string lb, .slice po ps.length pc]) (by kernel_rfl) (fun j v hv => got (w := w) hA.old.old (hca j v hv)) Tryz.underlying40 rfl (by kernel_rfl)) ?_
  refine wl_make (c := #[iN .i64 0, .string ({ data := #[] }), .slice none 0 0]) hA 40 ?_
  intro q16 w17 (h18 : HA (zb w [] tb es) ((q16, 40, #[iN .i64 0, .string ({ data := #[] }), .slice none 0 0]) :: (q11, 27, #[.slice ro (es.map trm).length rc]) :: (q1, 27, #[.slice none 0 0]) :: (RL ++ ((tb.q, 61, tcell tb (nms es) (.slice tp es.length tc)) :: (Lr ++ PB es)))) w17)
  refine wl_fill (c' := #[.int .i64 z, .string lb, .slice po ps.length pc]) h18 0 rfl rfl ?_
  intro w19 (h20 : HA (zb w [] tb es) ((q16, 40, #[.int .i64 z, .string lb, .slice po ps.length pc]) :: (q11, 27, #[.slice ro (es.map trm).length rc]) :: (q1, 27, #[.slice none 0 0]) :: (RL ++ ((tb.q, 61, tcell tb (nms es) (.slice tp es.length tc)) :: (Lr ++ PB es)))) w19)
  refine znt ?_
  refine zsr ?_
  refine zwv (.pointer (some ⟨q16, 2, none⟩)) ?_
  refine zwu (v := .slice po ps.length pc) (run_load1 Tryz.isAgg23 (((h20.get 0 rfl).cell 2).trans rfl)) ?_
  refine wl_callx enter5 #[.slice po ps.length pc] (texts_any ps po pc (hpc.keep h20.old.old) hpl) ?_
  rintro _ w21 ⟨pv, Lt, rfl, hRt, hNt, hbt⟩
  refine ⟨_, rfl, ?_⟩
  have h22 : HA (zb w [] tb es) ((q16, 40, #[.int .i64 z, .string lb, .slice po ps.length pc]) :: (q11, 27, #[.slice ro (es.map trm).length rc]) :: (q1, 27, #[.slice none 0 0]) :: ((Lt ++ RL) ++ ((tb.q, 61, tcell tb (nms es) (.slice tp es.length tc)) :: (Lr ++ PB es)))) w21 := HA.perm (HA.addL h20 hbt hNt) (perm_ref [(q16, 40, #[.int .i64 z, .string lb, .slice po ps.length pc]), (q11, 27, #[.slice ro (es.map trm).length rc]), (q1, 27, #[.slice none 0 0])] RL ((tb.q, 61, tcell tb (nms es) (.slice tp es.length tc)) :: (Lr ++ PB es)) Lt)
  obtain ⟨o9, c9, rfl, hpre⟩ := Row.pre hRt
  have hrt := RTL.mono hr (fun x hx => List.mem_append_right Lt hx)
  refine zwv (.tuple #[.slice o9 (txl ps (min ps.length 6)).length c9, .string (txw ps (min ps.length 6))]) ?_
  refine zwv (.slice o9 (txl ps (min ps.length 6)).length c9) ?_
  refine zwv (.string (txw ps (min ps.length 6))) ?_
  refine zwv (.slice o9 (txl ps (min ps.length 6)).length c9) ?_
  refine zwv (.string (txw ps (min ps.length 6))) ?_
  refine znt ?_
  refine wp_seq ?_
  refine zsr ?_
  refine zwv (.pointer (some ⟨q16, 0, none⟩)) ?_
  refine zwu (v := .int .i64 z) (run_load1 Tryz.isAgg3 (((h22.get 0 rfl).cell 0).trans rfl)) ?_
  refine znt ?_
  refine wp_block ?_
  refine wp_seq ?_
  by_cases hz0 : z = 0
  ·refine wl_region ?_
   refine zwu (v := .bool true) (run_eqz (k := .i64) (a := z) (b := 0) true (decide_eq_true hz0)) ?_
   refine zwv (.bool true) ?_
   refine znt ?_
   refine zct ?_
   refine zsr ?_
   refine zwv (.pointer (some ⟨tb.q, 0, none⟩)) ?_
   refine wl_callx enter10 #[.pointer (some ⟨tb.q, 0, none⟩)] (Fresh_any (TH.cl ((q16, 40, #[.int .i64 z, .string lb, .slice po ps.length pc]) :: (q11, 27, #[.slice ro (es.map trm).length rc]) :: (q1, 27, #[.slice none 0 0]) :: (Lt ++ RL)) hR h22) (by omega)) ?_
   rintro _ w23 ⟨rfl, hT1⟩
   refine ⟨_, rfl, ?_⟩
   obtain ⟨tp24, tc25, Lr26, hR27, h28⟩ := TH.op hT1
   have h29 : HA (zb w [] tb (es ++ [Ent.nm (nms es)])) ((q16, 40, #[.int .i64 z, .string lb, .slice po ps.length pc]) :: (q11, 27, #[.slice ro (es.map trm).length rc]) :: (q1, 27, #[.slice none 0 0]) :: ((Lt ++ RL) ++ ((tb.q, 61, tcell tb (nms (es ++ [Ent.nm (nms es)])) (.slice tp24 (es ++ [Ent.nm (nms es)]).length tc25)) :: (Lr26 ++ PB (es ++ [Ent.nm (nms es)]))))) w23 := h28
   have hI1 := hI.nm (by omega)
   have hl1 : (es ++ [Ent.nm (nms es)]).length ≤ es.length + 7 := by simp
   refine zwv (.string (txt es.length)) ?_
   refine znt ?_
   refine zsr ?_
   refine wl_load h29 1 rfl Tryz.underlying27 rfl ?_
   refine wl_callx enter11 #[.agg (#[.slice ro (es.map trm).length rc])] (rfresh_any hrt (Stand.ofHA h29 (sub_mid [(q16, 40, #[.int .i64 z, .string lb, .slice po ps.length pc]), (q11, 27, #[.slice ro (es.map trm).length rc]), (q1, 27, #[.slice none 0 0])] (Lt ++ RL) ((tb.q, 61, tcell tb (nms (es ++ [Ent.nm (nms es)])) (.slice tp24 (es ++ [Ent.nm (nms es)]).length tc25)) :: (Lr26 ++ PB (es ++ [Ent.nm (nms es)]))))) (iv_ps hI).1 (by rw [List.length_map]; omega)) ?_
   rintro _ w30 ⟨rv, N2, rfl, hr2, hN2, hb2⟩
   refine ⟨_, rfl, ?_⟩
   rw [(fr_same hI).1] at hr2
   have h31 : HA (zb w [] tb (es ++ [Ent.nm (nms es)])) ((q16, 40, #[.int .i64 z, .string lb, .slice po ps.length pc]) :: (q11, 27, #[.slice ro (es.map trm).length rc]) :: (q1, 27, #[.slice none 0 0]) :: ((N2 ++ (Lt ++ RL)) ++ ((tb.q, 61, tcell tb (nms (es ++ [Ent.nm (nms es)])) (.slice tp24 (es ++ [Ent.nm (nms es)]).length tc25)) :: (Lr26 ++ PB (es ++ [Ent.nm (nms es)]))))) w30 := HA.perm (HA.addL h29 hb2 hN2) (perm_ref [(q16, 40, #[.int .i64 z, .string lb, .slice po ps.length pc]), (q11, 27, #[.slice ro (es.map trm).length rc]), (q1, 27, #[.slice none 0 0])] (Lt ++ RL) ((tb.q, 61, tcell tb (nms (es ++ [Ent.nm (nms es)])) (.slice tp24 (es ++ [Ent.nm (nms es)]).length tc25)) :: (Lr26 ++ PB (es ++ [Ent.nm (nms es)]))) N2)
   obtain ⟨ro2, rc2, rfl⟩ := hr2.form
   refine zwv (.tuple #[.agg #[.slice ro2 ((es ++ [Ent.nm (nms es)]).map trm).length rc2], .string (txt (putN (es.map trm) (frX (es.map trm))))]) ?_
   refine zwv (.agg #[.slice ro2 ((es ++ [Ent.nm (nms es)]).map trm).length rc2]) ?_
   refine zwv (.string (txt (putN (es.map trm) (frX (es.map trm))))) ?_
   refine wl_make (c := #[.slice none 0 0]) h31 27 ?_
   intro q32 w33 (h34 : HA (zb w [] tb (es ++ [Ent.nm (nms es)])) ((q32, 27, #[.slice none 0 0]) :: (q16, 40, #[.int .i64 z, .string lb, .slice po ps.length pc]) :: (q11, 27, #[.slice ro (es.map trm).length rc]) :: (q1, 27, #[.slice none 0 0]) :: ((N2 ++ (Lt ++ RL)) ++ ((tb.q, 61, tcell tb (nms (es ++ [Ent.nm (nms es)])) (.slice tp24 (es ++ [Ent.nm (nms es)]).length tc25)) :: (Lr26 ++ PB (es ++ [Ent.nm (nms es)]))))) w33)
   refine wl_fill (c' := #[.slice ro2 ((es ++ [Ent.nm (nms es)]).map trm).length rc2]) h34 0 rfl rfl ?_
   intro w35 (h36 : HA (zb w [] tb (es ++ [Ent.nm (nms es)])) ((q32, 27, #[.slice ro2 ((es ++ [Ent.nm (nms es)]).map trm).length rc2]) :: (q16, 40, #[.int .i64 z, .string lb, .slice po ps.length pc]) :: (q11, 27, #[.slice ro (es.map trm).length rc]) :: (q1, 27, #[.slice none 0 0]) :: ((N2 ++ (Lt ++ RL)) ++ ((tb.q, 61, tcell tb (nms (es ++ [Ent.nm (nms es)])) (.slice tp24 (es ++ [Ent.nm (nms es)]).length tc25)) :: (Lr26 ++ PB (es ++ [Ent.nm (nms es)]))))) w35)
   refine zwv (.string (txt (putN (es.map trm) (frX (es.map trm))))) ?_
   refine znt ?_
   refine zsr ?_
   refine wl_load h36 0 rfl Tryz.underlying27 rfl ?_
   refine wl_fill (c' := #[.slice ro2 ((es ++ [Ent.nm (nms es)]).map trm).length rc2]) h36 2 rfl rfl ?_
   intro w37 (h38 : HA (zb w [] tb (es ++ [Ent.nm (nms es)])) ((q32, 27, #[.slice ro2 ((es ++ [Ent.nm (nms es)]).map trm).length rc2]) :: (q16, 40, #[.int .i64 z, .string lb, .slice po ps.length pc]) :: (q11, 27, #[.slice ro2 ((es ++ [Ent.nm (nms es)]).map trm).length rc2]) :: (q1, 27, #[.slice none 0 0]) :: ((N2 ++ (Lt ++ RL)) ++ ((tb.q, 61, tcell tb (nms (es ++ [Ent.nm (nms es)])) (.slice tp24 (es ++ [Ent.nm (nms es)]).length tc25)) :: (Lr26 ++ PB (es ++ [Ent.nm (nms es)]))))) w37)
   refine znt ?_
   refine zsr ?_
   refine zwv (.string (txt es.length)) ?_
   refine zwv (.string (txt (putN (es.map trm) (frX (es.map trm))))) ?_
   refine zwu (run_nes (s := txt es.length) (t := txt (putN (es.map trm) (frX (es.map trm)))) false (decide_eq_true (congrArg txt (fr_same hI).2.symm))) ?_
   refine znt ?_
   refine zcf ?_
   refine wp_skip ?_
   refine block_normal ?_
   refine then_at rfl ?_
   refine wp_seq ?_
   refine zrs ⟨(.slice (some pa) al.length c :: un :: u14 2 :: pt q1 :: u14 4 :: pt tb.q :: pt q11 :: iN .i64 i :: pt q16 :: .slice o9 (txl ps (min ps.length 6)).length c9 :: .string (txw ps (min ps.length 6)) :: .string (txt es.length) :: pt q32 :: .string (txt (putN (es.map trm) (frX (es.map trm)))) :: u14 14 :: u14 15 :: u14 16 :: u14 17 :: u14 18 :: u14 19 :: u14 20 :: u14 21 :: u14 22 :: u14 23 :: pt tb.q :: pt tb.q :: .bool false :: un :: iN .i64 i :: .slice (some pa) al.length c :: iN .i64 al.length :: .bool true :: .bool true :: iN .i64 i :: .bool true :: .bool true :: u14 36 :: u14 37 :: .slice (some pa) al.length c :: iN .i64 i :: .pointer (some (pa.add (i * 3))) :: .agg #[.int .i64 z, .string lb, .slice po ps.length pc] :: .tuple #[.slice o9 (txl ps (min ps.length 6)).length c9, .string (txw ps (min ps.length 6))] :: .pointer (some ⟨q16, 2, none⟩) :: .slice po ps.length pc :: .tuple #[.slice o9 (txl ps (min ps.length 6)).length c9, .string (txw ps (min ps.length 6))] :: .slice o9 (txl ps (min ps.length 6)).length c9 :: .string (txw ps (min ps.length 6)) :: pt q16 :: .int .i64 z :: u14 50 :: u14 51 :: u14 52 :: u14 53 :: u14 54 :: u14 55 :: u14 56 :: u14 57 :: u14 58 :: u14 59 :: u14 60 :: u14 61 :: u14 62 :: u14 63 :: u14 64 :: u14 65 :: u14 66 :: u14 67 :: u14 68 :: u14 69 :: u14 70 :: u14 71 :: u14 72 :: u14 73 :: u14 74 :: u14 75 :: u14 76 :: u14 77 :: u14 78 :: u14 79 :: u14 80 :: u14 81 :: u14 82 :: u14 83 :: u14 84 :: u14 85 :: u14 86 :: u14 87 :: .bool true :: .bool true :: pt tb.q :: .string (txt es.length) :: .tuple #[.agg #[.slice ro2 ((es ++ [Ent.nm (nms es)]).map trm).length rc2], .string (txt (putN (es.map trm) (frX (es.map trm))))] :: .agg (#[.slice ro (es.map trm).length rc]) :: .tuple #[.agg #[.slice ro2 ((es ++ [Ent.nm (nms es)]).map trm).length rc2], .string (txt (putN (es.map trm) (frX (es.map trm))))] :: .agg #[.slice ro2 ((es ++ [Ent.nm (nms es)]).map trm).length rc2] :: .string (txt (putN (es.map trm) (frX (es.map trm)))) :: .agg (#[.slice ro2 ((es ++ [Ent.nm (nms es)]).map trm).length rc2]) :: .string (txt es.length) :: .string (txt (putN (es.map trm) (frX (es.map trm)))) :: .bool false :: u14 101 :: u14 102 :: u14 103 :: u14 104 :: u14 105 :: u14 106 :: u14 107 :: u14 108 :: u14 109 :: u14 110 :: u14 111 :: u14 112 :: u14 113 :: u14 114 :: u14 115 :: u14 116 :: u14 117 :: u14 118 :: u14 119 :: pt tb.q :: iN .i64 ((es ++ [Ent.nm (nms es)]).length) :: pt q11 :: .slice ro2 ((es ++ [Ent.nm (nms es)]).map trm).length rc2 :: iN .i64 (((es ++ [Ent.nm (nms es)]).map trm).length) :: .bool false :: u14 126 :: u14 127 :: List.replicate 2 un).toArray, []⟩ (HA (zb w [] tb (es ++ [Ent.nm (nms es)])) ((q32, 27, #[.slice ro2 ((es ++ [Ent.nm (nms es)]).map trm).length rc2]) :: (q16, 40, #[.int .i64 z, .string lb, .slice po ps.length pc]) :: (q11, 27, #[.slice ro2 ((es ++ [Ent.nm (nms es)]).map trm).length rc2]) :: (q1, 27, #[.slice none 0 0]) :: ((N2 ++ (Lt ++ RL)) ++ ((tb.q, 61, tcell tb (nms (es ++ [Ent.nm (nms es)])) (.slice tp24 (es ++ [Ent.nm (nms es)]).length tc25)) :: (Lr26 ++ PB (es ++ [Ent.nm (nms es)])))))) h38.drew ?_ ?_
   ·refine zsp (.pointer (some ⟨tb.q, 0, none⟩)) ?_
    refine zsc enter16 HA.keep (fun w' h' => Len_any (t := tb) (n := nms (es ++ [Ent.nm (nms es)])) (p := tp24) (c := tc25) (h'.blk (tb.q, 61, tcell tb (nms (es ++ [Ent.nm (nms es)])) (.slice tp24 (es ++ [Ent.nm (nms es)]).length tc25)) (by simp))) ?_
    refine zsp (.pointer (some ⟨q11, 0, none⟩)) ?_
    refine zst (v := .slice ro2 ((es ++ [Ent.nm (nms es)]).map trm).length rc2) (fun w' h' => run_load1 Tryz.isAgg25 (((h'.get 2 rfl).cell 0).trans rfl)) ?_
    refine zsp (iN .i64 (((es ++ [Ent.nm (nms es)]).map trm).length)) ?_
    refine zst (fun _ _ => (run_nei (k := .i64) (a := (es ++ [Ent.nm (nms es)]).length) (b := ((es ++ [Ent.nm (nms es)]).map trm).length) false (by simp))) ?_
    exact AllSure.nil
   intro w39 h40
   refine then_at rfl ?_
   refine zcf ?_
   refine wp_skip ?_
   refine block_normal ?_
   refine then_at rfl ?_
   refine wl_region ?_
   refine zwv (iN .i64 i) ?_
   refine zwu (run_add (k := .i64) (a := i) (b := 1) (by simp only [top]; omega)) ?_
   refine zwv (iN .i64 (i + 1)) ?_
   refine wl_nil ?_
   have h41 := HA.sub h40 (List.Sublist.cons _ (List.Sublist.cons _ (List.Sublist.cons_cons _ (List.Sublist.cons_cons _ (List.Sublist.refl _)))))
   exact then_I (zex (⟨(es ++ [Ent.nm (nms es)]), tp24, tc25, Lr26, ro2, rc2, (N2 ++ (Lt ++ RL)), hI1, by omega, hR27, hr2, h41⟩))
  ·refine wl_region ?_
   refine zwu (v := .bool false) (run_eqz (k := .i64) (a := z) (b := 0) false (decide_eq_false hz0)) ?_
   refine zwv (.bool false) ?_
   refine znt ?_
   refine zcf ?_
   refine wp_seq ?_
   by_cases hz1 : z = 1
   ·refine wl_region ?_
    refine zwu (v := .bool true) (run_eqz (k := .i64) (a := z) (b := 1) true (decide_eq_true hz1)) ?_
    refine zwv (.bool true) ?_
    refine znt ?_
    refine zct ?_
    refine zsr ?_
    refine zwv (.pointer (some ⟨tb.q, 0, none⟩)) ?_
    refine zwv (.string (txw ps (min ps.length 6))) ?_
    refine wl_callx enter12 #[.pointer (some ⟨tb.q, 0, none⟩), .string (txw ps (min ps.length 6))] (Data_any (TH.cl ((q16, 40, #[.int .i64 z, .string lb, .slice po ps.length pc]) :: (q11, 27, #[.slice ro (es.map trm).length rc]) :: (q1, 27, #[.slice none 0 0]) :: (Lt ++ RL)) hR h22) (by omega) (txw ps (min ps.length 6)) (by have := txw_size ps (min ps.length 6); omega)) ?_
    rintro _ w42 ⟨rfl, hT1⟩
    refine ⟨_, rfl, ?_⟩
    obtain ⟨tp43, tc44, Lr45, hR46, h47⟩ := TH.op hT1
    have h48 : HA (zb w [] tb (partF es (txw ps (min ps.length 6))).1) ((q16, 40, #[.int .i64 z, .string lb, .slice po ps.length pc]) :: (q11, 27, #[.slice ro (es.map trm).length rc]) :: (q1, 27, #[.slice none 0 0]) :: ((Lt ++ RL) ++ ((tb.q, 61, tcell tb (nms (partF es (txw ps (min ps.length 6))).1) (.slice tp43 (partF es (txw ps (min ps.length 6))).1.length tc44)) :: (Lr45 ++ PB (partF es (txw ps (min ps.length 6))).1)))) w42 := h47
    have hI1 := hI.part (txw ps (min ps.length 6)) (by have := txw_size ps (min ps.length 6); omega) (by omega)
    have hl1 : (partF es (txw ps (min ps.length 6))).1.length ≤ es.length + 7 := by have := partF_len es (txw ps (min ps.length 6)); omega
    refine zwv (.string (txt (partF es (txw ps (min ps.length 6))).2)) ?_
    refine znt ?_
    refine zsr ?_
    refine wl_load h48 1 rfl Tryz.underlying27 rfl ?_
    refine zwv (.string (txw ps (min ps.length 6))) ?_
    refine wl_callx enter13 #[.agg (#[.slice ro (es.map trm).length rc]), .string (txw ps (min ps.length 6))] (rdata_any hrt (Stand.ofHA h48 (sub_mid [(q16, 40, #[.int .i64 z, .string lb, .slice po ps.length pc]), (q11, 27, #[.slice ro (es.map trm).length rc]), (q1, 27, #[.slice none 0 0])] (Lt ++ RL) ((tb.q, 61, tcell tb (nms (partF es (txw ps (min ps.length 6))).1) (.slice tp43 (partF es (txw ps (min ps.length 6))).1.length tc44)) :: (Lr45 ++ PB (partF es (txw ps (min ps.length 6))).1)))) (iv_ps hI).1 (by rw [List.length_map]; omega) (txw ps (min ps.length 6))) ?_
    rintro _ w49 ⟨rv, N2, rfl, hr2, hN2, hb2⟩
    refine ⟨_, rfl, ?_⟩
    rw [(rp_same hI (txw ps (min ps.length 6))).1] at hr2
    have h50 : HA (zb w [] tb (partF es (txw ps (min ps.length 6))).1) ((q16, 40, #[.int .i64 z, .string lb, .slice po ps.length pc]) :: (q11, 27, #[.slice ro (es.map trm).length rc]) :: (q1, 27, #[.slice none 0 0]) :: ((N2 ++ (Lt ++ RL)) ++ ((tb.q, 61, tcell tb (nms (partF es (txw ps (min ps.length 6))).1) (.slice tp43 (partF es (txw ps (min ps.length 6))).1.length tc44)) :: (Lr45 ++ PB (partF es (txw ps (min ps.length 6))).1)))) w49 := HA.perm (HA.addL h48 hb2 hN2) (perm_ref [(q16, 40, #[.int .i64 z, .string lb, .slice po ps.length pc]), (q11, 27, #[.slice ro (es.map trm).length rc]), (q1, 27, #[.slice none 0 0])] (Lt ++ RL) ((tb.q, 61, tcell tb (nms (partF es (txw ps (min ps.length 6))).1) (.slice tp43 (partF es (txw ps (min ps.length 6))).1.length tc44)) :: (Lr45 ++ PB (partF es (txw ps (min ps.length 6))).1)) N2)
    obtain ⟨ro2, rc2, rfl⟩ := hr2.form
    refine zwv (.tuple #[.agg #[.slice ro2 ((partF es (txw ps (min ps.length 6))).1.map trm).length rc2], .string (txt (rpN (es.map trm) (txw ps (min ps.length 6))))]) ?_
    refine zwv (.agg #[.slice ro2 ((partF es (txw ps (min ps.length 6))).1.map trm).length rc2]) ?_
    refine zwv (.string (txt (rpN (es.map trm) (txw ps (min ps.length 6))))) ?_
    refine wl_make (c := #[.slice none 0 0]) h50 27 ?_
    intro q51 w52 (h53 : HA (zb w [] tb (partF es (txw ps (min ps.length 6))).1) ((q51, 27, #[.slice none 0 0]) :: (q16, 40, #[.int .i64 z, .string lb, .slice po ps.length pc]) :: (q11, 27, #[.slice ro (es.map trm).length rc]) :: (q1, 27, #[.slice none 0 0]) :: ((N2 ++ (Lt ++ RL)) ++ ((tb.q, 61, tcell tb (nms (partF es (txw ps (min ps.length 6))).1) (.slice tp43 (partF es (txw ps (min ps.length 6))).1.length tc44)) :: (Lr45 ++ PB (partF es (txw ps (min ps.length 6))).1)))) w52)
    refine wl_fill (c' := #[.slice ro2 ((partF es (txw ps (min ps.length 6))).1.map trm).length rc2]) h53 0 rfl rfl ?_
    intro w54 (h55 : HA (zb w [] tb (partF es (txw ps (min ps.length 6))).1) ((q51, 27, #[.slice ro2 ((partF es (txw ps (min ps.length 6))).1.map trm).length rc2]) :: (q16, 40, #[.int .i64 z, .string lb, .slice po ps.length pc]) :: (q11, 27, #[.slice ro (es.map trm).length rc]) :: (q1, 27, #[.slice none 0 0]) :: ((N2 ++ (Lt ++ RL)) ++ ((tb.q, 61, tcell tb (nms (partF es (txw ps (min ps.length 6))).1) (.slice tp43 (partF es (txw ps (min ps.length 6))).1.length tc44)) :: (Lr45 ++ PB (partF es (txw ps (min ps.length 6))).1)))) w54)
    refine zwv (.string (txt (rpN (es.map trm) (txw ps (min ps.length 6))))) ?_
    refine znt ?_
    refine zsr ?_
    refine wl_load h55 0 rfl Tryz.underlying27 rfl ?_
    refine wl_fill (c' := #[.slice ro2 ((partF es (txw ps (min ps.length 6))).1.map trm).length rc2]) h55 2 rfl rfl ?_
    intro w56 (h57 : HA (zb w [] tb (partF es (txw ps (min ps.length 6))).1) ((q51, 27, #[.slice ro2 ((partF es (txw ps (min ps.length 6))).1.map trm).length rc2]) :: (q16, 40, #[.int .i64 z, .string lb, .slice po ps.length pc]) :: (q11, 27, #[.slice ro2 ((partF es (txw ps (min ps.length 6))).1.map trm).length rc2]) :: (q1, 27, #[.slice none 0 0]) :: ((N2 ++ (Lt ++ RL)) ++ ((tb.q, 61, tcell tb (nms (partF es (txw ps (min ps.length 6))).1) (.slice tp43 (partF es (txw ps (min ps.length 6))).1.length tc44)) :: (Lr45 ++ PB (partF es (txw ps (min ps.length 6))).1)))) w56)
    refine znt ?_
    refine zsr ?_
    refine zwv (.string (txt (partF es (txw ps (min ps.length 6))).2)) ?_
    refine zwv (.string (txt (rpN (es.map trm) (txw ps (min ps.length 6))))) ?_
    refine zwu (run_nes (s := txt (partF es (txw ps (min ps.length 6))).2) (t := txt (rpN (es.map trm) (txw ps (min ps.length 6)))) false (decide_eq_true (congrArg txt (rp_same hI (txw ps (min ps.length 6))).2.symm))) ?_
    refine znt ?_
    refine zcf ?_
    refine wp_skip ?_
    refine block_normal ?_
    refine then_at rfl ?_
    refine wp_seq ?_
    refine zrs ⟨(.slice (some pa) al.length c :: un :: u14 2 :: pt q1 :: u14 4 :: pt tb.q :: pt q11 :: iN .i64 i :: pt q16 :: .slice o9 (txl ps (min ps.length 6)).length c9 :: .string (txw ps (min ps.length 6)) :: u14 11 :: u14 12 :: u14 13 :: .string (txt (partF es (txw ps (min ps.length 6))).2) :: pt q51 :: .string (txt (rpN (es.map trm) (txw ps (min ps.length 6)))) :: u14 17 :: u14 18 :: u14 19 :: u14 20 :: u14 21 :: u14 22 :: u14 23 :: pt tb.q :: pt tb.q :: .bool false :: un :: iN .i64 i :: .slice (some pa) al.length c :: iN .i64 al.length :: .bool true :: .bool true :: iN .i64 i :: .bool true :: .bool true :: u14 36 :: u14 37 :: .slice (some pa) al.length c :: iN .i64 i :: .pointer (some (pa.add (i * 3))) :: .agg #[.int .i64 z, .string lb, .slice po ps.length pc] :: .tuple #[.slice o9 (txl ps (min ps.length 6)).length c9, .string (txw ps (min ps.length 6))] :: .pointer (some ⟨q16, 2, none⟩) :: .slice po ps.length pc :: .tuple #[.slice o9 (txl ps (min ps.length 6)).length c9, .string (txw ps (min ps.length 6))] :: .slice o9 (txl ps (min ps.length 6)).length c9 :: .string (txw ps (min ps.length 6)) :: pt q16 :: .int .i64 z :: u14 50 :: u14 51 :: u14 52 :: u14 53 :: u14 54 :: u14 55 :: u14 56 :: u14 57 :: u14 58 :: u14 59 :: u14 60 :: u14 61 :: u14 62 :: u14 63 :: u14 64 :: u14 65 :: u14 66 :: u14 67 :: u14 68 :: u14 69 :: u14 70 :: u14 71 :: u14 72 :: u14 73 :: u14 74 :: u14 75 :: u14 76 :: u14 77 :: u14 78 :: u14 79 :: u14 80 :: u14 81 :: u14 82 :: u14 83 :: u14 84 :: u14 85 :: u14 86 :: u14 87 :: .bool false :: .bool false :: u14 90 :: u14 91 :: u14 92 :: u14 93 :: u14 94 :: u14 95 :: u14 96 :: u14 97 :: u14 98 :: u14 99 :: u14 100 :: u14 101 :: u14 102 :: .bool true :: .bool true :: pt tb.q :: .string (txw ps (min ps.length 6)) :: .string (txt (partF es (txw ps (min ps.length 6))).2) :: .tuple #[.agg #[.slice ro2 ((partF es (txw ps (min ps.length 6))).1.map trm).length rc2], .string (txt (rpN (es.map trm) (txw ps (min ps.length 6))))] :: .agg (#[.slice ro (es.map trm).length rc]) :: .string (txw ps (min ps.length 6)) :: .tuple #[.agg #[.slice ro2 ((partF es (txw ps (min ps.length 6))).1.map trm).length rc2], .string (txt (rpN (es.map trm) (txw ps (min ps.length 6))))] :: .agg #[.slice ro2 ((partF es (txw ps (min ps.length 6))).1.map trm).length rc2] :: .string (txt (rpN (es.map trm) (txw ps (min ps.length 6)))) :: .agg (#[.slice ro2 ((partF es (txw ps (min ps.length 6))).1.map trm).length rc2]) :: .string (txt (partF es (txw ps (min ps.length 6))).2) :: .string (txt (rpN (es.map trm) (txw ps (min ps.length 6)))) :: .bool false :: u14 118 :: u14 119 :: pt tb.q :: iN .i64 ((partF es (txw ps (min ps.length 6))).1.length) :: pt q11 :: .slice ro2 ((partF es (txw ps (min ps.length 6))).1.map trm).length rc2 :: iN .i64 (((partF es (txw ps (min ps.length 6))).1.map trm).length) :: .bool false :: u14 126 :: u14 127 :: List.replicate 2 un).toArray, []⟩ (HA (zb w [] tb (partF es (txw ps (min ps.length 6))).1) ((q51, 27, #[.slice ro2 ((partF es (txw ps (min ps.length 6))).1.map trm).length rc2]) :: (q16, 40, #[.int .i64 z, .string lb, .slice po ps.length pc]) :: (q11, 27, #[.slice ro2 ((partF es (txw ps (min ps.length 6))).1.map trm).length rc2]) :: (q1, 27, #[.slice none 0 0]) :: ((N2 ++ (Lt ++ RL)) ++ ((tb.q, 61, tcell tb (nms (partF es (txw ps (min ps.length 6))).1) (.slice tp43 (partF es (txw ps (min ps.length 6))).1.length tc44)) :: (Lr45 ++ PB (partF es (txw ps (min ps.length 6))).1))))) h57.drew ?_ ?_
    ·refine zsp (.pointer (some ⟨tb.q, 0, none⟩)) ?_
     refine zsc enter16 HA.keep (fun w' h' => Len_any (t := tb) (n := nms (partF es (txw ps (min ps.length 6))).1) (p := tp43) (c := tc44) (h'.blk (tb.q, 61, tcell tb (nms (partF es (txw ps (min ps.length 6))).1) (.slice tp43 (partF es (txw ps (min ps.length 6))).1.length tc44)) (by simp))) ?_
     refine zsp (.pointer (some ⟨q11, 0, none⟩)) ?_
     refine zst (v := .slice ro2 ((partF es (txw ps (min ps.length 6))).1.map trm).length rc2) (fun w' h' => run_load1 Tryz.isAgg25 (((h'.get 2 rfl).cell 0).trans rfl)) ?_
     refine zsp (iN .i64 (((partF es (txw ps (min ps.length 6))).1.map trm).length)) ?_
     refine zst (fun _ _ => (run_nei (k := .i64) (a := (partF es (txw ps (min ps.length 6))).1.length) (b := ((partF es (txw ps (min ps.length 6))).1.map trm).length) false (by simp))) ?_
     exact AllSure.nil
    intro w58 h59
    refine then_at rfl ?_
    refine zcf ?_
    refine wp_skip ?_
    refine block_normal ?_
    refine then_at rfl ?_
    refine wl_region ?_
    refine zwv (iN .i64 i) ?_
    refine zwu (run_add (k := .i64) (a := i) (b := 1) (by simp only [top]; omega)) ?_
    refine zwv (iN .i64 (i + 1)) ?_
    refine wl_nil ?_
    have h60 := HA.sub h59 (List.Sublist.cons _ (List.Sublist.cons _ (List.Sublist.cons_cons _ (List.Sublist.cons_cons _ (List.Sublist.refl _)))))
    exact then_I (zex (⟨(partF es (txw ps (min ps.length 6))).1, tp43, tc44, Lr45, ro2, rc2, (N2 ++ (Lt ++ RL)), hI1, by omega, hR46, hr2, h60⟩))
   ·refine wl_region ?_
    refine zwu (v := .bool false) (run_eqz (k := .i64) (a := z) (b := 1) false (decide_eq_false hz1)) ?_
    refine zwv (.bool false) ?_
    refine znt ?_
    refine zcf ?_
    refine wp_seq ?_
    rcases hmk : mayB (kz z) (lb.extract 0 (min lb.size 20)) (txl ps (min ps.length 6)).length with _ | _
    ·refine wl_region ?_
     refine zwv (.pointer (some ⟨q16, 0, none⟩)) ?_
     refine zwu (v := .int .i64 z) (run_load1 Tryz.isAgg3 (((h22.get 0 rfl).cell 0).trans rfl)) ?_
     refine zwu (v := .int .i64 (kz z)) (run_subz1 (z := z) (by kernel_rfl) (by kernel_rfl)) ?_
     refine zwv (.int .i64 (kz z)) ?_
     refine znt ?_
     refine zsr ?_
     refine zwv (.pointer (some ⟨q16, 1, none⟩)) ?_
     refine zwu (v := .string lb) (run_load1 Tryz.isAgg9 (((h22.get 0 rfl).cell 1).trans rfl)) ?_
     refine zwv (.pointer (some ⟨q16, 1, none⟩)) ?_
     refine zwu (v := .string lb) (run_load1 Tryz.isAgg9 (((h22.get 0 rfl).cell 1).trans rfl)) ?_
     refine zwu (run_len (s := lb)) ?_
     refine zwu (run_min (i := lb.size) (j := 20)) ?_
     refine zwu (v := .string (lb.extract 0 (min lb.size 20))) (run_cut_hi (s := lb) (b := min lb.size 20) (by omega)) ?_
     refine zwv (.string (lb.extract 0 (min lb.size 20))) ?_
     refine znt ?_
     refine zsr ?_
     refine zwv (.pointer (some ⟨tb.q, 0, none⟩)) ?_
     refine zwv (.int .i64 (kz z)) ?_
     refine zwv (.string (lb.extract 0 (min lb.size 20))) ?_
     refine zwv (.slice o9 (txl ps (min ps.length 6)).length c9) ?_
     refine wl_callx enter14 #[.pointer (some ⟨tb.q, 0, none⟩), .int .i64 (kz z), .string (lb.extract 0 (min lb.size 20)), .slice o9 (txl ps (min ps.length 6)).length c9] (Make_arg (TH.cl ((q16, 40, #[.int .i64 z, .string lb, .slice po ps.length pc]) :: (q11, 27, #[.slice ro (es.map trm).length rc]) :: (q1, 27, #[.slice none 0 0]) :: (Lt ++ RL)) hR h22) (kz z) (lb.extract 0 (min lb.size 20)) (txl ps (min ps.length 6)) o9 c9 hmk) ?_
     rintro _ w61 ⟨rfl, hT1⟩
     refine ⟨_, rfl, ?_⟩
     obtain ⟨tp62, tc63, Lr64, hR65, h66⟩ := TH.op hT1
     have h67 : HA (zb w [] tb es) ((q16, 40, #[.int .i64 z, .string lb, .slice po ps.length pc]) :: (q11, 27, #[.slice ro (es.map trm).length rc]) :: (q1, 27, #[.slice none 0 0]) :: ((Lt ++ RL) ++ ((tb.q, 61, tcell tb (nms es) (.slice tp62 es.length tc63)) :: (Lr64 ++ PB es)))) w61 := h66
     have hI1 := hI
     have hl1 : es.length ≤ es.length + 7 := by omega
     refine zwv (.tuple #[.string ({ data := #[] }), iN .i64 2]) ?_
     refine zwv (.string ({ data := #[] })) ?_
     refine zwv (iN .i64 2) ?_
     refine zwv (.string ({ data := #[] })) ?_
     refine zwv (iN .i64 2) ?_
     refine znt ?_
     refine zsr ?_
     refine wl_load h67 1 rfl Tryz.underlying27 rfl ?_
     refine zwv (.int .i64 (kz z)) ?_
     refine zwv (.string (lb.extract 0 (min lb.size 20))) ?_
     refine zwv (.slice o9 (txl ps (min ps.length 6)).length c9) ?_
     refine wl_callx enter15 #[.agg (#[.slice ro (es.map trm).length rc]), .int .i64 (kz z), .string (lb.extract 0 (min lb.size 20)), .slice o9 (txl ps (min ps.length 6)).length c9] (rmake_arg hrt (kz z) (lb.extract 0 (min lb.size 20)) o9 (txl ps (min ps.length 6)).length c9 hmk) ?_
     rintro _ w68 ⟨rfl, hb2⟩
     refine ⟨_, rfl, ?_⟩
     have h69 : HA (zb w [] tb es) ((q16, 40, #[.int .i64 z, .string lb, .slice po ps.length pc]) :: (q11, 27, #[.slice ro (es.map trm).length rc]) :: (q1, 27, #[.slice none 0 0]) :: ((Lt ++ RL) ++ ((tb.q, 61, tcell tb (nms es) (.slice tp62 es.length tc63)) :: (Lr64 ++ PB es)))) w68 := HA.keep _ _ h67 hb2
     have hr2 := hrt
     refine zwv (.tuple #[.agg #[.slice ro (es.map trm).length rc], .string ({ data := #[] }), iN .i64 2]) ?_
     refine zwv (.agg #[.slice ro (es.map trm).length rc]) ?_
     refine zwv (.string ({ data := #[] })) ?_
     refine zwv (iN .i64 2) ?_
     refine wl_make (c := #[.slice none 0 0]) h69 27 ?_
     intro q70 w71 (h72 : HA (zb w [] tb es) ((q70, 27, #[.slice none 0 0]) :: (q16, 40, #[.int .i64 z, .string lb, .slice po ps.length pc]) :: (q11, 27, #[.slice ro (es.map trm).length rc]) :: (q1, 27, #[.slice none 0 0]) :: ((Lt ++ RL) ++ ((tb.q, 61, tcell tb (nms es) (.slice tp62 es.length tc63)) :: (Lr64 ++ PB es)))) w71)
     refine wl_fill (c' := #[.slice ro (es.map trm).length rc]) h72 0 rfl rfl ?_
     intro w73 (h74 : HA (zb w [] tb es) ((q70, 27, #[.slice ro (es.map trm).length rc]) :: (q16, 40, #[.int .i64 z, .string lb, .slice po ps.length pc]) :: (q11, 27, #[.slice ro (es.map trm).length rc]) :: (q1, 27, #[.slice none 0 0]) :: ((Lt ++ RL) ++ ((tb.q, 61, tcell tb (nms es) (.slice tp62 es.length tc63)) :: (Lr64 ++ PB es)))) w73)
     refine zwv (.string ({ data := #[] })) ?_
     refine zwv (iN .i64 2) ?_
     refine znt ?_
     refine zsr ?_
     refine wl_load h74 0 rfl Tryz.underlying27 rfl ?_
     refine wl_fill (c' := #[.slice ro (es.map trm).length rc]) h74 2 rfl rfl ?_
     intro w75 (h76 : HA (zb w [] tb es) ((q70, 27, #[.slice ro (es.map trm).length rc]) :: (q16, 40, #[.int .i64 z, .string lb, .slice po ps.length pc]) :: (q11, 27, #[.slice ro (es.map trm).length rc]) :: (q1, 27, #[.slice none 0 0]) :: ((Lt ++ RL) ++ ((tb.q, 61, tcell tb (nms es) (.slice tp62 es.length tc63)) :: (Lr64 ++ PB es)))) w75)
     refine znt ?_
     refine zsr ?_
     refine zwv (.string ({ data := #[] })) ?_
     refine zwv (.string ({ data := #[] })) ?_
     refine zwu (run_nes (s := { data := #[] }) (t := { data := #[] }) false (decide_eq_true rfl)) ?_
     refine zwv (.bool false) ?_
     refine zwv (iN .i64 2) ?_
     refine zwv (iN .i64 2) ?_
     refine zwv (.bool false) ?_
     refine zwv (.bool false) ?_
     refine znt ?_
     refine zcf ?_
     refine wp_skip ?_
     refine block_normal ?_
     refine then_at rfl ?_
     refine wp_seq ?_
     refine zrs ⟨(.slice (some pa) al.length c :: un :: u14 2 :: pt q1 :: u14 4 :: pt tb.q :: pt q11 :: iN .i64 i :: pt q16 :: .slice o9 (txl ps (min ps.length 6)).length c9 :: .string (txw ps (min ps.length 6)) :: u14 11 :: u14 12 :: u14 13 :: u14 14 :: u14 15 :: u14 16 :: .int .i64 (kz z) :: .string (lb.extract 0 (min lb.size 20)) :: .string ({ data := #[] }) :: iN .i64 2 :: pt q70 :: .string ({ data := #[] }) :: iN .i64 2 :: pt tb.q :: pt tb.q :: .bool false :: un :: iN .i64 i :: .slice (some pa) al.length c :: iN .i64 al.length :: .bool true :: .bool true :: iN .i64 i :: .bool true :: .bool true :: u14 36 :: u14 37 :: .slice (some pa) al.length c :: iN .i64 i :: .pointer (some (pa.add (i * 3))) :: .agg #[.int .i64 z, .string lb, .slice po ps.length pc] :: .tuple #[.slice o9 (txl ps (min ps.length 6)).length c9, .string (txw ps (min ps.length 6))] :: .pointer (some ⟨q16, 2, none⟩) :: .slice po ps.length pc :: .tuple #[.slice o9 (txl ps (min ps.length 6)).length c9, .string (txw ps (min ps.length 6))] :: .slice o9 (txl ps (min ps.length 6)).length c9 :: .string (txw ps (min ps.length 6)) :: pt q16 :: .int .i64 z :: pt q16 :: .int .i64 z :: .int .i64 (kz z) :: .pointer (some ⟨q16, 1, none⟩) :: .string lb :: .pointer (some ⟨q16, 1, none⟩) :: .string lb :: iN .i64 lb.size :: iN .i64 (min lb.size 20) :: .string (lb.extract 0 (min lb.size 20)) :: .tuple #[.string ({ data := #[] }), iN .i64 2] :: pt tb.q :: .int .i64 (kz z) :: .string (lb.extract 0 (min lb.size 20)) :: .slice o9 (txl ps (min ps.length 6)).length c9 :: .tuple #[.string ({ data := #[] }), iN .i64 2] :: .string ({ data := #[] }) :: iN .i64 2 :: .tuple #[.agg #[.slice ro (es.map trm).length rc], .string ({ data := #[] }), iN .i64 2] :: .agg (#[.slice ro (es.map trm).length rc]) :: .int .i64 (kz z) :: .string (lb.extract 0 (min lb.size 20)) :: .slice o9 (txl ps (min ps.length 6)).length c9 :: .tuple #[.agg #[.slice ro (es.map trm).length rc], .string ({ data := #[] }), iN .i64 2] :: .agg #[.slice ro (es.map trm).length rc] :: .string ({ data := #[] }) :: iN .i64 2 :: .agg (#[.slice ro (es.map trm).length rc]) :: .string ({ data := #[] }) :: .string ({ data := #[] }) :: .bool false :: .bool false :: iN .i64 2 :: iN .i64 2 :: .bool false :: .bool false :: u14 86 :: u14 87 :: .bool false :: .bool false :: u14 90 :: u14 91 :: u14 92 :: u14 93 :: u14 94 :: u14 95 :: u14 96 :: u14 97 :: u14 98 :: u14 99 :: u14 100 :: u14 101 :: u14 102 :: .bool false :: .bool false :: u14 105 :: u14 106 :: u14 107 :: u14 108 :: u14 109 :: u14 110 :: u14 111 :: u14 112 :: u14 113 :: u14 114 :: u14 115 :: u14 116 :: u14 117 :: u14 118 :: u14 119 :: pt tb.q :: iN .i64 es.length :: pt q11 :: .slice ro (es.map trm).length rc :: iN .i64 ((es.map trm).length) :: .bool false :: u14 126 :: u14 127 :: List.replicate 2 un).toArray, []⟩ (HA (zb w [] tb es) ((q70, 27, #[.slice ro (es.map trm).length rc]) :: (q16, 40, #[.int .i64 z, .string lb, .slice po ps.length pc]) :: (q11, 27, #[.slice ro (es.map trm).length rc]) :: (q1, 27, #[.slice none 0 0]) :: ((Lt ++ RL) ++ ((tb.q, 61, tcell tb (nms es) (.slice tp62 es.length tc63)) :: (Lr64 ++ PB es))))) h76.drew ?_ ?_
     ·refine zsp (.pointer (some ⟨tb.q, 0, none⟩)) ?_
      refine zsc enter16 HA.keep (fun w' h' => Len_any (t := tb) (n := nms es) (p := tp62) (c := tc63) (h'.blk (tb.q, 61, tcell tb (nms es) (.slice tp62 es.length tc63)) (by simp))) ?_
      refine zsp (.pointer (some ⟨q11, 0, none⟩)) ?_
      refine zst (v := .slice ro (es.map trm).length rc) (fun w' h' => run_load1 Tryz.isAgg25 (((h'.get 2 rfl).cell 0).trans rfl)) ?_
      refine zsp (iN .i64 ((es.map trm).length)) ?_
      refine zst (fun _ _ => (run_nei (k := .i64) (a := es.length) (b := (es.map trm).length) false (by simp))) ?_
      exact AllSure.nil
     intro w77 h78
     refine then_at rfl ?_
     refine zcf ?_
     refine wp_skip ?_
     refine block_normal ?_
     refine then_at rfl ?_
     refine wl_region ?_
     refine zwv (iN .i64 i) ?_
     refine zwu (run_add (k := .i64) (a := i) (b := 1) (by simp only [top]; omega)) ?_
     refine zwv (iN .i64 (i + 1)) ?_
     refine wl_nil ?_
     have h79 := HA.sub h78 (List.Sublist.cons _ (List.Sublist.cons _ (List.Sublist.cons_cons _ (List.Sublist.cons_cons _ (List.Sublist.refl _)))))
     exact then_I (zex (⟨es, tp62, tc63, Lr64, ro, rc, (Lt ++ RL), hI1, by omega, hR65, hr2, h79⟩))
    ·obtain ⟨kn, hkn, hk3, hk31, hk42, hn100, hk6, hk7⟩ := mayB_nat hmk
     rw [hkn] at hmk
     refine wl_region ?_
     refine zwv (.pointer (some ⟨q16, 0, none⟩)) ?_
     refine zwu (v := .int .i64 z) (run_load1 Tryz.isAgg3 (((h22.get 0 rfl).cell 0).trans rfl)) ?_
     refine zwu (v := iN .i64 kn) (run_subz1k (z := z) hkn (by kernel_rfl) (by kernel_rfl)) ?_
     refine zwv (iN .i64 kn) ?_
     refine znt ?_
     refine zsr ?_
     refine zwv (.pointer (some ⟨q16, 1, none⟩)) ?_
     refine zwu (v := .string lb) (run_load1 Tryz.isAgg9 (((h22.get 0 rfl).cell 1).trans rfl)) ?_
     refine zwv (.pointer (some ⟨q16, 1, none⟩)) ?_
     refine zwu (v := .string lb) (run_load1 Tryz.isAgg9 (((h22.get 0 rfl).cell 1).trans rfl)) ?_
     refine zwu (run_len (s := lb)) ?_
     refine zwu (run_min (i := lb.size) (j := 20)) ?_
     refine zwu (v := .string (lb.extract 0 (min lb.size 20))) (run_cut_hi (s := lb) (b := min lb.size 20) (by omega)) ?_
     refine zwv (.string (lb.extract 0 (min lb.size 20))) ?_
     refine znt ?_
     refine zsr ?_
     refine zwv (.pointer (some ⟨tb.q, 0, none⟩)) ?_
     refine zwv (iN .i64 kn) ?_
     refine zwv (.string (lb.extract 0 (min lb.size 20))) ?_
     refine zwv (.slice o9 (txl ps (min ps.length 6)).length c9) ?_
     refine wl_callx enter14 #[.pointer (some ⟨tb.q, 0, none⟩), iN .i64 kn, .string (lb.extract 0 (min lb.size 20)), .slice o9 (txl ps (min ps.length 6)).length c9] (Make_ok (TH.cl ((q16, 40, #[.int .i64 z, .string lb, .slice po ps.length pc]) :: (q11, 27, #[.slice ro (es.map trm).length rc]) :: (q1, 27, #[.slice none 0 0]) :: (Lt ++ RL)) hR h22) hI.wf kn (lb.extract 0 (min lb.size 20)) (txl ps (min ps.length 6)) o9 c9 (hpre.imp id (fun ⟨pq, cs, e1, e2, e3⟩ => ⟨pq, cs, e1, e2, by simp [e3]⟩)) (by omega) hmk (by rw [ByteArray.size_extract]; omega) (fun i => by have := txl_get ps (min ps.length 6) i; omega) (by rw [txl_len]; omega) (fun e => (hk42 e).1)) ?_
     rintro _ w80 ⟨x1, es1, hJ, rfl, hT1⟩
     refine ⟨_, rfl, ?_⟩
     obtain ⟨tp81, tc82, Lr83, hR84, h85⟩ := TH.op hT1
     have h86 : HA (zb w [] tb es1) ((q16, 40, #[.int .i64 z, .string lb, .slice po ps.length pc]) :: (q11, 27, #[.slice ro (es.map trm).length rc]) :: (q1, 27, #[.slice none 0 0]) :: ((Lt ++ RL) ++ ((tb.q, 61, tcell tb (nms es1) (.slice tp81 es1.length tc82)) :: (Lr83 ++ PB es1)))) w80 := h85
     obtain ⟨hs1, hs2, hI1⟩ := mk_same hI hJ (by rw [txl_len]; omega) hn100 (fun i => by have := txl_get ps (min ps.length 6) i; omega) hk3 (fun e => hk31 e) (fun e => (hk42 e).1) (fun e => (hk42 e).2) hk6 hk7 (by rw [ByteArray.size_extract]; omega)
     have hl1 : es1.length ≤ es.length + 7 := by have := hJ.lt.2; rw [txl_len] at this; omega
     refine zwv (.tuple #[.string (txt x1), iN .i64 0]) ?_
     refine zwv (.string (txt x1)) ?_
     refine zwv (iN .i64 0) ?_
     refine zwv (.string (txt x1)) ?_
     refine zwv (iN .i64 0) ?_
     refine znt ?_
     refine zsr ?_
     refine wl_load h86 1 rfl Tryz.underlying27 rfl ?_
     refine zwv (iN .i64 kn) ?_
     refine zwv (.string (lb.extract 0 (min lb.size 20))) ?_
     refine zwv (.slice o9 (txl ps (min ps.length 6)).length c9) ?_
     refine wl_callx enter15 #[.agg (#[.slice ro (es.map trm).length rc]), iN .i64 kn, .string (lb.extract 0 (min lb.size 20)), .slice o9 (txl ps (min ps.length 6)).length c9] (rmake_ok hrt (Stand.ofHA h86 (sub_mid [(q16, 40, #[.int .i64 z, .string lb, .slice po ps.length pc]), (q11, 27, #[.slice ro (es.map trm).length rc]), (q1, 27, #[.slice none 0 0])] (Lt ++ RL) ((tb.q, 61, tcell tb (nms es1) (.slice tp81 es1.length tc82)) :: (Lr83 ++ PB es1)))) (iv_ps hI).1 (by rw [List.length_map]; omega) kn (lb.extract 0 (min lb.size 20)) (txl ps (min ps.length 6)) o9 c9 (hpre.imp id (fun ⟨pq, cs, e1, e2, e3⟩ => ⟨pq, cs, e1, e2, h86.blk (pq, 9, cs) (by simp [e3])⟩)) (by rw [txl_len]; omega) (by rw [ByteArray.size_extract]; omega) (fun i => by have := txl_get ps (min ps.length 6) i; omega) hmk (by rw [(rf_same hI (txl ps (min ps.length 6)) (fun i => by have := txl_get ps (min ps.length 6) i; omega) _ (by rw [txl_len]; omega)).1]; exact (iv_ps (hI.parts (txl ps (min ps.length 6)) (fun i => by have := txl_get ps (min ps.length 6) i; omega) _ (by rw [txl_len]; omega))).2)) ?_
     rintro _ w87 ⟨rv, N2, rfl, hr2, hN2, hb2⟩
     refine ⟨_, rfl, ?_⟩
     rw [hs1] at hr2
     have h88 : HA (zb w [] tb es1) ((q16, 40, #[.int .i64 z, .string lb, .slice po ps.length pc]) :: (q11, 27, #[.slice ro (es.map trm).length rc]) :: (q1, 27, #[.slice none 0 0]) :: ((N2 ++ (Lt ++ RL)) ++ ((tb.q, 61, tcell tb (nms es1) (.slice tp81 es1.length tc82)) :: (Lr83 ++ PB es1)))) w87 := HA.perm (HA.addL h86 hb2 hN2) (perm_ref [(q16, 40, #[.int .i64 z, .string lb, .slice po ps.length pc]), (q11, 27, #[.slice ro (es.map trm).length rc]), (q1, 27, #[.slice none 0 0])] (Lt ++ RL) ((tb.q, 61, tcell tb (nms es1) (.slice tp81 es1.length tc82)) :: (Lr83 ++ PB es1)) N2)
     obtain ⟨ro2, rc2, rfl⟩ := hr2.form
     refine zwv (.tuple #[.agg #[.slice ro2 (es1.map trm).length rc2], .string (txt (putN (rfL (es.map trm) (txl ps (min ps.length 6)) (txl ps (min ps.length 6)).length) (rmX (rfL (es.map trm) (txl ps (min ps.length 6)) (txl ps (min ps.length 6)).length) kn (lb.extract 0 (min lb.size 20)) (rfN (es.map trm) (txl ps (min ps.length 6)) (txl ps (min ps.length 6)).length)))), iN .i64 0]) ?_
     refine zwv (.agg #[.slice ro2 (es1.map trm).length rc2]) ?_
     refine zwv (.string (txt (putN (rfL (es.map trm) (txl ps (min ps.length 6)) (txl ps (min ps.length 6)).length) (rmX (rfL (es.map trm) (txl ps (min ps.length 6)) (txl ps (min ps.length 6)).length) kn (lb.extract 0 (min lb.size 20)) (rfN (es.map trm) (txl ps (min ps.length 6)) (txl ps (min ps.length 6)).length))))) ?_
     refine zwv (iN .i64 0) ?_
     refine wl_make (c := #[.slice none 0 0]) h88 27 ?_
     intro q89 w90 (h91 : HA (zb w [] tb es1) ((q89, 27, #[.slice none 0 0]) :: (q16, 40, #[.int .i64 z, .string lb, .slice po ps.length pc]) :: (q11, 27, #[.slice ro (es.map trm).length rc]) :: (q1, 27, #[.slice none 0 0]) :: ((N2 ++ (Lt ++ RL)) ++ ((tb.q, 61, tcell tb (nms es1) (.slice tp81 es1.length tc82)) :: (Lr83 ++ PB es1)))) w90)
     refine wl_fill (c' := #[.slice ro2 (es1.map trm).length rc2]) h91 0 rfl rfl ?_
     intro w92 (h93 : HA (zb w [] tb es1) ((q89, 27, #[.slice ro2 (es1.map trm).length rc2]) :: (q16, 40, #[.int .i64 z, .string lb, .slice po ps.length pc]) :: (q11, 27, #[.slice ro (es.map trm).length rc]) :: (q1, 27, #[.slice none 0 0]) :: ((N2 ++ (Lt ++ RL)) ++ ((tb.q, 61, tcell tb (nms es1) (.slice tp81 es1.length tc82)) :: (Lr83 ++ PB es1)))) w92)
     refine zwv (.string (txt (putN (rfL (es.map trm) (txl ps (min ps.length 6)) (txl ps (min ps.length 6)).length) (rmX (rfL (es.map trm) (txl ps (min ps.length 6)) (txl ps (min ps.length 6)).length) kn (lb.extract 0 (min lb.size 20)) (rfN (es.map trm) (txl ps (min ps.length 6)) (txl ps (min ps.length 6)).length))))) ?_
     refine zwv (iN .i64 0) ?_
     refine znt ?_
     refine zsr ?_
     refine wl_load h93 0 rfl Tryz.underlying27 rfl ?_
     refine wl_fill (c' := #[.slice ro2 (es1.map trm).length rc2]) h93 2 rfl rfl ?_
     intro w94 (h95 : HA (zb w [] tb es1) ((q89, 27, #[.slice ro2 (es1.map trm).length rc2]) :: (q16, 40, #[.int .i64 z, .string lb, .slice po ps.length pc]) :: (q11, 27, #[.slice ro2 (es1.map trm).length rc2]) :: (q1, 27, #[.slice none 0 0]) :: ((N2 ++ (Lt ++ RL)) ++ ((tb.q, 61, tcell tb (nms es1) (.slice tp81 es1.length tc82)) :: (Lr83 ++ PB es1)))) w94)
     refine znt ?_
     refine zsr ?_
     refine zwv (.string (txt x1)) ?_
     refine zwv (.string (txt (putN (rfL (es.map trm) (txl ps (min ps.length 6)) (txl ps (min ps.length 6)).length) (rmX (rfL (es.map trm) (txl ps (min ps.length 6)) (txl ps (min ps.length 6)).length) kn (lb.extract 0 (min lb.size 20)) (rfN (es.map trm) (txl ps (min ps.length 6)) (txl ps (min ps.length 6)).length))))) ?_
     refine zwu (run_nes (s := txt x1) (t := txt (putN (rfL (es.map trm) (txl ps (min ps.length 6)) (txl ps (min ps.length 6)).length) (rmX (rfL (es.map trm) (txl ps (min ps.length 6)) (txl ps (min ps.length 6)).length) kn (lb.extract 0 (min lb.size 20)) (rfN (es.map trm) (txl ps (min ps.length 6)) (txl ps (min ps.length 6)).length)))) false (decide_eq_true (congrArg txt hs2.symm))) ?_
     refine zwv (.bool false) ?_
     refine zwv (iN .i64 0) ?_
     refine zwv (iN .i64 0) ?_
     refine zwv (.bool false) ?_
     refine zwv (.bool false) ?_
     refine znt ?_
     refine zcf ?_
     refine wp_skip ?_
     refine block_normal ?_
     refine then_at rfl ?_
     refine wp_seq ?_
     refine zrs ⟨(.slice (some pa) al.length c :: un :: u14 2 :: pt q1 :: u14 4 :: pt tb.q :: pt q11 :: iN .i64 i :: pt q16 :: .slice o9 (txl ps (min ps.length 6)).length c9 :: .string (txw ps (min ps.length 6)) :: u14 11 :: u14 12 :: u14 13 :: u14 14 :: u14 15 :: u14 16 :: iN .i64 kn :: .string (lb.extract 0 (min lb.size 20)) :: .string (txt x1) :: iN .i64 0 :: pt q89 :: .string (txt (putN (rfL (es.map trm) (txl ps (min ps.length 6)) (txl ps (min ps.length 6)).length) (rmX (rfL (es.map trm) (txl ps (min ps.length 6)) (txl ps (min ps.length 6)).length) kn (lb.extract 0 (min lb.size 20)) (rfN (es.map trm) (txl ps (min ps.length 6)) (txl ps (min ps.length 6)).length)))) :: iN .i64 0 :: pt tb.q :: pt tb.q :: .bool false :: un :: iN .i64 i :: .slice (some pa) al.length c :: iN .i64 al.length :: .bool true :: .bool true :: iN .i64 i :: .bool true :: .bool true :: u14 36 :: u14 37 :: .slice (some pa) al.length c :: iN .i64 i :: .pointer (some (pa.add (i * 3))) :: .agg #[.int .i64 z, .string lb, .slice po ps.length pc] :: .tuple #[.slice o9 (txl ps (min ps.length 6)).length c9, .string (txw ps (min ps.length 6))] :: .pointer (some ⟨q16, 2, none⟩) :: .slice po ps.length pc :: .tuple #[.slice o9 (txl ps (min ps.length 6)).length c9, .string (txw ps (min ps.length 6))] :: .slice o9 (txl ps (min ps.length 6)).length c9 :: .string (txw ps (min ps.length 6)) :: pt q16 :: .int .i64 z :: pt q16 :: .int .i64 z :: iN .i64 kn :: .pointer (some ⟨q16, 1, none⟩) :: .string lb :: .pointer (some ⟨q16, 1, none⟩) :: .string lb :: iN .i64 lb.size :: iN .i64 (min lb.size 20) :: .string (lb.extract 0 (min lb.size 20)) :: .tuple #[.string (txt x1), iN .i64 0] :: pt tb.q :: iN .i64 kn :: .string (lb.extract 0 (min lb.size 20)) :: .slice o9 (txl ps (min ps.length 6)).length c9 :: .tuple #[.string (txt x1), iN .i64 0] :: .string (txt x1) :: iN .i64 0 :: .tuple #[.agg #[.slice ro2 (es1.map trm).length rc2], .string (txt (putN (rfL (es.map trm) (txl ps (min ps.length 6)) (txl ps (min ps.length 6)).length) (rmX (rfL (es.map trm) (txl ps (min ps.length 6)) (txl ps (min ps.length 6)).length) kn (lb.extract 0 (min lb.size 20)) (rfN (es.map trm) (txl ps (min ps.length 6)) (txl ps (min ps.length 6)).length)))), iN .i64 0] :: .agg (#[.slice ro (es.map trm).length rc]) :: iN .i64 kn :: .string (lb.extract 0 (min lb.size 20)) :: .slice o9 (txl ps (min ps.length 6)).length c9 :: .tuple #[.agg #[.slice ro2 (es1.map trm).length rc2], .string (txt (putN (rfL (es.map trm) (txl ps (min ps.length 6)) (txl ps (min ps.length 6)).length) (rmX (rfL (es.map trm) (txl ps (min ps.length 6)) (txl ps (min ps.length 6)).length) kn (lb.extract 0 (min lb.size 20)) (rfN (es.map trm) (txl ps (min ps.length 6)) (txl ps (min ps.length 6)).length)))), iN .i64 0] :: .agg #[.slice ro2 (es1.map trm).length rc2] :: .string (txt (putN (rfL (es.map trm) (txl ps (min ps.length 6)) (txl ps (min ps.length 6)).length) (rmX (rfL (es.map trm) (txl ps (min ps.length 6)) (txl ps (min ps.length 6)).length) kn (lb.extract 0 (min lb.size 20)) (rfN (es.map trm) (txl ps (min ps.length 6)) (txl ps (min ps.length 6)).length)))) :: iN .i64 0 :: .agg (#[.slice ro2 (es1.map trm).length rc2]) :: .string (txt x1) :: .string (txt (putN (rfL (es.map trm) (txl ps (min ps.length 6)) (txl ps (min ps.length 6)).length) (rmX (rfL (es.map trm) (txl ps (min ps.length 6)) (txl ps (min ps.length 6)).length) kn (lb.extract 0 (min lb.size 20)) (rfN (es.map trm) (txl ps (min ps.length 6)) (txl ps (min ps.length 6)).length)))) :: .bool false :: .bool false :: iN .i64 0 :: iN .i64 0 :: .bool false :: .bool false :: u14 86 :: u14 87 :: .bool false :: .bool false :: u14 90 :: u14 91 :: u14 92 :: u14 93 :: u14 94 :: u14 95 :: u14 96 :: u14 97 :: u14 98 :: u14 99 :: u14 100 :: u14 101 :: u14 102 :: .bool false :: .bool false :: u14 105 :: u14 106 :: u14 107 :: u14 108 :: u14 109 :: u14 110 :: u14 111 :: u14 112 :: u14 113 :: u14 114 :: u14 115 :: u14 116 :: u14 117 :: u14 118 :: u14 119 :: pt tb.q :: iN .i64 es1.length :: pt q11 :: .slice ro2 (es1.map trm).length rc2 :: iN .i64 ((es1.map trm).length) :: .bool false :: u14 126 :: u14 127 :: List.replicate 2 un).toArray, []⟩ (HA (zb w [] tb es1) ((q89, 27, #[.slice ro2 (es1.map trm).length rc2]) :: (q16, 40, #[.int .i64 z, .string lb, .slice po ps.length pc]) :: (q11, 27, #[.slice ro2 (es1.map trm).length rc2]) :: (q1, 27, #[.slice none 0 0]) :: ((N2 ++ (Lt ++ RL)) ++ ((tb.q, 61, tcell tb (nms es1) (.slice tp81 es1.length tc82)) :: (Lr83 ++ PB es1))))) h95.drew ?_ ?_
     ·refine zsp (.pointer (some ⟨tb.q, 0, none⟩)) ?_
      refine zsc enter16 HA.keep (fun w' h' => Len_any (t := tb) (n := nms es1) (p := tp81) (c := tc82) (h'.blk (tb.q, 61, tcell tb (nms es1) (.slice tp81 es1.length tc82)) (by simp))) ?_
      refine zsp (.pointer (some ⟨q11, 0, none⟩)) ?_
      refine zst (v := .slice ro2 (es1.map trm).length rc2) (fun w' h' => run_load1 Tryz.isAgg25 (((h'.get 2 rfl).cell 0).trans rfl)) ?_
      refine zsp (iN .i64 ((es1.map trm).length)) ?_
      refine zst (fun _ _ => (run_nei (k := .i64) (a := es1.length) (b := (es1.map trm).length) false (by simp))) ?_
      exact AllSure.nil
     intro w96 h97
     refine then_at rfl ?_
     refine zcf ?_
     refine wp_skip ?_
     refine block_normal ?_
     refine then_at rfl ?_
     refine wl_region ?_
     refine zwv (iN .i64 i) ?_
     refine zwu (run_add (k := .i64) (a := i) (b := 1) (by simp only [top]; omega)) ?_
     refine zwv (iN .i64 (i + 1)) ?_
     refine wl_nil ?_
     have h98 := HA.sub h97 (List.Sublist.cons _ (List.Sublist.cons _ (List.Sublist.cons_cons _ (List.Sublist.cons_cons _ (List.Sublist.refl _)))))
     exact then_I (zex (⟨es1, tp81, tc82, Lr83, ro2, rc2, (N2 ++ (Lt ++ RL)), hI1, by omega, hR84, hr2, h98⟩))
 ·rintro _ w99 ⟨u14, rfl, ⟨es, tp, tc, Lr, ro, rc, RL, hI, hle, hR, hr, hA⟩⟩
  have hle2 : es.length ≤ 280 := by omega
  refine wp_seq ?_
  refine zsr ?_
  refine zwv (iN .i64 al.length) ?_
  refine zwv (.slice o al.length c) ?_
  refine zwv (iN .i64 al.length) ?_
  refine zwu (run_lss (k := .i64) (a := al.length) (b := al.length) false (decide_eq_false (by omega))) ?_
  refine zwv (.bool false) ?_
  refine wl_skip ?_
  refine wl_skip ?_
  refine zwv (.bool false) ?_
  refine znt ?_
  refine zcf ?_
  refine wp_exit ?_
  repeat first | refine then_exit ?_ | refine block_exit ?_ | refine block_exit_ne (by decide) ?_
  refine then_at rfl ?_
  refine wp_seq ?_
  refine wp_region_wk (HA (zb w [] tb es) ((q11, 27, #[.slice ro (es.map trm).length rc]) :: (RL ++ ((tb.q, 61, tcell tb (nms es) (.slice tp es.length tc)) :: (Lr ++ PB es))))) (fun A w' => A = ⟨(.slice o al.length c :: un :: pt tb.q :: pt q1 :: .bool true :: pt tb.q :: pt q11 :: iN .i64 al.length :: u14 8 :: u14 9 :: u14 10 :: u14 11 :: u14 12 :: u14 13 :: u14 14 :: u14 15 :: u14 16 :: u14 17 :: u14 18 :: u14 19 :: u14 20 :: u14 21 :: u14 22 :: u14 23 :: pt tb.q :: pt tb.q :: .bool false :: un :: iN .i64 al.length :: .slice o al.length c :: iN .i64 al.length :: .bool false :: .bool false :: un :: un :: .bool false :: u14 36 :: u14 37 :: u14 38 :: u14 39 :: u14 40 :: u14 41 :: u14 42 :: u14 43 :: u14 44 :: u14 45 :: u14 46 :: u14 47 :: u14 48 :: u14 49 :: u14 50 :: u14 51 :: u14 52 :: u14 53 :: u14 54 :: u14 55 :: u14 56 :: u14 57 :: u14 58 :: u14 59 :: u14 60 :: u14 61 :: u14 62 :: u14 63 :: u14 64 :: u14 65 :: u14 66 :: u14 67 :: u14 68 :: u14 69 :: u14 70 :: u14 71 :: u14 72 :: u14 73 :: u14 74 :: u14 75 :: u14 76 :: u14 77 :: u14 78 :: u14 79 :: u14 80 :: u14 81 :: u14 82 :: u14 83 :: u14 84 :: u14 85 :: u14 86 :: u14 87 :: u14 88 :: u14 89 :: u14 90 :: u14 91 :: u14 92 :: u14 93 :: u14 94 :: u14 95 :: u14 96 :: u14 97 :: u14 98 :: u14 99 :: u14 100 :: u14 101 :: u14 102 :: u14 103 :: u14 104 :: u14 105 :: u14 106 :: u14 107 :: u14 108 :: u14 109 :: u14 110 :: u14 111 :: u14 112 :: u14 113 :: u14 114 :: u14 115 :: u14 116 :: u14 117 :: u14 118 :: u14 119 :: u14 120 :: u14 121 :: u14 122 :: u14 123 :: u14 124 :: u14 125 :: u14 126 :: u14 127 :: pt tb.q :: .agg (#[.slice ro (es.map trm).length rc]) :: List.replicate 0 un).toArray, []⟩ ∧ HA (zb w [] tb es) ((q11, 27, #[.slice ro (es.map trm).length rc]) :: (q1, 27, #[.slice ro (es.map trm).length rc]) :: (RL ++ ((tb.q, 61, tcell tb (nms es) (.slice tp es.length tc)) :: (Lr ++ PB es)))) w') 5 (by kernel_rfl) (by kernel_rfl) (by kernel_rfl) (by kernel_rfl) (by kernel_rfl) (HA.sub hA.drew (List.Sublist.cons_cons _ (List.Sublist.cons _ (List.Sublist.refl _)))) ?_ ?_
  ·have h100 := hA.drew
   refine wk_val (i := 0) (.pointer (some ⟨tb.q, 0, none⟩)) rfl rfl (by kernel_rfl) (by kernel_rfl) (fun _ _ => (by kernel_rfl)) ?_
   refine wk_val (i := 1) (.agg (#[.slice ro (es.map trm).length rc])) rfl rfl (by kernel_rfl) (by kernel_rfl) (fun w' h' => run_load_blk (h'.get 0 rfl) Tryz.underlying27 rfl) ?_
   refine wk_val (i := 2) (.pointer (some ⟨tb.q, 0, none⟩)) rfl rfl (by kernel_rfl) (by kernel_rfl) (fun _ _ => (by kernel_rfl)) ?_
   refine wk_one 3 (by kernel_rfl) ?_
   refine ef_fill (c' := #[.slice ro (es.map trm).length rc]) rfl (by kernel_rfl) ((q11, 27, #[.slice ro (es.map trm).length rc]) :: (q1, 27, #[.slice ro (es.map trm).length rc]) :: (RL ++ ((tb.q, 61, tcell tb (nms es) (.slice tp es.length tc)) :: (Lr ++ PB es)))) h100 1 rfl rfl (by kernel_rfl) (by kernel_rfl) rfl (by kernel_rfl) (by kernel_rfl) (fun w' h' => (HA.sub h' (List.Sublist.cons_cons _ (List.Sublist.cons _ (List.Sublist.refl _))))) ?_
   intro w102 (h101 : HA (zb w [] tb es) ((q11, 27, #[.slice ro (es.map trm).length rc]) :: (q1, 27, #[.slice ro (es.map trm).length rc]) :: (RL ++ ((tb.q, 61, tcell tb (nms es) (.slice tp es.length tc)) :: (Lr ++ PB es)))) w102)
   refine wk_val (i := 4) (.bool true) rfl rfl (by kernel_rfl) (by kernel_rfl) (fun _ _ => (by kernel_rfl)) ?_
   refine wk_end fun w103 hbx hsx => ?_
   have h104 := HA.keep _ _ h101 hbx
   exact ⟨by kernel_rfl, h104⟩
  ·rintro _ w105 ⟨rfl, h106⟩
   refine then_at rfl ?_
   refine wp_ret ?_
   repeat first | refine then_ret ?_ | refine block_ret ?_
   exact bodyPost_ret (v := .tuple #[pt tb.q, .agg #[.slice ro (es.map trm).length rc], .bool true]) (res_tmp_cell_tmp (p := 3) (r := 2) (r2 := 4) (by kernel_rfl) (by kernel_rfl) (by kernel_rfl) (by kernel_rfl) (h106.get 1 rfl) Tryz.underlying27 rfl (by kernel_rfl)) rfl ⟨tb, es, _, RL, rfl, TH.sub (TH.cl ((q11, 27, #[.slice ro (es.map trm).length rc]) :: (q1, 27, #[.slice ro (es.map trm).length rc]) :: RL) hR h106) (List.Sublist.cons _ (List.Sublist.cons _ (List.Sublist.refl _))), hr, hI, by omega⟩
theorem played_b {w : World} (al : List Ac) (o : Option Addr) (c : Nat) (hp : ActA w o al) (hln : al.length ≤ 9223372036854775807) (hm : 40 < al.length) :
  Calls Tryz.prog 4 #[.slice o al.length c] w fun e w' => ∃ tb es rv RL, e = .returned (.tuple #[pt tb.q, .agg #[rv], .bool true]) ∧ TH w [] tb es RL w' ∧ RTL rv (es.map trm) RL ∧ Iv es ∧ es.length ≤ 280 := by
 have H0 := HA.start w
 go_enter Tryz.func4, Tryz.ntmps4
 refine zsr ?_
 refine zwv (.pointer none) ?_
 refine wl_make (c := #[.slice none 0 0]) H0 27 ?_
 intro q1 w2 (h3 : HA (bs w) [(q1, 27, #[.slice none 0 0])] w2)
 refine zwv (.bool false) ?_
 refine znt ?_
 refine zsr ?_
 refine wl_callx enter9 #[] (New_ok (w0 := w) (M := []) (L := [(q1, 27, #[.slice none 0 0])]) h3) ?_
 rintro _ w4 ⟨tb, rfl, hN0⟩
 refine ⟨_, rfl, ?_⟩
 obtain ⟨tp5, tc6, Lr7, hR8, h9⟩ := TH.op hN0
 have h10 : HA (zb w [] tb []) ((q1, 27, #[.slice none 0 0]) :: ([] ++ ((tb.q, 61, tcell tb (nms []) (.slice tp5 [].length tc6)) :: (Lr7 ++ PB [])))) w4 := h9
 refine zwv (.pointer (some ⟨tb.q, 0, none⟩)) ?_
 refine znt ?_
 refine zsr ?_
 refine wl_make (c := #[.slice none 0 0]) h10 27 ?_
 intro q11 w12 (h13 : HA (zb w [] tb []) ((q11, 27, #[.slice none 0 0]) :: (q1, 27, #[.slice none 0 0]) :: ([] ++ ((tb.q, 61, tcell tb (nms []) (.slice tp5 [].length tc6)) :: (Lr7 ++ PB [])))) w12)
 refine znt ?_
 refine wp_seq ?_
 refine zsr ?_
 refine zwv (.pointer (some ⟨tb.q, 0, none⟩)) ?_
 refine zwv (.bool false) ?_
 refine znt ?_
 refine zcf ?_
 refine wp_skip ?_
 refine then_at rfl ?_
 refine wp_seq ?_
 refine zsr ?_
 refine zwv (iN .i64 0) ?_
 refine znt ?_
 refine wp_block ?_
 refine wp_count (fun i A w' => ∃ u14 : Nat → Value, A = ⟨(.slice o al.length c :: un :: u14 2 :: pt q1 :: u14 4 :: pt tb.q :: pt q11 :: iN .i64 i :: u14 8 :: u14 9 :: u14 10 :: u14 11 :: u14 12 :: u14 13 :: u14 14 :: u14 15 :: u14 16 :: u14 17 :: u14 18 :: u14 19 :: u14 20 :: u14 21 :: u14 22 :: u14 23 :: pt tb.q :: pt tb.q :: .bool false :: un :: u14 28 :: u14 29 :: u14 30 :: u14 31 :: u14 32 :: u14 33 :: u14 34 :: u14 35 :: u14 36 :: u14 37 :: u14 38 :: u14 39 :: u14 40 :: u14 41 :: u14 42 :: u14 43 :: u14 44 :: u14 45 :: u14 46 :: u14 47 :: u14 48 :: u14 49 :: u14 50 :: u14 51 :: u14 52 :: u14 53 :: u14 54 :: u14 55 :: u14 56 :: u14 57 :: u14 58 :: u14 59 :: u14 60 :: u14 61 :: u14 62 :: u14 63 :: u14 64 :: u14 65 :: u14 66 :: u14 67 :: u14 68 :: u14 69 :: u14 70 :: u14 71 :: u14 72 :: u14 73 :: u14 74 :: u14 75 :: u14 76 :: u14 77 :: u14 78 :: u14 79 :: u14 80 :: u14 81 :: u14 82 :: u14 83 :: u14 84 :: u14 85 :: u14 86 :: u14 87 :: u14 88 :: u14 89 :: u14 90 :: u14 91 :: u14 92 :: u14 93 :: u14 94 :: u14 95 :: u14 96 :: u14 97 :: u14 98 :: u14 99 :: u14 100 :: u14 101 :: u14 102 :: u14 103 :: u14 104 :: u14 105 :: u14 106 :: u14 107 :: u14 108 :: u14 109 :: u14 110 :: u14 111 :: u14 112 :: u14 113 :: u14 114 :: u14 115 :: u14 116 :: u14 117 :: u14 118 :: u14 119 :: u14 120 :: u14 121 :: u14 122 :: u14 123 :: u14 124 :: u14 125 :: u14 126 :: u14 127 :: List.replicate 2 un).toArray, []⟩ ∧ ∃ es tp tc Lr ro rc RL, Iv es ∧ es.length ≤ 7 * i ∧ Row 67 1 (.slice tp es.length tc) es.length (es.map ev) Lr ∧ RTL (.slice ro (es.map trm).length rc) (es.map trm) RL ∧ HA (zb w [] tb es) ((q11, 27, #[.slice ro (es.map trm).length rc]) :: (q1, 27, #[.slice none 0 0]) :: (RL ++ ((tb.q, 61, tcell tb (nms es) (.slice tp es.length tc)) :: (Lr ++ PB es)))) w') 40 ?_ ?_ ?_
 ·exact zex (⟨[], tp5, tc6, Lr7, none, 0, [], Iv.nil, by simp, hR8, .inl ⟨rfl, rfl⟩, h13⟩)
 ·rintro i hk _ w15 ⟨u14, rfl, ⟨es, tp, tc, Lr, ro, rc, RL, hI, hle, hR, hr, hA⟩⟩
  obtain ⟨pa, rfl, d1, d2, d3, hpc, hpl⟩ := hp i (by omega)
  generalize al.getD i ac0 = ac at d1 d2 d3 hpc hpl
  obtain ⟨z, lb, po, pc, ps⟩ := ac
  simp only at d1 d2 d3 hpc hpl
  have hca : ∀ j v, (#[Value.int .i64 z, Value.string lb, Value.slice po ps.length pc] : Array Value)[j]? = some v → w.cell? ((pa.add (i * 3)).add j) = some v := by
   intro j v hv
   rw [Addr.add_addr]
   match j, hv with
   | 0, hv => cases hv; exact d1
   | 1, hv => cases hv; exact d2
   | 2, hv => cases hv; exact d3
  have hle2 : es.length ≤ 280 := by omega
  refine wp_seq ?_
  refine zsr ?_
  refine zwv (iN .i64 i) ?_
  refine zwv (.slice (some pa) al.length c) ?_
  refine zwv (iN .i64 al.length) ?_
  refine zwu (run_lss (k := .i64) (a := i) (b := al.length) true (decide_eq_true (by omega))) ?_
  refine zwv (.bool true) ?_
  refine zwv (iN .i64 i) ?_
  refine zwu (run_lss (k := .i64) (a := i) (b := 40) true (decide_eq_true (by omega))) ?_
  refine zwv (.bool true) ?_
  refine znt ?_
  refine zct ?_
  refine wp_skip ?_
  refine then_at rfl ?_
  refine wp_seq ?_
  refine wp_block ?_
  refine zsr ?_
  refine zwv (.slice (some pa) al.length c) ?_
  refine zwv (iN .i64 i) ?_
  refine zwu (v := .pointer (some (pa.add (i * 3)))) (run_addrg (a := pa) (n := al.length) (m := c) (i := i) (sz := 3) Tryz.underlying22 Tryz.sizeOf40 (by kernel_rfl) (by kernel_rfl) (by omega)) ?_
  refine zwu (v := .agg #[.int .i64 z, .string lb, .slice po ps.length pc]) (run_loadg (a := (pa.add (i * 3))) (c := #[.int .i64 z, .string lb, .slice po ps.length pc]) (by kernel_rfl) (fun j v hv => got (w := w) hA.old.old (hca j v hv)) Tryz.underlying40 rfl (by kernel_rfl)) ?_
  refine wl_make (c := #[iN .i64 0, .string ({ data := #[] }), .slice none 0 0]) hA 40 ?_
  intro q16 w17 (h18 : HA (zb w [] tb es) ((q16, 40, #[iN .i64 0, .string ({ data := #[] }), .slice none 0 0]) :: (q11, 27, #[.slice ro (es.map trm).length rc]) :: (q1, 27, #[.slice none 0 0]) :: (RL ++ ((tb.q, 61, tcell tb (nms es) (.slice tp es.length tc)) :: (Lr ++ PB es)))) w17)
  refine wl_fill (c' := #[.int .i64 z, .string lb, .slice po ps.length pc]) h18 0 rfl rfl ?_
  intro w19 (h20 : HA (zb w [] tb es) ((q16, 40, #[.int .i64 z, .string lb, .slice po ps.length pc]) :: (q11, 27, #[.slice ro (es.map trm).length rc]) :: (q1, 27, #[.slice none 0 0]) :: (RL ++ ((tb.q, 61, tcell tb (nms es) (.slice tp es.length tc)) :: (Lr ++ PB es)))) w19)
  refine znt ?_
  refine zsr ?_
  refine zwv (.pointer (some ⟨q16, 2, none⟩)) ?_
  refine zwu (v := .slice po ps.length pc) (run_load1 Tryz.isAgg23 (((h20.get 0 rfl).cell 2).trans rfl)) ?_
  refine wl_callx enter5 #[.slice po ps.length pc] (texts_any ps po pc (hpc.keep h20.old.old) hpl) ?_
  rintro _ w21 ⟨pv, Lt, rfl, hRt, hNt, hbt⟩
  refine ⟨_, rfl, ?_⟩
  have h22 : HA (zb w [] tb es) ((q16, 40, #[.int .i64 z, .string lb, .slice po ps.length pc]) :: (q11, 27, #[.slice ro (es.map trm).length rc]) :: (q1, 27, #[.slice none 0 0]) :: ((Lt ++ RL) ++ ((tb.q, 61, tcell tb (nms es) (.slice tp es.length tc)) :: (Lr ++ PB es)))) w21 := HA.perm (HA.addL h20 hbt hNt) (perm_ref [(q16, 40, #[.int .i64 z, .string lb, .slice po ps.length pc]), (q11, 27, #[.slice ro (es.map trm).length rc]), (q1, 27, #[.slice none 0 0])] RL ((tb.q, 61, tcell tb (nms es) (.slice tp es.length tc)) :: (Lr ++ PB es)) Lt)
  obtain ⟨o9, c9, rfl, hpre⟩ := Row.pre hRt
  have hrt := RTL.mono hr (fun x hx => List.mem_append_right Lt hx)
  refine zwv (.tuple #[.slice o9 (txl ps (min ps.length 6)).length c9, .string (txw ps (min ps.length 6))]) ?_
  refine zwv (.slice o9 (txl ps (min ps.length 6)).length c9) ?_
  refine zwv (.string (txw ps (min ps.length 6))) ?_
  refine zwv (.slice o9 (txl ps (min ps.length 6)).length c9) ?_
  refine zwv (.string (txw ps (min ps.length 6))) ?_
  refine znt ?_
  refine wp_seq ?_
  refine zsr ?_
  refine zwv (.pointer (some ⟨q16, 0, none⟩)) ?_
  refine zwu (v := .int .i64 z) (run_load1 Tryz.isAgg3 (((h22.get 0 rfl).cell 0).trans rfl)) ?_
  refine znt ?_
  refine wp_block ?_
  refine wp_seq ?_
  by_cases hz0 : z = 0
  ·refine wl_region ?_
   refine zwu (v := .bool true) (run_eqz (k := .i64) (a := z) (b := 0) true (decide_eq_true hz0)) ?_
   refine zwv (.bool true) ?_
   refine znt ?_
   refine zct ?_
   refine zsr ?_
   refine zwv (.pointer (some ⟨tb.q, 0, none⟩)) ?_
   refine wl_callx enter10 #[.pointer (some ⟨tb.q, 0, none⟩)] (Fresh_any (TH.cl ((q16, 40, #[.int .i64 z, .string lb, .slice po ps.length pc]) :: (q11, 27, #[.slice ro (es.map trm).length rc]) :: (q1, 27, #[.slice none 0 0]) :: (Lt ++ RL)) hR h22) (by omega)) ?_
   rintro _ w23 ⟨rfl, hT1⟩
   refine ⟨_, rfl, ?_⟩
   obtain ⟨tp24, tc25, Lr26, hR27, h28⟩ := TH.op hT1
   have h29 : HA (zb w [] tb (es ++ [Ent.nm (nms es)])) ((q16, 40, #[.int .i64 z, .string lb, .slice po ps.length pc]) :: (q11, 27, #[.slice ro (es.map trm).length rc]) :: (q1, 27, #[.slice none 0 0]) :: ((Lt ++ RL) ++ ((tb.q, 61, tcell tb (nms (es ++ [Ent.nm (nms es)])) (.slice tp24 (es ++ [Ent.nm (nms es)]).length tc25)) :: (Lr26 ++ PB (es ++ [Ent.nm (nms es)]))))) w23 := h28
   have hI1 := hI.nm (by omega)
   have hl1 : (es ++ [Ent.nm (nms es)]).length ≤ es.length + 7 := by simp
   refine zwv (.string (txt es.length)) ?_
   refine znt ?_
   refine zsr ?_
   refine wl_load h29 1 rfl Tryz.underlying27 rfl ?_
   refine wl_callx enter11 #[.agg (#[.slice ro (es.map trm).length rc])] (rfresh_any hrt (Stand.ofHA h29 (sub_mid [(q16, 40, #[.int .i64 z, .string lb, .slice po ps.length pc]), (q11, 27, #[.slice ro (es.map trm).length rc]), (q1, 27, #[.slice none 0 0])] (Lt ++ RL) ((tb.q, 61, tcell tb (nms (es ++ [Ent.nm (nms es)])) (.slice tp24 (es ++ [Ent.nm (nms es)]).length tc25)) :: (Lr26 ++ PB (es ++ [Ent.nm (nms es)]))))) (iv_ps hI).1 (by rw [List.length_map]; omega)) ?_
   rintro _ w30 ⟨rv, N2, rfl, hr2, hN2, hb2⟩
   refine ⟨_, rfl, ?_⟩
   rw [(fr_same hI).1] at hr2
   have h31 : HA (zb w [] tb (es ++ [Ent.nm (nms es)])) ((q16, 40, #[.int .i64 z, .string lb, .slice po ps.length pc]) :: (q11, 27, #[.slice ro (es.map trm).length rc]) :: (q1, 27, #[.slice none 0 0]) :: ((N2 ++ (Lt ++ RL)) ++ ((tb.q, 61, tcell tb (nms (es ++ [Ent.nm (nms es)])) (.slice tp24 (es ++ [Ent.nm (nms es)]).length tc25)) :: (Lr26 ++ PB (es ++ [Ent.nm (nms es)]))))) w30 := HA.perm (HA.addL h29 hb2 hN2) (perm_ref [(q16, 40, #[.int .i64 z, .string lb, .slice po ps.length pc]), (q11, 27, #[.slice ro (es.map trm).length rc]), (q1, 27, #[.slice none 0 0])] (Lt ++ RL) ((tb.q, 61, tcell tb (nms (es ++ [Ent.nm (nms es)])) (.slice tp24 (es ++ [Ent.nm (nms es)]).length tc25)) :: (Lr26 ++ PB (es ++ [Ent.nm (nms es)]))) N2)
   obtain ⟨ro2, rc2, rfl⟩ := hr2.form
   refine zwv (.tuple #[.agg #[.slice ro2 ((es ++ [Ent.nm (nms es)]).map trm).length rc2], .string (txt (putN (es.map trm) (frX (es.map trm))))]) ?_
   refine zwv (.agg #[.slice ro2 ((es ++ [Ent.nm (nms es)]).map trm).length rc2]) ?_
   refine zwv (.string (txt (putN (es.map trm) (frX (es.map trm))))) ?_
   refine wl_make (c := #[.slice none 0 0]) h31 27 ?_
   intro q32 w33 (h34 : HA (zb w [] tb (es ++ [Ent.nm (nms es)])) ((q32, 27, #[.slice none 0 0]) :: (q16, 40, #[.int .i64 z, .string lb, .slice po ps.length pc]) :: (q11, 27, #[.slice ro (es.map trm).length rc]) :: (q1, 27, #[.slice none 0 0]) :: ((N2 ++ (Lt ++ RL)) ++ ((tb.q, 61, tcell tb (nms (es ++ [Ent.nm (nms es)])) (.slice tp24 (es ++ [Ent.nm (nms es)]).length tc25)) :: (Lr26 ++ PB (es ++ [Ent.nm (nms es)]))))) w33)
   refine wl_fill (c' := #[.slice ro2 ((es ++ [Ent.nm (nms es)]).map trm).length rc2]) h34 0 rfl rfl ?_
   intro w35 (h36 : HA (zb w [] tb (es ++ [Ent.nm (nms es)])) ((q32, 27, #[.slice ro2 ((es ++ [Ent.nm (nms es)]).map trm).length rc2]) :: (q16, 40, #[.int .i64 z, .string lb, .slice po ps.length pc]) :: (q11, 27, #[.slice ro (es.map trm).length rc]) :: (q1, 27, #[.slice none 0 0]) :: ((N2 ++ (Lt ++ RL)) ++ ((tb.q, 61, tcell tb (nms (es ++ [Ent.nm (nms es)])) (.slice tp24 (es ++ [Ent.nm (nms es)]).length tc25)) :: (Lr26 ++ PB (es ++ [Ent.nm (nms es)]))))) w35)
   refine zwv (.string (txt (putN (es.map trm) (frX (es.map trm))))) ?_
   refine znt ?_
   refine zsr ?_
   refine wl_load h36 0 rfl Tryz.underlying27 rfl ?_
   refine wl_fill (c' := #[.slice ro2 ((es ++ [Ent.nm (nms es)]).map trm).length rc2]) h36 2 rfl rfl ?_
   intro w37 (h38 : HA (zb w [] tb (es ++ [Ent.nm (nms es)])) ((q32, 27, #[.slice ro2 ((es ++ [Ent.nm (nms es)]).map trm).length rc2]) :: (q16, 40, #[.int .i64 z, .string lb, .slice po ps.length pc]) :: (q11, 27, #[.slice ro2 ((es ++ [Ent.nm (nms es)]).map trm).length rc2]) :: (q1, 27, #[.slice none 0 0]) :: ((N2 ++ (Lt ++ RL)) ++ ((tb.q, 61, tcell tb (nms (es ++ [Ent.nm (nms es)])) (.slice tp24 (es ++ [Ent.nm (nms es)]).length tc25)) :: (Lr26 ++ PB (es ++ [Ent.nm (nms es)]))))) w37)
   refine znt ?_
   refine zsr ?_
   refine zwv (.string (txt es.length)) ?_
   refine zwv (.string (txt (putN (es.map trm) (frX (es.map trm))))) ?_
   refine zwu (run_nes (s := txt es.length) (t := txt (putN (es.map trm) (frX (es.map trm)))) false (decide_eq_true (congrArg txt (fr_same hI).2.symm))) ?_
   refine znt ?_
   refine zcf ?_
   refine wp_skip ?_
   refine block_normal ?_
   refine then_at rfl ?_
   refine wp_seq ?_
   refine zrs ⟨(.slice (some pa) al.length c :: un :: u14 2 :: pt q1 :: u14 4 :: pt tb.q :: pt q11 :: iN .i64 i :: pt q16 :: .slice o9 (txl ps (min ps.length 6)).length c9 :: .string (txw ps (min ps.length 6)) :: .string (txt es.length) :: pt q32 :: .string (txt (putN (es.map trm) (frX (es.map trm)))) :: u14 14 :: u14 15 :: u14 16 :: u14 17 :: u14 18 :: u14 19 :: u14 20 :: u14 21 :: u14 22 :: u14 23 :: pt tb.q :: pt tb.q :: .bool false :: un :: iN .i64 i :: .slice (some pa) al.length c :: iN .i64 al.length :: .bool true :: .bool true :: iN .i64 i :: .bool true :: .bool true :: u14 36 :: u14 37 :: .slice (some pa) al.length c :: iN .i64 i :: .pointer (some (pa.add (i * 3))) :: .agg #[.int .i64 z, .string lb, .slice po ps.length pc] :: .tuple #[.slice o9 (txl ps (min ps.length 6)).length c9, .string (txw ps (min ps.length 6))] :: .pointer (some ⟨q16, 2, none⟩) :: .slice po ps.length pc :: .tuple #[.slice o9 (txl ps (min ps.length 6)).length c9, .string (txw ps (min ps.length 6))] :: .slice o9 (txl ps (min ps.length 6)).length c9 :: .string (txw ps (min ps.length 6)) :: pt q16 :: .int .i64 z :: u14 50 :: u14 51 :: u14 52 :: u14 53 :: u14 54 :: u14 55 :: u14 56 :: u14 57 :: u14 58 :: u14 59 :: u14 60 :: u14 61 :: u14 62 :: u14 63 :: u14 64 :: u14 65 :: u14 66 :: u14 67 :: u14 68 :: u14 69 :: u14 70 :: u14 71 :: u14 72 :: u14 73 :: u14 74 :: u14 75 :: u14 76 :: u14 77 :: u14 78 :: u14 79 :: u14 80 :: u14 81 :: u14 82 :: u14 83 :: u14 84 :: u14 85 :: u14 86 :: u14 87 :: .bool true :: .bool true :: pt tb.q :: .string (txt es.length) :: .tuple #[.agg #[.slice ro2 ((es ++ [Ent.nm (nms es)]).map trm).length rc2], .string (txt (putN (es.map trm) (frX (es.map trm))))] :: .agg (#[.slice ro (es.map trm).length rc]) :: .tuple #[.agg #[.slice ro2 ((es ++ [Ent.nm (nms es)]).map trm).length rc2], .string (txt (putN (es.map trm) (frX (es.map trm))))] :: .agg #[.slice ro2 ((es ++ [Ent.nm (nms es)]).map trm).length rc2] :: .string (txt (putN (es.map trm) (frX (es.map trm)))) :: .agg (#[.slice ro2 ((es ++ [Ent.nm (nms es)]).map trm).length rc2]) :: .string (txt es.length) :: .string (txt (putN (es.map trm) (frX (es.map trm)))) :: .bool false :: u14 101 :: u14 102 :: u14 103 :: u14 104 :: u14 105 :: u14 106 :: u14 107 :: u14 108 :: u14 109 :: u14 110 :: u14 111 :: u14 112 :: u14 113 :: u14 114 :: u14 115 :: u14 116 :: u14 117 :: u14 118 :: u14 119 :: pt tb.q :: iN .i64 ((es ++ [Ent.nm (nms es)]).length) :: pt q11 :: .slice ro2 ((es ++ [Ent.nm (nms es)]).map trm).length rc2 :: iN .i64 (((es ++ [Ent.nm (nms es)]).map trm).length) :: .bool false :: u14 126 :: u14 127 :: List.replicate 2 un).toArray, []⟩ (HA (zb w [] tb (es ++ [Ent.nm (nms es)])) ((q32, 27, #[.slice ro2 ((es ++ [Ent.nm (nms es)]).map trm).length rc2]) :: (q16, 40, #[.int .i64 z, .string lb, .slice po ps.length pc]) :: (q11, 27, #[.slice ro2 ((es ++ [Ent.nm (nms es)]).map trm).length rc2]) :: (q1, 27, #[.slice none 0 0]) :: ((N2 ++ (Lt ++ RL)) ++ ((tb.q, 61, tcell tb (nms (es ++ [Ent.nm (nms es)])) (.slice tp24 (es ++ [Ent.nm (nms es)]).length tc25)) :: (Lr26 ++ PB (es ++ [Ent.nm (nms es)])))))) h38.drew ?_ ?_
   ·refine zsp (.pointer (some ⟨tb.q, 0, none⟩)) ?_
    refine zsc enter16 HA.keep (fun w' h' => Len_any (t := tb) (n := nms (es ++ [Ent.nm (nms es)])) (p := tp24) (c := tc25) (h'.blk (tb.q, 61, tcell tb (nms (es ++ [Ent.nm (nms es)])) (.slice tp24 (es ++ [Ent.nm (nms es)]).length tc25)) (by simp))) ?_
    refine zsp (.pointer (some ⟨q11, 0, none⟩)) ?_
    refine zst (v := .slice ro2 ((es ++ [Ent.nm (nms es)]).map trm).length rc2) (fun w' h' => run_load1 Tryz.isAgg25 (((h'.get 2 rfl).cell 0).trans rfl)) ?_
    refine zsp (iN .i64 (((es ++ [Ent.nm (nms es)]).map trm).length)) ?_
    refine zst (fun _ _ => (run_nei (k := .i64) (a := (es ++ [Ent.nm (nms es)]).length) (b := ((es ++ [Ent.nm (nms es)]).map trm).length) false (by simp))) ?_
    exact AllSure.nil
   intro w39 h40
   refine then_at rfl ?_
   refine zcf ?_
   refine wp_skip ?_
   refine block_normal ?_
   refine then_at rfl ?_
   refine wl_region ?_
   refine zwv (iN .i64 i) ?_
   refine zwu (run_add (k := .i64) (a := i) (b := 1) (by simp only [top]; omega)) ?_
   refine zwv (iN .i64 (i + 1)) ?_
   refine wl_nil ?_
   have h41 := HA.sub h40 (List.Sublist.cons _ (List.Sublist.cons _ (List.Sublist.cons_cons _ (List.Sublist.cons_cons _ (List.Sublist.refl _)))))
   exact then_I (zex (⟨(es ++ [Ent.nm (nms es)]), tp24, tc25, Lr26, ro2, rc2, (N2 ++ (Lt ++ RL)), hI1, by omega, hR27, hr2, h41⟩))
  ·refine wl_region ?_
   refine zwu (v := .bool false) (run_eqz (k := .i64) (a := z) (b := 0) false (decide_eq_false hz0)) ?_
   refine zwv (.bool false) ?_
   refine znt ?_
   refine zcf ?_
   refine wp_seq ?_
   by_cases hz1 : z = 1
   ·refine wl_region ?_
    refine zwu (v := .bool true) (run_eqz (k := .i64) (a := z) (b := 1) true (decide_eq_true hz1)) ?_
    refine zwv (.bool true) ?_
    refine znt ?_
    refine zct ?_
    refine zsr ?_
    refine zwv (.pointer (some ⟨tb.q, 0, none⟩)) ?_
    refine zwv (.string (txw ps (min ps.length 6))) ?_
    refine wl_callx enter12 #[.pointer (some ⟨tb.q, 0, none⟩), .string (txw ps (min ps.length 6))] (Data_any (TH.cl ((q16, 40, #[.int .i64 z, .string lb, .slice po ps.length pc]) :: (q11, 27, #[.slice ro (es.map trm).length rc]) :: (q1, 27, #[.slice none 0 0]) :: (Lt ++ RL)) hR h22) (by omega) (txw ps (min ps.length 6)) (by have := txw_size ps (min ps.length 6); omega)) ?_
    rintro _ w42 ⟨rfl, hT1⟩
    refine ⟨_, rfl, ?_⟩
    obtain ⟨tp43, tc44, Lr45, hR46, h47⟩ := TH.op hT1
    have h48 : HA (zb w [] tb (partF es (txw ps (min ps.length 6))).1) ((q16, 40, #[.int .i64 z, .string lb, .slice po ps.length pc]) :: (q11, 27, #[.slice ro (es.map trm).length rc]) :: (q1, 27, #[.slice none 0 0]) :: ((Lt ++ RL) ++ ((tb.q, 61, tcell tb (nms (partF es (txw ps (min ps.length 6))).1) (.slice tp43 (partF es (txw ps (min ps.length 6))).1.length tc44)) :: (Lr45 ++ PB (partF es (txw ps (min ps.length 6))).1)))) w42 := h47
    have hI1 := hI.part (txw ps (min ps.length 6)) (by have := txw_size ps (min ps.length 6); omega) (by omega)
    have hl1 : (partF es (txw ps (min ps.length 6))).1.length ≤ es.length + 7 := by have := partF_len es (txw ps (min ps.length 6)); omega
    refine zwv (.string (txt (partF es (txw ps (min ps.length 6))).2)) ?_
    refine znt ?_
    refine zsr ?_
    refine wl_load h48 1 rfl Tryz.underlying27 rfl ?_
    refine zwv (.string (txw ps (min ps.length 6))) ?_
    refine wl_callx enter13 #[.agg (#[.slice ro (es.map trm).length rc]), .string (txw ps (min ps.length 6))] (rdata_any hrt (Stand.ofHA h48 (sub_mid [(q16, 40, #[.int .i64 z, .string lb, .slice po ps.length pc]), (q11, 27, #[.slice ro (es.map trm).length rc]), (q1, 27, #[.slice none 0 0])] (Lt ++ RL) ((tb.q, 61, tcell tb (nms (partF es (txw ps (min ps.length 6))).1) (.slice tp43 (partF es (txw ps (min ps.length 6))).1.length tc44)) :: (Lr45 ++ PB (partF es (txw ps (min ps.length 6))).1)))) (iv_ps hI).1 (by rw [List.length_map]; omega) (txw ps (min ps.length 6))) ?_
    rintro _ w49 ⟨rv, N2, rfl, hr2, hN2, hb2⟩
    refine ⟨_, rfl, ?_⟩
    rw [(rp_same hI (txw ps (min ps.length 6))).1] at hr2
    have h50 : HA (zb w [] tb (partF es (txw ps (min ps.length 6))).1) ((q16, 40, #[.int .i64 z, .string lb, .slice po ps.length pc]) :: (q11, 27, #[.slice ro (es.map trm).length rc]) :: (q1, 27, #[.slice none 0 0]) :: ((N2 ++ (Lt ++ RL)) ++ ((tb.q, 61, tcell tb (nms (partF es (txw ps (min ps.length 6))).1) (.slice tp43 (partF es (txw ps (min ps.length 6))).1.length tc44)) :: (Lr45 ++ PB (partF es (txw ps (min ps.length 6))).1)))) w49 := HA.perm (HA.addL h48 hb2 hN2) (perm_ref [(q16, 40, #[.int .i64 z, .string lb, .slice po ps.length pc]), (q11, 27, #[.slice ro (es.map trm).length rc]), (q1, 27, #[.slice none 0 0])] (Lt ++ RL) ((tb.q, 61, tcell tb (nms (partF es (txw ps (min ps.length 6))).1) (.slice tp43 (partF es (txw ps (min ps.length 6))).1.length tc44)) :: (Lr45 ++ PB (partF es (txw ps (min ps.length 6))).1)) N2)
    obtain ⟨ro2, rc2, rfl⟩ := hr2.form
    refine zwv (.tuple #[.agg #[.slice ro2 ((partF es (txw ps (min ps.length 6))).1.map trm).length rc2], .string (txt (rpN (es.map trm) (txw ps (min ps.length 6))))]) ?_
    refine zwv (.agg #[.slice ro2 ((partF es (txw ps (min ps.length 6))).1.map trm).length rc2]) ?_
    refine zwv (.string (txt (rpN (es.map trm) (txw ps (min ps.length 6))))) ?_
    refine wl_make (c := #[.slice none 0 0]) h50 27 ?_
    intro q51 w52 (h53 : HA (zb w [] tb (partF es (txw ps (min ps.length 6))).1) ((q51, 27, #[.slice none 0 0]) :: (q16, 40, #[.int .i64 z, .string lb, .slice po ps.length pc]) :: (q11, 27, #[.slice ro (es.map trm).length rc]) :: (q1, 27, #[.slice none 0 0]) :: ((N2 ++ (Lt ++ RL)) ++ ((tb.q, 61, tcell tb (nms (partF es (txw ps (min ps.length 6))).1) (.slice tp43 (partF es (txw ps (min ps.length 6))).1.length tc44)) :: (Lr45 ++ PB (partF es (txw ps (min ps.length 6))).1)))) w52)
    refine wl_fill (c' := #[.slice ro2 ((partF es (txw ps (min ps.length 6))).1.map trm).length rc2]) h53 0 rfl rfl ?_
    intro w54 (h55 : HA (zb w [] tb (partF es (txw ps (min ps.length 6))).1) ((q51, 27, #[.slice ro2 ((partF es (txw ps (min ps.length 6))).1.map trm).length rc2]) :: (q16, 40, #[.int .i64 z, .string lb, .slice po ps.length pc]) :: (q11, 27, #[.slice ro (es.map trm).length rc]) :: (q1, 27, #[.slice none 0 0]) :: ((N2 ++ (Lt ++ RL)) ++ ((tb.q, 61, tcell tb (nms (partF es (txw ps (min ps.length 6))).1) (.slice tp43 (partF es (txw ps (min ps.length 6))).1.length tc44)) :: (Lr45 ++ PB (partF es (txw ps (min ps.length 6))).1)))) w54)
    refine zwv (.string (txt (rpN (es.map trm) (txw ps (min ps.length 6))))) ?_
    refine znt ?_
    refine zsr ?_
    refine wl_load h55 0 rfl Tryz.underlying27 rfl ?_
    refine wl_fill (c' := #[.slice ro2 ((partF es (txw ps (min ps.length 6))).1.map trm).length rc2]) h55 2 rfl rfl ?_
    intro w56 (h57 : HA (zb w [] tb (partF es (txw ps (min ps.length 6))).1) ((q51, 27, #[.slice ro2 ((partF es (txw ps (min ps.length 6))).1.map trm).length rc2]) :: (q16, 40, #[.int .i64 z, .string lb, .slice po ps.length pc]) :: (q11, 27, #[.slice ro2 ((partF es (txw ps (min ps.length 6))).1.map trm).length rc2]) :: (q1, 27, #[.slice none 0 0]) :: ((N2 ++ (Lt ++ RL)) ++ ((tb.q, 61, tcell tb (nms (partF es (txw ps (min ps.length 6))).1) (.slice tp43 (partF es (txw ps (min ps.length 6))).1.length tc44)) :: (Lr45 ++ PB (partF es (txw ps (min ps.length 6))).1)))) w56)
    refine znt ?_
    refine zsr ?_
    refine zwv (.string (txt (partF es (txw ps (min ps.length 6))).2)) ?_
    refine zwv (.string (txt (rpN (es.map trm) (txw ps (min ps.length 6))))) ?_
    refine zwu (run_nes (s := txt (partF es (txw ps (min ps.length 6))).2) (t := txt (rpN (es.map trm) (txw ps (min ps.length 6)))) false (decide_eq_true (congrArg txt (rp_same hI (txw ps (min ps.length 6))).2.symm))) ?_
    refine znt ?_
    refine zcf ?_
    refine wp_skip ?_
    refine block_normal ?_
    refine then_at rfl ?_
    refine wp_seq ?_
    refine zrs ⟨(.slice (some pa) al.length c :: un :: u14 2 :: pt q1 :: u14 4 :: pt tb.q :: pt q11 :: iN .i64 i :: pt q16 :: .slice o9 (txl ps (min ps.length 6)).length c9 :: .string (txw ps (min ps.length 6)) :: u14 11 :: u14 12 :: u14 13 :: .string (txt (partF es (txw ps (min ps.length 6))).2) :: pt q51 :: .string (txt (rpN (es.map trm) (txw ps (min ps.length 6)))) :: u14 17 :: u14 18 :: u14 19 :: u14 20 :: u14 21 :: u14 22 :: u14 23 :: pt tb.q :: pt tb.q :: .bool false :: un :: iN .i64 i :: .slice (some pa) al.length c :: iN .i64 al.length :: .bool true :: .bool true :: iN .i64 i :: .bool true :: .bool true :: u14 36 :: u14 37 :: .slice (some pa) al.length c :: iN .i64 i :: .pointer (some (pa.add (i * 3))) :: .agg #[.int .i64 z, .string lb, .slice po ps.length pc] :: .tuple #[.slice o9 (txl ps (min ps.length 6)).length c9, .string (txw ps (min ps.length 6))] :: .pointer (some ⟨q16, 2, none⟩) :: .slice po ps.length pc :: .tuple #[.slice o9 (txl ps (min ps.length 6)).length c9, .string (txw ps (min ps.length 6))] :: .slice o9 (txl ps (min ps.length 6)).length c9 :: .string (txw ps (min ps.length 6)) :: pt q16 :: .int .i64 z :: u14 50 :: u14 51 :: u14 52 :: u14 53 :: u14 54 :: u14 55 :: u14 56 :: u14 57 :: u14 58 :: u14 59 :: u14 60 :: u14 61 :: u14 62 :: u14 63 :: u14 64 :: u14 65 :: u14 66 :: u14 67 :: u14 68 :: u14 69 :: u14 70 :: u14 71 :: u14 72 :: u14 73 :: u14 74 :: u14 75 :: u14 76 :: u14 77 :: u14 78 :: u14 79 :: u14 80 :: u14 81 :: u14 82 :: u14 83 :: u14 84 :: u14 85 :: u14 86 :: u14 87 :: .bool false :: .bool false :: u14 90 :: u14 91 :: u14 92 :: u14 93 :: u14 94 :: u14 95 :: u14 96 :: u14 97 :: u14 98 :: u14 99 :: u14 100 :: u14 101 :: u14 102 :: .bool true :: .bool true :: pt tb.q :: .string (txw ps (min ps.length 6)) :: .string (txt (partF es (txw ps (min ps.length 6))).2) :: .tuple #[.agg #[.slice ro2 ((partF es (txw ps (min ps.length 6))).1.map trm).length rc2], .string (txt (rpN (es.map trm) (txw ps (min ps.length 6))))] :: .agg (#[.slice ro (es.map trm).length rc]) :: .string (txw ps (min ps.length 6)) :: .tuple #[.agg #[.slice ro2 ((partF es (txw ps (min ps.length 6))).1.map trm).length rc2], .string (txt (rpN (es.map trm) (txw ps (min ps.length 6))))] :: .agg #[.slice ro2 ((partF es (txw ps (min ps.length 6))).1.map trm).length rc2] :: .string (txt (rpN (es.map trm) (txw ps (min ps.length 6)))) :: .agg (#[.slice ro2 ((partF es (txw ps (min ps.length 6))).1.map trm).length rc2]) :: .string (txt (partF es (txw ps (min ps.length 6))).2) :: .string (txt (rpN (es.map trm) (txw ps (min ps.length 6)))) :: .bool false :: u14 118 :: u14 119 :: pt tb.q :: iN .i64 ((partF es (txw ps (min ps.length 6))).1.length) :: pt q11 :: .slice ro2 ((partF es (txw ps (min ps.length 6))).1.map trm).length rc2 :: iN .i64 (((partF es (txw ps (min ps.length 6))).1.map trm).length) :: .bool false :: u14 126 :: u14 127 :: List.replicate 2 un).toArray, []⟩ (HA (zb w [] tb (partF es (txw ps (min ps.length 6))).1) ((q51, 27, #[.slice ro2 ((partF es (txw ps (min ps.length 6))).1.map trm).length rc2]) :: (q16, 40, #[.int .i64 z, .string lb, .slice po ps.length pc]) :: (q11, 27, #[.slice ro2 ((partF es (txw ps (min ps.length 6))).1.map trm).length rc2]) :: (q1, 27, #[.slice none 0 0]) :: ((N2 ++ (Lt ++ RL)) ++ ((tb.q, 61, tcell tb (nms (partF es (txw ps (min ps.length 6))).1) (.slice tp43 (partF es (txw ps (min ps.length 6))).1.length tc44)) :: (Lr45 ++ PB (partF es (txw ps (min ps.length 6))).1))))) h57.drew ?_ ?_
    ·refine zsp (.pointer (some ⟨tb.q, 0, none⟩)) ?_
     refine zsc enter16 HA.keep (fun w' h' => Len_any (t := tb) (n := nms (partF es (txw ps (min ps.length 6))).1) (p := tp43) (c := tc44) (h'.blk (tb.q, 61, tcell tb (nms (partF es (txw ps (min ps.length 6))).1) (.slice tp43 (partF es (txw ps (min ps.length 6))).1.length tc44)) (by simp))) ?_
     refine zsp (.pointer (some ⟨q11, 0, none⟩)) ?_
     refine zst (v := .slice ro2 ((partF es (txw ps (min ps.length 6))).1.map trm).length rc2) (fun w' h' => run_load1 Tryz.isAgg25 (((h'.get 2 rfl).cell 0).trans rfl)) ?_
     refine zsp (iN .i64 (((partF es (txw ps (min ps.length 6))).1.map trm).length)) ?_
     refine zst (fun _ _ => (run_nei (k := .i64) (a := (partF es (txw ps (min ps.length 6))).1.length) (b := ((partF es (txw ps (min ps.length 6))).1.map trm).length) false (by simp))) ?_
     exact AllSure.nil
    intro w58 h59
    refine then_at rfl ?_
    refine zcf ?_
    refine wp_skip ?_
    refine block_normal ?_
    refine then_at rfl ?_
    refine wl_region ?_
    refine zwv (iN .i64 i) ?_
    refine zwu (run_add (k := .i64) (a := i) (b := 1) (by simp only [top]; omega)) ?_
    refine zwv (iN .i64 (i + 1)) ?_
    refine wl_nil ?_
    have h60 := HA.sub h59 (List.Sublist.cons _ (List.Sublist.cons _ (List.Sublist.cons_cons _ (List.Sublist.cons_cons _ (List.Sublist.refl _)))))
    exact then_I (zex (⟨(partF es (txw ps (min ps.length 6))).1, tp43, tc44, Lr45, ro2, rc2, (N2 ++ (Lt ++ RL)), hI1, by omega, hR46, hr2, h60⟩))
   ·refine wl_region ?_
    refine zwu (v := .bool false) (run_eqz (k := .i64) (a := z) (b := 1) false (decide_eq_false hz1)) ?_
    refine zwv (.bool false) ?_
    refine znt ?_
    refine zcf ?_
    refine wp_seq ?_
    rcases hmk : mayB (kz z) (lb.extract 0 (min lb.size 20)) (txl ps (min ps.length 6)).length with _ | _
    ·refine wl_region ?_
     refine zwv (.pointer (some ⟨q16, 0, none⟩)) ?_
     refine zwu (v := .int .i64 z) (run_load1 Tryz.isAgg3 (((h22.get 0 rfl).cell 0).trans rfl)) ?_
     refine zwu (v := .int .i64 (kz z)) (run_subz1 (z := z) (by kernel_rfl) (by kernel_rfl)) ?_
     refine zwv (.int .i64 (kz z)) ?_
     refine znt ?_
     refine zsr ?_
     refine zwv (.pointer (some ⟨q16, 1, none⟩)) ?_
     refine zwu (v := .string lb) (run_load1 Tryz.isAgg9 (((h22.get 0 rfl).cell 1).trans rfl)) ?_
     refine zwv (.pointer (some ⟨q16, 1, none⟩)) ?_
     refine zwu (v := .string lb) (run_load1 Tryz.isAgg9 (((h22.get 0 rfl).cell 1).trans rfl)) ?_
     refine zwu (run_len (s := lb)) ?_
     refine zwu (run_min (i := lb.size) (j := 20)) ?_
     refine zwu (v := .string (lb.extract 0 (min lb.size 20))) (run_cut_hi (s := lb) (b := min lb.size 20) (by omega)) ?_
     refine zwv (.string (lb.extract 0 (min lb.size 20))) ?_
     refine znt ?_
     refine zsr ?_
     refine zwv (.pointer (some ⟨tb.q, 0, none⟩)) ?_
     refine zwv (.int .i64 (kz z)) ?_
     refine zwv (.string (lb.extract 0 (min lb.size 20))) ?_
     refine zwv (.slice o9 (txl ps (min ps.length 6)).length c9) ?_
     refine wl_callx enter14 #[.pointer (some ⟨tb.q, 0, none⟩), .int .i64 (kz z), .string (lb.extract 0 (min lb.size 20)), .slice o9 (txl ps (min ps.length 6)).length c9] (Make_arg (TH.cl ((q16, 40, #[.int .i64 z, .string lb, .slice po ps.length pc]) :: (q11, 27, #[.slice ro (es.map trm).length rc]) :: (q1, 27, #[.slice none 0 0]) :: (Lt ++ RL)) hR h22) (kz z) (lb.extract 0 (min lb.size 20)) (txl ps (min ps.length 6)) o9 c9 hmk) ?_
     rintro _ w61 ⟨rfl, hT1⟩
     refine ⟨_, rfl, ?_⟩
     obtain ⟨tp62, tc63, Lr64, hR65, h66⟩ := TH.op hT1
     have h67 : HA (zb w [] tb es) ((q16, 40, #[.int .i64 z, .string lb, .slice po ps.length pc]) :: (q11, 27, #[.slice ro (es.map trm).length rc]) :: (q1, 27, #[.slice none 0 0]) :: ((Lt ++ RL) ++ ((tb.q, 61, tcell tb (nms es) (.slice tp62 es.length tc63)) :: (Lr64 ++ PB es)))) w61 := h66
     have hI1 := hI
     have hl1 : es.length ≤ es.length + 7 := by omega
     refine zwv (.tuple #[.string ({ data := #[] }), iN .i64 2]) ?_
     refine zwv (.string ({ data := #[] })) ?_
     refine zwv (iN .i64 2) ?_
     refine zwv (.string ({ data := #[] })) ?_
     refine zwv (iN .i64 2) ?_
     refine znt ?_
     refine zsr ?_
     refine wl_load h67 1 rfl Tryz.underlying27 rfl ?_
     refine zwv (.int .i64 (kz z)) ?_
     refine zwv (.string (lb.extract 0 (min lb.size 20))) ?_
     refine zwv (.slice o9 (txl ps (min ps.length 6)).length c9) ?_
     refine wl_callx enter15 #[.agg (#[.slice ro (es.map trm).length rc]), .int .i64 (kz z), .string (lb.extract 0 (min lb.size 20)), .slice o9 (txl ps (min ps.length 6)).length c9] (rmake_arg hrt (kz z) (lb.extract 0 (min lb.size 20)) o9 (txl ps (min ps.length 6)).length c9 hmk) ?_
     rintro _ w68 ⟨rfl, hb2⟩
     refine ⟨_, rfl, ?_⟩
     have h69 : HA (zb w [] tb es) ((q16, 40, #[.int .i64 z, .string lb, .slice po ps.length pc]) :: (q11, 27, #[.slice ro (es.map trm).length rc]) :: (q1, 27, #[.slice none 0 0]) :: ((Lt ++ RL) ++ ((tb.q, 61, tcell tb (nms es) (.slice tp62 es.length tc63)) :: (Lr64 ++ PB es)))) w68 := HA.keep _ _ h67 hb2
     have hr2 := hrt
     refine zwv (.tuple #[.agg #[.slice ro (es.map trm).length rc], .string ({ data := #[] }), iN .i64 2]) ?_
     refine zwv (.agg #[.slice ro (es.map trm).length rc]) ?_
     refine zwv (.string ({ data := #[] })) ?_
     refine zwv (iN .i64 2) ?_
     refine wl_make (c := #[.slice none 0 0]) h69 27 ?_
     intro q70 w71 (h72 : HA (zb w [] tb es) ((q70, 27, #[.slice none 0 0]) :: (q16, 40, #[.int .i64 z, .string lb, .slice po ps.length pc]) :: (q11, 27, #[.slice ro (es.map trm).length rc]) :: (q1, 27, #[.slice none 0 0]) :: ((Lt ++ RL) ++ ((tb.q, 61, tcell tb (nms es) (.slice tp62 es.length tc63)) :: (Lr64 ++ PB es)))) w71)
     refine wl_fill (c' := #[.slice ro (es.map trm).length rc]) h72 0 rfl rfl ?_
     intro w73 (h74 : HA (zb w [] tb es) ((q70, 27, #[.slice ro (es.map trm).length rc]) :: (q16, 40, #[.int .i64 z, .string lb, .slice po ps.length pc]) :: (q11, 27, #[.slice ro (es.map trm).length rc]) :: (q1, 27, #[.slice none 0 0]) :: ((Lt ++ RL) ++ ((tb.q, 61, tcell tb (nms es) (.slice tp62 es.length tc63)) :: (Lr64 ++ PB es)))) w73)
     refine zwv (.string ({ data := #[] })) ?_
     refine zwv (iN .i64 2) ?_
     refine znt ?_
     refine zsr ?_
     refine wl_load h74 0 rfl Tryz.underlying27 rfl ?_
     refine wl_fill (c' := #[.slice ro (es.map trm).length rc]) h74 2 rfl rfl ?_
     intro w75 (h76 : HA (zb w [] tb es) ((q70, 27, #[.slice ro (es.map trm).length rc]) :: (q16, 40, #[.int .i64 z, .string lb, .slice po ps.length pc]) :: (q11, 27, #[.slice ro (es.map trm).length rc]) :: (q1, 27, #[.slice none 0 0]) :: ((Lt ++ RL) ++ ((tb.q, 61, tcell tb (nms es) (.slice tp62 es.length tc63)) :: (Lr64 ++ PB es)))) w75)
     refine znt ?_
     refine zsr ?_
     refine zwv (.string ({ data := #[] })) ?_
     refine zwv (.string ({ data := #[] })) ?_
     refine zwu (run_nes (s := { data := #[] }) (t := { data := #[] }) false (decide_eq_true rfl)) ?_
     refine zwv (.bool false) ?_
     refine zwv (iN .i64 2) ?_
     refine zwv (iN .i64 2) ?_
     refine zwv (.bool false) ?_
     refine zwv (.bool false) ?_
     refine znt ?_
     refine zcf ?_
     refine wp_skip ?_
     refine block_normal ?_
     refine then_at rfl ?_
     refine wp_seq ?_
     refine zrs ⟨(.slice (some pa) al.length c :: un :: u14 2 :: pt q1 :: u14 4 :: pt tb.q :: pt q11 :: iN .i64 i :: pt q16 :: .slice o9 (txl ps (min ps.length 6)).length c9 :: .string (txw ps (min ps.length 6)) :: u14 11 :: u14 12 :: u14 13 :: u14 14 :: u14 15 :: u14 16 :: .int .i64 (kz z) :: .string (lb.extract 0 (min lb.size 20)) :: .string ({ data := #[] }) :: iN .i64 2 :: pt q70 :: .string ({ data := #[] }) :: iN .i64 2 :: pt tb.q :: pt tb.q :: .bool false :: un :: iN .i64 i :: .slice (some pa) al.length c :: iN .i64 al.length :: .bool true :: .bool true :: iN .i64 i :: .bool true :: .bool true :: u14 36 :: u14 37 :: .slice (some pa) al.length c :: iN .i64 i :: .pointer (some (pa.add (i * 3))) :: .agg #[.int .i64 z, .string lb, .slice po ps.length pc] :: .tuple #[.slice o9 (txl ps (min ps.length 6)).length c9, .string (txw ps (min ps.length 6))] :: .pointer (some ⟨q16, 2, none⟩) :: .slice po ps.length pc :: .tuple #[.slice o9 (txl ps (min ps.length 6)).length c9, .string (txw ps (min ps.length 6))] :: .slice o9 (txl ps (min ps.length 6)).length c9 :: .string (txw ps (min ps.length 6)) :: pt q16 :: .int .i64 z :: pt q16 :: .int .i64 z :: .int .i64 (kz z) :: .pointer (some ⟨q16, 1, none⟩) :: .string lb :: .pointer (some ⟨q16, 1, none⟩) :: .string lb :: iN .i64 lb.size :: iN .i64 (min lb.size 20) :: .string (lb.extract 0 (min lb.size 20)) :: .tuple #[.string ({ data := #[] }), iN .i64 2] :: pt tb.q :: .int .i64 (kz z) :: .string (lb.extract 0 (min lb.size 20)) :: .slice o9 (txl ps (min ps.length 6)).length c9 :: .tuple #[.string ({ data := #[] }), iN .i64 2] :: .string ({ data := #[] }) :: iN .i64 2 :: .tuple #[.agg #[.slice ro (es.map trm).length rc], .string ({ data := #[] }), iN .i64 2] :: .agg (#[.slice ro (es.map trm).length rc]) :: .int .i64 (kz z) :: .string (lb.extract 0 (min lb.size 20)) :: .slice o9 (txl ps (min ps.length 6)).length c9 :: .tuple #[.agg #[.slice ro (es.map trm).length rc], .string ({ data := #[] }), iN .i64 2] :: .agg #[.slice ro (es.map trm).length rc] :: .string ({ data := #[] }) :: iN .i64 2 :: .agg (#[.slice ro (es.map trm).length rc]) :: .string ({ data := #[] }) :: .string ({ data := #[] }) :: .bool false :: .bool false :: iN .i64 2 :: iN .i64 2 :: .bool false :: .bool false :: u14 86 :: u14 87 :: .bool false :: .bool false :: u14 90 :: u14 91 :: u14 92 :: u14 93 :: u14 94 :: u14 95 :: u14 96 :: u14 97 :: u14 98 :: u14 99 :: u14 100 :: u14 101 :: u14 102 :: .bool false :: .bool false :: u14 105 :: u14 106 :: u14 107 :: u14 108 :: u14 109 :: u14 110 :: u14 111 :: u14 112 :: u14 113 :: u14 114 :: u14 115 :: u14 116 :: u14 117 :: u14 118 :: u14 119 :: pt tb.q :: iN .i64 es.length :: pt q11 :: .slice ro (es.map trm).length rc :: iN .i64 ((es.map trm).length) :: .bool false :: u14 126 :: u14 127 :: List.replicate 2 un).toArray, []⟩ (HA (zb w [] tb es) ((q70, 27, #[.slice ro (es.map trm).length rc]) :: (q16, 40, #[.int .i64 z, .string lb, .slice po ps.length pc]) :: (q11, 27, #[.slice ro (es.map trm).length rc]) :: (q1, 27, #[.slice none 0 0]) :: ((Lt ++ RL) ++ ((tb.q, 61, tcell tb (nms es) (.slice tp62 es.length tc63)) :: (Lr64 ++ PB es))))) h76.drew ?_ ?_
     ·refine zsp (.pointer (some ⟨tb.q, 0, none⟩)) ?_
      refine zsc enter16 HA.keep (fun w' h' => Len_any (t := tb) (n := nms es) (p := tp62) (c := tc63) (h'.blk (tb.q, 61, tcell tb (nms es) (.slice tp62 es.length tc63)) (by simp))) ?_
      refine zsp (.pointer (some ⟨q11, 0, none⟩)) ?_
      refine zst (v := .slice ro (es.map trm).length rc) (fun w' h' => run_load1 Tryz.isAgg25 (((h'.get 2 rfl).cell 0).trans rfl)) ?_
      refine zsp (iN .i64 ((es.map trm).length)) ?_
      refine zst (fun _ _ => (run_nei (k := .i64) (a := es.length) (b := (es.map trm).length) false (by simp))) ?_
      exact AllSure.nil
     intro w77 h78
     refine then_at rfl ?_
     refine zcf ?_
     refine wp_skip ?_
     refine block_normal ?_
     refine then_at rfl ?_
     refine wl_region ?_
     refine zwv (iN .i64 i) ?_
     refine zwu (run_add (k := .i64) (a := i) (b := 1) (by simp only [top]; omega)) ?_
     refine zwv (iN .i64 (i + 1)) ?_
     refine wl_nil ?_
     have h79 := HA.sub h78 (List.Sublist.cons _ (List.Sublist.cons _ (List.Sublist.cons_cons _ (List.Sublist.cons_cons _ (List.Sublist.refl _)))))
     exact then_I (zex (⟨es, tp62, tc63, Lr64, ro, rc, (Lt ++ RL), hI1, by omega, hR65, hr2, h79⟩))
    ·obtain ⟨kn, hkn, hk3, hk31, hk42, hn100, hk6, hk7⟩ := mayB_nat hmk
     rw [hkn] at hmk
     refine wl_region ?_
     refine zwv (.pointer (some ⟨q16, 0, none⟩)) ?_
     refine zwu (v := .int .i64 z) (run_load1 Tryz.isAgg3 (((h22.get 0 rfl).cell 0).trans rfl)) ?_
     refine zwu (v := iN .i64 kn) (run_subz1k (z := z) hkn (by kernel_rfl) (by kernel_rfl)) ?_
     refine zwv (iN .i64 kn) ?_
     refine znt ?_
     refine zsr ?_
     refine zwv (.pointer (some ⟨q16, 1, none⟩)) ?_
     refine zwu (v := .string lb) (run_load1 Tryz.isAgg9 (((h22.get 0 rfl).cell 1).trans rfl)) ?_
     refine zwv (.pointer (some ⟨q16, 1, none⟩)) ?_
     refine zwu (v := .string lb) (run_load1 Tryz.isAgg9 (((h22.get 0 rfl).cell 1).trans rfl)) ?_
     refine zwu (run_len (s := lb)) ?_
     refine zwu (run_min (i := lb.size) (j := 20)) ?_
     refine zwu (v := .string (lb.extract 0 (min lb.size 20))) (run_cut_hi (s := lb) (b := min lb.size 20) (by omega)) ?_
     refine zwv (.string (lb.extract 0 (min lb.size 20))) ?_
     refine znt ?_
     refine zsr ?_
     refine zwv (.pointer (some ⟨tb.q, 0, none⟩)) ?_
     refine zwv (iN .i64 kn) ?_
     refine zwv (.string (lb.extract 0 (min lb.size 20))) ?_
     refine zwv (.slice o9 (txl ps (min ps.length 6)).length c9) ?_
     refine wl_callx enter14 #[.pointer (some ⟨tb.q, 0, none⟩), iN .i64 kn, .string (lb.extract 0 (min lb.size 20)), .slice o9 (txl ps (min ps.length 6)).length c9] (Make_ok (TH.cl ((q16, 40, #[.int .i64 z, .string lb, .slice po ps.length pc]) :: (q11, 27, #[.slice ro (es.map trm).length rc]) :: (q1, 27, #[.slice none 0 0]) :: (Lt ++ RL)) hR h22) hI.wf kn (lb.extract 0 (min lb.size 20)) (txl ps (min ps.length 6)) o9 c9 (hpre.imp id (fun ⟨pq, cs, e1, e2, e3⟩ => ⟨pq, cs, e1, e2, by simp [e3]⟩)) (by omega) hmk (by rw [ByteArray.size_extract]; omega) (fun i => by have := txl_get ps (min ps.length 6) i; omega) (by rw [txl_len]; omega) (fun e => (hk42 e).1)) ?_
     rintro _ w80 ⟨x1, es1, hJ, rfl, hT1⟩
     refine ⟨_, rfl, ?_⟩
     obtain ⟨tp81, tc82, Lr83, hR84, h85⟩ := TH.op hT1
     have h86 : HA (zb w [] tb es1) ((q16, 40, #[.int .i64 z, .string lb, .slice po ps.length pc]) :: (q11, 27, #[.slice ro (es.map trm).length rc]) :: (q1, 27, #[.slice none 0 0]) :: ((Lt ++ RL) ++ ((tb.q, 61, tcell tb (nms es1) (.slice tp81 es1.length tc82)) :: (Lr83 ++ PB es1)))) w80 := h85
     obtain ⟨hs1, hs2, hI1⟩ := mk_same hI hJ (by rw [txl_len]; omega) hn100 (fun i => by have := txl_get ps (min ps.length 6) i; omega) hk3 (fun e => hk31 e) (fun e => (hk42 e).1) (fun e => (hk42 e).2) hk6 hk7 (by rw [ByteArray.size_extract]; omega)
     have hl1 : es1.length ≤ es.length + 7 := by have := hJ.lt.2; rw [txl_len] at this; omega
     refine zwv (.tuple #[.string (txt x1), iN .i64 0]) ?_
     refine zwv (.string (txt x1)) ?_
     refine zwv (iN .i64 0) ?_
     refine zwv (.string (txt x1)) ?_
     refine zwv (iN .i64 0) ?_
     refine znt ?_
     refine zsr ?_
     refine wl_load h86 1 rfl Tryz.underlying27 rfl ?_
     refine zwv (iN .i64 kn) ?_
     refine zwv (.string (lb.extract 0 (min lb.size 20))) ?_
     refine zwv (.slice o9 (txl ps (min ps.length 6)).length c9) ?_
     refine wl_callx enter15 #[.agg (#[.slice ro (es.map trm).length rc]), iN .i64 kn, .string (lb.extract 0 (min lb.size 20)), .slice o9 (txl ps (min ps.length 6)).length c9] (rmake_ok hrt (Stand.ofHA h86 (sub_mid [(q16, 40, #[.int .i64 z, .string lb, .slice po ps.length pc]), (q11, 27, #[.slice ro (es.map trm).length rc]), (q1, 27, #[.slice none 0 0])] (Lt ++ RL) ((tb.q, 61, tcell tb (nms es1) (.slice tp81 es1.length tc82)) :: (Lr83 ++ PB es1)))) (iv_ps hI).1 (by rw [List.length_map]; omega) kn (lb.extract 0 (min lb.size 20)) (txl ps (min ps.length 6)) o9 c9 (hpre.imp id (fun ⟨pq, cs, e1, e2, e3⟩ => ⟨pq, cs, e1, e2, h86.blk (pq, 9, cs) (by simp [e3])⟩)) (by rw [txl_len]; omega) (by rw [ByteArray.size_extract]; omega) (fun i => by have := txl_get ps (min ps.length 6) i; omega) hmk (by rw [(rf_same hI (txl ps (min ps.length 6)) (fun i => by have := txl_get ps (min ps.length 6) i; omega) _ (by rw [txl_len]; omega)).1]; exact (iv_ps (hI.parts (txl ps (min ps.length 6)) (fun i => by have := txl_get ps (min ps.length 6) i; omega) _ (by rw [txl_len]; omega))).2)) ?_
     rintro _ w87 ⟨rv, N2, rfl, hr2, hN2, hb2⟩
     refine ⟨_, rfl, ?_⟩
     rw [hs1] at hr2
     have h88 : HA (zb w [] tb es1) ((q16, 40, #[.int .i64 z, .string lb, .slice po ps.length pc]) :: (q11, 27, #[.slice ro (es.map trm).length rc]) :: (q1, 27, #[.slice none 0 0]) :: ((N2 ++ (Lt ++ RL)) ++ ((tb.q, 61, tcell tb (nms es1) (.slice tp81 es1.length tc82)) :: (Lr83 ++ PB es1)))) w87 := HA.perm (HA.addL h86 hb2 hN2) (perm_ref [(q16, 40, #[.int .i64 z, .string lb, .slice po ps.length pc]), (q11, 27, #[.slice ro (es.map trm).length rc]), (q1, 27, #[.slice none 0 0])] (Lt ++ RL) ((tb.q, 61, tcell tb (nms es1) (.slice tp81 es1.length tc82)) :: (Lr83 ++ PB es1)) N2)
     obtain ⟨ro2, rc2, rfl⟩ := hr2.form
     refine zwv (.tuple #[.agg #[.slice ro2 (es1.map trm).length rc2], .string (txt (putN (rfL (es.map trm) (txl ps (min ps.length 6)) (txl ps (min ps.length 6)).length) (rmX (rfL (es.map trm) (txl ps (min ps.length 6)) (txl ps (min ps.length 6)).length) kn (lb.extract 0 (min lb.size 20)) (rfN (es.map trm) (txl ps (min ps.length 6)) (txl ps (min ps.length 6)).length)))), iN .i64 0]) ?_
     refine zwv (.agg #[.slice ro2 (es1.map trm).length rc2]) ?_
     refine zwv (.string (txt (putN (rfL (es.map trm) (txl ps (min ps.length 6)) (txl ps (min ps.length 6)).length) (rmX (rfL (es.map trm) (txl ps (min ps.length 6)) (txl ps (min ps.length 6)).length) kn (lb.extract 0 (min lb.size 20)) (rfN (es.map trm) (txl ps (min ps.length 6)) (txl ps (min ps.length 6)).length))))) ?_
     refine zwv (iN .i64 0) ?_
     refine wl_make (c := #[.slice none 0 0]) h88 27 ?_
     intro q89 w90 (h91 : HA (zb w [] tb es1) ((q89, 27, #[.slice none 0 0]) :: (q16, 40, #[.int .i64 z, .string lb, .slice po ps.length pc]) :: (q11, 27, #[.slice ro (es.map trm).length rc]) :: (q1, 27, #[.slice none 0 0]) :: ((N2 ++ (Lt ++ RL)) ++ ((tb.q, 61, tcell tb (nms es1) (.slice tp81 es1.length tc82)) :: (Lr83 ++ PB es1)))) w90)
     refine wl_fill (c' := #[.slice ro2 (es1.map trm).length rc2]) h91 0 rfl rfl ?_
     intro w92 (h93 : HA (zb w [] tb es1) ((q89, 27, #[.slice ro2 (es1.map trm).length rc2]) :: (q16, 40, #[.int .i64 z, .string lb, .slice po ps.length pc]) :: (q11, 27, #[.slice ro (es.map trm).length rc]) :: (q1, 27, #[.slice none 0 0]) :: ((N2 ++ (Lt ++ RL)) ++ ((tb.q, 61, tcell tb (nms es1) (.slice tp81 es1.length tc82)) :: (Lr83 ++ PB es1)))) w92)
     refine zwv (.string (txt (putN (rfL (es.map trm) (txl ps (min ps.length 6)) (txl ps (min ps.length 6)).length) (rmX (rfL (es.map trm) (txl ps (min ps.length 6)) (txl ps (min ps.length 6)).length) kn (lb.extract 0 (min lb.size 20)) (rfN (es.map trm) (txl ps (min ps.length 6)) (txl ps (min ps.length 6)).length))))) ?_
     refine zwv (iN .i64 0) ?_
     refine znt ?_
     refine zsr ?_
     refine wl_load h93 0 rfl Tryz.underlying27 rfl ?_
     refine wl_fill (c' := #[.slice ro2 (es1.map trm).length rc2]) h93 2 rfl rfl ?_
     intro w94 (h95 : HA (zb w [] tb es1) ((q89, 27, #[.slice ro2 (es1.map trm).length rc2]) :: (q16, 40, #[.int .i64 z, .string lb, .slice po ps.length pc]) :: (q11, 27, #[.slice ro2 (es1.map trm).length rc2]) :: (q1, 27, #[.slice none 0 0]) :: ((N2 ++ (Lt ++ RL)) ++ ((tb.q, 61, tcell tb (nms es1) (.slice tp81 es1.length tc82)) :: (Lr83 ++ PB es1)))) w94)
     refine znt ?_
     refine zsr ?_
     refine zwv (.string (txt x1)) ?_
     refine zwv (.string (txt (putN (rfL (es.map trm) (txl ps (min ps.length 6)) (txl ps (min ps.length 6)).length) (rmX (rfL (es.map trm) (txl ps (min ps.length 6)) (txl ps (min ps.length 6)).length) kn (lb.extract 0 (min lb.size 20)) (rfN (es.map trm) (txl ps (min ps.length 6)) (txl ps (min ps.length 6)).length))))) ?_
     refine zwu (run_nes (s := txt x1) (t := txt (putN (rfL (es.map trm) (txl ps (min ps.length 6)) (txl ps (min ps.length 6)).length) (rmX (rfL (es.map trm) (txl ps (min ps.length 6)) (txl ps (min ps.length 6)).length) kn (lb.extract 0 (min lb.size 20)) (rfN (es.map trm) (txl ps (min ps.length 6)) (txl ps (min ps.length 6)).length)))) false (decide_eq_true (congrArg txt hs2.symm))) ?_
     refine zwv (.bool false) ?_
     refine zwv (iN .i64 0) ?_
     refine zwv (iN .i64 0) ?_
     refine zwv (.bool false) ?_
     refine zwv (.bool false) ?_
     refine znt ?_
     refine zcf ?_
     refine wp_skip ?_
     refine block_normal ?_
     refine then_at rfl ?_
     refine wp_seq ?_
     refine zrs ⟨(.slice (some pa) al.length c :: un :: u14 2 :: pt q1 :: u14 4 :: pt tb.q :: pt q11 :: iN .i64 i :: pt q16 :: .slice o9 (txl ps (min ps.length 6)).length c9 :: .string (txw ps (min ps.length 6)) :: u14 11 :: u14 12 :: u14 13 :: u14 14 :: u14 15 :: u14 16 :: iN .i64 kn :: .string (lb.extract 0 (min lb.size 20)) :: .string (txt x1) :: iN .i64 0 :: pt q89 :: .string (txt (putN (rfL (es.map trm) (txl ps (min ps.length 6)) (txl ps (min ps.length 6)).length) (rmX (rfL (es.map trm) (txl ps (min ps.length 6)) (txl ps (min ps.length 6)).length) kn (lb.extract 0 (min lb.size 20)) (rfN (es.map trm) (txl ps (min ps.length 6)) (txl ps (min ps.length 6)).length)))) :: iN .i64 0 :: pt tb.q :: pt tb.q :: .bool false :: un :: iN .i64 i :: .slice (some pa) al.length c :: iN .i64 al.length :: .bool true :: .bool true :: iN .i64 i :: .bool true :: .bool true :: u14 36 :: u14 37 :: .slice (some pa) al.length c :: iN .i64 i :: .pointer (some (pa.add (i * 3))) :: .agg #[.int .i64 z, .string lb, .slice po ps.length pc] :: .tuple #[.slice o9 (txl ps (min ps.length 6)).length c9, .string (txw ps (min ps.length 6))] :: .pointer (some ⟨q16, 2, none⟩) :: .slice po ps.length pc :: .tuple #[.slice o9 (txl ps (min ps.length 6)).length c9, .string (txw ps (min ps.length 6))] :: .slice o9 (txl ps (min ps.length 6)).length c9 :: .string (txw ps (min ps.length 6)) :: pt q16 :: .int .i64 z :: pt q16 :: .int .i64 z :: iN .i64 kn :: .pointer (some ⟨q16, 1, none⟩) :: .string lb :: .pointer (some ⟨q16, 1, none⟩) :: .string lb :: iN .i64 lb.size :: iN .i64 (min lb.size 20) :: .string (lb.extract 0 (min lb.size 20)) :: .tuple #[.string (txt x1), iN .i64 0] :: pt tb.q :: iN .i64 kn :: .string (lb.extract 0 (min lb.size 20)) :: .slice o9 (txl ps (min ps.length 6)).length c9 :: .tuple #[.string (txt x1), iN .i64 0] :: .string (txt x1) :: iN .i64 0 :: .tuple #[.agg #[.slice ro2 (es1.map trm).length rc2], .string (txt (putN (rfL (es.map trm) (txl ps (min ps.length 6)) (txl ps (min ps.length 6)).length) (rmX (rfL (es.map trm) (txl ps (min ps.length 6)) (txl ps (min ps.length 6)).length) kn (lb.extract 0 (min lb.size 20)) (rfN (es.map trm) (txl ps (min ps.length 6)) (txl ps (min ps.length 6)).length)))), iN .i64 0] :: .agg (#[.slice ro (es.map trm).length rc]) :: iN .i64 kn :: .string (lb.extract 0 (min lb.size 20)) :: .slice o9 (txl ps (min ps.length 6)).length c9 :: .tuple #[.agg #[.slice ro2 (es1.map trm).length rc2], .string (txt (putN (rfL (es.map trm) (txl ps (min ps.length 6)) (txl ps (min ps.length 6)).length) (rmX (rfL (es.map trm) (txl ps (min ps.length 6)) (txl ps (min ps.length 6)).length) kn (lb.extract 0 (min lb.size 20)) (rfN (es.map trm) (txl ps (min ps.length 6)) (txl ps (min ps.length 6)).length)))), iN .i64 0] :: .agg #[.slice ro2 (es1.map trm).length rc2] :: .string (txt (putN (rfL (es.map trm) (txl ps (min ps.length 6)) (txl ps (min ps.length 6)).length) (rmX (rfL (es.map trm) (txl ps (min ps.length 6)) (txl ps (min ps.length 6)).length) kn (lb.extract 0 (min lb.size 20)) (rfN (es.map trm) (txl ps (min ps.length 6)) (txl ps (min ps.length 6)).length)))) :: iN .i64 0 :: .agg (#[.slice ro2 (es1.map trm).length rc2]) :: .string (txt x1) :: .string (txt (putN (rfL (es.map trm) (txl ps (min ps.length 6)) (txl ps (min ps.length 6)).length) (rmX (rfL (es.map trm) (txl ps (min ps.length 6)) (txl ps (min ps.length 6)).length) kn (lb.extract 0 (min lb.size 20)) (rfN (es.map trm) (txl ps (min ps.length 6)) (txl ps (min ps.length 6)).length)))) :: .bool false :: .bool false :: iN .i64 0 :: iN .i64 0 :: .bool false :: .bool false :: u14 86 :: u14 87 :: .bool false :: .bool false :: u14 90 :: u14 91 :: u14 92 :: u14 93 :: u14 94 :: u14 95 :: u14 96 :: u14 97 :: u14 98 :: u14 99 :: u14 100 :: u14 101 :: u14 102 :: .bool false :: .bool false :: u14 105 :: u14 106 :: u14 107 :: u14 108 :: u14 109 :: u14 110 :: u14 111 :: u14 112 :: u14 113 :: u14 114 :: u14 115 :: u14 116 :: u14 117 :: u14 118 :: u14 119 :: pt tb.q :: iN .i64 es1.length :: pt q11 :: .slice ro2 (es1.map trm).length rc2 :: iN .i64 ((es1.map trm).length) :: .bool false :: u14 126 :: u14 127 :: List.replicate 2 un).toArray, []⟩ (HA (zb w [] tb es1) ((q89, 27, #[.slice ro2 (es1.map trm).length rc2]) :: (q16, 40, #[.int .i64 z, .string lb, .slice po ps.length pc]) :: (q11, 27, #[.slice ro2 (es1.map trm).length rc2]) :: (q1, 27, #[.slice none 0 0]) :: ((N2 ++ (Lt ++ RL)) ++ ((tb.q, 61, tcell tb (nms es1) (.slice tp81 es1.length tc82)) :: (Lr83 ++ PB es1))))) h95.drew ?_ ?_
     ·refine zsp (.pointer (some ⟨tb.q, 0, none⟩)) ?_
      refine zsc enter16 HA.keep (fun w' h' => Len_any (t := tb) (n := nms es1) (p := tp81) (c := tc82) (h'.blk (tb.q, 61, tcell tb (nms es1) (.slice tp81 es1.length tc82)) (by simp))) ?_
      refine zsp (.pointer (some ⟨q11, 0, none⟩)) ?_
      refine zst (v := .slice ro2 (es1.map trm).length rc2) (fun w' h' => run_load1 Tryz.isAgg25 (((h'.get 2 rfl).cell 0).trans rfl)) ?_
      refine zsp (iN .i64 ((es1.map trm).length)) ?_
      refine zst (fun _ _ => (run_nei (k := .i64) (a := es1.length) (b := (es1.map trm).length) false (by simp))) ?_
      exact AllSure.nil
     intro w96 h97
     refine then_at rfl ?_
     refine zcf ?_
     refine wp_skip ?_
     refine block_normal ?_
     refine then_at rfl ?_
     refine wl_region ?_
     refine zwv (iN .i64 i) ?_
     refine zwu (run_add (k := .i64) (a := i) (b := 1) (by simp only [top]; omega)) ?_
     refine zwv (iN .i64 (i + 1)) ?_
     refine wl_nil ?_
     have h98 := HA.sub h97 (List.Sublist.cons _ (List.Sublist.cons _ (List.Sublist.cons_cons _ (List.Sublist.cons_cons _ (List.Sublist.refl _)))))
     exact then_I (zex (⟨es1, tp81, tc82, Lr83, ro2, rc2, (N2 ++ (Lt ++ RL)), hI1, by omega, hR84, hr2, h98⟩))
 ·rintro _ w99 ⟨u14, rfl, ⟨es, tp, tc, Lr, ro, rc, RL, hI, hle, hR, hr, hA⟩⟩
  have hle2 : es.length ≤ 280 := by omega
  refine wp_seq ?_
  refine zsr ?_
  refine zwv (iN .i64 40) ?_
  refine zwv (.slice o al.length c) ?_
  refine zwv (iN .i64 al.length) ?_
  refine zwu (run_lss (k := .i64) (a := 40) (b := al.length) true (decide_eq_true (by omega))) ?_
  refine zwv (.bool true) ?_
  refine zwv (iN .i64 40) ?_
  refine zwu (run_lss (k := .i64) (a := 40) (b := 40) false (by decide)) ?_
  refine zwv (.bool false) ?_
  refine znt ?_
  refine zcf ?_
  refine wp_exit ?_
  repeat first | refine then_exit ?_ | refine block_exit ?_ | refine block_exit_ne (by decide) ?_
  refine then_at rfl ?_
  refine wp_seq ?_
  refine wp_region_wk (HA (zb w [] tb es) ((q11, 27, #[.slice ro (es.map trm).length rc]) :: (RL ++ ((tb.q, 61, tcell tb (nms es) (.slice tp es.length tc)) :: (Lr ++ PB es))))) (fun A w' => A = ⟨(.slice o al.length c :: un :: pt tb.q :: pt q1 :: .bool true :: pt tb.q :: pt q11 :: iN .i64 40 :: u14 8 :: u14 9 :: u14 10 :: u14 11 :: u14 12 :: u14 13 :: u14 14 :: u14 15 :: u14 16 :: u14 17 :: u14 18 :: u14 19 :: u14 20 :: u14 21 :: u14 22 :: u14 23 :: pt tb.q :: pt tb.q :: .bool false :: un :: iN .i64 40 :: .slice o al.length c :: iN .i64 al.length :: .bool true :: .bool true :: iN .i64 40 :: .bool false :: .bool false :: u14 36 :: u14 37 :: u14 38 :: u14 39 :: u14 40 :: u14 41 :: u14 42 :: u14 43 :: u14 44 :: u14 45 :: u14 46 :: u14 47 :: u14 48 :: u14 49 :: u14 50 :: u14 51 :: u14 52 :: u14 53 :: u14 54 :: u14 55 :: u14 56 :: u14 57 :: u14 58 :: u14 59 :: u14 60 :: u14 61 :: u14 62 :: u14 63 :: u14 64 :: u14 65 :: u14 66 :: u14 67 :: u14 68 :: u14 69 :: u14 70 :: u14 71 :: u14 72 :: u14 73 :: u14 74 :: u14 75 :: u14 76 :: u14 77 :: u14 78 :: u14 79 :: u14 80 :: u14 81 :: u14 82 :: u14 83 :: u14 84 :: u14 85 :: u14 86 :: u14 87 :: u14 88 :: u14 89 :: u14 90 :: u14 91 :: u14 92 :: u14 93 :: u14 94 :: u14 95 :: u14 96 :: u14 97 :: u14 98 :: u14 99 :: u14 100 :: u14 101 :: u14 102 :: u14 103 :: u14 104 :: u14 105 :: u14 106 :: u14 107 :: u14 108 :: u14 109 :: u14 110 :: u14 111 :: u14 112 :: u14 113 :: u14 114 :: u14 115 :: u14 116 :: u14 117 :: u14 118 :: u14 119 :: u14 120 :: u14 121 :: u14 122 :: u14 123 :: u14 124 :: u14 125 :: u14 126 :: u14 127 :: pt tb.q :: .agg (#[.slice ro (es.map trm).length rc]) :: List.replicate 0 un).toArray, []⟩ ∧ HA (zb w [] tb es) ((q11, 27, #[.slice ro (es.map trm).length rc]) :: (q1, 27, #[.slice ro (es.map trm).length rc]) :: (RL ++ ((tb.q, 61, tcell tb (nms es) (.slice tp es.length tc)) :: (Lr ++ PB es)))) w') 5 (by kernel_rfl) (by kernel_rfl) (by kernel_rfl) (by kernel_rfl) (by kernel_rfl) (HA.sub hA.drew (List.Sublist.cons_cons _ (List.Sublist.cons _ (List.Sublist.refl _)))) ?_ ?_
  ·have h100 := hA.drew
   refine wk_val (i := 0) (.pointer (some ⟨tb.q, 0, none⟩)) rfl rfl (by kernel_rfl) (by kernel_rfl) (fun _ _ => (by kernel_rfl)) ?_
   refine wk_val (i := 1) (.agg (#[.slice ro (es.map trm).length rc])) rfl rfl (by kernel_rfl) (by kernel_rfl) (fun w' h' => run_load_blk (h'.get 0 rfl) Tryz.underlying27 rfl) ?_
   refine wk_val (i := 2) (.pointer (some ⟨tb.q, 0, none⟩)) rfl rfl (by kernel_rfl) (by kernel_rfl) (fun _ _ => (by kernel_rfl)) ?_
   refine wk_one 3 (by kernel_rfl) ?_
   refine ef_fill (c' := #[.slice ro (es.map trm).length rc]) rfl (by kernel_rfl) ((q11, 27, #[.slice ro (es.map trm).length rc]) :: (q1, 27, #[.slice ro (es.map trm).length rc]) :: (RL ++ ((tb.q, 61, tcell tb (nms es) (.slice tp es.length tc)) :: (Lr ++ PB es)))) h100 1 rfl rfl (by kernel_rfl) (by kernel_rfl) rfl (by kernel_rfl) (by kernel_rfl) (fun w' h' => (HA.sub h' (List.Sublist.cons_cons _ (List.Sublist.cons _ (List.Sublist.refl _))))) ?_
   intro w102 (h101 : HA (zb w [] tb es) ((q11, 27, #[.slice ro (es.map trm).length rc]) :: (q1, 27, #[.slice ro (es.map trm).length rc]) :: (RL ++ ((tb.q, 61, tcell tb (nms es) (.slice tp es.length tc)) :: (Lr ++ PB es)))) w102)
   refine wk_val (i := 4) (.bool true) rfl rfl (by kernel_rfl) (by kernel_rfl) (fun _ _ => (by kernel_rfl)) ?_
   refine wk_end fun w103 hbx hsx => ?_
   have h104 := HA.keep _ _ h101 hbx
   exact ⟨by kernel_rfl, h104⟩
  ·rintro _ w105 ⟨rfl, h106⟩
   refine then_at rfl ?_
   refine wp_ret ?_
   repeat first | refine then_ret ?_ | refine block_ret ?_
   exact bodyPost_ret (v := .tuple #[pt tb.q, .agg #[.slice ro (es.map trm).length rc], .bool true]) (res_tmp_cell_tmp (p := 3) (r := 2) (r2 := 4) (by kernel_rfl) (by kernel_rfl) (by kernel_rfl) (by kernel_rfl) (h106.get 1 rfl) Tryz.underlying27 rfl (by kernel_rfl)) rfl ⟨tb, es, _, RL, rfl, TH.sub (TH.cl ((q11, 27, #[.slice ro (es.map trm).length rc]) :: (q1, 27, #[.slice ro (es.map trm).length rc]) :: RL) hR h106) (List.Sublist.cons _ (List.Sublist.cons _ (List.Sublist.refl _))), hr, hI, by omega⟩
theorem played_any {w : World} (al : List Ac) (o : Option Addr) (c : Nat) (hp : ActA w o al) (hln : al.length ≤ 9223372036854775807) :
  Calls Tryz.prog 4 #[.slice o al.length c] w fun e w' => ∃ tb es rv RL, e = .returned (.tuple #[pt tb.q, .agg #[rv], .bool true]) ∧ TH w [] tb es RL w' ∧ RTL rv (es.map trm) RL ∧ Iv es ∧ es.length ≤ 280 := by
 rcases Nat.lt_or_ge 40 al.length with hm | hm
 ·exact played_b al o c hp hln hm
 ·exact played_a al o c hp hln hm
end Go.Proofs.YtihfeoanognonaaGreat
