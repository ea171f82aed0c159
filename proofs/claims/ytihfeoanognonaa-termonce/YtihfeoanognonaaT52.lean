/-
 TermOnce: what is made twice, one behind the other, is there once; a copy goes its own way.
-/
import Derived.Test.YtihfeoanognonaaB7
namespace Go.Proofs.Ytihfeoanognonaa
set_option linter.unusedVariables false
set_option maxRecDepth 100000
set_option maxHeartbeats 8000000
open Go.RowKit
theorem run_load1g {ρ : Operand → Value} {x : Operand} {w : World} {dst : Option Tmp} {T ty : TypeId} {pos : String} {aft : Array Edge} {gd : Option (Nat × Bool)} {a : Addr} {v : Value} (hg : ∀ w, (isAgg T).run Try.prog w = .ok false w)  (h : w.cell? a = some v) (hx : ρ x = .pointer (some a) := by kernel_rfl) : (execOp ρ ⟨dst, .load T x, ty, pos, aft, gd⟩).run Try.prog w = .ok (.value v) w := by
 simp only [execOp, hx]
 simp [go_sem, h, hg]
theorem run_gtrz {ρ : Operand → Value} {x y : Operand} {w : World} {dst : Option Tmp} {T T2 ty : TypeId} {pos : String} {aft : Array Edge} {gd : Option (Nat × Bool)} {P : Program} {z : Int}   (r : Bool) (hr : decide (1 < z) = r) (hx : ρ x = .int .i64 z := by kernel_rfl) (hy : ρ y = iN .i64 1 := by kernel_rfl) : (execOp ρ ⟨dst, .binOp .gtr T x y T2, ty, pos, aft, gd⟩).run P w = .ok (.value (.bool r)) w := by
 subst hr
 simp only [execOp, hx, hy, iN]
 simp [go_sem]
theorem HA.base {w w' : World} {t : Tb} {es : List Ent} {L : BL} (h : HA (zb w [] t es) L w') : HA (bs w) [] w' := ⟨⟨h.old.old, (fun _ h => by cases h), (fun _ h => by cases h), List.nodup_nil⟩, (fun _ h => by cases h), (fun _ h => by cases h), List.nodup_nil⟩
theorem once_any {w : World} {m0 : Int} (_ : w.cell? ⟨0, 0, none⟩ = some (.int .i64 m0)) (al : List Ac) (o : Option Addr) (c : Nat) (hp : ActA w o al) (hln : al.length ≤ 9223372036854775807) (hlc : al.length ≤ c) (ho : o = none → c = 0 ∧ al.length = 0) :
  Calls Try.prog 6 #[.slice o al.length c] w fun e w' => e = .returned (.bool true) ∧ Below w.heap.size w w' := by
 have H0 := HA.start w
 go_enter Try.func6, Try.ntmps6
 refine zsr ?_
 refine zwv (.bool false) ?_
 refine znt ?_
 refine zsr ?_
 refine zwv (.slice o al.length c) ?_
 refine zwv (.slice o al.length c) ?_
 refine zwv (iN .i64 al.length) ?_
 refine zwu (run_min (i := al.length) (j := 25)) ?_
 refine zwu (v := .slice o (al.take 25).length c) (run_cutA (n := al.length) (k := min al.length 25) (by kernel_rfl) (by kernel_rfl) (by omega) ho (by rw [List.length_take, Nat.min_comm])) ?_
 refine zwv (.slice o (al.take 25).length c) ?_
 refine znt ?_
 refine zsr ?_
 refine zwv (.slice o (al.take 25).length c) ?_
 refine wl_callx enter8 #[.slice o (al.take 25).length c] (played_any (al.take 25) o c (hp.take 25) (by rw [List.length_take]; omega)) ?_
 rintro _ w1 ⟨tb, es0, rv, RL, rfl, hT0, hr, hI0, hle0⟩
 refine ⟨_, rfl, ?_⟩
 obtain ⟨ro, rc, rfl⟩ := hr.form
 obtain ⟨tp2, tc3, Lr4, hR5, h6⟩ := TH.op hT0
 have h7 : HA (zb w [] tb es0) ((RL ++ ((tb.q, 74, tcell tb (nms es0) (.slice tp2 es0.length tc3)) :: (Lr4 ++ PB es0)))) w1 := h6
 refine zwv (.tuple #[.pointer (some ⟨tb.q, 0, none⟩), .agg #[.slice ro (es0.map trm).length rc], .bool true]) ?_
 refine zwv (.pointer (some ⟨tb.q, 0, none⟩)) ?_
 refine zwv (.agg #[.slice ro (es0.map trm).length rc]) ?_
 refine zwv (.bool true) ?_
 refine wl_make (c := #[.slice none 0 0]) h7 26 ?_
 intro q8 w9 (h10 : HA (zb w [] tb es0) ((q8, 26, #[.slice none 0 0]) :: (RL ++ ((tb.q, 74, tcell tb (nms es0) (.slice tp2 es0.length tc3)) :: (Lr4 ++ PB es0)))) w9)
 refine zwv (.pointer (some ⟨tb.q, 0, none⟩)) ?_
 refine wl_fill (c' := #[.slice ro (es0.map trm).length rc]) h10 0 rfl rfl ?_
 intro w11 (h12 : HA (zb w [] tb es0) ((q8, 26, #[.slice ro (es0.map trm).length rc]) :: (RL ++ ((tb.q, 74, tcell tb (nms es0) (.slice tp2 es0.length tc3)) :: (Lr4 ++ PB es0)))) w11)
 refine zwv (.bool true) ?_
 refine znt ?_
 refine wp_seq ?_
 refine zsr ?_
 refine zwv (.bool true) ?_
 refine zwv (.bool false) ?_
 refine znt ?_
 refine zcf ?_
 refine wp_skip ?_
 refine then_at rfl ?_
 refine zsr ?_
 refine zwv (.pointer (some ⟨tb.q, 0, none⟩)) ?_
 refine zwc h12 enter20 (Len_any (t := tb) (n := nms es0) (p := tp2) (c := tc3) (h12.blk (tb.q, 74, tcell tb (nms es0) (.slice tp2 es0.length tc3)) (by simp))) ?_
 intro w13 h14
 refine zwv (iN .i64 es0.length) ?_
 refine znt ?_
 refine zsr ?_
 refine zwv (.pointer (some ⟨tb.q, 0, none⟩)) ?_
 refine wl_callx enter23 #[.pointer (some ⟨tb.q, 0, none⟩)] (Copy_any (TH.view (TH.cl ((q8, 26, #[.slice ro (es0.map trm).length rc]) :: RL) hR5 h14)) (by omega)) ?_
 rintro _ w15 ⟨tc, pcp, ccp, rfl, hcq, hcb, hbc⟩
 refine ⟨_, rfl, ?_⟩
 have h16 : HA (zb w [] tb es0) ((tc.q, 74, (tcell tc (nms es0) (.slice pcp es0.length ccp))) :: (q8, 26, #[.slice ro (es0.map trm).length rc]) :: (RL ++ ((tb.q, 74, tcell tb (nms es0) (.slice tp2 es0.length tc3)) :: (Lr4 ++ PB es0)))) w15 := HA.add1 h14 hbc hcq hcb
 refine zwv (.pointer (some ⟨tc.q, 0, none⟩)) ?_
 refine znt ?_
 refine wp_seq ?_
 refine zsr ?_
 refine zwv (.pointer (some ⟨tc.q, 0, none⟩)) ?_
 refine zwv (.bool false) ?_
 refine zwv (.bool false) ?_
 refine zwv (.pointer (some ⟨tc.q, 0, none⟩)) ?_
 refine zwc h16 enter20 (Len_any (t := tc) (n := nms es0) (p := pcp) (c := ccp) (h16.blk (tc.q, 74, tcell tc (nms es0) (.slice pcp es0.length ccp)) (by simp))) ?_
 intro w17 h18
 refine zwv (iN .i64 es0.length) ?_
 refine zwu (run_nei (k := .i64) (a := es0.length) (b := es0.length) false (by simp)) ?_
 refine zwv (.bool false) ?_
 refine znt ?_
 refine zcf ?_
 refine wp_skip ?_
 refine then_at rfl ?_
 refine wp_seq ?_
 refine zsr ?_
 refine zwv (iN .i64 0) ?_
 refine znt ?_
 refine wp_block ?_
 refine wp_count (fun i A w' => ∃ u19 : Nat → Value, A = ⟨(.slice o (al.take 25).length c :: un :: u19 2 :: pt tb.q :: pt q8 :: .bool true :: iN .i64 es0.length :: pt tc.q :: iN .i64 i :: u19 9 :: u19 10 :: u19 11 :: u19 12 :: u19 13 :: u19 14 :: u19 15 :: u19 16 :: u19 17 :: u19 18 :: u19 19 :: .slice o al.length c :: .slice o al.length c :: iN .i64 al.length :: iN .i64 (min al.length 25) :: .slice o (al.take 25).length c :: .tuple #[pt tb.q, .agg #[.slice ro (es0.map trm).length rc], .bool true] :: .slice o (al.take 25).length c :: .tuple #[pt tb.q, .agg #[.slice ro (es0.map trm).length rc], .bool true] :: pt tb.q :: .agg #[.slice ro (es0.map trm).length rc] :: .bool true :: .bool true :: .bool false :: pt tb.q :: iN .i64 es0.length :: pt tb.q :: pt tc.q :: pt tc.q :: .bool false :: .bool false :: pt tc.q :: iN .i64 es0.length :: iN .i64 es0.length :: .bool false :: .bool false :: u19 45 :: u19 46 :: u19 47 :: u19 48 :: u19 49 :: u19 50 :: u19 51 :: u19 52 :: u19 53 :: u19 54 :: u19 55 :: u19 56 :: u19 57 :: u19 58 :: u19 59 :: u19 60 :: u19 61 :: u19 62 :: u19 63 :: u19 64 :: u19 65 :: u19 66 :: u19 67 :: u19 68 :: u19 69 :: u19 70 :: u19 71 :: u19 72 :: u19 73 :: u19 74 :: u19 75 :: u19 76 :: u19 77 :: u19 78 :: u19 79 :: u19 80 :: u19 81 :: u19 82 :: u19 83 :: u19 84 :: u19 85 :: u19 86 :: u19 87 :: u19 88 :: u19 89 :: u19 90 :: u19 91 :: u19 92 :: u19 93 :: u19 94 :: u19 95 :: u19 96 :: u19 97 :: u19 98 :: u19 99 :: u19 100 :: u19 101 :: u19 102 :: u19 103 :: u19 104 :: u19 105 :: u19 106 :: u19 107 :: u19 108 :: u19 109 :: u19 110 :: u19 111 :: u19 112 :: u19 113 :: u19 114 :: u19 115 :: u19 116 :: u19 117 :: u19 118 :: u19 119 :: u19 120 :: u19 121 :: u19 122 :: u19 123 :: u19 124 :: u19 125 :: u19 126 :: u19 127 :: u19 128 :: u19 129 :: u19 130 :: u19 131 :: u19 132 :: u19 133 :: u19 134 :: u19 135 :: u19 136 :: u19 137 :: u19 138 :: u19 139 :: u19 140 :: u19 141 :: u19 142 :: u19 143 :: u19 144 :: u19 145 :: u19 146 :: u19 147 :: u19 148 :: u19 149 :: u19 150 :: u19 151 :: u19 152 :: u19 153 :: u19 154 :: u19 155 :: u19 156 :: u19 157 :: u19 158 :: u19 159 :: u19 160 :: u19 161 :: u19 162 :: u19 163 :: u19 164 :: u19 165 :: u19 166 :: u19 167 :: u19 168 :: u19 169 :: u19 170 :: u19 171 :: u19 172 :: List.replicate 9 un).toArray, []⟩ ∧ ∃ es tp tcc Lr, Iv es ∧ es.length ≤ 280 + 7 * i ∧ Row 69 1 (.slice tp es.length tcc) es.length (es.map ev) Lr ∧ HA (zb w [] tb es) ((tc.q, 74, (tcell tc (nms es0) (.slice pcp es0.length ccp))) :: (q8, 26, #[.slice ro (es0.map trm).length rc]) :: (RL ++ ((tb.q, 74, tcell tb (nms es) (.slice tp es.length tcc)) :: (Lr ++ PB es)))) w') ((al.take 25).length) ?_ ?_ ?_
 ·exact zex (⟨es0, tp2, tc3, Lr4, hI0, by omega, hR5, h18⟩)
 ·rintro i hk _ w20 ⟨u19, rfl, ⟨es, tp, tcc, Lr, hI, hle, hR, hA⟩⟩
  have hal : (al.take 25).length ≤ 25 := by rw [List.length_take]; omega
  obtain ⟨pa, rfl, d1, d2, d3, hpc, hpl⟩ := hp.take 25 i (by omega)
  generalize (al.take 25).getD i ac0 = ac at d1 d2 d3 hpc hpl
  obtain ⟨z, lb, po, pc, ps⟩ := ac
  simp only at d1 d2 d3 hpc hpl
  refine wp_seq ?_
  refine zsr ?_
  refine zwv (iN .i64 i) ?_
  refine zwv (.slice (some pa) ((al.take 25).length) c) ?_
  refine zwv (iN .i64 ((al.take 25).length)) ?_
  refine zwu (run_lss (k := .i64) (a := i) (b := (al.take 25).length) true (decide_eq_true (by omega))) ?_
  refine znt ?_
  refine zct ?_
  refine wp_skip ?_
  refine then_at rfl ?_
  refine wp_seq ?_
  refine wp_block ?_
  refine zsr ?_
  refine zwv (.slice (some pa) ((al.take 25).length) c) ?_
  refine zwv (iN .i64 i) ?_
  refine zwu (v := .pointer (some (pa.add (i * 3)))) (run_addrg (a := pa) (n := (al.take 25).length) (m := c) (i := i) (sz := 3) Try.underlying22 Try.sizeOf56 (by omega)) ?_
  refine zwv (.pointer (some ((pa.add (i * 3)).add 2))) ?_
  refine zwu (v := .slice po ps.length pc) (run_load1g (a := ((pa.add (i * 3)).add 2)) Try.isAgg51 (got (w := w) hA.old.old (by rw [Addr.add_addr]; exact d3))) ?_
  refine wl_callx enter21 #[.slice po ps.length pc] (texts_any ps po pc (hpc.keep hA.old.old) hpl) ?_
  rintro _ w21 ⟨pv, Lt, rfl, hRt, hNt, hbt⟩
  refine ⟨_, rfl, ?_⟩
  have h22 : HA (zb w [] tb es) ((tc.q, 74, (tcell tc (nms es0) (.slice pcp es0.length ccp))) :: (q8, 26, #[.slice ro (es0.map trm).length rc]) :: ((Lt ++ RL) ++ ((tb.q, 74, tcell tb (nms es) (.slice tp es.length tcc)) :: (Lr ++ PB es)))) w21 := HA.perm (HA.addL hA hbt hNt) (perm_ref [(tc.q, 74, (tcell tc (nms es0) (.slice pcp es0.length ccp))), (q8, 26, #[.slice ro (es0.map trm).length rc])] RL ((tb.q, 74, tcell tb (nms es) (.slice tp es.length tcc)) :: (Lr ++ PB es)) Lt)
  obtain ⟨o9, c9, rfl, hpre⟩ := Row.pre hRt
  refine zwv (.tuple #[.slice o9 (txl ps (min ps.length 6)).length c9, .string (txw ps (min ps.length 6))]) ?_
  refine zwv (.slice o9 (txl ps (min ps.length 6)).length c9) ?_
  refine zwv (.string (txw ps (min ps.length 6))) ?_
  refine zwv (.slice o9 (txl ps (min ps.length 6)).length c9) ?_
  refine zwv (.string (txw ps (min ps.length 6))) ?_
  refine znt ?_
  refine wp_seq ?_
  rcases hlw : latB es.length (txw ps (min ps.length 6)) with _ | _
  ·refine wl_region ?_
   refine zwv (.pointer (some ⟨tb.q, 0, none⟩)) ?_
   refine zwv (.string (txw ps (min ps.length 6))) ?_
   refine wl_call (v := .bool false) h22 enter24 #[.pointer (some ⟨tb.q, 0, none⟩), .string (txw ps (min ps.length 6))] (by have := later_any (TH.view (TH.cl ((tc.q, 74, (tcell tc (nms es0) (.slice pcp es0.length ccp))) :: (q8, 26, #[.slice ro (es0.map trm).length rc]) :: (Lt ++ RL)) hR h22)) hI (txw ps (min ps.length 6)); rw [hlw] at this; exact this) ?_
   intro w23 h24
   refine zwv (.bool false) ?_
   refine znt ?_
   refine wp_seq ?_
   refine zsr ?_
   refine zwv (iN .i64 0) ?_
   refine znt ?_
   refine wp_block ?_
   refine wp_count (fun j A w' => ∃ u25 : Nat → Value, A = ⟨(.slice (some pa) ((al.take 25).length) c :: un :: u19 2 :: pt tb.q :: pt q8 :: .bool true :: iN .i64 es0.length :: pt tc.q :: iN .i64 i :: .slice o9 (txl ps (min ps.length 6)).length c9 :: .string (txw ps (min ps.length 6)) :: u25 11 :: iN .i64 j :: u19 13 :: u19 14 :: u19 15 :: u19 16 :: u19 17 :: u19 18 :: u19 19 :: .slice (some pa) al.length c :: .slice (some pa) al.length c :: iN .i64 al.length :: iN .i64 (min al.length 25) :: .slice (some pa) ((al.take 25).length) c :: .tuple #[pt tb.q, .agg #[.slice ro (es0.map trm).length rc], .bool true] :: .slice (some pa) ((al.take 25).length) c :: .tuple #[pt tb.q, .agg #[.slice ro (es0.map trm).length rc], .bool true] :: pt tb.q :: .agg #[.slice ro (es0.map trm).length rc] :: .bool true :: .bool true :: .bool false :: pt tb.q :: iN .i64 es0.length :: pt tb.q :: pt tc.q :: pt tc.q :: .bool false :: .bool false :: pt tc.q :: iN .i64 es0.length :: iN .i64 es0.length :: .bool false :: .bool false :: iN .i64 i :: .slice (some pa) ((al.take 25).length) c :: iN .i64 ((al.take 25).length) :: .bool true :: u19 49 :: u19 50 :: .tuple #[.slice o9 (txl ps (min ps.length 6)).length c9, .string (txw ps (min ps.length 6))] :: .slice (some pa) ((al.take 25).length) c :: iN .i64 i :: .pointer (some (pa.add (i * 3))) :: .pointer (some ((pa.add (i * 3)).add 2)) :: .slice po ps.length pc :: .tuple #[.slice o9 (txl ps (min ps.length 6)).length c9, .string (txw ps (min ps.length 6))] :: .slice o9 (txl ps (min ps.length 6)).length c9 :: .string (txw ps (min ps.length 6)) :: pt tb.q :: .string (txw ps (min ps.length 6)) :: .bool false :: u25 63 :: u25 64 :: u25 65 :: u25 66 :: u25 67 :: u25 68 :: u25 69 :: u25 70 :: u25 71 :: u25 72 :: u25 73 :: u25 74 :: u25 75 :: u25 76 :: u25 77 :: u19 78 :: u19 79 :: u19 80 :: u19 81 :: u19 82 :: u19 83 :: u19 84 :: u19 85 :: u19 86 :: u19 87 :: u19 88 :: u19 89 :: u19 90 :: u19 91 :: u19 92 :: u19 93 :: u19 94 :: u19 95 :: u19 96 :: u19 97 :: u19 98 :: u19 99 :: u19 100 :: u19 101 :: u19 102 :: u19 103 :: u19 104 :: u19 105 :: u19 106 :: u19 107 :: u19 108 :: u19 109 :: u19 110 :: u19 111 :: u19 112 :: u19 113 :: u19 114 :: u19 115 :: u19 116 :: u19 117 :: u19 118 :: u19 119 :: u19 120 :: u19 121 :: u19 122 :: u19 123 :: u19 124 :: u19 125 :: u19 126 :: u19 127 :: u19 128 :: u19 129 :: u19 130 :: u19 131 :: u19 132 :: u19 133 :: u19 134 :: u19 135 :: u19 136 :: u19 137 :: u19 138 :: u19 139 :: u19 140 :: u19 141 :: u19 142 :: u19 143 :: u19 144 :: u19 145 :: u19 146 :: u19 147 :: u19 148 :: u19 149 :: u19 150 :: u19 151 :: u19 152 :: u19 153 :: u19 154 :: u19 155 :: u19 156 :: u19 157 :: u19 158 :: u19 159 :: u19 160 :: u19 161 :: u19 162 :: u19 163 :: u19 164 :: u19 165 :: u19 166 :: u19 167 :: u19 168 :: u19 169 :: u19 170 :: u19 171 :: u19 172 :: List.replicate 9 un).toArray, []⟩ ∧ (u25 11 = .bool true ∨ (u25 11 = .bool false ∧ latB es.length (txw ps (min ps.length 6)) = false ∧ ∀ qq, qq < j → latB es.length ((txl ps (min ps.length 6)).getD qq ByteArray.empty) = false)) ∧ HA (zb w [] tb es) ((tc.q, 74, (tcell tc (nms es0) (.slice pcp es0.length ccp))) :: (q8, 26, #[.slice ro (es0.map trm).length rc]) :: ((Lt ++ RL) ++ ((tb.q, 74, tcell tb (nms es) (.slice tp es.length tcc)) :: (Lr ++ PB es)))) w') ((txl ps (min ps.length 6)).length) ?_ ?_ ?_
   ·exact ⟨lku u19 [(11, .bool false)], by kernel_rfl, ⟨.inr ⟨by exact rfl, hlw, fun j hj => by omega⟩, h24⟩⟩
   ·rintro j hk _ w26 ⟨u25, rfl, ⟨hod, hA⟩⟩
    have hsl := txl_len ps (min ps.length 6)
    obtain ⟨pq, cs, rfl, hps, hm9⟩ := hpre.resolve_left (by intro e; rw [e] at hk; simp at hk)
    refine wp_seq ?_
    refine zsr ?_
    refine zwv (iN .i64 j) ?_
    refine zwv (.slice (some ⟨pq, 0, none⟩) ((txl ps (min ps.length 6)).length) c9) ?_
    refine zwv (iN .i64 ((txl ps (min ps.length 6)).length)) ?_
    refine zwu (run_lss (k := .i64) (a := j) (b := (txl ps (min ps.length 6)).length) true (decide_eq_true (by omega))) ?_
    refine znt ?_
    refine zct ?_
    refine wp_skip ?_
    refine then_at rfl ?_
    refine wp_seq ?_
    refine wp_block ?_
    rcases hod with h11 | ⟨h11, hlw2, hall⟩
    ·rw [h11]
     refine wl_region ?_
     refine zwv (.bool true) ?_
     refine zwv (.bool true) ?_
     refine wl_skip ?_
     refine wl_skip ?_
     refine wl_skip ?_
     refine wl_skip ?_
     refine wl_skip ?_
     refine wl_skip ?_
     refine zwv (.bool true) ?_
     refine zwv (.bool true) ?_
     refine wl_nil ?_
     refine block_normal ?_
     refine then_at rfl ?_
     refine wl_region ?_
     refine zwv (iN .i64 j) ?_
     refine zwu (run_add (k := .i64) (a := j) (b := 1) (by simp only [top]; omega)) ?_
     refine zwv (iN .i64 (j + 1)) ?_
     refine wl_nil ?_
     exact then_I ⟨lku (fun _ => undef) [(11, .bool true), (63, iN .i64 j), (64, .slice (some ⟨pq, 0, none⟩) ((txl ps (min ps.length 6)).length) c9), (65, iN .i64 ((txl ps (min ps.length 6)).length)), (66, .bool true), (67, iN .i64 j), (68, iN .i64 (j + 1)), (69, .bool true), (70, .bool true), (77, .bool true)], by kernel_rfl, ⟨.inl (by exact rfl), hA⟩⟩
    ·rw [h11]
     rcases hlj : latB es.length ((txl ps (min ps.length 6)).getD j ByteArray.empty) with _ | _
     ·refine wl_region ?_
      refine zwv (.bool false) ?_
      refine zwv (.bool false) ?_
      refine zwv (.pointer (some ⟨tb.q, 0, none⟩)) ?_
      refine zwv (.slice (some ⟨pq, 0, none⟩) ((txl ps (min ps.length 6)).length) c9) ?_
      refine zwv (iN .i64 j) ?_
      refine zwu (v := .pointer (some ⟨pq, j, none⟩)) (run_addr_slice (q := pq) (n := (txl ps (min ps.length 6)).length) (m := c9) (a := j) Try.underlying48 Try.sizeOf9 (by omega)) ?_
      refine zwu (v := .string ((txl ps (min ps.length 6)).getD j ByteArray.empty)) (run_load1 Try.isAgg9 (((hA.blk (pq, 9, cs) (by simp [hm9])).cell j).trans (hps j hk))) ?_
      refine wl_call (v := .bool false) hA enter24 #[.pointer (some ⟨tb.q, 0, none⟩), .string ((txl ps (min ps.length 6)).getD j ByteArray.empty)] (by have := later_any (TH.view (TH.cl ((tc.q, 74, (tcell tc (nms es0) (.slice pcp es0.length ccp))) :: (q8, 26, #[.slice ro (es0.map trm).length rc]) :: (Lt ++ RL)) hR hA)) hI ((txl ps (min ps.length 6)).getD j ByteArray.empty); rw [hlj] at this; exact this) ?_
      intro w27 h28
      refine zwv (.bool false) ?_
      refine zwv (.bool false) ?_
      refine wl_nil ?_
      refine block_normal ?_
      refine then_at rfl ?_
      refine wl_region ?_
      refine zwv (iN .i64 j) ?_
      refine zwu (run_add (k := .i64) (a := j) (b := 1) (by simp only [top]; omega)) ?_
      refine zwv (iN .i64 (j + 1)) ?_
      refine wl_nil ?_
      exact then_I ⟨lku (fun _ => undef) [(11, .bool false), (63, iN .i64 j), (64, .slice (some ⟨pq, 0, none⟩) ((txl ps (min ps.length 6)).length) c9), (65, iN .i64 ((txl ps (min ps.length 6)).length)), (66, .bool true), (67, iN .i64 j), (68, iN .i64 (j + 1)), (69, .bool false), (70, .bool false), (71, .pointer (some ⟨tb.q, 0, none⟩)), (72, .slice (some ⟨pq, 0, none⟩) ((txl ps (min ps.length 6)).length) c9), (73, iN .i64 j), (74, .pointer (some ⟨pq, j, none⟩)), (75, .string ((txl ps (min ps.length 6)).getD j ByteArray.empty)), (76, .bool false), (77, .bool false)], by kernel_rfl, ⟨.inr ⟨by exact rfl, hlw2, fun q hq => by rcases Nat.lt_or_ge q j with h | h; exact hall q h; rw [show q = j by omega]; exact hlj⟩, h28⟩⟩
     ·refine wl_region ?_
      refine zwv (.bool false) ?_
      refine zwv (.bool false) ?_
      refine zwv (.pointer (some ⟨tb.q, 0, none⟩)) ?_
      refine zwv (.slice (some ⟨pq, 0, none⟩) ((txl ps (min ps.length 6)).length) c9) ?_
      refine zwv (iN .i64 j) ?_
      refine zwu (v := .pointer (some ⟨pq, j, none⟩)) (run_addr_slice (q := pq) (n := (txl ps (min ps.length 6)).length) (m := c9) (a := j) Try.underlying48 Try.sizeOf9 (by omega)) ?_
      refine zwu (v := .string ((txl ps (min ps.length 6)).getD j ByteArray.empty)) (run_load1 Try.isAgg9 (((hA.blk (pq, 9, cs) (by simp [hm9])).cell j).trans (hps j hk))) ?_
      refine wl_call (v := .bool true) hA enter24 #[.pointer (some ⟨tb.q, 0, none⟩), .string ((txl ps (min ps.length 6)).getD j ByteArray.empty)] (by have := later_any (TH.view (TH.cl ((tc.q, 74, (tcell tc (nms es0) (.slice pcp es0.length ccp))) :: (q8, 26, #[.slice ro (es0.map trm).length rc]) :: (Lt ++ RL)) hR hA)) hI ((txl ps (min ps.length 6)).getD j ByteArray.empty); rw [hlj] at this; exact this) ?_
      intro w29 h30
      refine zwv (.bool true) ?_
      refine zwv (.bool true) ?_
      refine wl_nil ?_
      refine block_normal ?_
      refine zta ⟨(.slice (some pa) ((al.take 25).length) c :: un :: u19 2 :: pt tb.q :: pt q8 :: .bool true :: iN .i64 es0.length :: pt tc.q :: iN .i64 i :: .slice (some ⟨pq, 0, none⟩) ((txl ps (min ps.length 6)).length) c9 :: .string (txw ps (min ps.length 6)) :: .bool true :: iN .i64 j :: u19 13 :: u19 14 :: u19 15 :: u19 16 :: u19 17 :: u19 18 :: u19 19 :: .slice (some pa) al.length c :: .slice (some pa) al.length c :: iN .i64 al.length :: iN .i64 (min al.length 25) :: .slice (some pa) ((al.take 25).length) c :: .tuple #[pt tb.q, .agg #[.slice ro (es0.map trm).length rc], .bool true] :: .slice (some pa) ((al.take 25).length) c :: .tuple #[pt tb.q, .agg #[.slice ro (es0.map trm).length rc], .bool true] :: pt tb.q :: .agg #[.slice ro (es0.map trm).length rc] :: .bool true :: .bool true :: .bool false :: pt tb.q :: iN .i64 es0.length :: pt tb.q :: pt tc.q :: pt tc.q :: .bool false :: .bool false :: pt tc.q :: iN .i64 es0.length :: iN .i64 es0.length :: .bool false :: .bool false :: iN .i64 i :: .slice (some pa) ((al.take 25).length) c :: iN .i64 ((al.take 25).length) :: .bool true :: u19 49 :: u19 50 :: .tuple #[.slice (some ⟨pq, 0, none⟩) (txl ps (min ps.length 6)).length c9, .string (txw ps (min ps.length 6))] :: .slice (some pa) ((al.take 25).length) c :: iN .i64 i :: .pointer (some (pa.add (i * 3))) :: .pointer (some ((pa.add (i * 3)).add 2)) :: .slice po ps.length pc :: .tuple #[.slice (some ⟨pq, 0, none⟩) (txl ps (min ps.length 6)).length c9, .string (txw ps (min ps.length 6))] :: .slice (some ⟨pq, 0, none⟩) ((txl ps (min ps.length 6)).length) c9 :: .string (txw ps (min ps.length 6)) :: pt tb.q :: .string (txw ps (min ps.length 6)) :: .bool false :: iN .i64 j :: .slice (some ⟨pq, 0, none⟩) ((txl ps (min ps.length 6)).length) c9 :: iN .i64 ((txl ps (min ps.length 6)).length) :: .bool true :: u25 67 :: u25 68 :: .bool false :: .bool false :: pt tb.q :: .slice (some ⟨pq, 0, none⟩) ((txl ps (min ps.length 6)).length) c9 :: iN .i64 j :: .pointer (some ⟨pq, j, none⟩) :: .string ((txl ps (min ps.length 6)).getD j ByteArray.empty) :: .bool true :: .bool true :: u19 78 :: u19 79 :: u19 80 :: u19 81 :: u19 82 :: u19 83 :: u19 84 :: u19 85 :: u19 86 :: u19 87 :: u19 88 :: u19 89 :: u19 90 :: u19 91 :: u19 92 :: u19 93 :: u19 94 :: u19 95 :: u19 96 :: u19 97 :: u19 98 :: u19 99 :: u19 100 :: u19 101 :: u19 102 :: u19 103 :: u19 104 :: u19 105 :: u19 106 :: u19 107 :: u19 108 :: u19 109 :: u19 110 :: u19 111 :: u19 112 :: u19 113 :: u19 114 :: u19 115 :: u19 116 :: u19 117 :: u19 118 :: u19 119 :: u19 120 :: u19 121 :: u19 122 :: u19 123 :: u19 124 :: u19 125 :: u19 126 :: u19 127 :: u19 128 :: u19 129 :: u19 130 :: u19 131 :: u19 132 :: u19 133 :: u19 134 :: u19 135 :: u19 136 :: u19 137 :: u19 138 :: u19 139 :: u19 140 :: u19 141 :: u19 142 :: u19 143 :: u19 144 :: u19 145 :: u19 146 :: u19 147 :: u19 148 :: u19 149 :: u19 150 :: u19 151 :: u19 152 :: u19 153 :: u19 154 :: u19 155 :: u19 156 :: u19 157 :: u19 158 :: u19 159 :: u19 160 :: u19 161 :: u19 162 :: u19 163 :: u19 164 :: u19 165 :: u19 166 :: u19 167 :: u19 168 :: u19 169 :: u19 170 :: u19 171 :: u19 172 :: List.replicate 9 un).toArray, []⟩ ?_
      refine wl_region ?_
      refine zwv (iN .i64 j) ?_
      refine zwu (run_add (k := .i64) (a := j) (b := 1) (by simp only [top]; omega)) ?_
      refine zwv (iN .i64 (j + 1)) ?_
      refine wl_nil ?_
      exact then_I ⟨lku (fun _ => undef) [(11, .bool true), (63, iN .i64 j), (64, .slice (some ⟨pq, 0, none⟩) ((txl ps (min ps.length 6)).length) c9), (65, iN .i64 ((txl ps (min ps.length 6)).length)), (66, .bool true), (67, iN .i64 j), (68, iN .i64 (j + 1)), (69, .bool false), (70, .bool false), (71, .pointer (some ⟨tb.q, 0, none⟩)), (72, .slice (some ⟨pq, 0, none⟩) ((txl ps (min ps.length 6)).length) c9), (73, iN .i64 j), (74, .pointer (some ⟨pq, j, none⟩)), (75, .string ((txl ps (min ps.length 6)).getD j ByteArray.empty)), (76, .bool true), (77, .bool true)], by kernel_rfl, ⟨.inl (by exact rfl), h30⟩⟩
   ·rintro _ w31 ⟨u25, rfl, ⟨hod, hA⟩⟩
    have hsl := txl_len ps (min ps.length 6)
    refine wp_seq ?_
    refine zsr ?_
    refine zwv (iN .i64 ((txl ps (min ps.length 6)).length)) ?_
    refine zwv (.slice o9 (txl ps (min ps.length 6)).length c9) ?_
    refine zwv (iN .i64 ((txl ps (min ps.length 6)).length)) ?_
    refine zwu (run_lss (k := .i64) (a := (txl ps (min ps.length 6)).length) (b := (txl ps (min ps.length 6)).length) false (decide_eq_false (by omega))) ?_
    refine znt ?_
    refine zcf ?_
    refine wp_exit ?_
    repeat first | refine then_exit ?_ | refine block_exit ?_ | refine block_exit_ne (by decide) ?_
    refine then_at rfl ?_
    refine wp_seq ?_
    refine wp_seq ?_
    rcases hod with h11 | ⟨h11, hlw2, hall⟩
    ·rw [h11]
     refine wl_region ?_
     refine zwv (.bool true) ?_
     refine znt ?_
     refine zct ?_
     refine wp_exit ?_
     repeat first | refine then_exit ?_ | refine block_exit ?_ | refine block_exit_ne (by decide) ?_
     refine then_at rfl ?_
     refine wl_region ?_
     refine zwv (iN .i64 i) ?_
     refine zwu (run_add (k := .i64) (a := i) (b := 1) (by simp only [top]; omega)) ?_
     refine zwv (iN .i64 (i + 1)) ?_
     refine wl_nil ?_
     have h32 := HA.sub hA (List.Sublist.cons_cons _ (List.Sublist.cons_cons _ (List.Sublist.append_right (List.sublist_append_right Lt _) _)))
     exact then_I (zex (⟨es, tp, tcc, Lr, hI, by omega, hR, h32⟩))
    ·rw [h11]
     refine wl_region ?_
     refine zwv (.bool false) ?_
     refine znt ?_
     refine zcf ?_
     refine wp_skip ?_
     refine then_at rfl ?_
     refine wp_seq ?_
     refine wp_seq ?_
     by_cases hz1 : z = 1
     ·refine wl_region ?_
      refine zwv (.slice (some pa) ((al.take 25).length) c) ?_
      refine zwv (iN .i64 i) ?_
      refine zwu (v := .pointer (some (pa.add (i * 3)))) (run_addrg (a := pa) (n := (al.take 25).length) (m := c) (i := i) (sz := 3) Try.underlying22 Try.sizeOf56 (by omega)) ?_
      refine zwv (.pointer (some (pa.add (i * 3)))) ?_
      refine zwu (v := .int .i64 z) (run_load1g (a := (pa.add (i * 3))) Try.isAgg3 (got (w := w) hA.old.old d1)) ?_
      refine zwu (v := .bool true) (run_eqz (k := .i64) (a := z) (b := 1) true (decide_eq_true hz1)) ?_
      refine znt ?_
      refine zct ?_
      refine zsr ?_
      refine zwv (.pointer (some ⟨tb.q, 0, none⟩)) ?_
      refine zwv (.string (txw ps (min ps.length 6))) ?_
      refine wl_callx enter25 #[.pointer (some ⟨tb.q, 0, none⟩), .string (txw ps (min ps.length 6))] (Data_any (TH.cl ((tc.q, 74, (tcell tc (nms es0) (.slice pcp es0.length ccp))) :: (q8, 26, #[.slice ro (es0.map trm).length rc]) :: (Lt ++ RL)) hR hA) (by omega) (txw ps (min ps.length 6)) (by have := txw_size ps (min ps.length 6); omega)) ?_
      rintro _ w33 ⟨rfl, hT1⟩
      refine ⟨_, rfl, ?_⟩
      obtain ⟨tp34, tc35, Lr36, hR37, h38⟩ := TH.op hT1
      have h39 : HA (zb w [] tb (partF es (txw ps (min ps.length 6))).1) ((tc.q, 74, (tcell tc (nms es0) (.slice pcp es0.length ccp))) :: (q8, 26, #[.slice ro (es0.map trm).length rc]) :: ((Lt ++ RL) ++ ((tb.q, 74, tcell tb (nms (partF es (txw ps (min ps.length 6))).1) (.slice tp34 (partF es (txw ps (min ps.length 6))).1.length tc35)) :: (Lr36 ++ PB (partF es (txw ps (min ps.length 6))).1)))) w33 := h38
      have hI1 := hI.part (txw ps (min ps.length 6)) (by have := txw_size ps (min ps.length 6); omega) (by omega)
      have hl1 := partF_len es (txw ps (min ps.length 6))
      have hag : partF (partF es (txw ps (min ps.length 6))).1 (txw ps (min ps.length 6)) = ((partF es (txw ps (min ps.length 6))).1, (partF es (txw ps (min ps.length 6))).2) := by have := part_again (tl := []) (okt_of hlw2); simpa using this
      refine zwv (.string (txt (partF es (txw ps (min ps.length 6))).2)) ?_
      refine znt ?_
      refine zsr ?_
      refine zwv (.pointer (some ⟨tb.q, 0, none⟩)) ?_
      refine zwc h39 enter20 (Len_any (t := tb) (n := nms (partF es (txw ps (min ps.length 6))).1) (p := tp34) (c := tc35) (h39.blk (tb.q, 74, tcell tb (nms (partF es (txw ps (min ps.length 6))).1) (.slice tp34 (partF es (txw ps (min ps.length 6))).1.length tc35)) (by simp))) ?_
      intro w40 h41
      refine zwv (iN .i64 ((partF es (txw ps (min ps.length 6))).1.length)) ?_
      refine znt ?_
      refine zsr ?_
      refine zwv (.pointer (some ⟨tb.q, 0, none⟩)) ?_
      refine zwv (.string (txw ps (min ps.length 6))) ?_
      refine wl_callx enter25 #[.pointer (some ⟨tb.q, 0, none⟩), .string (txw ps (min ps.length 6))] (Data_any (TH.cl ((tc.q, 74, (tcell tc (nms es0) (.slice pcp es0.length ccp))) :: (q8, 26, #[.slice ro (es0.map trm).length rc]) :: (Lt ++ RL)) hR37 h41) (by omega) (txw ps (min ps.length 6)) (by have := txw_size ps (min ps.length 6); omega)) ?_
      rintro _ w42 ⟨rfl, hT2⟩
      refine ⟨_, rfl, ?_⟩
      rw [hag] at hT2
      obtain ⟨tp43, tc44, Lr45, hR46, h47⟩ := TH.op hT2
      have h48 : HA (zb w [] tb (partF es (txw ps (min ps.length 6))).1) ((tc.q, 74, (tcell tc (nms es0) (.slice pcp es0.length ccp))) :: (q8, 26, #[.slice ro (es0.map trm).length rc]) :: ((Lt ++ RL) ++ ((tb.q, 74, tcell tb (nms (partF es (txw ps (min ps.length 6))).1) (.slice tp43 (partF es (txw ps (min ps.length 6))).1.length tc44)) :: (Lr45 ++ PB (partF es (txw ps (min ps.length 6))).1)))) w42 := h47
      refine zwv (.string (txt (partF es (txw ps (min ps.length 6))).2)) ?_
      refine zwu (run_nes (s := txt (partF (partF es (txw ps (min ps.length 6))).1 (txw ps (min ps.length 6))).2) (t := txt (partF es (txw ps (min ps.length 6))).2) false (decide_eq_true (by rw [hag]))) ?_
      refine zwv (.bool false) ?_
      refine zwv (.pointer (some ⟨tb.q, 0, none⟩)) ?_
      refine zwc h48 enter20 (Len_any (t := tb) (n := nms (partF es (txw ps (min ps.length 6))).1) (p := tp43) (c := tc44) (h48.blk (tb.q, 74, tcell tb (nms (partF es (txw ps (min ps.length 6))).1) (.slice tp43 (partF es (txw ps (min ps.length 6))).1.length tc44)) (by simp))) ?_
      intro w49 h50
      refine zwv (iN .i64 ((partF es (txw ps (min ps.length 6))).1.length)) ?_
      refine zwu (run_nei (k := .i64) (a := (partF es (txw ps (min ps.length 6))).1.length) (b := (partF es (txw ps (min ps.length 6))).1.length) false (by simp)) ?_
      refine zwv (.bool false) ?_
      refine znt ?_
      refine zcf ?_
      refine wp_skip ?_
      refine then_at rfl ?_
      refine wp_seq ?_
      have hz2 : ¬ 1 < z := by omega
      refine wl_region ?_
      refine zwv (.slice (some pa) ((al.take 25).length) c) ?_
      refine zwv (iN .i64 i) ?_
      refine zwu (v := .pointer (some (pa.add (i * 3)))) (run_addrg (a := pa) (n := (al.take 25).length) (m := c) (i := i) (sz := 3) Try.underlying22 Try.sizeOf56 (by omega)) ?_
      refine zwv (.pointer (some (pa.add (i * 3)))) ?_
      refine zwu (v := .int .i64 z) (run_load1g (a := (pa.add (i * 3))) Try.isAgg3 (got (w := w) h50.old.old d1)) ?_
      refine zwu (run_gtrz (z := z) false (decide_eq_false hz2)) ?_
      refine zna ⟨(.slice (some pa) ((al.take 25).length) c :: un :: u19 2 :: pt tb.q :: pt q8 :: .bool true :: iN .i64 es0.length :: pt tc.q :: iN .i64 i :: .slice o9 (txl ps (min ps.length 6)).length c9 :: .string (txw ps (min ps.length 6)) :: .bool false :: iN .i64 ((txl ps (min ps.length 6)).length) :: .string (txt (partF es (txw ps (min ps.length 6))).2) :: iN .i64 ((partF es (txw ps (min ps.length 6))).1.length) :: u19 15 :: u19 16 :: u19 17 :: u19 18 :: u19 19 :: .slice (some pa) al.length c :: .slice (some pa) al.length c :: iN .i64 al.length :: iN .i64 (min al.length 25) :: .slice (some pa) ((al.take 25).length) c :: .tuple #[pt tb.q, .agg #[.slice ro (es0.map trm).length rc], .bool true] :: .slice (some pa) ((al.take 25).length) c :: .tuple #[pt tb.q, .agg #[.slice ro (es0.map trm).length rc], .bool true] :: pt tb.q :: .agg #[.slice ro (es0.map trm).length rc] :: .bool true :: .bool true :: .bool false :: pt tb.q :: iN .i64 es0.length :: pt tb.q :: pt tc.q :: pt tc.q :: .bool false :: .bool false :: pt tc.q :: iN .i64 es0.length :: iN .i64 es0.length :: .bool false :: .bool false :: iN .i64 i :: .slice (some pa) ((al.take 25).length) c :: iN .i64 ((al.take 25).length) :: .bool true :: u19 49 :: u19 50 :: .tuple #[.slice o9 (txl ps (min ps.length 6)).length c9, .string (txw ps (min ps.length 6))] :: .slice (some pa) ((al.take 25).length) c :: iN .i64 i :: .pointer (some (pa.add (i * 3))) :: .pointer (some ((pa.add (i * 3)).add 2)) :: .slice po ps.length pc :: .tuple #[.slice o9 (txl ps (min ps.length 6)).length c9, .string (txw ps (min ps.length 6))] :: .slice o9 (txl ps (min ps.length 6)).length c9 :: .string (txw ps (min ps.length 6)) :: pt tb.q :: .string (txw ps (min ps.length 6)) :: .bool false :: iN .i64 ((txl ps (min ps.length 6)).length) :: .slice o9 (txl ps (min ps.length 6)).length c9 :: iN .i64 ((txl ps (min ps.length 6)).length) :: .bool false :: u25 67 :: u25 68 :: u25 69 :: u25 70 :: u25 71 :: u25 72 :: u25 73 :: u25 74 :: u25 75 :: u25 76 :: u25 77 :: .bool false :: .slice (some pa) ((al.take 25).length) c :: iN .i64 i :: .pointer (some (pa.add (i * 3))) :: .pointer (some (pa.add (i * 3))) :: .int .i64 z :: .bool true :: pt tb.q :: .string (txw ps (min ps.length 6)) :: .string (txt (partF es (txw ps (min ps.length 6))).2) :: pt tb.q :: iN .i64 ((partF es (txw ps (min ps.length 6))).1.length) :: pt tb.q :: .string (txw ps (min ps.length 6)) :: .string (txt (partF (partF es (txw ps (min ps.length 6))).1 (txw ps (min ps.length 6))).2) :: .string (txt (partF es (txw ps (min ps.length 6))).2) :: .bool false :: .bool false :: pt tb.q :: iN .i64 ((partF es (txw ps (min ps.length 6))).1.length) :: iN .i64 ((partF es (txw ps (min ps.length 6))).1.length) :: .bool false :: .bool false :: .slice (some pa) ((al.take 25).length) c :: iN .i64 i :: .pointer (some (pa.add (i * 3))) :: .pointer (some (pa.add (i * 3))) :: .int .i64 z :: .bool false :: u19 107 :: u19 108 :: u19 109 :: u19 110 :: u19 111 :: u19 112 :: u19 113 :: u19 114 :: u19 115 :: u19 116 :: u19 117 :: u19 118 :: u19 119 :: u19 120 :: u19 121 :: u19 122 :: u19 123 :: u19 124 :: u19 125 :: u19 126 :: u19 127 :: u19 128 :: u19 129 :: u19 130 :: u19 131 :: u19 132 :: u19 133 :: u19 134 :: u19 135 :: u19 136 :: u19 137 :: u19 138 :: u19 139 :: u19 140 :: u19 141 :: u19 142 :: u19 143 :: u19 144 :: u19 145 :: u19 146 :: u19 147 :: u19 148 :: u19 149 :: u19 150 :: u19 151 :: u19 152 :: u19 153 :: u19 154 :: u19 155 :: u19 156 :: u19 157 :: u19 158 :: u19 159 :: u19 160 :: u19 161 :: u19 162 :: u19 163 :: u19 164 :: u19 165 :: u19 166 :: u19 167 :: u19 168 :: u19 169 :: u19 170 :: u19 171 :: u19 172 :: List.replicate 9 un).toArray, []⟩ ?_
      refine zcf ?_
      refine wp_skip ?_
      refine block_normal ?_
      refine then_at rfl ?_
      refine wl_region ?_
      refine zwv (iN .i64 i) ?_
      refine zwu (run_add (k := .i64) (a := i) (b := 1) (by simp only [top]; omega)) ?_
      refine zwv (iN .i64 (i + 1)) ?_
      refine wl_nil ?_
      have h51 := HA.sub h50 (List.Sublist.cons_cons _ (List.Sublist.cons_cons _ (List.Sublist.append_right (List.sublist_append_right Lt _) _)))
      exact then_I (zex (⟨(partF es (txw ps (min ps.length 6))).1, tp43, tc44, Lr45, hI1, by omega, hR46, h51⟩))
     ·refine wl_region ?_
      refine zwv (.slice (some pa) ((al.take 25).length) c) ?_
      refine zwv (iN .i64 i) ?_
      refine zwu (v := .pointer (some (pa.add (i * 3)))) (run_addrg (a := pa) (n := (al.take 25).length) (m := c) (i := i) (sz := 3) Try.underlying22 Try.sizeOf56 (by omega)) ?_
      refine zwv (.pointer (some (pa.add (i * 3)))) ?_
      refine zwu (v := .int .i64 z) (run_load1g (a := (pa.add (i * 3))) Try.isAgg3 (got (w := w) hA.old.old d1)) ?_
      refine zwu (v := .bool false) (run_eqz (k := .i64) (a := z) (b := 1) false (decide_eq_false hz1)) ?_
      refine znt ?_
      refine zcf ?_
      refine wp_skip ?_
      refine then_at rfl ?_
      refine wp_seq ?_
      by_cases hz2 : 1 < z
      ·refine wl_region ?_
       refine zwv (.slice (some pa) ((al.take 25).length) c) ?_
       refine zwv (iN .i64 i) ?_
       refine zwu (v := .pointer (some (pa.add (i * 3)))) (run_addrg (a := pa) (n := (al.take 25).length) (m := c) (i := i) (sz := 3) Try.underlying22 Try.sizeOf56 (by omega)) ?_
       refine zwv (.pointer (some (pa.add (i * 3)))) ?_
       refine zwu (v := .int .i64 z) (run_load1g (a := (pa.add (i * 3))) Try.isAgg3 (got (w := w) hA.old.old d1)) ?_
       refine zwu (run_gtrz (z := z) true (decide_eq_true hz2)) ?_
       refine znt ?_
       refine zct ?_
       refine wp_seq ?_
       have hok : ∀ j, j < (txl ps (min ps.length 6)).length → Okt es.length ((txl ps (min ps.length 6)).getD j ByteArray.empty) := fun j hj => okt_of (hall j hj)
       rcases hmk : mayB (kz z) (lb.extract 0 (min lb.size 20)) (txl ps (min ps.length 6)).length with _ | _
       ·refine wp_region_wk (HA (bs w) []) (fun A w' => ∃ (tp56 : Option Addr) (tc57 : Nat) (Lr58 : BL), A = ⟨(.slice (some pa) ((al.take 25).length) c :: un :: u19 2 :: pt tb.q :: pt q8 :: .bool true :: iN .i64 es0.length :: pt tc.q :: iN .i64 i :: .slice o9 (txl ps (min ps.length 6)).length c9 :: .string (txw ps (min ps.length 6)) :: .bool false :: iN .i64 ((txl ps (min ps.length 6)).length) :: u19 13 :: u19 14 :: .string ({ data := #[] }) :: iN .i64 2 :: u19 17 :: u19 18 :: u19 19 :: .slice (some pa) al.length c :: .slice (some pa) al.length c :: iN .i64 al.length :: iN .i64 (min al.length 25) :: .slice (some pa) ((al.take 25).length) c :: .tuple #[pt tb.q, .agg #[.slice ro (es0.map trm).length rc], .bool true] :: .slice (some pa) ((al.take 25).length) c :: .tuple #[pt tb.q, .agg #[.slice ro (es0.map trm).length rc], .bool true] :: pt tb.q :: .agg #[.slice ro (es0.map trm).length rc] :: .bool true :: .bool true :: .bool false :: pt tb.q :: iN .i64 es0.length :: pt tb.q :: pt tc.q :: pt tc.q :: .bool false :: .bool false :: pt tc.q :: iN .i64 es0.length :: iN .i64 es0.length :: .bool false :: .bool false :: iN .i64 i :: .slice (some pa) ((al.take 25).length) c :: iN .i64 ((al.take 25).length) :: .bool true :: u19 49 :: u19 50 :: .tuple #[.slice o9 (txl ps (min ps.length 6)).length c9, .string (txw ps (min ps.length 6))] :: .slice (some pa) ((al.take 25).length) c :: iN .i64 i :: .pointer (some (pa.add (i * 3))) :: .pointer (some ((pa.add (i * 3)).add 2)) :: .slice po ps.length pc :: .tuple #[.slice o9 (txl ps (min ps.length 6)).length c9, .string (txw ps (min ps.length 6))] :: .slice o9 (txl ps (min ps.length 6)).length c9 :: .string (txw ps (min ps.length 6)) :: pt tb.q :: .string (txw ps (min ps.length 6)) :: .bool false :: iN .i64 ((txl ps (min ps.length 6)).length) :: .slice o9 (txl ps (min ps.length 6)).length c9 :: iN .i64 ((txl ps (min ps.length 6)).length) :: .bool false :: u25 67 :: u25 68 :: u25 69 :: u25 70 :: u25 71 :: u25 72 :: u25 73 :: u25 74 :: u25 75 :: u25 76 :: u25 77 :: .bool false :: .slice (some pa) ((al.take 25).length) c :: iN .i64 i :: .pointer (some (pa.add (i * 3))) :: .pointer (some (pa.add (i * 3))) :: .int .i64 z :: .bool false :: u19 85 :: u19 86 :: u19 87 :: u19 88 :: u19 89 :: u19 90 :: u19 91 :: u19 92 :: u19 93 :: u19 94 :: u19 95 :: u19 96 :: u19 97 :: u19 98 :: u19 99 :: u19 100 :: .slice (some pa) ((al.take 25).length) c :: iN .i64 i :: .pointer (some (pa.add (i * 3))) :: .pointer (some (pa.add (i * 3))) :: .int .i64 z :: .bool true :: .tuple #[.string ({ data := #[] }), iN .i64 2] :: pt tb.q :: .slice (some pa) ((al.take 25).length) c :: iN .i64 i :: .pointer (some (pa.add (i * 3))) :: .pointer (some (pa.add (i * 3))) :: .int .i64 z :: .int .i64 (kz z) :: .slice (some pa) ((al.take 25).length) c :: iN .i64 i :: .pointer (some (pa.add (i * 3))) :: .pointer (some ((pa.add (i * 3)).add 1)) :: .string lb :: .slice (some pa) ((al.take 25).length) c :: iN .i64 i :: .pointer (some (pa.add (i * 3))) :: .pointer (some ((pa.add (i * 3)).add 1)) :: .string lb :: iN .i64 lb.size :: iN .i64 (min lb.size 20) :: .string (lb.extract 0 (min lb.size 20)) :: .slice o9 (txl ps (min ps.length 6)).length c9 :: .tuple #[.string ({ data := #[] }), iN .i64 2] :: .string ({ data := #[] }) :: iN .i64 2 :: u19 132 :: u19 133 :: u19 134 :: u19 135 :: u19 136 :: u19 137 :: u19 138 :: u19 139 :: u19 140 :: u19 141 :: u19 142 :: u19 143 :: u19 144 :: u19 145 :: u19 146 :: u19 147 :: u19 148 :: u19 149 :: u19 150 :: u19 151 :: u19 152 :: u19 153 :: u19 154 :: u19 155 :: u19 156 :: u19 157 :: u19 158 :: u19 159 :: u19 160 :: u19 161 :: u19 162 :: u19 163 :: u19 164 :: u19 165 :: u19 166 :: u19 167 :: u19 168 :: u19 169 :: u19 170 :: u19 171 :: u19 172 :: List.replicate 9 un).toArray, []⟩ ∧ Row 69 1 (.slice tp56 es.length tc57) es.length (es.map ev) Lr58 ∧ HA (zb w [] tb es) ((tc.q, 74, (tcell tc (nms es0) (.slice pcp es0.length ccp))) :: (q8, 26, #[.slice ro (es0.map trm).length rc]) :: ((Lt ++ RL) ++ ((tb.q, 74, tcell tb (nms es) (.slice tp56 es.length tc57)) :: (Lr58 ++ PB es)))) w') 27 (by kernel_rfl) (by kernel_rfl) (by kernel_rfl) (by kernel_rfl) (by kernel_rfl) (HA.base hA.drew) ?_ ?_
        ·have h52 := hA.drew
         refine wk_val (i := 0) (.pointer (some ⟨tb.q, 0, none⟩)) rfl rfl (by kernel_rfl) (by kernel_rfl) (fun _ _ => (by kernel_rfl)) ?_
         refine wk_val (i := 1) (.slice (some pa) ((al.take 25).length) c) rfl rfl (by kernel_rfl) (by kernel_rfl) (fun _ _ => (by kernel_rfl)) ?_
         refine wk_val (i := 2) (iN .i64 i) rfl rfl (by kernel_rfl) (by kernel_rfl) (fun _ _ => (by kernel_rfl)) ?_
         refine wk_val (i := 3) (.pointer (some (pa.add (i * 3)))) rfl rfl (by kernel_rfl) (by kernel_rfl) (fun _ _ => (run_addrg (a := pa) (n := (al.take 25).length) (m := c) (i := i) (sz := 3) Try.underlying22 Try.sizeOf56 (by omega))) ?_
         refine wk_val (i := 4) (.pointer (some (pa.add (i * 3)))) rfl rfl (by kernel_rfl) (by kernel_rfl) (fun _ _ => (by kernel_rfl)) ?_
         refine wk_val (i := 5) (.int .i64 z) rfl rfl (by kernel_rfl) (by kernel_rfl) (fun w' h' => run_load1g (a := (pa.add (i * 3))) Try.isAgg3 (got (w := w) h'.old.old d1)) ?_
         refine wk_val (i := 6) (.int .i64 (kz z)) rfl rfl (by kernel_rfl) (by kernel_rfl) (fun _ _ => (run_subz1 (z := z))) ?_
         refine wk_val (i := 7) (.slice (some pa) ((al.take 25).length) c) rfl rfl (by kernel_rfl) (by kernel_rfl) (fun _ _ => (by kernel_rfl)) ?_
         refine wk_val (i := 8) (iN .i64 i) rfl rfl (by kernel_rfl) (by kernel_rfl) (fun _ _ => (by kernel_rfl)) ?_
         refine wk_val (i := 9) (.pointer (some (pa.add (i * 3)))) rfl rfl (by kernel_rfl) (by kernel_rfl) (fun _ _ => (run_addrg (a := pa) (n := (al.take 25).length) (m := c) (i := i) (sz := 3) Try.underlying22 Try.sizeOf56 (by omega))) ?_
         refine wk_val (i := 10) (.pointer (some ((pa.add (i * 3)).add 1))) rfl rfl (by kernel_rfl) (by kernel_rfl) (fun _ _ => (by kernel_rfl)) ?_
         refine wk_val (i := 11) (.string lb) rfl rfl (by kernel_rfl) (by kernel_rfl) (fun w' h' => run_load1g (a := ((pa.add (i * 3)).add 1)) Try.isAgg9 (got (w := w) h'.old.old (by rw [Addr.add_addr]; exact d2))) ?_
         refine wk_val (i := 12) (.slice (some pa) ((al.take 25).length) c) rfl rfl (by kernel_rfl) (by kernel_rfl) (fun _ _ => (by kernel_rfl)) ?_
         refine wk_val (i := 13) (iN .i64 i) rfl rfl (by kernel_rfl) (by kernel_rfl) (fun _ _ => (by kernel_rfl)) ?_
         refine wk_val (i := 14) (.pointer (some (pa.add (i * 3)))) rfl rfl (by kernel_rfl) (by kernel_rfl) (fun _ _ => (run_addrg (a := pa) (n := (al.take 25).length) (m := c) (i := i) (sz := 3) Try.underlying22 Try.sizeOf56 (by omega))) ?_
         refine wk_val (i := 15) (.pointer (some ((pa.add (i * 3)).add 1))) rfl rfl (by kernel_rfl) (by kernel_rfl) (fun _ _ => (by kernel_rfl)) ?_
         refine wk_val (i := 16) (.string lb) rfl rfl (by kernel_rfl) (by kernel_rfl) (fun w' h' => run_load1g (a := ((pa.add (i * 3)).add 1)) Try.isAgg9 (got (w := w) h'.old.old (by rw [Addr.add_addr]; exact d2))) ?_
         refine wk_val (i := 17) (iN .i64 lb.size) rfl rfl (by kernel_rfl) (by kernel_rfl) (fun _ _ => (run_len (s := lb))) ?_
         refine wk_val (i := 18) (iN .i64 (min lb.size 20)) rfl rfl (by kernel_rfl) (by kernel_rfl) (fun _ _ => (run_min (i := lb.size) (j := 20))) ?_
         refine wk_val (i := 19) (.string (lb.extract 0 (min lb.size 20))) rfl rfl (by kernel_rfl) (by kernel_rfl) (fun _ _ => (run_cut_hi (s := lb) (b := min lb.size 20) (by omega))) ?_
         refine wk_val (i := 20) (.slice o9 (txl ps (min ps.length 6)).length c9) rfl rfl (by kernel_rfl) (by kernel_rfl) (fun _ _ => (by kernel_rfl)) ?_
         refine wk_one 21 (by kernel_rfl) ?_
         refine ef_callx rfl (by kernel_rfl) h52 enter18 #[.pointer (some ⟨tb.q, 0, none⟩), .int .i64 (kz z), .string (lb.extract 0 (min lb.size 20)), .slice o9 (txl ps (min ps.length 6)).length c9] (by kernel_rfl) (fun w53 h54 => Make_arg (TH.cl ((tc.q, 74, (tcell tc (nms es0) (.slice pcp es0.length ccp))) :: (q8, 26, #[.slice ro (es0.map trm).length rc]) :: (Lt ++ RL)) hR h54) (kz z) (lb.extract 0 (min lb.size 20)) (txl ps (min ps.length 6)) o9 c9 hmk) ?_
         rintro w53 h54 _ w55 ⟨rfl, hT1⟩
         obtain ⟨tp56, tc57, Lr58, hR59, h60⟩ := TH.op hT1
         have h61 : HA (zb w [] tb es) ((tc.q, 74, (tcell tc (nms es0) (.slice pcp es0.length ccp))) :: (q8, 26, #[.slice ro (es0.map trm).length rc]) :: ((Lt ++ RL) ++ ((tb.q, 74, tcell tb (nms es) (.slice tp56 es.length tc57)) :: (Lr58 ++ PB es)))) w55 := h60
         refine ⟨_, rfl, (HA.base h61), ?_⟩
         refine wk_val (i := 22) (.tuple #[.string ({ data := #[] }), iN .i64 2]) rfl rfl (by kernel_rfl) (by kernel_rfl) (fun _ _ => (by kernel_rfl)) ?_
         refine wk_val (i := 23) (.string ({ data := #[] })) rfl rfl (by kernel_rfl) (by kernel_rfl) (fun _ _ => (by kernel_rfl)) ?_
         refine wk_val (i := 24) (iN .i64 2) rfl rfl (by kernel_rfl) (by kernel_rfl) (fun _ _ => (by kernel_rfl)) ?_
         refine wk_val (i := 25) (.string ({ data := #[] })) rfl rfl (by kernel_rfl) (by kernel_rfl) (fun _ _ => (by kernel_rfl)) ?_
         refine wk_val (i := 26) (iN .i64 2) rfl rfl (by kernel_rfl) (by kernel_rfl) (fun _ _ => (by kernel_rfl)) ?_
         refine wk_end fun w62 hbx hsx => ?_
         have h63 := HA.keep _ _ h61 hbx
         exact ⟨tp56, tc57, Lr58, by kernel_rfl, hR59, h63⟩
        ·rintro _ w64 ⟨tp56, tc57, Lr58, rfl, hR59, h65⟩
         refine then_at rfl ?_
         refine zsr ?_
         refine zwv (.pointer (some ⟨tb.q, 0, none⟩)) ?_
         refine zwc h65 enter20 (Len_any (t := tb) (n := nms es) (p := tp56) (c := tc57) (h65.blk (tb.q, 74, tcell tb (nms es) (.slice tp56 es.length tc57)) (by simp))) ?_
         intro w66 h67
         refine zwv (iN .i64 es.length) ?_
         refine znt ?_
         refine wp_seq ?_
         refine wp_region_wk (HA (bs w) []) (fun A w' => ∃ (tp72 : Option Addr) (tc73 : Nat) (Lr74 : BL), A = ⟨(.slice (some pa) ((al.take 25).length) c :: un :: u19 2 :: pt tb.q :: pt q8 :: .bool true :: iN .i64 es0.length :: pt tc.q :: iN .i64 i :: .slice o9 (txl ps (min ps.length 6)).length c9 :: .string (txw ps (min ps.length 6)) :: .bool false :: iN .i64 ((txl ps (min ps.length 6)).length) :: u19 13 :: u19 14 :: .string ({ data := #[] }) :: iN .i64 2 :: iN .i64 es.length :: .string ({ data := #[] }) :: iN .i64 2 :: .slice (some pa) al.length c :: .slice (some pa) al.length c :: iN .i64 al.length :: iN .i64 (min al.length 25) :: .slice (some pa) ((al.take 25).length) c :: .tuple #[pt tb.q, .agg #[.slice ro (es0.map trm).length rc], .bool true] :: .slice (some pa) ((al.take 25).length) c :: .tuple #[pt tb.q, .agg #[.slice ro (es0.map trm).length rc], .bool true] :: pt tb.q :: .agg #[.slice ro (es0.map trm).length rc] :: .bool true :: .bool true :: .bool false :: pt tb.q :: iN .i64 es0.length :: pt tb.q :: pt tc.q :: pt tc.q :: .bool false :: .bool false :: pt tc.q :: iN .i64 es0.length :: iN .i64 es0.length :: .bool false :: .bool false :: iN .i64 i :: .slice (some pa) ((al.take 25).length) c :: iN .i64 ((al.take 25).length) :: .bool true :: u19 49 :: u19 50 :: .tuple #[.slice o9 (txl ps (min ps.length 6)).length c9, .string (txw ps (min ps.length 6))] :: .slice (some pa) ((al.take 25).length) c :: iN .i64 i :: .pointer (some (pa.add (i * 3))) :: .pointer (some ((pa.add (i * 3)).add 2)) :: .slice po ps.length pc :: .tuple #[.slice o9 (txl ps (min ps.length 6)).length c9, .string (txw ps (min ps.length 6))] :: .slice o9 (txl ps (min ps.length 6)).length c9 :: .string (txw ps (min ps.length 6)) :: pt tb.q :: .string (txw ps (min ps.length 6)) :: .bool false :: iN .i64 ((txl ps (min ps.length 6)).length) :: .slice o9 (txl ps (min ps.length 6)).length c9 :: iN .i64 ((txl ps (min ps.length 6)).length) :: .bool false :: u25 67 :: u25 68 :: u25 69 :: u25 70 :: u25 71 :: u25 72 :: u25 73 :: u25 74 :: u25 75 :: u25 76 :: u25 77 :: .bool false :: .slice (some pa) ((al.take 25).length) c :: iN .i64 i :: .pointer (some (pa.add (i * 3))) :: .pointer (some (pa.add (i * 3))) :: .int .i64 z :: .bool false :: u19 85 :: u19 86 :: u19 87 :: u19 88 :: u19 89 :: u19 90 :: u19 91 :: u19 92 :: u19 93 :: u19 94 :: u19 95 :: u19 96 :: u19 97 :: u19 98 :: u19 99 :: u19 100 :: .slice (some pa) ((al.take 25).length) c :: iN .i64 i :: .pointer (some (pa.add (i * 3))) :: .pointer (some (pa.add (i * 3))) :: .int .i64 z :: .bool true :: .tuple #[.string ({ data := #[] }), iN .i64 2] :: pt tb.q :: .slice (some pa) ((al.take 25).length) c :: iN .i64 i :: .pointer (some (pa.add (i * 3))) :: .pointer (some (pa.add (i * 3))) :: .int .i64 z :: .int .i64 (kz z) :: .slice (some pa) ((al.take 25).length) c :: iN .i64 i :: .pointer (some (pa.add (i * 3))) :: .pointer (some ((pa.add (i * 3)).add 1)) :: .string lb :: .slice (some pa) ((al.take 25).length) c :: iN .i64 i :: .pointer (some (pa.add (i * 3))) :: .pointer (some ((pa.add (i * 3)).add 1)) :: .string lb :: iN .i64 lb.size :: iN .i64 (min lb.size 20) :: .string (lb.extract 0 (min lb.size 20)) :: .slice o9 (txl ps (min ps.length 6)).length c9 :: .tuple #[.string ({ data := #[] }), iN .i64 2] :: .string ({ data := #[] }) :: iN .i64 2 :: pt tb.q :: iN .i64 es.length :: .tuple #[.string ({ data := #[] }), iN .i64 2] :: pt tb.q :: .slice (some pa) ((al.take 25).length) c :: iN .i64 i :: .pointer (some (pa.add (i * 3))) :: .pointer (some (pa.add (i * 3))) :: .int .i64 z :: .int .i64 (kz z) :: .slice (some pa) ((al.take 25).length) c :: iN .i64 i :: .pointer (some (pa.add (i * 3))) :: .pointer (some ((pa.add (i * 3)).add 1)) :: .string lb :: .slice (some pa) ((al.take 25).length) c :: iN .i64 i :: .pointer (some (pa.add (i * 3))) :: .pointer (some ((pa.add (i * 3)).add 1)) :: .string lb :: iN .i64 lb.size :: iN .i64 (min lb.size 20) :: .string (lb.extract 0 (min lb.size 20)) :: .slice o9 (txl ps (min ps.length 6)).length c9 :: .tuple #[.string ({ data := #[] }), iN .i64 2] :: .string ({ data := #[] }) :: iN .i64 2 :: u19 159 :: u19 160 :: u19 161 :: u19 162 :: u19 163 :: u19 164 :: u19 165 :: u19 166 :: u19 167 :: u19 168 :: u19 169 :: u19 170 :: u19 171 :: u19 172 :: List.replicate 9 un).toArray, []⟩ ∧ Row 69 1 (.slice tp72 es.length tc73) es.length (es.map ev) Lr74 ∧ HA (zb w [] tb es) ((tc.q, 74, (tcell tc (nms es0) (.slice pcp es0.length ccp))) :: (q8, 26, #[.slice ro (es0.map trm).length rc]) :: ((Lt ++ RL) ++ ((tb.q, 74, tcell tb (nms es) (.slice tp72 es.length tc73)) :: (Lr74 ++ PB es)))) w') 27 (by kernel_rfl) (by kernel_rfl) (by kernel_rfl) (by kernel_rfl) (by kernel_rfl) (HA.base h67.drew) ?_ ?_
         ·have h68 := h67.drew
          refine wk_val (i := 0) (.pointer (some ⟨tb.q, 0, none⟩)) rfl rfl (by kernel_rfl) (by kernel_rfl) (fun _ _ => (by kernel_rfl)) ?_
          refine wk_val (i := 1) (.slice (some pa) ((al.take 25).length) c) rfl rfl (by kernel_rfl) (by kernel_rfl) (fun _ _ => (by kernel_rfl)) ?_
          refine wk_val (i := 2) (iN .i64 i) rfl rfl (by kernel_rfl) (by kernel_rfl) (fun _ _ => (by kernel_rfl)) ?_
          refine wk_val (i := 3) (.pointer (some (pa.add (i * 3)))) rfl rfl (by kernel_rfl) (by kernel_rfl) (fun _ _ => (run_addrg (a := pa) (n := (al.take 25).length) (m := c) (i := i) (sz := 3) Try.underlying22 Try.sizeOf56 (by omega))) ?_
          refine wk_val (i := 4) (.pointer (some (pa.add (i * 3)))) rfl rfl (by kernel_rfl) (by kernel_rfl) (fun _ _ => (by kernel_rfl)) ?_
          refine wk_val (i := 5) (.int .i64 z) rfl rfl (by kernel_rfl) (by kernel_rfl) (fun w' h' => run_load1g (a := (pa.add (i * 3))) Try.isAgg3 (got (w := w) h'.old.old d1)) ?_
          refine wk_val (i := 6) (.int .i64 (kz z)) rfl rfl (by kernel_rfl) (by kernel_rfl) (fun _ _ => (run_subz1 (z := z))) ?_
          refine wk_val (i := 7) (.slice (some pa) ((al.take 25).length) c) rfl rfl (by kernel_rfl) (by kernel_rfl) (fun _ _ => (by kernel_rfl)) ?_
          refine wk_val (i := 8) (iN .i64 i) rfl rfl (by kernel_rfl) (by kernel_rfl) (fun _ _ => (by kernel_rfl)) ?_
          refine wk_val (i := 9) (.pointer (some (pa.add (i * 3)))) rfl rfl (by kernel_rfl) (by kernel_rfl) (fun _ _ => (run_addrg (a := pa) (n := (al.take 25).length) (m := c) (i := i) (sz := 3) Try.underlying22 Try.sizeOf56 (by omega))) ?_
          refine wk_val (i := 10) (.pointer (some ((pa.add (i * 3)).add 1))) rfl rfl (by kernel_rfl) (by kernel_rfl) (fun _ _ => (by kernel_rfl)) ?_
          refine wk_val (i := 11) (.string lb) rfl rfl (by kernel_rfl) (by kernel_rfl) (fun w' h' => run_load1g (a := ((pa.add (i * 3)).add 1)) Try.isAgg9 (got (w := w) h'.old.old (by rw [Addr.add_addr]; exact d2))) ?_
          refine wk_val (i := 12) (.slice (some pa) ((al.take 25).length) c) rfl rfl (by kernel_rfl) (by kernel_rfl) (fun _ _ => (by kernel_rfl)) ?_
          refine wk_val (i := 13) (iN .i64 i) rfl rfl (by kernel_rfl) (by kernel_rfl) (fun _ _ => (by kernel_rfl)) ?_
          refine wk_val (i := 14) (.pointer (some (pa.add (i * 3)))) rfl rfl (by kernel_rfl) (by kernel_rfl) (fun _ _ => (run_addrg (a := pa) (n := (al.take 25).length) (m := c) (i := i) (sz := 3) Try.underlying22 Try.sizeOf56 (by omega))) ?_
          refine wk_val (i := 15) (.pointer (some ((pa.add (i * 3)).add 1))) rfl rfl (by kernel_rfl) (by kernel_rfl) (fun _ _ => (by kernel_rfl)) ?_
          refine wk_val (i := 16) (.string lb) rfl rfl (by kernel_rfl) (by kernel_rfl) (fun w' h' => run_load1g (a := ((pa.add (i * 3)).add 1)) Try.isAgg9 (got (w := w) h'.old.old (by rw [Addr.add_addr]; exact d2))) ?_
          refine wk_val (i := 17) (iN .i64 lb.size) rfl rfl (by kernel_rfl) (by kernel_rfl) (fun _ _ => (run_len (s := lb))) ?_
          refine wk_val (i := 18) (iN .i64 (min lb.size 20)) rfl rfl (by kernel_rfl) (by kernel_rfl) (fun _ _ => (run_min (i := lb.size) (j := 20))) ?_
          refine wk_val (i := 19) (.string (lb.extract 0 (min lb.size 20))) rfl rfl (by kernel_rfl) (by kernel_rfl) (fun _ _ => (run_cut_hi (s := lb) (b := min lb.size 20) (by omega))) ?_
          refine wk_val (i := 20) (.slice o9 (txl ps (min ps.length 6)).length c9) rfl rfl (by kernel_rfl) (by kernel_rfl) (fun _ _ => (by kernel_rfl)) ?_
          refine wk_one 21 (by kernel_rfl) ?_
          refine ef_callx rfl (by kernel_rfl) h68 enter18 #[.pointer (some ⟨tb.q, 0, none⟩), .int .i64 (kz z), .string (lb.extract 0 (min lb.size 20)), .slice o9 (txl ps (min ps.length 6)).length c9] (by kernel_rfl) (fun w69 h70 => Make_arg (TH.cl ((tc.q, 74, (tcell tc (nms es0) (.slice pcp es0.length ccp))) :: (q8, 26, #[.slice ro (es0.map trm).length rc]) :: (Lt ++ RL)) hR59 h70) (kz z) (lb.extract 0 (min lb.size 20)) (txl ps (min ps.length 6)) o9 c9 hmk) ?_
          rintro w69 h70 _ w71 ⟨rfl, hT2⟩
          obtain ⟨tp72, tc73, Lr74, hR75, h76⟩ := TH.op hT2
          have h77 : HA (zb w [] tb es) ((tc.q, 74, (tcell tc (nms es0) (.slice pcp es0.length ccp))) :: (q8, 26, #[.slice ro (es0.map trm).length rc]) :: ((Lt ++ RL) ++ ((tb.q, 74, tcell tb (nms es) (.slice tp72 es.length tc73)) :: (Lr74 ++ PB es)))) w71 := h76
          refine ⟨_, rfl, (HA.base h77), ?_⟩
          refine wk_val (i := 22) (.tuple #[.string ({ data := #[] }), iN .i64 2]) rfl rfl (by kernel_rfl) (by kernel_rfl) (fun _ _ => (by kernel_rfl)) ?_
          refine wk_val (i := 23) (.string ({ data := #[] })) rfl rfl (by kernel_rfl) (by kernel_rfl) (fun _ _ => (by kernel_rfl)) ?_
          refine wk_val (i := 24) (iN .i64 2) rfl rfl (by kernel_rfl) (by kernel_rfl) (fun _ _ => (by kernel_rfl)) ?_
          refine wk_val (i := 25) (.string ({ data := #[] })) rfl rfl (by kernel_rfl) (by kernel_rfl) (fun _ _ => (by kernel_rfl)) ?_
          refine wk_val (i := 26) (iN .i64 2) rfl rfl (by kernel_rfl) (by kernel_rfl) (fun _ _ => (by kernel_rfl)) ?_
          refine wk_end fun w78 hbx hsx => ?_
          have h79 := HA.keep _ _ h77 hbx
          exact ⟨tp72, tc73, Lr74, by kernel_rfl, hR75, h79⟩
         ·rintro _ w80 ⟨tp72, tc73, Lr74, rfl, hR75, h81⟩
          refine then_at rfl ?_
          refine zsr ?_
          refine zwv (.string ({ data := #[] })) ?_
          refine zwv (.string ({ data := #[] })) ?_
          refine zwu (run_nes (s := { data := #[] }) (t := { data := #[] }) false (decide_eq_true rfl)) ?_
          refine zwv (.bool false) ?_
          refine zwv (iN .i64 2) ?_
          refine zwv (iN .i64 2) ?_
          refine zwv (.bool false) ?_
          refine zwv (.bool false) ?_
          refine zwv (.bool false) ?_
          refine zwv (.pointer (some ⟨tb.q, 0, none⟩)) ?_
          refine zwc h81 enter20 (Len_any (t := tb) (n := nms es) (p := tp72) (c := tc73) (h81.blk (tb.q, 74, tcell tb (nms es) (.slice tp72 es.length tc73)) (by simp))) ?_
          intro w82 h83
          refine zwv (iN .i64 es.length) ?_
          refine zwu (run_nei (k := .i64) (a := es.length) (b := es.length) false (by simp)) ?_
          refine zwv (.bool false) ?_
          refine znt ?_
          refine zcf ?_
          refine wp_skip ?_
          refine block_normal ?_
          refine then_at rfl ?_
          refine wl_region ?_
          refine zwv (iN .i64 i) ?_
          refine zwu (run_add (k := .i64) (a := i) (b := 1) (by simp only [top]; omega)) ?_
          refine zwv (iN .i64 (i + 1)) ?_
          refine wl_nil ?_
          have h84 := HA.sub h83 (List.Sublist.cons_cons _ (List.Sublist.cons_cons _ (List.Sublist.append_right (List.sublist_append_right Lt _) _)))
          exact then_I (zex (⟨es, tp72, tc73, Lr74, hI, by omega, hR75, h84⟩))
       ·obtain ⟨kn, hkn, hk3, hk31, hk42, hn100, hk6, hk7⟩ := mayB_nat hmk
        rw [hkn] at hmk
        refine wp_region_wk (HA (bs w) []) (fun A w' => ∃ (x1 : Nat) (es1 : List Ent) (tp89 : Option Addr) (tc90 : Nat) (Lr91 : BL), A = ⟨(.slice (some pa) ((al.take 25).length) c :: un :: u19 2 :: pt tb.q :: pt q8 :: .bool true :: iN .i64 es0.length :: pt tc.q :: iN .i64 i :: .slice o9 (txl ps (min ps.length 6)).length c9 :: .string (txw ps (min ps.length 6)) :: .bool false :: iN .i64 ((txl ps (min ps.length 6)).length) :: u19 13 :: u19 14 :: .string (txt x1) :: iN .i64 0 :: u19 17 :: u19 18 :: u19 19 :: .slice (some pa) al.length c :: .slice (some pa) al.length c :: iN .i64 al.length :: iN .i64 (min al.length 25) :: .slice (some pa) ((al.take 25).length) c :: .tuple #[pt tb.q, .agg #[.slice ro (es0.map trm).length rc], .bool true] :: .slice (some pa) ((al.take 25).length) c :: .tuple #[pt tb.q, .agg #[.slice ro (es0.map trm).length rc], .bool true] :: pt tb.q :: .agg #[.slice ro (es0.map trm).length rc] :: .bool true :: .bool true :: .bool false :: pt tb.q :: iN .i64 es0.length :: pt tb.q :: pt tc.q :: pt tc.q :: .bool false :: .bool false :: pt tc.q :: iN .i64 es0.length :: iN .i64 es0.length :: .bool false :: .bool false :: iN .i64 i :: .slice (some pa) ((al.take 25).length) c :: iN .i64 ((al.take 25).length) :: .bool true :: u19 49 :: u19 50 :: .tuple #[.slice o9 (txl ps (min ps.length 6)).length c9, .string (txw ps (min ps.length 6))] :: .slice (some pa) ((al.take 25).length) c :: iN .i64 i :: .pointer (some (pa.add (i * 3))) :: .pointer (some ((pa.add (i * 3)).add 2)) :: .slice po ps.length pc :: .tuple #[.slice o9 (txl ps (min ps.length 6)).length c9, .string (txw ps (min ps.length 6))] :: .slice o9 (txl ps (min ps.length 6)).length c9 :: .string (txw ps (min ps.length 6)) :: pt tb.q :: .string (txw ps (min ps.length 6)) :: .bool false :: iN .i64 ((txl ps (min ps.length 6)).length) :: .slice o9 (txl ps (min ps.length 6)).length c9 :: iN .i64 ((txl ps (min ps.length 6)).length) :: .bool false :: u25 67 :: u25 68 :: u25 69 :: u25 70 :: u25 71 :: u25 72 :: u25 73 :: u25 74 :: u25 75 :: u25 76 :: u25 77 :: .bool false :: .slice (some pa) ((al.take 25).length) c :: iN .i64 i :: .pointer (some (pa.add (i * 3))) :: .pointer (some (pa.add (i * 3))) :: .int .i64 z :: .bool false :: u19 85 :: u19 86 :: u19 87 :: u19 88 :: u19 89 :: u19 90 :: u19 91 :: u19 92 :: u19 93 :: u19 94 :: u19 95 :: u19 96 :: u19 97 :: u19 98 :: u19 99 :: u19 100 :: .slice (some pa) ((al.take 25).length) c :: iN .i64 i :: .pointer (some (pa.add (i * 3))) :: .pointer (some (pa.add (i * 3))) :: .int .i64 z :: .bool true :: .tuple #[.string (txt x1), iN .i64 0] :: pt tb.q :: .slice (some pa) ((al.take 25).length) c :: iN .i64 i :: .pointer (some (pa.add (i * 3))) :: .pointer (some (pa.add (i * 3))) :: .int .i64 z :: iN .i64 kn :: .slice (some pa) ((al.take 25).length) c :: iN .i64 i :: .pointer (some (pa.add (i * 3))) :: .pointer (some ((pa.add (i * 3)).add 1)) :: .string lb :: .slice (some pa) ((al.take 25).length) c :: iN .i64 i :: .pointer (some (pa.add (i * 3))) :: .pointer (some ((pa.add (i * 3)).add 1)) :: .string lb :: iN .i64 lb.size :: iN .i64 (min lb.size 20) :: .string (lb.extract 0 (min lb.size 20)) :: .slice o9 (txl ps (min ps.length 6)).length c9 :: .tuple #[.string (txt x1), iN .i64 0] :: .string (txt x1) :: iN .i64 0 :: u19 132 :: u19 133 :: u19 134 :: u19 135 :: u19 136 :: u19 137 :: u19 138 :: u19 139 :: u19 140 :: u19 141 :: u19 142 :: u19 143 :: u19 144 :: u19 145 :: u19 146 :: u19 147 :: u19 148 :: u19 149 :: u19 150 :: u19 151 :: u19 152 :: u19 153 :: u19 154 :: u19 155 :: u19 156 :: u19 157 :: u19 158 :: u19 159 :: u19 160 :: u19 161 :: u19 162 :: u19 163 :: u19 164 :: u19 165 :: u19 166 :: u19 167 :: u19 168 :: u19 169 :: u19 170 :: u19 171 :: u19 172 :: List.replicate 9 un).toArray, []⟩ ∧ JO es kn (lb.extract 0 (min lb.size 20)) (txl ps (min ps.length 6)) x1 es1 ∧ Row 69 1 (.slice tp89 es1.length tc90) es1.length (es1.map ev) Lr91 ∧ HA (zb w [] tb es1) ((tc.q, 74, (tcell tc (nms es0) (.slice pcp es0.length ccp))) :: (q8, 26, #[.slice ro (es0.map trm).length rc]) :: ((Lt ++ RL) ++ ((tb.q, 74, tcell tb (nms es1) (.slice tp89 es1.length tc90)) :: (Lr91 ++ PB es1)))) w') 27 (by kernel_rfl) (by kernel_rfl) (by kernel_rfl) (by kernel_rfl) (by kernel_rfl) (HA.base hA.drew) ?_ ?_
        ·have h85 := hA.drew
         refine wk_val (i := 0) (.pointer (some ⟨tb.q, 0, none⟩)) rfl rfl (by kernel_rfl) (by kernel_rfl) (fun _ _ => (by kernel_rfl)) ?_
         refine wk_val (i := 1) (.slice (some pa) ((al.take 25).length) c) rfl rfl (by kernel_rfl) (by kernel_rfl) (fun _ _ => (by kernel_rfl)) ?_
         refine wk_val (i := 2) (iN .i64 i) rfl rfl (by kernel_rfl) (by kernel_rfl) (fun _ _ => (by kernel_rfl)) ?_
         refine wk_val (i := 3) (.pointer (some (pa.add (i * 3)))) rfl rfl (by kernel_rfl) (by kernel_rfl) (fun _ _ => (run_addrg (a := pa) (n := (al.take 25).length) (m := c) (i := i) (sz := 3) Try.underlying22 Try.sizeOf56 (by omega))) ?_
         refine wk_val (i := 4) (.pointer (some (pa.add (i * 3)))) rfl rfl (by kernel_rfl) (by kernel_rfl) (fun _ _ => (by kernel_rfl)) ?_
         refine wk_val (i := 5) (.int .i64 z) rfl rfl (by kernel_rfl) (by kernel_rfl) (fun w' h' => run_load1g (a := (pa.add (i * 3))) Try.isAgg3 (got (w := w) h'.old.old d1)) ?_
         refine wk_val (i := 6) (iN .i64 kn) rfl rfl (by kernel_rfl) (by kernel_rfl) (fun _ _ => (run_subz1k (z := z) hkn)) ?_
         refine wk_val (i := 7) (.slice (some pa) ((al.take 25).length) c) rfl rfl (by kernel_rfl) (by kernel_rfl) (fun _ _ => (by kernel_rfl)) ?_
         refine wk_val (i := 8) (iN .i64 i) rfl rfl (by kernel_rfl) (by kernel_rfl) (fun _ _ => (by kernel_rfl)) ?_
         refine wk_val (i := 9) (.pointer (some (pa.add (i * 3)))) rfl rfl (by kernel_rfl) (by kernel_rfl) (fun _ _ => (run_addrg (a := pa) (n := (al.take 25).length) (m := c) (i := i) (sz := 3) Try.underlying22 Try.sizeOf56 (by omega))) ?_
         refine wk_val (i := 10) (.pointer (some ((pa.add (i * 3)).add 1))) rfl rfl (by kernel_rfl) (by kernel_rfl) (fun _ _ => (by kernel_rfl)) ?_
         refine wk_val (i := 11) (.string lb) rfl rfl (by kernel_rfl) (by kernel_rfl) (fun w' h' => run_load1g (a := ((pa.add (i * 3)).add 1)) Try.isAgg9 (got (w := w) h'.old.old (by rw [Addr.add_addr]; exact d2))) ?_
         refine wk_val (i := 12) (.slice (some pa) ((al.take 25).length) c) rfl rfl (by kernel_rfl) (by kernel_rfl) (fun _ _ => (by kernel_rfl)) ?_
         refine wk_val (i := 13) (iN .i64 i) rfl rfl (by kernel_rfl) (by kernel_rfl) (fun _ _ => (by kernel_rfl)) ?_
         refine wk_val (i := 14) (.pointer (some (pa.add (i * 3)))) rfl rfl (by kernel_rfl) (by kernel_rfl) (fun _ _ => (run_addrg (a := pa) (n := (al.take 25).length) (m := c) (i := i) (sz := 3) Try.underlying22 Try.sizeOf56 (by omega))) ?_
         refine wk_val (i := 15) (.pointer (some ((pa.add (i * 3)).add 1))) rfl rfl (by kernel_rfl) (by kernel_rfl) (fun _ _ => (by kernel_rfl)) ?_
         refine wk_val (i := 16) (.string lb) rfl rfl (by kernel_rfl) (by kernel_rfl) (fun w' h' => run_load1g (a := ((pa.add (i * 3)).add 1)) Try.isAgg9 (got (w := w) h'.old.old (by rw [Addr.add_addr]; exact d2))) ?_
         refine wk_val (i := 17) (iN .i64 lb.size) rfl rfl (by kernel_rfl) (by kernel_rfl) (fun _ _ => (run_len (s := lb))) ?_
         refine wk_val (i := 18) (iN .i64 (min lb.size 20)) rfl rfl (by kernel_rfl) (by kernel_rfl) (fun _ _ => (run_min (i := lb.size) (j := 20))) ?_
         refine wk_val (i := 19) (.string (lb.extract 0 (min lb.size 20))) rfl rfl (by kernel_rfl) (by kernel_rfl) (fun _ _ => (run_cut_hi (s := lb) (b := min lb.size 20) (by omega))) ?_
         refine wk_val (i := 20) (.slice o9 (txl ps (min ps.length 6)).length c9) rfl rfl (by kernel_rfl) (by kernel_rfl) (fun _ _ => (by kernel_rfl)) ?_
         refine wk_one 21 (by kernel_rfl) ?_
         refine ef_callx rfl (by kernel_rfl) h85 enter18 #[.pointer (some ⟨tb.q, 0, none⟩), iN .i64 kn, .string (lb.extract 0 (min lb.size 20)), .slice o9 (txl ps (min ps.length 6)).length c9] (by kernel_rfl) (fun w86 h87 => Make_ok (TH.cl ((tc.q, 74, (tcell tc (nms es0) (.slice pcp es0.length ccp))) :: (q8, 26, #[.slice ro (es0.map trm).length rc]) :: (Lt ++ RL)) hR h87) hI.wf kn (lb.extract 0 (min lb.size 20)) (txl ps (min ps.length 6)) o9 c9 (hpre.imp id (fun ⟨pq, cs, e1, e2, e3⟩ => ⟨pq, cs, e1, e2, by simp [e3]⟩)) (by omega) hmk (by rw [ByteArray.size_extract]; omega) (fun i => by have := txl_get ps (min ps.length 6) i; omega) (by rw [txl_len]; omega) (fun e => (hk42 e).1)) ?_
         rintro w86 h87 _ w88 ⟨x1, es1, hJ, rfl, hT1⟩
         obtain ⟨tp89, tc90, Lr91, hR92, h93⟩ := TH.op hT1
         have h94 : HA (zb w [] tb es1) ((tc.q, 74, (tcell tc (nms es0) (.slice pcp es0.length ccp))) :: (q8, 26, #[.slice ro (es0.map trm).length rc]) :: ((Lt ++ RL) ++ ((tb.q, 74, tcell tb (nms es1) (.slice tp89 es1.length tc90)) :: (Lr91 ++ PB es1)))) w88 := h93
         refine ⟨_, rfl, (HA.base h94), ?_⟩
         refine wk_val (i := 22) (.tuple #[.string (txt x1), iN .i64 0]) rfl rfl (by kernel_rfl) (by kernel_rfl) (fun _ _ => (by kernel_rfl)) ?_
         refine wk_val (i := 23) (.string (txt x1)) rfl rfl (by kernel_rfl) (by kernel_rfl) (fun _ _ => (by kernel_rfl)) ?_
         refine wk_val (i := 24) (iN .i64 0) rfl rfl (by kernel_rfl) (by kernel_rfl) (fun _ _ => (by kernel_rfl)) ?_
         refine wk_val (i := 25) (.string (txt x1)) rfl rfl (by kernel_rfl) (by kernel_rfl) (fun _ _ => (by kernel_rfl)) ?_
         refine wk_val (i := 26) (iN .i64 0) rfl rfl (by kernel_rfl) (by kernel_rfl) (fun _ _ => (by kernel_rfl)) ?_
         refine wk_end fun w95 hbx hsx => ?_
         have h96 := HA.keep _ _ h94 hbx
         exact ⟨x1, es1, tp89, tc90, Lr91, by kernel_rfl, hJ, hR92, h96⟩
        ·rintro _ w97 ⟨x1, es1, tp89, tc90, Lr91, rfl, hJ, hR92, h98⟩
         obtain ⟨_, _, hI1⟩ := mk_same hI hJ (by rw [txl_len]; omega) hn100 (fun i => by have := txl_get ps (min ps.length 6) i; omega) hk3 (fun e => hk31 e) (fun e => (hk42 e).1) (fun e => (hk42 e).2) hk6 hk7 (by rw [ByteArray.size_extract]; omega)
         have hl1 : es1.length ≤ es.length + 7 := by have := hJ.lt.2; rw [txl_len] at this; omega
         refine then_at rfl ?_
         refine zsr ?_
         refine zwv (.pointer (some ⟨tb.q, 0, none⟩)) ?_
         refine zwc h98 enter20 (Len_any (t := tb) (n := nms es1) (p := tp89) (c := tc90) (h98.blk (tb.q, 74, tcell tb (nms es1) (.slice tp89 es1.length tc90)) (by simp))) ?_
         intro w99 h100
         refine zwv (iN .i64 es1.length) ?_
         refine znt ?_
         refine wp_seq ?_
         refine wp_region_wk (HA (bs w) []) (fun A w' => ∃ (tp105 : Option Addr) (tc106 : Nat) (Lr107 : BL), A = ⟨(.slice (some pa) ((al.take 25).length) c :: un :: u19 2 :: pt tb.q :: pt q8 :: .bool true :: iN .i64 es0.length :: pt tc.q :: iN .i64 i :: .slice o9 (txl ps (min ps.length 6)).length c9 :: .string (txw ps (min ps.length 6)) :: .bool false :: iN .i64 ((txl ps (min ps.length 6)).length) :: u19 13 :: u19 14 :: .string (txt x1) :: iN .i64 0 :: iN .i64 es1.length :: .string (txt x1) :: iN .i64 0 :: .slice (some pa) al.length c :: .slice (some pa) al.length c :: iN .i64 al.length :: iN .i64 (min al.length 25) :: .slice (some pa) ((al.take 25).length) c :: .tuple #[pt tb.q, .agg #[.slice ro (es0.map trm).length rc], .bool true] :: .slice (some pa) ((al.take 25).length) c :: .tuple #[pt tb.q, .agg #[.slice ro (es0.map trm).length rc], .bool true] :: pt tb.q :: .agg #[.slice ro (es0.map trm).length rc] :: .bool true :: .bool true :: .bool false :: pt tb.q :: iN .i64 es0.length :: pt tb.q :: pt tc.q :: pt tc.q :: .bool false :: .bool false :: pt tc.q :: iN .i64 es0.length :: iN .i64 es0.length :: .bool false :: .bool false :: iN .i64 i :: .slice (some pa) ((al.take 25).length) c :: iN .i64 ((al.take 25).length) :: .bool true :: u19 49 :: u19 50 :: .tuple #[.slice o9 (txl ps (min ps.length 6)).length c9, .string (txw ps (min ps.length 6))] :: .slice (some pa) ((al.take 25).length) c :: iN .i64 i :: .pointer (some (pa.add (i * 3))) :: .pointer (some ((pa.add (i * 3)).add 2)) :: .slice po ps.length pc :: .tuple #[.slice o9 (txl ps (min ps.length 6)).length c9, .string (txw ps (min ps.length 6))] :: .slice o9 (txl ps (min ps.length 6)).length c9 :: .string (txw ps (min ps.length 6)) :: pt tb.q :: .string (txw ps (min ps.length 6)) :: .bool false :: iN .i64 ((txl ps (min ps.length 6)).length) :: .slice o9 (txl ps (min ps.length 6)).length c9 :: iN .i64 ((txl ps (min ps.length 6)).length) :: .bool false :: u25 67 :: u25 68 :: u25 69 :: u25 70 :: u25 71 :: u25 72 :: u25 73 :: u25 74 :: u25 75 :: u25 76 :: u25 77 :: .bool false :: .slice (some pa) ((al.take 25).length) c :: iN .i64 i :: .pointer (some (pa.add (i * 3))) :: .pointer (some (pa.add (i * 3))) :: .int .i64 z :: .bool false :: u19 85 :: u19 86 :: u19 87 :: u19 88 :: u19 89 :: u19 90 :: u19 91 :: u19 92 :: u19 93 :: u19 94 :: u19 95 :: u19 96 :: u19 97 :: u19 98 :: u19 99 :: u19 100 :: .slice (some pa) ((al.take 25).length) c :: iN .i64 i :: .pointer (some (pa.add (i * 3))) :: .pointer (some (pa.add (i * 3))) :: .int .i64 z :: .bool true :: .tuple #[.string (txt x1), iN .i64 0] :: pt tb.q :: .slice (some pa) ((al.take 25).length) c :: iN .i64 i :: .pointer (some (pa.add (i * 3))) :: .pointer (some (pa.add (i * 3))) :: .int .i64 z :: iN .i64 kn :: .slice (some pa) ((al.take 25).length) c :: iN .i64 i :: .pointer (some (pa.add (i * 3))) :: .pointer (some ((pa.add (i * 3)).add 1)) :: .string lb :: .slice (some pa) ((al.take 25).length) c :: iN .i64 i :: .pointer (some (pa.add (i * 3))) :: .pointer (some ((pa.add (i * 3)).add 1)) :: .string lb :: iN .i64 lb.size :: iN .i64 (min lb.size 20) :: .string (lb.extract 0 (min lb.size 20)) :: .slice o9 (txl ps (min ps.length 6)).length c9 :: .tuple #[.string (txt x1), iN .i64 0] :: .string (txt x1) :: iN .i64 0 :: pt tb.q :: iN .i64 es1.length :: .tuple #[.string (txt x1), iN .i64 0] :: pt tb.q :: .slice (some pa) ((al.take 25).length) c :: iN .i64 i :: .pointer (some (pa.add (i * 3))) :: .pointer (some (pa.add (i * 3))) :: .int .i64 z :: iN .i64 kn :: .slice (some pa) ((al.take 25).length) c :: iN .i64 i :: .pointer (some (pa.add (i * 3))) :: .pointer (some ((pa.add (i * 3)).add 1)) :: .string lb :: .slice (some pa) ((al.take 25).length) c :: iN .i64 i :: .pointer (some (pa.add (i * 3))) :: .pointer (some ((pa.add (i * 3)).add 1)) :: .string lb :: iN .i64 lb.size :: iN .i64 (min lb.size 20) :: .string (lb.extract 0 (min lb.size 20)) :: .slice o9 (txl ps (min ps.length 6)).length c9 :: .tuple #[.string (txt x1), iN .i64 0] :: .string (txt x1) :: iN .i64 0 :: u19 159 :: u19 160 :: u19 161 :: u19 162 :: u19 163 :: u19 164 :: u19 165 :: u19 166 :: u19 167 :: u19 168 :: u19 169 :: u19 170 :: u19 171 :: u19 172 :: List.replicate 9 un).toArray, []⟩ ∧ Row 69 1 (.slice tp105 es1.length tc106) es1.length (es1.map ev) Lr107 ∧ HA (zb w [] tb es1) ((tc.q, 74, (tcell tc (nms es0) (.slice pcp es0.length ccp))) :: (q8, 26, #[.slice ro (es0.map trm).length rc]) :: ((Lt ++ RL) ++ ((tb.q, 74, tcell tb (nms es1) (.slice tp105 es1.length tc106)) :: (Lr107 ++ PB es1)))) w') 27 (by kernel_rfl) (by kernel_rfl) (by kernel_rfl) (by kernel_rfl) (by kernel_rfl) (HA.base h100.drew) ?_ ?_
         ·have h101 := h100.drew
          refine wk_val (i := 0) (.pointer (some ⟨tb.q, 0, none⟩)) rfl rfl (by kernel_rfl) (by kernel_rfl) (fun _ _ => (by kernel_rfl)) ?_
          refine wk_val (i := 1) (.slice (some pa) ((al.take 25).length) c) rfl rfl (by kernel_rfl) (by kernel_rfl) (fun _ _ => (by kernel_rfl)) ?_
          refine wk_val (i := 2) (iN .i64 i) rfl rfl (by kernel_rfl) (by kernel_rfl) (fun _ _ => (by kernel_rfl)) ?_
          refine wk_val (i := 3) (.pointer (some (pa.add (i * 3)))) rfl rfl (by kernel_rfl) (by kernel_rfl) (fun _ _ => (run_addrg (a := pa) (n := (al.take 25).length) (m := c) (i := i) (sz := 3) Try.underlying22 Try.sizeOf56 (by omega))) ?_
          refine wk_val (i := 4) (.pointer (some (pa.add (i * 3)))) rfl rfl (by kernel_rfl) (by kernel_rfl) (fun _ _ => (by kernel_rfl)) ?_
          refine wk_val (i := 5) (.int .i64 z) rfl rfl (by kernel_rfl) (by kernel_rfl) (fun w' h' => run_load1g (a := (pa.add (i * 3))) Try.isAgg3 (got (w := w) h'.old.old d1)) ?_
          refine wk_val (i := 6) (iN .i64 kn) rfl rfl (by kernel_rfl) (by kernel_rfl) (fun _ _ => (run_subz1k (z := z) hkn)) ?_
          refine wk_val (i := 7) (.slice (some pa) ((al.take 25).length) c) rfl rfl (by kernel_rfl) (by kernel_rfl) (fun _ _ => (by kernel_rfl)) ?_
          refine wk_val (i := 8) (iN .i64 i) rfl rfl (by kernel_rfl) (by kernel_rfl) (fun _ _ => (by kernel_rfl)) ?_
          refine wk_val (i := 9) (.pointer (some (pa.add (i * 3)))) rfl rfl (by kernel_rfl) (by kernel_rfl) (fun _ _ => (run_addrg (a := pa) (n := (al.take 25).length) (m := c) (i := i) (sz := 3) Try.underlying22 Try.sizeOf56 (by omega))) ?_
          refine wk_val (i := 10) (.pointer (some ((pa.add (i * 3)).add 1))) rfl rfl (by kernel_rfl) (by kernel_rfl) (fun _ _ => (by kernel_rfl)) ?_
          refine wk_val (i := 11) (.string lb) rfl rfl (by kernel_rfl) (by kernel_rfl) (fun w' h' => run_load1g (a := ((pa.add (i * 3)).add 1)) Try.isAgg9 (got (w := w) h'.old.old (by rw [Addr.add_addr]; exact d2))) ?_
          refine wk_val (i := 12) (.slice (some pa) ((al.take 25).length) c) rfl rfl (by kernel_rfl) (by kernel_rfl) (fun _ _ => (by kernel_rfl)) ?_
          refine wk_val (i := 13) (iN .i64 i) rfl rfl (by kernel_rfl) (by kernel_rfl) (fun _ _ => (by kernel_rfl)) ?_
          refine wk_val (i := 14) (.pointer (some (pa.add (i * 3)))) rfl rfl (by kernel_rfl) (by kernel_rfl) (fun _ _ => (run_addrg (a := pa) (n := (al.take 25).length) (m := c) (i := i) (sz := 3) Try.underlying22 Try.sizeOf56 (by omega))) ?_
          refine wk_val (i := 15) (.pointer (some ((pa.add (i * 3)).add 1))) rfl rfl (by kernel_rfl) (by kernel_rfl) (fun _ _ => (by kernel_rfl)) ?_
          refine wk_val (i := 16) (.string lb) rfl rfl (by kernel_rfl) (by kernel_rfl) (fun w' h' => run_load1g (a := ((pa.add (i * 3)).add 1)) Try.isAgg9 (got (w := w) h'.old.old (by rw [Addr.add_addr]; exact d2))) ?_
          refine wk_val (i := 17) (iN .i64 lb.size) rfl rfl (by kernel_rfl) (by kernel_rfl) (fun _ _ => (run_len (s := lb))) ?_
          refine wk_val (i := 18) (iN .i64 (min lb.size 20)) rfl rfl (by kernel_rfl) (by kernel_rfl) (fun _ _ => (run_min (i := lb.size) (j := 20))) ?_
          refine wk_val (i := 19) (.string (lb.extract 0 (min lb.size 20))) rfl rfl (by kernel_rfl) (by kernel_rfl) (fun _ _ => (run_cut_hi (s := lb) (b := min lb.size 20) (by omega))) ?_
          refine wk_val (i := 20) (.slice o9 (txl ps (min ps.length 6)).length c9) rfl rfl (by kernel_rfl) (by kernel_rfl) (fun _ _ => (by kernel_rfl)) ?_
          refine wk_one 21 (by kernel_rfl) ?_
          refine ef_callx rfl (by kernel_rfl) h101 enter18 #[.pointer (some ⟨tb.q, 0, none⟩), iN .i64 kn, .string (lb.extract 0 (min lb.size 20)), .slice o9 (txl ps (min ps.length 6)).length c9] (by kernel_rfl) (fun w102 h103 => Make_ok (TH.cl ((tc.q, 74, (tcell tc (nms es0) (.slice pcp es0.length ccp))) :: (q8, 26, #[.slice ro (es0.map trm).length rc]) :: (Lt ++ RL)) hR92 h103) hI1.wf kn (lb.extract 0 (min lb.size 20)) (txl ps (min ps.length 6)) o9 c9 (hpre.imp id (fun ⟨pq, cs, e1, e2, e3⟩ => ⟨pq, cs, e1, e2, by simp [e3]⟩)) (by omega) hmk (by rw [ByteArray.size_extract]; omega) (fun i => by have := txl_get ps (min ps.length 6) i; omega) (by rw [txl_len]; omega) (fun e => (hk42 e).1)) ?_
          rintro w102 h103 _ w104 ⟨x2, es2, hJ2, rfl, hT2⟩
          obtain ⟨ex2, ee2⟩ := JO.again hJ hJ2 hok (fun e => (hk42 e).1)
          have ex3 := ex2.symm
          have ee3 := ee2.symm
          subst ex3 ee3
          obtain ⟨tp105, tc106, Lr107, hR108, h109⟩ := TH.op hT2
          have h110 : HA (zb w [] tb es1) ((tc.q, 74, (tcell tc (nms es0) (.slice pcp es0.length ccp))) :: (q8, 26, #[.slice ro (es0.map trm).length rc]) :: ((Lt ++ RL) ++ ((tb.q, 74, tcell tb (nms es1) (.slice tp105 es1.length tc106)) :: (Lr107 ++ PB es1)))) w104 := h109
          refine ⟨_, rfl, (HA.base h110), ?_⟩
          refine wk_val (i := 22) (.tuple #[.string (txt x1), iN .i64 0]) rfl rfl (by kernel_rfl) (by kernel_rfl) (fun _ _ => (by kernel_rfl)) ?_
          refine wk_val (i := 23) (.string (txt x1)) rfl rfl (by kernel_rfl) (by kernel_rfl) (fun _ _ => (by kernel_rfl)) ?_
          refine wk_val (i := 24) (iN .i64 0) rfl rfl (by kernel_rfl) (by kernel_rfl) (fun _ _ => (by kernel_rfl)) ?_
          refine wk_val (i := 25) (.string (txt x1)) rfl rfl (by kernel_rfl) (by kernel_rfl) (fun _ _ => (by kernel_rfl)) ?_
          refine wk_val (i := 26) (iN .i64 0) rfl rfl (by kernel_rfl) (by kernel_rfl) (fun _ _ => (by kernel_rfl)) ?_
          refine wk_end fun w111 hbx hsx => ?_
          have h112 := HA.keep _ _ h110 hbx
          exact ⟨tp105, tc106, Lr107, by kernel_rfl, hR108, h112⟩
         ·rintro _ w113 ⟨tp105, tc106, Lr107, rfl, hR108, h114⟩
          refine then_at rfl ?_
          refine zsr ?_
          refine zwv (.string (txt x1)) ?_
          refine zwv (.string (txt x1)) ?_
          refine zwu (run_nes (s := txt x1) (t := txt x1) false (decide_eq_true rfl)) ?_
          refine zwv (.bool false) ?_
          refine zwv (iN .i64 0) ?_
          refine zwv (iN .i64 0) ?_
          refine zwv (.bool false) ?_
          refine zwv (.bool false) ?_
          refine zwv (.bool false) ?_
          refine zwv (.pointer (some ⟨tb.q, 0, none⟩)) ?_
          refine zwc h114 enter20 (Len_any (t := tb) (n := nms es1) (p := tp105) (c := tc106) (h114.blk (tb.q, 74, tcell tb (nms es1) (.slice tp105 es1.length tc106)) (by simp))) ?_
          intro w115 h116
          refine zwv (iN .i64 es1.length) ?_
          refine zwu (run_nei (k := .i64) (a := es1.length) (b := es1.length) false (by simp)) ?_
          refine zwv (.bool false) ?_
          refine znt ?_
          refine zcf ?_
          refine wp_skip ?_
          refine block_normal ?_
          refine then_at rfl ?_
          refine wl_region ?_
          refine zwv (iN .i64 i) ?_
          refine zwu (run_add (k := .i64) (a := i) (b := 1) (by simp only [top]; omega)) ?_
          refine zwv (iN .i64 (i + 1)) ?_
          refine wl_nil ?_
          have h117 := HA.sub h116 (List.Sublist.cons_cons _ (List.Sublist.cons_cons _ (List.Sublist.append_right (List.sublist_append_right Lt _) _)))
          exact then_I (zex (⟨es1, tp105, tc106, Lr107, hI1, by omega, hR108, h117⟩))
      ·refine wl_region ?_
       refine zwv (.slice (some pa) ((al.take 25).length) c) ?_
       refine zwv (iN .i64 i) ?_
       refine zwu (v := .pointer (some (pa.add (i * 3)))) (run_addrg (a := pa) (n := (al.take 25).length) (m := c) (i := i) (sz := 3) Try.underlying22 Try.sizeOf56 (by omega)) ?_
       refine zwv (.pointer (some (pa.add (i * 3)))) ?_
       refine zwu (v := .int .i64 z) (run_load1g (a := (pa.add (i * 3))) Try.isAgg3 (got (w := w) hA.old.old d1)) ?_
       refine zwu (run_gtrz (z := z) false (decide_eq_false hz2)) ?_
       refine znt ?_
       refine zcf ?_
       refine wp_skip ?_
       refine block_normal ?_
       refine then_at rfl ?_
       refine wl_region ?_
       refine zwv (iN .i64 i) ?_
       refine zwu (run_add (k := .i64) (a := i) (b := 1) (by simp only [top]; omega)) ?_
       refine zwv (iN .i64 (i + 1)) ?_
       refine wl_nil ?_
       have h118 := HA.sub hA (List.Sublist.cons_cons _ (List.Sublist.cons_cons _ (List.Sublist.append_right (List.sublist_append_right Lt _) _)))
       exact then_I (zex (⟨es, tp, tcc, Lr, hI, by omega, hR, h118⟩))
  ·refine wl_region ?_
   refine zwv (.pointer (some ⟨tb.q, 0, none⟩)) ?_
   refine zwv (.string (txw ps (min ps.length 6))) ?_
   refine wl_call (v := .bool true) h22 enter24 #[.pointer (some ⟨tb.q, 0, none⟩), .string (txw ps (min ps.length 6))] (by have := later_any (TH.view (TH.cl ((tc.q, 74, (tcell tc (nms es0) (.slice pcp es0.length ccp))) :: (q8, 26, #[.slice ro (es0.map trm).length rc]) :: (Lt ++ RL)) hR h22)) hI (txw ps (min ps.length 6)); rw [hlw] at this; exact this) ?_
   intro w119 h120
   refine zwv (.bool true) ?_
   refine znt ?_
   refine wp_seq ?_
   refine zsr ?_
   refine zwv (iN .i64 0) ?_
   refine znt ?_
   refine wp_block ?_
   refine wp_count (fun j A w' => ∃ u121 : Nat → Value, A = ⟨(.slice (some pa) ((al.take 25).length) c :: un :: u19 2 :: pt tb.q :: pt q8 :: .bool true :: iN .i64 es0.length :: pt tc.q :: iN .i64 i :: .slice o9 (txl ps (min ps.length 6)).length c9 :: .string (txw ps (min ps.length 6)) :: u121 11 :: iN .i64 j :: u19 13 :: u19 14 :: u19 15 :: u19 16 :: u19 17 :: u19 18 :: u19 19 :: .slice (some pa) al.length c :: .slice (some pa) al.length c :: iN .i64 al.length :: iN .i64 (min al.length 25) :: .slice (some pa) ((al.take 25).length) c :: .tuple #[pt tb.q, .agg #[.slice ro (es0.map trm).length rc], .bool true] :: .slice (some pa) ((al.take 25).length) c :: .tuple #[pt tb.q, .agg #[.slice ro (es0.map trm).length rc], .bool true] :: pt tb.q :: .agg #[.slice ro (es0.map trm).length rc] :: .bool true :: .bool true :: .bool false :: pt tb.q :: iN .i64 es0.length :: pt tb.q :: pt tc.q :: pt tc.q :: .bool false :: .bool false :: pt tc.q :: iN .i64 es0.length :: iN .i64 es0.length :: .bool false :: .bool false :: iN .i64 i :: .slice (some pa) ((al.take 25).length) c :: iN .i64 ((al.take 25).length) :: .bool true :: u19 49 :: u19 50 :: .tuple #[.slice o9 (txl ps (min ps.length 6)).length c9, .string (txw ps (min ps.length 6))] :: .slice (some pa) ((al.take 25).length) c :: iN .i64 i :: .pointer (some (pa.add (i * 3))) :: .pointer (some ((pa.add (i * 3)).add 2)) :: .slice po ps.length pc :: .tuple #[.slice o9 (txl ps (min ps.length 6)).length c9, .string (txw ps (min ps.length 6))] :: .slice o9 (txl ps (min ps.length 6)).length c9 :: .string (txw ps (min ps.length 6)) :: pt tb.q :: .string (txw ps (min ps.length 6)) :: .bool true :: u121 63 :: u121 64 :: u121 65 :: u121 66 :: u121 67 :: u121 68 :: u121 69 :: u121 70 :: u121 71 :: u121 72 :: u121 73 :: u121 74 :: u121 75 :: u121 76 :: u121 77 :: u19 78 :: u19 79 :: u19 80 :: u19 81 :: u19 82 :: u19 83 :: u19 84 :: u19 85 :: u19 86 :: u19 87 :: u19 88 :: u19 89 :: u19 90 :: u19 91 :: u19 92 :: u19 93 :: u19 94 :: u19 95 :: u19 96 :: u19 97 :: u19 98 :: u19 99 :: u19 100 :: u19 101 :: u19 102 :: u19 103 :: u19 104 :: u19 105 :: u19 106 :: u19 107 :: u19 108 :: u19 109 :: u19 110 :: u19 111 :: u19 112 :: u19 113 :: u19 114 :: u19 115 :: u19 116 :: u19 117 :: u19 118 :: u19 119 :: u19 120 :: u19 121 :: u19 122 :: u19 123 :: u19 124 :: u19 125 :: u19 126 :: u19 127 :: u19 128 :: u19 129 :: u19 130 :: u19 131 :: u19 132 :: u19 133 :: u19 134 :: u19 135 :: u19 136 :: u19 137 :: u19 138 :: u19 139 :: u19 140 :: u19 141 :: u19 142 :: u19 143 :: u19 144 :: u19 145 :: u19 146 :: u19 147 :: u19 148 :: u19 149 :: u19 150 :: u19 151 :: u19 152 :: u19 153 :: u19 154 :: u19 155 :: u19 156 :: u19 157 :: u19 158 :: u19 159 :: u19 160 :: u19 161 :: u19 162 :: u19 163 :: u19 164 :: u19 165 :: u19 166 :: u19 167 :: u19 168 :: u19 169 :: u19 170 :: u19 171 :: u19 172 :: List.replicate 9 un).toArray, []⟩ ∧ (u121 11 = .bool true ∨ (u121 11 = .bool false ∧ latB es.length (txw ps (min ps.length 6)) = false ∧ ∀ qq, qq < j → latB es.length ((txl ps (min ps.length 6)).getD qq ByteArray.empty) = false)) ∧ HA (zb w [] tb es) ((tc.q, 74, (tcell tc (nms es0) (.slice pcp es0.length ccp))) :: (q8, 26, #[.slice ro (es0.map trm).length rc]) :: ((Lt ++ RL) ++ ((tb.q, 74, tcell tb (nms es) (.slice tp es.length tcc)) :: (Lr ++ PB es)))) w') ((txl ps (min ps.length 6)).length) ?_ ?_ ?_
   ·exact ⟨lku u19 [(11, .bool true)], by kernel_rfl, ⟨.inl (by exact rfl), h120⟩⟩
   ·rintro j hk _ w122 ⟨u121, rfl, ⟨hod, hA⟩⟩
    have hsl := txl_len ps (min ps.length 6)
    obtain ⟨pq, cs, rfl, hps, hm9⟩ := hpre.resolve_left (by intro e; rw [e] at hk; simp at hk)
    refine wp_seq ?_
    refine zsr ?_
    refine zwv (iN .i64 j) ?_
    refine zwv (.slice (some ⟨pq, 0, none⟩) ((txl ps (min ps.length 6)).length) c9) ?_
    refine zwv (iN .i64 ((txl ps (min ps.length 6)).length)) ?_
    refine zwu (run_lss (k := .i64) (a := j) (b := (txl ps (min ps.length 6)).length) true (decide_eq_true (by omega))) ?_
    refine znt ?_
    refine zct ?_
    refine wp_skip ?_
    refine then_at rfl ?_
    refine wp_seq ?_
    refine wp_block ?_
    rcases hod with h11 | ⟨h11, hlw2, hall⟩
    ·rw [h11]
     refine wl_region ?_
     refine zwv (.bool true) ?_
     refine zwv (.bool true) ?_
     refine wl_skip ?_
     refine wl_skip ?_
     refine wl_skip ?_
     refine wl_skip ?_
     refine wl_skip ?_
     refine wl_skip ?_
     refine zwv (.bool true) ?_
     refine zwv (.bool true) ?_
     refine wl_nil ?_
     refine block_normal ?_
     refine then_at rfl ?_
     refine wl_region ?_
     refine zwv (iN .i64 j) ?_
     refine zwu (run_add (k := .i64) (a := j) (b := 1) (by simp only [top]; omega)) ?_
     refine zwv (iN .i64 (j + 1)) ?_
     refine wl_nil ?_
     exact then_I ⟨lku (fun _ => undef) [(11, .bool true), (63, iN .i64 j), (64, .slice (some ⟨pq, 0, none⟩) ((txl ps (min ps.length 6)).length) c9), (65, iN .i64 ((txl ps (min ps.length 6)).length)), (66, .bool true), (67, iN .i64 j), (68, iN .i64 (j + 1)), (69, .bool true), (70, .bool true), (77, .bool true)], by kernel_rfl, ⟨.inl (by exact rfl), hA⟩⟩
    ·rw [h11]
     rcases hlj : latB es.length ((txl ps (min ps.length 6)).getD j ByteArray.empty) with _ | _
     ·refine wl_region ?_
      refine zwv (.bool false) ?_
      refine zwv (.bool false) ?_
      refine zwv (.pointer (some ⟨tb.q, 0, none⟩)) ?_
      refine zwv (.slice (some ⟨pq, 0, none⟩) ((txl ps (min ps.length 6)).length) c9) ?_
      refine zwv (iN .i64 j) ?_
      refine zwu (v := .pointer (some ⟨pq, j, none⟩)) (run_addr_slice (q := pq) (n := (txl ps (min ps.length 6)).length) (m := c9) (a := j) Try.underlying48 Try.sizeOf9 (by omega)) ?_
      refine zwu (v := .string ((txl ps (min ps.length 6)).getD j ByteArray.empty)) (run_load1 Try.isAgg9 (((hA.blk (pq, 9, cs) (by simp [hm9])).cell j).trans (hps j hk))) ?_
      refine wl_call (v := .bool false) hA enter24 #[.pointer (some ⟨tb.q, 0, none⟩), .string ((txl ps (min ps.length 6)).getD j ByteArray.empty)] (by have := later_any (TH.view (TH.cl ((tc.q, 74, (tcell tc (nms es0) (.slice pcp es0.length ccp))) :: (q8, 26, #[.slice ro (es0.map trm).length rc]) :: (Lt ++ RL)) hR hA)) hI ((txl ps (min ps.length 6)).getD j ByteArray.empty); rw [hlj] at this; exact this) ?_
      intro w123 h124
      refine zwv (.bool false) ?_
      refine zwv (.bool false) ?_
      refine wl_nil ?_
      refine block_normal ?_
      refine then_at rfl ?_
      refine wl_region ?_
      refine zwv (iN .i64 j) ?_
      refine zwu (run_add (k := .i64) (a := j) (b := 1) (by simp only [top]; omega)) ?_
      refine zwv (iN .i64 (j + 1)) ?_
      refine wl_nil ?_
      exact then_I ⟨lku (fun _ => undef) [(11, .bool false), (63, iN .i64 j), (64, .slice (some ⟨pq, 0, none⟩) ((txl ps (min ps.length 6)).length) c9), (65, iN .i64 ((txl ps (min ps.length 6)).length)), (66, .bool true), (67, iN .i64 j), (68, iN .i64 (j + 1)), (69, .bool false), (70, .bool false), (71, .pointer (some ⟨tb.q, 0, none⟩)), (72, .slice (some ⟨pq, 0, none⟩) ((txl ps (min ps.length 6)).length) c9), (73, iN .i64 j), (74, .pointer (some ⟨pq, j, none⟩)), (75, .string ((txl ps (min ps.length 6)).getD j ByteArray.empty)), (76, .bool false), (77, .bool false)], by kernel_rfl, ⟨.inr ⟨by exact rfl, hlw2, fun q hq => by rcases Nat.lt_or_ge q j with h | h; exact hall q h; rw [show q = j by omega]; exact hlj⟩, h124⟩⟩
     ·refine wl_region ?_
      refine zwv (.bool false) ?_
      refine zwv (.bool false) ?_
      refine zwv (.pointer (some ⟨tb.q, 0, none⟩)) ?_
      refine zwv (.slice (some ⟨pq, 0, none⟩) ((txl ps (min ps.length 6)).length) c9) ?_
      refine zwv (iN .i64 j) ?_
      refine zwu (v := .pointer (some ⟨pq, j, none⟩)) (run_addr_slice (q := pq) (n := (txl ps (min ps.length 6)).length) (m := c9) (a := j) Try.underlying48 Try.sizeOf9 (by omega)) ?_
      refine zwu (v := .string ((txl ps (min ps.length 6)).getD j ByteArray.empty)) (run_load1 Try.isAgg9 (((hA.blk (pq, 9, cs) (by simp [hm9])).cell j).trans (hps j hk))) ?_
      refine wl_call (v := .bool true) hA enter24 #[.pointer (some ⟨tb.q, 0, none⟩), .string ((txl ps (min ps.length 6)).getD j ByteArray.empty)] (by have := later_any (TH.view (TH.cl ((tc.q, 74, (tcell tc (nms es0) (.slice pcp es0.length ccp))) :: (q8, 26, #[.slice ro (es0.map trm).length rc]) :: (Lt ++ RL)) hR hA)) hI ((txl ps (min ps.length 6)).getD j ByteArray.empty); rw [hlj] at this; exact this) ?_
      intro w125 h126
      refine zwv (.bool true) ?_
      refine zwv (.bool true) ?_
      refine wl_nil ?_
      refine block_normal ?_
      refine zta ⟨(.slice (some pa) ((al.take 25).length) c :: un :: u19 2 :: pt tb.q :: pt q8 :: .bool true :: iN .i64 es0.length :: pt tc.q :: iN .i64 i :: .slice (some ⟨pq, 0, none⟩) ((txl ps (min ps.length 6)).length) c9 :: .string (txw ps (min ps.length 6)) :: .bool true :: iN .i64 j :: u19 13 :: u19 14 :: u19 15 :: u19 16 :: u19 17 :: u19 18 :: u19 19 :: .slice (some pa) al.length c :: .slice (some pa) al.length c :: iN .i64 al.length :: iN .i64 (min al.length 25) :: .slice (some pa) ((al.take 25).length) c :: .tuple #[pt tb.q, .agg #[.slice ro (es0.map trm).length rc], .bool true] :: .slice (some pa) ((al.take 25).length) c :: .tuple #[pt tb.q, .agg #[.slice ro (es0.map trm).length rc], .bool true] :: pt tb.q :: .agg #[.slice ro (es0.map trm).length rc] :: .bool true :: .bool true :: .bool false :: pt tb.q :: iN .i64 es0.length :: pt tb.q :: pt tc.q :: pt tc.q :: .bool false :: .bool false :: pt tc.q :: iN .i64 es0.length :: iN .i64 es0.length :: .bool false :: .bool false :: iN .i64 i :: .slice (some pa) ((al.take 25).length) c :: iN .i64 ((al.take 25).length) :: .bool true :: u19 49 :: u19 50 :: .tuple #[.slice (some ⟨pq, 0, none⟩) (txl ps (min ps.length 6)).length c9, .string (txw ps (min ps.length 6))] :: .slice (some pa) ((al.take 25).length) c :: iN .i64 i :: .pointer (some (pa.add (i * 3))) :: .pointer (some ((pa.add (i * 3)).add 2)) :: .slice po ps.length pc :: .tuple #[.slice (some ⟨pq, 0, none⟩) (txl ps (min ps.length 6)).length c9, .string (txw ps (min ps.length 6))] :: .slice (some ⟨pq, 0, none⟩) ((txl ps (min ps.length 6)).length) c9 :: .string (txw ps (min ps.length 6)) :: pt tb.q :: .string (txw ps (min ps.length 6)) :: .bool true :: iN .i64 j :: .slice (some ⟨pq, 0, none⟩) ((txl ps (min ps.length 6)).length) c9 :: iN .i64 ((txl ps (min ps.length 6)).length) :: .bool true :: u121 67 :: u121 68 :: .bool false :: .bool false :: pt tb.q :: .slice (some ⟨pq, 0, none⟩) ((txl ps (min ps.length 6)).length) c9 :: iN .i64 j :: .pointer (some ⟨pq, j, none⟩) :: .string ((txl ps (min ps.length 6)).getD j ByteArray.empty) :: .bool true :: .bool true :: u19 78 :: u19 79 :: u19 80 :: u19 81 :: u19 82 :: u19 83 :: u19 84 :: u19 85 :: u19 86 :: u19 87 :: u19 88 :: u19 89 :: u19 90 :: u19 91 :: u19 92 :: u19 93 :: u19 94 :: u19 95 :: u19 96 :: u19 97 :: u19 98 :: u19 99 :: u19 100 :: u19 101 :: u19 102 :: u19 103 :: u19 104 :: u19 105 :: u19 106 :: u19 107 :: u19 108 :: u19 109 :: u19 110 :: u19 111 :: u19 112 :: u19 113 :: u19 114 :: u19 115 :: u19 116 :: u19 117 :: u19 118 :: u19 119 :: u19 120 :: u19 121 :: u19 122 :: u19 123 :: u19 124 :: u19 125 :: u19 126 :: u19 127 :: u19 128 :: u19 129 :: u19 130 :: u19 131 :: u19 132 :: u19 133 :: u19 134 :: u19 135 :: u19 136 :: u19 137 :: u19 138 :: u19 139 :: u19 140 :: u19 141 :: u19 142 :: u19 143 :: u19 144 :: u19 145 :: u19 146 :: u19 147 :: u19 148 :: u19 149 :: u19 150 :: u19 151 :: u19 152 :: u19 153 :: u19 154 :: u19 155 :: u19 156 :: u19 157 :: u19 158 :: u19 159 :: u19 160 :: u19 161 :: u19 162 :: u19 163 :: u19 164 :: u19 165 :: u19 166 :: u19 167 :: u19 168 :: u19 169 :: u19 170 :: u19 171 :: u19 172 :: List.replicate 9 un).toArray, []⟩ ?_
      refine wl_region ?_
      refine zwv (iN .i64 j) ?_
      refine zwu (run_add (k := .i64) (a := j) (b := 1) (by simp only [top]; omega)) ?_
      refine zwv (iN .i64 (j + 1)) ?_
      refine wl_nil ?_
      exact then_I ⟨lku (fun _ => undef) [(11, .bool true), (63, iN .i64 j), (64, .slice (some ⟨pq, 0, none⟩) ((txl ps (min ps.length 6)).length) c9), (65, iN .i64 ((txl ps (min ps.length 6)).length)), (66, .bool true), (67, iN .i64 j), (68, iN .i64 (j + 1)), (69, .bool false), (70, .bool false), (71, .pointer (some ⟨tb.q, 0, none⟩)), (72, .slice (some ⟨pq, 0, none⟩) ((txl ps (min ps.length 6)).length) c9), (73, iN .i64 j), (74, .pointer (some ⟨pq, j, none⟩)), (75, .string ((txl ps (min ps.length 6)).getD j ByteArray.empty)), (76, .bool true), (77, .bool true)], by kernel_rfl, ⟨.inl (by exact rfl), h126⟩⟩
   ·rintro _ w127 ⟨u121, rfl, ⟨hod, hA⟩⟩
    have hsl := txl_len ps (min ps.length 6)
    refine wp_seq ?_
    refine zsr ?_
    refine zwv (iN .i64 ((txl ps (min ps.length 6)).length)) ?_
    refine zwv (.slice o9 (txl ps (min ps.length 6)).length c9) ?_
    refine zwv (iN .i64 ((txl ps (min ps.length 6)).length)) ?_
    refine zwu (run_lss (k := .i64) (a := (txl ps (min ps.length 6)).length) (b := (txl ps (min ps.length 6)).length) false (decide_eq_false (by omega))) ?_
    refine znt ?_
    refine zcf ?_
    refine wp_exit ?_
    repeat first | refine then_exit ?_ | refine block_exit ?_ | refine block_exit_ne (by decide) ?_
    refine then_at rfl ?_
    refine wp_seq ?_
    refine wp_seq ?_
    rcases hod with h11 | ⟨h11, hlw2, hall⟩
    ·rw [h11]
     refine wl_region ?_
     refine zwv (.bool true) ?_
     refine znt ?_
     refine zct ?_
     refine wp_exit ?_
     repeat first | refine then_exit ?_ | refine block_exit ?_ | refine block_exit_ne (by decide) ?_
     refine then_at rfl ?_
     refine wl_region ?_
     refine zwv (iN .i64 i) ?_
     refine zwu (run_add (k := .i64) (a := i) (b := 1) (by simp only [top]; omega)) ?_
     refine zwv (iN .i64 (i + 1)) ?_
     refine wl_nil ?_
     have h128 := HA.sub hA (List.Sublist.cons_cons _ (List.Sublist.cons_cons _ (List.Sublist.append_right (List.sublist_append_right Lt _) _)))
     exact then_I (zex (⟨es, tp, tcc, Lr, hI, by omega, hR, h128⟩))
    ·rw [h11]
     refine wl_region ?_
     refine zwv (.bool false) ?_
     refine znt ?_
     refine zcf ?_
     refine wp_skip ?_
     refine then_at rfl ?_
     refine wp_seq ?_
     refine wp_seq ?_
     by_cases hz1 : z = 1
     ·refine wl_region ?_
      refine zwv (.slice (some pa) ((al.take 25).length) c) ?_
      refine zwv (iN .i64 i) ?_
      refine zwu (v := .pointer (some (pa.add (i * 3)))) (run_addrg (a := pa) (n := (al.take 25).length) (m := c) (i := i) (sz := 3) Try.underlying22 Try.sizeOf56 (by omega)) ?_
      refine zwv (.pointer (some (pa.add (i * 3)))) ?_
      refine zwu (v := .int .i64 z) (run_load1g (a := (pa.add (i * 3))) Try.isAgg3 (got (w := w) hA.old.old d1)) ?_
      refine zwu (v := .bool true) (run_eqz (k := .i64) (a := z) (b := 1) true (decide_eq_true hz1)) ?_
      refine znt ?_
      refine zct ?_
      refine zsr ?_
      refine zwv (.pointer (some ⟨tb.q, 0, none⟩)) ?_
      refine zwv (.string (txw ps (min ps.length 6))) ?_
      refine wl_callx enter25 #[.pointer (some ⟨tb.q, 0, none⟩), .string (txw ps (min ps.length 6))] (Data_any (TH.cl ((tc.q, 74, (tcell tc (nms es0) (.slice pcp es0.length ccp))) :: (q8, 26, #[.slice ro (es0.map trm).length rc]) :: (Lt ++ RL)) hR hA) (by omega) (txw ps (min ps.length 6)) (by have := txw_size ps (min ps.length 6); omega)) ?_
      rintro _ w129 ⟨rfl, hT1⟩
      refine ⟨_, rfl, ?_⟩
      obtain ⟨tp130, tc131, Lr132, hR133, h134⟩ := TH.op hT1
      have h135 : HA (zb w [] tb (partF es (txw ps (min ps.length 6))).1) ((tc.q, 74, (tcell tc (nms es0) (.slice pcp es0.length ccp))) :: (q8, 26, #[.slice ro (es0.map trm).length rc]) :: ((Lt ++ RL) ++ ((tb.q, 74, tcell tb (nms (partF es (txw ps (min ps.length 6))).1) (.slice tp130 (partF es (txw ps (min ps.length 6))).1.length tc131)) :: (Lr132 ++ PB (partF es (txw ps (min ps.length 6))).1)))) w129 := h134
      have hI1 := hI.part (txw ps (min ps.length 6)) (by have := txw_size ps (min ps.length 6); omega) (by omega)
      have hl1 := partF_len es (txw ps (min ps.length 6))
      have hag : partF (partF es (txw ps (min ps.length 6))).1 (txw ps (min ps.length 6)) = ((partF es (txw ps (min ps.length 6))).1, (partF es (txw ps (min ps.length 6))).2) := by have := part_again (tl := []) (okt_of hlw2); simpa using this
      refine zwv (.string (txt (partF es (txw ps (min ps.length 6))).2)) ?_
      refine znt ?_
      refine zsr ?_
      refine zwv (.pointer (some ⟨tb.q, 0, none⟩)) ?_
      refine zwc h135 enter20 (Len_any (t := tb) (n := nms (partF es (txw ps (min ps.length 6))).1) (p := tp130) (c := tc131) (h135.blk (tb.q, 74, tcell tb (nms (partF es (txw ps (min ps.length 6))).1) (.slice tp130 (partF es (txw ps (min ps.length 6))).1.length tc131)) (by simp))) ?_
      intro w136 h137
      refine zwv (iN .i64 ((partF es (txw ps (min ps.length 6))).1.length)) ?_
      refine znt ?_
      refine zsr ?_
      refine zwv (.pointer (some ⟨tb.q, 0, none⟩)) ?_
      refine zwv (.string (txw ps (min ps.length 6))) ?_
      refine wl_callx enter25 #[.pointer (some ⟨tb.q, 0, none⟩), .string (txw ps (min ps.length 6))] (Data_any (TH.cl ((tc.q, 74, (tcell tc (nms es0) (.slice pcp es0.length ccp))) :: (q8, 26, #[.slice ro (es0.map trm).length rc]) :: (Lt ++ RL)) hR133 h137) (by omega) (txw ps (min ps.length 6)) (by have := txw_size ps (min ps.length 6); omega)) ?_
      rintro _ w138 ⟨rfl, hT2⟩
      refine ⟨_, rfl, ?_⟩
      rw [hag] at hT2
      obtain ⟨tp139, tc140, Lr141, hR142, h143⟩ := TH.op hT2
      have h144 : HA (zb w [] tb (partF es (txw ps (min ps.length 6))).1) ((tc.q, 74, (tcell tc (nms es0) (.slice pcp es0.length ccp))) :: (q8, 26, #[.slice ro (es0.map trm).length rc]) :: ((Lt ++ RL) ++ ((tb.q, 74, tcell tb (nms (partF es (txw ps (min ps.length 6))).1) (.slice tp139 (partF es (txw ps (min ps.length 6))).1.length tc140)) :: (Lr141 ++ PB (partF es (txw ps (min ps.length 6))).1)))) w138 := h143
      refine zwv (.string (txt (partF es (txw ps (min ps.length 6))).2)) ?_
      refine zwu (run_nes (s := txt (partF (partF es (txw ps (min ps.length 6))).1 (txw ps (min ps.length 6))).2) (t := txt (partF es (txw ps (min ps.length 6))).2) false (decide_eq_true (by rw [hag]))) ?_
      refine zwv (.bool false) ?_
      refine zwv (.pointer (some ⟨tb.q, 0, none⟩)) ?_
      refine zwc h144 enter20 (Len_any (t := tb) (n := nms (partF es (txw ps (min ps.length 6))).1) (p := tp139) (c := tc140) (h144.blk (tb.q, 74, tcell tb (nms (partF es (txw ps (min ps.length 6))).1) (.slice tp139 (partF es (txw ps (min ps.length 6))).1.length tc140)) (by simp))) ?_
      intro w145 h146
      refine zwv (iN .i64 ((partF es (txw ps (min ps.length 6))).1.length)) ?_
      refine zwu (run_nei (k := .i64) (a := (partF es (txw ps (min ps.length 6))).1.length) (b := (partF es (txw ps (min ps.length 6))).1.length) false (by simp)) ?_
      refine zwv (.bool false) ?_
      refine znt ?_
      refine zcf ?_
      refine wp_skip ?_
      refine then_at rfl ?_
      refine wp_seq ?_
      have hz2 : ¬ 1 < z := by omega
      refine wl_region ?_
      refine zwv (.slice (some pa) ((al.take 25).length) c) ?_
      refine zwv (iN .i64 i) ?_
      refine zwu (v := .pointer (some (pa.add (i * 3)))) (run_addrg (a := pa) (n := (al.take 25).length) (m := c) (i := i) (sz := 3) Try.underlying22 Try.sizeOf56 (by omega)) ?_
      refine zwv (.pointer (some (pa.add (i * 3)))) ?_
      refine zwu (v := .int .i64 z) (run_load1g (a := (pa.add (i * 3))) Try.isAgg3 (got (w := w) h146.old.old d1)) ?_
      refine zwu (run_gtrz (z := z) false (decide_eq_false hz2)) ?_
      refine zna ⟨(.slice (some pa) ((al.take 25).length) c :: un :: u19 2 :: pt tb.q :: pt q8 :: .bool true :: iN .i64 es0.length :: pt tc.q :: iN .i64 i :: .slice o9 (txl ps (min ps.length 6)).length c9 :: .string (txw ps (min ps.length 6)) :: .bool false :: iN .i64 ((txl ps (min ps.length 6)).length) :: .string (txt (partF es (txw ps (min ps.length 6))).2) :: iN .i64 ((partF es (txw ps (min ps.length 6))).1.length) :: u19 15 :: u19 16 :: u19 17 :: u19 18 :: u19 19 :: .slice (some pa) al.length c :: .slice (some pa) al.length c :: iN .i64 al.length :: iN .i64 (min al.length 25) :: .slice (some pa) ((al.take 25).length) c :: .tuple #[pt tb.q, .agg #[.slice ro (es0.map trm).length rc], .bool true] :: .slice (some pa) ((al.take 25).length) c :: .tuple #[pt tb.q, .agg #[.slice ro (es0.map trm).length rc], .bool true] :: pt tb.q :: .agg #[.slice ro (es0.map trm).length rc] :: .bool true :: .bool true :: .bool false :: pt tb.q :: iN .i64 es0.length :: pt tb.q :: pt tc.q :: pt tc.q :: .bool false :: .bool false :: pt tc.q :: iN .i64 es0.length :: iN .i64 es0.length :: .bool false :: .bool false :: iN .i64 i :: .slice (some pa) ((al.take 25).length) c :: iN .i64 ((al.take 25).length) :: .bool true :: u19 49 :: u19 50 :: .tuple #[.slice o9 (txl ps (min ps.length 6)).length c9, .string (txw ps (min ps.length 6))] :: .slice (some pa) ((al.take 25).length) c :: iN .i64 i :: .pointer (some (pa.add (i * 3))) :: .pointer (some ((pa.add (i * 3)).add 2)) :: .slice po ps.length pc :: .tuple #[.slice o9 (txl ps (min ps.length 6)).length c9, .string (txw ps (min ps.length 6))] :: .slice o9 (txl ps (min ps.length 6)).length c9 :: .string (txw ps (min ps.length 6)) :: pt tb.q :: .string (txw ps (min ps.length 6)) :: .bool true :: iN .i64 ((txl ps (min ps.length 6)).length) :: .slice o9 (txl ps (min ps.length 6)).length c9 :: iN .i64 ((txl ps (min ps.length 6)).length) :: .bool false :: u121 67 :: u121 68 :: u121 69 :: u121 70 :: u121 71 :: u121 72 :: u121 73 :: u121 74 :: u121 75 :: u121 76 :: u121 77 :: .bool false :: .slice (some pa) ((al.take 25).length) c :: iN .i64 i :: .pointer (some (pa.add (i * 3))) :: .pointer (some (pa.add (i * 3))) :: .int .i64 z :: .bool true :: pt tb.q :: .string (txw ps (min ps.length 6)) :: .string (txt (partF es (txw ps (min ps.length 6))).2) :: pt tb.q :: iN .i64 ((partF es (txw ps (min ps.length 6))).1.length) :: pt tb.q :: .string (txw ps (min ps.length 6)) :: .string (txt (partF (partF es (txw ps (min ps.length 6))).1 (txw ps (min ps.length 6))).2) :: .string (txt (partF es (txw ps (min ps.length 6))).2) :: .bool false :: .bool false :: pt tb.q :: iN .i64 ((partF es (txw ps (min ps.length 6))).1.length) :: iN .i64 ((partF es (txw ps (min ps.length 6))).1.length) :: .bool false :: .bool false :: .slice (some pa) ((al.take 25).length) c :: iN .i64 i :: .pointer (some (pa.add (i * 3))) :: .pointer (some (pa.add (i * 3))) :: .int .i64 z :: .bool false :: u19 107 :: u19 108 :: u19 109 :: u19 110 :: u19 111 :: u19 112 :: u19 113 :: u19 114 :: u19 115 :: u19 116 :: u19 117 :: u19 118 :: u19 119 :: u19 120 :: u19 121 :: u19 122 :: u19 123 :: u19 124 :: u19 125 :: u19 126 :: u19 127 :: u19 128 :: u19 129 :: u19 130 :: u19 131 :: u19 132 :: u19 133 :: u19 134 :: u19 135 :: u19 136 :: u19 137 :: u19 138 :: u19 139 :: u19 140 :: u19 141 :: u19 142 :: u19 143 :: u19 144 :: u19 145 :: u19 146 :: u19 147 :: u19 148 :: u19 149 :: u19 150 :: u19 151 :: u19 152 :: u19 153 :: u19 154 :: u19 155 :: u19 156 :: u19 157 :: u19 158 :: u19 159 :: u19 160 :: u19 161 :: u19 162 :: u19 163 :: u19 164 :: u19 165 :: u19 166 :: u19 167 :: u19 168 :: u19 169 :: u19 170 :: u19 171 :: u19 172 :: List.replicate 9 un).toArray, []⟩ ?_
      refine zcf ?_
      refine wp_skip ?_
      refine block_normal ?_
      refine then_at rfl ?_
      refine wl_region ?_
      refine zwv (iN .i64 i) ?_
      refine zwu (run_add (k := .i64) (a := i) (b := 1) (by simp only [top]; omega)) ?_
      refine zwv (iN .i64 (i + 1)) ?_
      refine wl_nil ?_
      have h147 := HA.sub h146 (List.Sublist.cons_cons _ (List.Sublist.cons_cons _ (List.Sublist.append_right (List.sublist_append_right Lt _) _)))
      exact then_I (zex (⟨(partF es (txw ps (min ps.length 6))).1, tp139, tc140, Lr141, hI1, by omega, hR142, h147⟩))
     ·refine wl_region ?_
      refine zwv (.slice (some pa) ((al.take 25).length) c) ?_
      refine zwv (iN .i64 i) ?_
      refine zwu (v := .pointer (some (pa.add (i * 3)))) (run_addrg (a := pa) (n := (al.take 25).length) (m := c) (i := i) (sz := 3) Try.underlying22 Try.sizeOf56 (by omega)) ?_
      refine zwv (.pointer (some (pa.add (i * 3)))) ?_
      refine zwu (v := .int .i64 z) (run_load1g (a := (pa.add (i * 3))) Try.isAgg3 (got (w := w) hA.old.old d1)) ?_
      refine zwu (v := .bool false) (run_eqz (k := .i64) (a := z) (b := 1) false (decide_eq_false hz1)) ?_
      refine znt ?_
      refine zcf ?_
      refine wp_skip ?_
      refine then_at rfl ?_
      refine wp_seq ?_
      by_cases hz2 : 1 < z
      ·refine wl_region ?_
       refine zwv (.slice (some pa) ((al.take 25).length) c) ?_
       refine zwv (iN .i64 i) ?_
       refine zwu (v := .pointer (some (pa.add (i * 3)))) (run_addrg (a := pa) (n := (al.take 25).length) (m := c) (i := i) (sz := 3) Try.underlying22 Try.sizeOf56 (by omega)) ?_
       refine zwv (.pointer (some (pa.add (i * 3)))) ?_
       refine zwu (v := .int .i64 z) (run_load1g (a := (pa.add (i * 3))) Try.isAgg3 (got (w := w) hA.old.old d1)) ?_
       refine zwu (run_gtrz (z := z) true (decide_eq_true hz2)) ?_
       refine znt ?_
       refine zct ?_
       refine wp_seq ?_
       have hok : ∀ j, j < (txl ps (min ps.length 6)).length → Okt es.length ((txl ps (min ps.length 6)).getD j ByteArray.empty) := fun j hj => okt_of (hall j hj)
       rcases hmk : mayB (kz z) (lb.extract 0 (min lb.size 20)) (txl ps (min ps.length 6)).length with _ | _
       ·refine wp_region_wk (HA (bs w) []) (fun A w' => ∃ (tp152 : Option Addr) (tc153 : Nat) (Lr154 : BL), A = ⟨(.slice (some pa) ((al.take 25).length) c :: un :: u19 2 :: pt tb.q :: pt q8 :: .bool true :: iN .i64 es0.length :: pt tc.q :: iN .i64 i :: .slice o9 (txl ps (min ps.length 6)).length c9 :: .string (txw ps (min ps.length 6)) :: .bool false :: iN .i64 ((txl ps (min ps.length 6)).length) :: u19 13 :: u19 14 :: .string ({ data := #[] }) :: iN .i64 2 :: u19 17 :: u19 18 :: u19 19 :: .slice (some pa) al.length c :: .slice (some pa) al.length c :: iN .i64 al.length :: iN .i64 (min al.length 25) :: .slice (some pa) ((al.take 25).length) c :: .tuple #[pt tb.q, .agg #[.slice ro (es0.map trm).length rc], .bool true] :: .slice (some pa) ((al.take 25).length) c :: .tuple #[pt tb.q, .agg #[.slice ro (es0.map trm).length rc], .bool true] :: pt tb.q :: .agg #[.slice ro (es0.map trm).length rc] :: .bool true :: .bool true :: .bool false :: pt tb.q :: iN .i64 es0.length :: pt tb.q :: pt tc.q :: pt tc.q :: .bool false :: .bool false :: pt tc.q :: iN .i64 es0.length :: iN .i64 es0.length :: .bool false :: .bool false :: iN .i64 i :: .slice (some pa) ((al.take 25).length) c :: iN .i64 ((al.take 25).length) :: .bool true :: u19 49 :: u19 50 :: .tuple #[.slice o9 (txl ps (min ps.length 6)).length c9, .string (txw ps (min ps.length 6))] :: .slice (some pa) ((al.take 25).length) c :: iN .i64 i :: .pointer (some (pa.add (i * 3))) :: .pointer (some ((pa.add (i * 3)).add 2)) :: .slice po ps.length pc :: .tuple #[.slice o9 (txl ps (min ps.length 6)).length c9, .string (txw ps (min ps.length 6))] :: .slice o9 (txl ps (min ps.length 6)).length c9 :: .string (txw ps (min ps.length 6)) :: pt tb.q :: .string (txw ps (min ps.length 6)) :: .bool true :: iN .i64 ((txl ps (min ps.length 6)).length) :: .slice o9 (txl ps (min ps.length 6)).length c9 :: iN .i64 ((txl ps (min ps.length 6)).length) :: .bool false :: u121 67 :: u121 68 :: u121 69 :: u121 70 :: u121 71 :: u121 72 :: u121 73 :: u121 74 :: u121 75 :: u121 76 :: u121 77 :: .bool false :: .slice (some pa) ((al.take 25).length) c :: iN .i64 i :: .pointer (some (pa.add (i * 3))) :: .pointer (some (pa.add (i * 3))) :: .int .i64 z :: .bool false :: u19 85 :: u19 86 :: u19 87 :: u19 88 :: u19 89 :: u19 90 :: u19 91 :: u19 92 :: u19 93 :: u19 94 :: u19 95 :: u19 96 :: u19 97 :: u19 98 :: u19 99 :: u19 100 :: .slice (some pa) ((al.take 25).length) c :: iN .i64 i :: .pointer (some (pa.add (i * 3))) :: .pointer (some (pa.add (i * 3))) :: .int .i64 z :: .bool true :: .tuple #[.string ({ data := #[] }), iN .i64 2] :: pt tb.q :: .slice (some pa) ((al.take 25).length) c :: iN .i64 i :: .pointer (some (pa.add (i * 3))) :: .pointer (some (pa.add (i * 3))) :: .int .i64 z :: .int .i64 (kz z) :: .slice (some pa) ((al.take 25).length) c :: iN .i64 i :: .pointer (some (pa.add (i * 3))) :: .pointer (some ((pa.add (i * 3)).add 1)) :: .string lb :: .slice (some pa) ((al.take 25).length) c :: iN .i64 i :: .pointer (some (pa.add (i * 3))) :: .pointer (some ((pa.add (i * 3)).add 1)) :: .string lb :: iN .i64 lb.size :: iN .i64 (min lb.size 20) :: .string (lb.extract 0 (min lb.size 20)) :: .slice o9 (txl ps (min ps.length 6)).length c9 :: .tuple #[.string ({ data := #[] }), iN .i64 2] :: .string ({ data := #[] }) :: iN .i64 2 :: u19 132 :: u19 133 :: u19 134 :: u19 135 :: u19 136 :: u19 137 :: u19 138 :: u19 139 :: u19 140 :: u19 141 :: u19 142 :: u19 143 :: u19 144 :: u19 145 :: u19 146 :: u19 147 :: u19 148 :: u19 149 :: u19 150 :: u19 151 :: u19 152 :: u19 153 :: u19 154 :: u19 155 :: u19 156 :: u19 157 :: u19 158 :: u19 159 :: u19 160 :: u19 161 :: u19 162 :: u19 163 :: u19 164 :: u19 165 :: u19 166 :: u19 167 :: u19 168 :: u19 169 :: u19 170 :: u19 171 :: u19 172 :: List.replicate 9 un).toArray, []⟩ ∧ Row 69 1 (.slice tp152 es.length tc153) es.length (es.map ev) Lr154 ∧ HA (zb w [] tb es) ((tc.q, 74, (tcell tc (nms es0) (.slice pcp es0.length ccp))) :: (q8, 26, #[.slice ro (es0.map trm).length rc]) :: ((Lt ++ RL) ++ ((tb.q, 74, tcell tb (nms es) (.slice tp152 es.length tc153)) :: (Lr154 ++ PB es)))) w') 27 (by kernel_rfl) (by kernel_rfl) (by kernel_rfl) (by kernel_rfl) (by kernel_rfl) (HA.base hA.drew) ?_ ?_
        ·have h148 := hA.drew
         refine wk_val (i := 0) (.pointer (some ⟨tb.q, 0, none⟩)) rfl rfl (by kernel_rfl) (by kernel_rfl) (fun _ _ => (by kernel_rfl)) ?_
         refine wk_val (i := 1) (.slice (some pa) ((al.take 25).length) c) rfl rfl (by kernel_rfl) (by kernel_rfl) (fun _ _ => (by kernel_rfl)) ?_
         refine wk_val (i := 2) (iN .i64 i) rfl rfl (by kernel_rfl) (by kernel_rfl) (fun _ _ => (by kernel_rfl)) ?_
         refine wk_val (i := 3) (.pointer (some (pa.add (i * 3)))) rfl rfl (by kernel_rfl) (by kernel_rfl) (fun _ _ => (run_addrg (a := pa) (n := (al.take 25).length) (m := c) (i := i) (sz := 3) Try.underlying22 Try.sizeOf56 (by omega))) ?_
         refine wk_val (i := 4) (.pointer (some (pa.add (i * 3)))) rfl rfl (by kernel_rfl) (by kernel_rfl) (fun _ _ => (by kernel_rfl)) ?_
         refine wk_val (i := 5) (.int .i64 z) rfl rfl (by kernel_rfl) (by kernel_rfl) (fun w' h' => run_load1g (a := (pa.add (i * 3))) Try.isAgg3 (got (w := w) h'.old.old d1)) ?_
         refine wk_val (i := 6) (.int .i64 (kz z)) rfl rfl (by kernel_rfl) (by kernel_rfl) (fun _ _ => (run_subz1 (z := z))) ?_
         refine wk_val (i := 7) (.slice (some pa) ((al.take 25).length) c) rfl rfl (by kernel_rfl) (by kernel_rfl) (fun _ _ => (by kernel_rfl)) ?_
         refine wk_val (i := 8) (iN .i64 i) rfl rfl (by kernel_rfl) (by kernel_rfl) (fun _ _ => (by kernel_rfl)) ?_
         refine wk_val (i := 9) (.pointer (some (pa.add (i * 3)))) rfl rfl (by kernel_rfl) (by kernel_rfl) (fun _ _ => (run_addrg (a := pa) (n := (al.take 25).length) (m := c) (i := i) (sz := 3) Try.underlying22 Try.sizeOf56 (by omega))) ?_
         refine wk_val (i := 10) (.pointer (some ((pa.add (i * 3)).add 1))) rfl rfl (by kernel_rfl) (by kernel_rfl) (fun _ _ => (by kernel_rfl)) ?_
         refine wk_val (i := 11) (.string lb) rfl rfl (by kernel_rfl) (by kernel_rfl) (fun w' h' => run_load1g (a := ((pa.add (i * 3)).add 1)) Try.isAgg9 (got (w := w) h'.old.old (by rw [Addr.add_addr]; exact d2))) ?_
         refine wk_val (i := 12) (.slice (some pa) ((al.take 25).length) c) rfl rfl (by kernel_rfl) (by kernel_rfl) (fun _ _ => (by kernel_rfl)) ?_
         refine wk_val (i := 13) (iN .i64 i) rfl rfl (by kernel_rfl) (by kernel_rfl) (fun _ _ => (by kernel_rfl)) ?_
         refine wk_val (i := 14) (.pointer (some (pa.add (i * 3)))) rfl rfl (by kernel_rfl) (by kernel_rfl) (fun _ _ => (run_addrg (a := pa) (n := (al.take 25).length) (m := c) (i := i) (sz := 3) Try.underlying22 Try.sizeOf56 (by omega))) ?_
         refine wk_val (i := 15) (.pointer (some ((pa.add (i * 3)).add 1))) rfl rfl (by kernel_rfl) (by kernel_rfl) (fun _ _ => (by kernel_rfl)) ?_
         refine wk_val (i := 16) (.string lb) rfl rfl (by kernel_rfl) (by kernel_rfl) (fun w' h' => run_load1g (a := ((pa.add (i * 3)).add 1)) Try.isAgg9 (got (w := w) h'.old.old (by rw [Addr.add_addr]; exact d2))) ?_
         refine wk_val (i := 17) (iN .i64 lb.size) rfl rfl (by kernel_rfl) (by kernel_rfl) (fun _ _ => (run_len (s := lb))) ?_
         refine wk_val (i := 18) (iN .i64 (min lb.size 20)) rfl rfl (by kernel_rfl) (by kernel_rfl) (fun _ _ => (run_min (i := lb.size) (j := 20))) ?_
         refine wk_val (i := 19) (.string (lb.extract 0 (min lb.size 20))) rfl rfl (by kernel_rfl) (by kernel_rfl) (fun _ _ => (run_cut_hi (s := lb) (b := min lb.size 20) (by omega))) ?_
         refine wk_val (i := 20) (.slice o9 (txl ps (min ps.length 6)).length c9) rfl rfl (by kernel_rfl) (by kernel_rfl) (fun _ _ => (by kernel_rfl)) ?_
         refine wk_one 21 (by kernel_rfl) ?_
         refine ef_callx rfl (by kernel_rfl) h148 enter18 #[.pointer (some ⟨tb.q, 0, none⟩), .int .i64 (kz z), .string (lb.extract 0 (min lb.size 20)), .slice o9 (txl ps (min ps.length 6)).length c9] (by kernel_rfl) (fun w149 h150 => Make_arg (TH.cl ((tc.q, 74, (tcell tc (nms es0) (.slice pcp es0.length ccp))) :: (q8, 26, #[.slice ro (es0.map trm).length rc]) :: (Lt ++ RL)) hR h150) (kz z) (lb.extract 0 (min lb.size 20)) (txl ps (min ps.length 6)) o9 c9 hmk) ?_
         rintro w149 h150 _ w151 ⟨rfl, hT1⟩
         obtain ⟨tp152, tc153, Lr154, hR155, h156⟩ := TH.op hT1
         have h157 : HA (zb w [] tb es) ((tc.q, 74, (tcell tc (nms es0) (.slice pcp es0.length ccp))) :: (q8, 26, #[.slice ro (es0.map trm).length rc]) :: ((Lt ++ RL) ++ ((tb.q, 74, tcell tb (nms es) (.slice tp152 es.length tc153)) :: (Lr154 ++ PB es)))) w151 := h156
         refine ⟨_, rfl, (HA.base h157), ?_⟩
         refine wk_val (i := 22) (.tuple #[.string ({ data := #[] }), iN .i64 2]) rfl rfl (by kernel_rfl) (by kernel_rfl) (fun _ _ => (by kernel_rfl)) ?_
         refine wk_val (i := 23) (.string ({ data := #[] })) rfl rfl (by kernel_rfl) (by kernel_rfl) (fun _ _ => (by kernel_rfl)) ?_
         refine wk_val (i := 24) (iN .i64 2) rfl rfl (by kernel_rfl) (by kernel_rfl) (fun _ _ => (by kernel_rfl)) ?_
         refine wk_val (i := 25) (.string ({ data := #[] })) rfl rfl (by kernel_rfl) (by kernel_rfl) (fun _ _ => (by kernel_rfl)) ?_
         refine wk_val (i := 26) (iN .i64 2) rfl rfl (by kernel_rfl) (by kernel_rfl) (fun _ _ => (by kernel_rfl)) ?_
         refine wk_end fun w158 hbx hsx => ?_
         have h159 := HA.keep _ _ h157 hbx
         exact ⟨tp152, tc153, Lr154, by kernel_rfl, hR155, h159⟩
        ·rintro _ w160 ⟨tp152, tc153, Lr154, rfl, hR155, h161⟩
         refine then_at rfl ?_
         refine zsr ?_
         refine zwv (.pointer (some ⟨tb.q, 0, none⟩)) ?_
         refine zwc h161 enter20 (Len_any (t := tb) (n := nms es) (p := tp152) (c := tc153) (h161.blk (tb.q, 74, tcell tb (nms es) (.slice tp152 es.length tc153)) (by simp))) ?_
         intro w162 h163
         refine zwv (iN .i64 es.length) ?_
         refine znt ?_
         refine wp_seq ?_
         refine wp_region_wk (HA (bs w) []) (fun A w' => ∃ (tp168 : Option Addr) (tc169 : Nat) (Lr170 : BL), A = ⟨(.slice (some pa) ((al.take 25).length) c :: un :: u19 2 :: pt tb.q :: pt q8 :: .bool true :: iN .i64 es0.length :: pt tc.q :: iN .i64 i :: .slice o9 (txl ps (min ps.length 6)).length c9 :: .string (txw ps (min ps.length 6)) :: .bool false :: iN .i64 ((txl ps (min ps.length 6)).length) :: u19 13 :: u19 14 :: .string ({ data := #[] }) :: iN .i64 2 :: iN .i64 es.length :: .string ({ data := #[] }) :: iN .i64 2 :: .slice (some pa) al.length c :: .slice (some pa) al.length c :: iN .i64 al.length :: iN .i64 (min al.length 25) :: .slice (some pa) ((al.take 25).length) c :: .tuple #[pt tb.q, .agg #[.slice ro (es0.map trm).length rc], .bool true] :: .slice (some pa) ((al.take 25).length) c :: .tuple #[pt tb.q, .agg #[.slice ro (es0.map trm).length rc], .bool true] :: pt tb.q :: .agg #[.slice ro (es0.map trm).length rc] :: .bool true :: .bool true :: .bool false :: pt tb.q :: iN .i64 es0.length :: pt tb.q :: pt tc.q :: pt tc.q :: .bool false :: .bool false :: pt tc.q :: iN .i64 es0.length :: iN .i64 es0.length :: .bool false :: .bool false :: iN .i64 i :: .slice (some pa) ((al.take 25).length) c :: iN .i64 ((al.take 25).length) :: .bool true :: u19 49 :: u19 50 :: .tuple #[.slice o9 (txl ps (min ps.length 6)).length c9, .string (txw ps (min ps.length 6))] :: .slice (some pa) ((al.take 25).length) c :: iN .i64 i :: .pointer (some (pa.add (i * 3))) :: .pointer (some ((pa.add (i * 3)).add 2)) :: .slice po ps.length pc :: .tuple #[.slice o9 (txl ps (min ps.length 6)).length c9, .string (txw ps (min ps.length 6))] :: .slice o9 (txl ps (min ps.length 6)).length c9 :: .string (txw ps (min ps.length 6)) :: pt tb.q :: .string (txw ps (min ps.length 6)) :: .bool true :: iN .i64 ((txl ps (min ps.length 6)).length) :: .slice o9 (txl ps (min ps.length 6)).length c9 :: iN .i64 ((txl ps (min ps.length 6)).length) :: .bool false :: u121 67 :: u121 68 :: u121 69 :: u121 70 :: u121 71 :: u121 72 :: u121 73 :: u121 74 :: u121 75 :: u121 76 :: u121 77 :: .bool false :: .slice (some pa) ((al.take 25).length) c :: iN .i64 i :: .pointer (some (pa.add (i * 3))) :: .pointer (some (pa.add (i * 3))) :: .int .i64 z :: .bool false :: u19 85 :: u19 86 :: u19 87 :: u19 88 :: u19 89 :: u19 90 :: u19 91 :: u19 92 :: u19 93 :: u19 94 :: u19 95 :: u19 96 :: u19 97 :: u19 98 :: u19 99 :: u19 100 :: .slice (some pa) ((al.take 25).length) c :: iN .i64 i :: .pointer (some (pa.add (i * 3))) :: .pointer (some (pa.add (i * 3))) :: .int .i64 z :: .bool true :: .tuple #[.string ({ data := #[] }), iN .i64 2] :: pt tb.q :: .slice (some pa) ((al.take 25).length) c :: iN .i64 i :: .pointer (some (pa.add (i * 3))) :: .pointer (some (pa.add (i * 3))) :: .int .i64 z :: .int .i64 (kz z) :: .slice (some pa) ((al.take 25).length) c :: iN .i64 i :: .pointer (some (pa.add (i * 3))) :: .pointer (some ((pa.add (i * 3)).add 1)) :: .string lb :: .slice (some pa) ((al.take 25).length) c :: iN .i64 i :: .pointer (some (pa.add (i * 3))) :: .pointer (some ((pa.add (i * 3)).add 1)) :: .string lb :: iN .i64 lb.size :: iN .i64 (min lb.size 20) :: .string (lb.extract 0 (min lb.size 20)) :: .slice o9 (txl ps (min ps.length 6)).length c9 :: .tuple #[.string ({ data := #[] }), iN .i64 2] :: .string ({ data := #[] }) :: iN .i64 2 :: pt tb.q :: iN .i64 es.length :: .tuple #[.string ({ data := #[] }), iN .i64 2] :: pt tb.q :: .slice (some pa) ((al.take 25).length) c :: iN .i64 i :: .pointer (some (pa.add (i * 3))) :: .pointer (some (pa.add (i * 3))) :: .int .i64 z :: .int .i64 (kz z) :: .slice (some pa) ((al.take 25).length) c :: iN .i64 i :: .pointer (some (pa.add (i * 3))) :: .pointer (some ((pa.add (i * 3)).add 1)) :: .string lb :: .slice (some pa) ((al.take 25).length) c :: iN .i64 i :: .pointer (some (pa.add (i * 3))) :: .pointer (some ((pa.add (i * 3)).add 1)) :: .string lb :: iN .i64 lb.size :: iN .i64 (min lb.size 20) :: .string (lb.extract 0 (min lb.size 20)) :: .slice o9 (txl ps (min ps.length 6)).length c9 :: .tuple #[.string ({ data := #[] }), iN .i64 2] :: .string ({ data := #[] }) :: iN .i64 2 :: u19 159 :: u19 160 :: u19 161 :: u19 162 :: u19 163 :: u19 164 :: u19 165 :: u19 166 :: u19 167 :: u19 168 :: u19 169 :: u19 170 :: u19 171 :: u19 172 :: List.replicate 9 un).toArray, []⟩ ∧ Row 69 1 (.slice tp168 es.length tc169) es.length (es.map ev) Lr170 ∧ HA (zb w [] tb es) ((tc.q, 74, (tcell tc (nms es0) (.slice pcp es0.length ccp))) :: (q8, 26, #[.slice ro (es0.map trm).length rc]) :: ((Lt ++ RL) ++ ((tb.q, 74, tcell tb (nms es) (.slice tp168 es.length tc169)) :: (Lr170 ++ PB es)))) w') 27 (by kernel_rfl) (by kernel_rfl) (by kernel_rfl) (by kernel_rfl) (by kernel_rfl) (HA.base h163.drew) ?_ ?_
         ·have h164 := h163.drew
          refine wk_val (i := 0) (.pointer (some ⟨tb.q, 0, none⟩)) rfl rfl (by kernel_rfl) (by kernel_rfl) (fun _ _ => (by kernel_rfl)) ?_
          refine wk_val (i := 1) (.slice (some pa) ((al.take 25).length) c) rfl rfl (by kernel_rfl) (by kernel_rfl) (fun _ _ => (by kernel_rfl)) ?_
          refine wk_val (i := 2) (iN .i64 i) rfl rfl (by kernel_rfl) (by kernel_rfl) (fun _ _ => (by kernel_rfl)) ?_
          refine wk_val (i := 3) (.pointer (some (pa.add (i * 3)))) rfl rfl (by kernel_rfl) (by kernel_rfl) (fun _ _ => (run_addrg (a := pa) (n := (al.take 25).length) (m := c) (i := i) (sz := 3) Try.underlying22 Try.sizeOf56 (by omega))) ?_
          refine wk_val (i := 4) (.pointer (some (pa.add (i * 3)))) rfl rfl (by kernel_rfl) (by kernel_rfl) (fun _ _ => (by kernel_rfl)) ?_
          refine wk_val (i := 5) (.int .i64 z) rfl rfl (by kernel_rfl) (by kernel_rfl) (fun w' h' => run_load1g (a := (pa.add (i * 3))) Try.isAgg3 (got (w := w) h'.old.old d1)) ?_
          refine wk_val (i := 6) (.int .i64 (kz z)) rfl rfl (by kernel_rfl) (by kernel_rfl) (fun _ _ => (run_subz1 (z := z))) ?_
          refine wk_val (i := 7) (.slice (some pa) ((al.take 25).length) c) rfl rfl (by kernel_rfl) (by kernel_rfl) (fun _ _ => (by kernel_rfl)) ?_
          refine wk_val (i := 8) (iN .i64 i) rfl rfl (by kernel_rfl) (by kernel_rfl) (fun _ _ => (by kernel_rfl)) ?_
          refine wk_val (i := 9) (.pointer (some (pa.add (i * 3)))) rfl rfl (by kernel_rfl) (by kernel_rfl) (fun _ _ => (run_addrg (a := pa) (n := (al.take 25).length) (m := c) (i := i) (sz := 3) Try.underlying22 Try.sizeOf56 (by omega))) ?_
          refine wk_val (i := 10) (.pointer (some ((pa.add (i * 3)).add 1))) rfl rfl (by kernel_rfl) (by kernel_rfl) (fun _ _ => (by kernel_rfl)) ?_
          refine wk_val (i := 11) (.string lb) rfl rfl (by kernel_rfl) (by kernel_rfl) (fun w' h' => run_load1g (a := ((pa.add (i * 3)).add 1)) Try.isAgg9 (got (w := w) h'.old.old (by rw [Addr.add_addr]; exact d2))) ?_
          refine wk_val (i := 12) (.slice (some pa) ((al.take 25).length) c) rfl rfl (by kernel_rfl) (by kernel_rfl) (fun _ _ => (by kernel_rfl)) ?_
          refine wk_val (i := 13) (iN .i64 i) rfl rfl (by kernel_rfl) (by kernel_rfl) (fun _ _ => (by kernel_rfl)) ?_
          refine wk_val (i := 14) (.pointer (some (pa.add (i * 3)))) rfl rfl (by kernel_rfl) (by kernel_rfl) (fun _ _ => (run_addrg (a := pa) (n := (al.take 25).length) (m := c) (i := i) (sz := 3) Try.underlying22 Try.sizeOf56 (by omega))) ?_
          refine wk_val (i := 15) (.pointer (some ((pa.add (i * 3)).add 1))) rfl rfl (by kernel_rfl) (by kernel_rfl) (fun _ _ => (by kernel_rfl)) ?_
          refine wk_val (i := 16) (.string lb) rfl rfl (by kernel_rfl) (by kernel_rfl) (fun w' h' => run_load1g (a := ((pa.add (i * 3)).add 1)) Try.isAgg9 (got (w := w) h'.old.old (by rw [Addr.add_addr]; exact d2))) ?_
          refine wk_val (i := 17) (iN .i64 lb.size) rfl rfl (by kernel_rfl) (by kernel_rfl) (fun _ _ => (run_len (s := lb))) ?_
          refine wk_val (i := 18) (iN .i64 (min lb.size 20)) rfl rfl (by kernel_rfl) (by kernel_rfl) (fun _ _ => (run_min (i := lb.size) (j := 20))) ?_
          refine wk_val (i := 19) (.string (lb.extract 0 (min lb.size 20))) rfl rfl (by kernel_rfl) (by kernel_rfl) (fun _ _ => (run_cut_hi (s := lb) (b := min lb.size 20) (by omega))) ?_
          refine wk_val (i := 20) (.slice o9 (txl ps (min ps.length 6)).length c9) rfl rfl (by kernel_rfl) (by kernel_rfl) (fun _ _ => (by kernel_rfl)) ?_
          refine wk_one 21 (by kernel_rfl) ?_
          refine ef_callx rfl (by kernel_rfl) h164 enter18 #[.pointer (some ⟨tb.q, 0, none⟩), .int .i64 (kz z), .string (lb.extract 0 (min lb.size 20)), .slice o9 (txl ps (min ps.length 6)).length c9] (by kernel_rfl) (fun w165 h166 => Make_arg (TH.cl ((tc.q, 74, (tcell tc (nms es0) (.slice pcp es0.length ccp))) :: (q8, 26, #[.slice ro (es0.map trm).length rc]) :: (Lt ++ RL)) hR155 h166) (kz z) (lb.extract 0 (min lb.size 20)) (txl ps (min ps.length 6)) o9 c9 hmk) ?_
          rintro w165 h166 _ w167 ⟨rfl, hT2⟩
          obtain ⟨tp168, tc169, Lr170, hR171, h172⟩ := TH.op hT2
          have h173 : HA (zb w [] tb es) ((tc.q, 74, (tcell tc (nms es0) (.slice pcp es0.length ccp))) :: (q8, 26, #[.slice ro (es0.map trm).length rc]) :: ((Lt ++ RL) ++ ((tb.q, 74, tcell tb (nms es) (.slice tp168 es.length tc169)) :: (Lr170 ++ PB es)))) w167 := h172
          refine ⟨_, rfl, (HA.base h173), ?_⟩
          refine wk_val (i := 22) (.tuple #[.string ({ data := #[] }), iN .i64 2]) rfl rfl (by kernel_rfl) (by kernel_rfl) (fun _ _ => (by kernel_rfl)) ?_
          refine wk_val (i := 23) (.string ({ data := #[] })) rfl rfl (by kernel_rfl) (by kernel_rfl) (fun _ _ => (by kernel_rfl)) ?_
          refine wk_val (i := 24) (iN .i64 2) rfl rfl (by kernel_rfl) (by kernel_rfl) (fun _ _ => (by kernel_rfl)) ?_
          refine wk_val (i := 25) (.string ({ data := #[] })) rfl rfl (by kernel_rfl) (by kernel_rfl) (fun _ _ => (by kernel_rfl)) ?_
          refine wk_val (i := 26) (iN .i64 2) rfl rfl (by kernel_rfl) (by kernel_rfl) (fun _ _ => (by kernel_rfl)) ?_
          refine wk_end fun w174 hbx hsx => ?_
          have h175 := HA.keep _ _ h173 hbx
          exact ⟨tp168, tc169, Lr170, by kernel_rfl, hR171, h175⟩
         ·rintro _ w176 ⟨tp168, tc169, Lr170, rfl, hR171, h177⟩
          refine then_at rfl ?_
          refine zsr ?_
          refine zwv (.string ({ data := #[] })) ?_
          refine zwv (.string ({ data := #[] })) ?_
          refine zwu (run_nes (s := { data := #[] }) (t := { data := #[] }) false (decide_eq_true rfl)) ?_
          refine zwv (.bool false) ?_
          refine zwv (iN .i64 2) ?_
          refine zwv (iN .i64 2) ?_
          refine zwv (.bool false) ?_
          refine zwv (.bool false) ?_
          refine zwv (.bool false) ?_
          refine zwv (.pointer (some ⟨tb.q, 0, none⟩)) ?_
          refine zwc h177 enter20 (Len_any (t := tb) (n := nms es) (p := tp168) (c := tc169) (h177.blk (tb.q, 74, tcell tb (nms es) (.slice tp168 es.length tc169)) (by simp))) ?_
          intro w178 h179
          refine zwv (iN .i64 es.length) ?_
          refine zwu (run_nei (k := .i64) (a := es.length) (b := es.length) false (by simp)) ?_
          refine zwv (.bool false) ?_
          refine znt ?_
          refine zcf ?_
          refine wp_skip ?_
          refine block_normal ?_
          refine then_at rfl ?_
          refine wl_region ?_
          refine zwv (iN .i64 i) ?_
          refine zwu (run_add (k := .i64) (a := i) (b := 1) (by simp only [top]; omega)) ?_
          refine zwv (iN .i64 (i + 1)) ?_
          refine wl_nil ?_
          have h180 := HA.sub h179 (List.Sublist.cons_cons _ (List.Sublist.cons_cons _ (List.Sublist.append_right (List.sublist_append_right Lt _) _)))
          exact then_I (zex (⟨es, tp168, tc169, Lr170, hI, by omega, hR171, h180⟩))
       ·obtain ⟨kn, hkn, hk3, hk31, hk42, hn100, hk6, hk7⟩ := mayB_nat hmk
        rw [hkn] at hmk
        refine wp_region_wk (HA (bs w) []) (fun A w' => ∃ (x1 : Nat) (es1 : List Ent) (tp185 : Option Addr) (tc186 : Nat) (Lr187 : BL), A = ⟨(.slice (some pa) ((al.take 25).length) c :: un :: u19 2 :: pt tb.q :: pt q8 :: .bool true :: iN .i64 es0.length :: pt tc.q :: iN .i64 i :: .slice o9 (txl ps (min ps.length 6)).length c9 :: .string (txw ps (min ps.length 6)) :: .bool false :: iN .i64 ((txl ps (min ps.length 6)).length) :: u19 13 :: u19 14 :: .string (txt x1) :: iN .i64 0 :: u19 17 :: u19 18 :: u19 19 :: .slice (some pa) al.length c :: .slice (some pa) al.length c :: iN .i64 al.length :: iN .i64 (min al.length 25) :: .slice (some pa) ((al.take 25).length) c :: .tuple #[pt tb.q, .agg #[.slice ro (es0.map trm).length rc], .bool true] :: .slice (some pa) ((al.take 25).length) c :: .tuple #[pt tb.q, .agg #[.slice ro (es0.map trm).length rc], .bool true] :: pt tb.q :: .agg #[.slice ro (es0.map trm).length rc] :: .bool true :: .bool true :: .bool false :: pt tb.q :: iN .i64 es0.length :: pt tb.q :: pt tc.q :: pt tc.q :: .bool false :: .bool false :: pt tc.q :: iN .i64 es0.length :: iN .i64 es0.length :: .bool false :: .bool false :: iN .i64 i :: .slice (some pa) ((al.take 25).length) c :: iN .i64 ((al.take 25).length) :: .bool true :: u19 49 :: u19 50 :: .tuple #[.slice o9 (txl ps (min ps.length 6)).length c9, .string (txw ps (min ps.length 6))] :: .slice (some pa) ((al.take 25).length) c :: iN .i64 i :: .pointer (some (pa.add (i * 3))) :: .pointer (some ((pa.add (i * 3)).add 2)) :: .slice po ps.length pc :: .tuple #[.slice o9 (txl ps (min ps.length 6)).length c9, .string (txw ps (min ps.length 6))] :: .slice o9 (txl ps (min ps.length 6)).length c9 :: .string (txw ps (min ps.length 6)) :: pt tb.q :: .string (txw ps (min ps.length 6)) :: .bool true :: iN .i64 ((txl ps (min ps.length 6)).length) :: .slice o9 (txl ps (min ps.length 6)).length c9 :: iN .i64 ((txl ps (min ps.length 6)).length) :: .bool false :: u121 67 :: u121 68 :: u121 69 :: u121 70 :: u121 71 :: u121 72 :: u121 73 :: u121 74 :: u121 75 :: u121 76 :: u121 77 :: .bool false :: .slice (some pa) ((al.take 25).length) c :: iN .i64 i :: .pointer (some (pa.add (i * 3))) :: .pointer (some (pa.add (i * 3))) :: .int .i64 z :: .bool false :: u19 85 :: u19 86 :: u19 87 :: u19 88 :: u19 89 :: u19 90 :: u19 91 :: u19 92 :: u19 93 :: u19 94 :: u19 95 :: u19 96 :: u19 97 :: u19 98 :: u19 99 :: u19 100 :: .slice (some pa) ((al.take 25).length) c :: iN .i64 i :: .pointer (some (pa.add (i * 3))) :: .pointer (some (pa.add (i * 3))) :: .int .i64 z :: .bool true :: .tuple #[.string (txt x1), iN .i64 0] :: pt tb.q :: .slice (some pa) ((al.take 25).length) c :: iN .i64 i :: .pointer (some (pa.add (i * 3))) :: .pointer (some (pa.add (i * 3))) :: .int .i64 z :: iN .i64 kn :: .slice (some pa) ((al.take 25).length) c :: iN .i64 i :: .pointer (some (pa.add (i * 3))) :: .pointer (some ((pa.add (i * 3)).add 1)) :: .string lb :: .slice (some pa) ((al.take 25).length) c :: iN .i64 i :: .pointer (some (pa.add (i * 3))) :: .pointer (some ((pa.add (i * 3)).add 1)) :: .string lb :: iN .i64 lb.size :: iN .i64 (min lb.size 20) :: .string (lb.extract 0 (min lb.size 20)) :: .slice o9 (txl ps (min ps.length 6)).length c9 :: .tuple #[.string (txt x1), iN .i64 0] :: .string (txt x1) :: iN .i64 0 :: u19 132 :: u19 133 :: u19 134 :: u19 135 :: u19 136 :: u19 137 :: u19 138 :: u19 139 :: u19 140 :: u19 141 :: u19 142 :: u19 143 :: u19 144 :: u19 145 :: u19 146 :: u19 147 :: u19 148 :: u19 149 :: u19 150 :: u19 151 :: u19 152 :: u19 153 :: u19 154 :: u19 155 :: u19 156 :: u19 157 :: u19 158 :: u19 159 :: u19 160 :: u19 161 :: u19 162 :: u19 163 :: u19 164 :: u19 165 :: u19 166 :: u19 167 :: u19 168 :: u19 169 :: u19 170 :: u19 171 :: u19 172 :: List.replicate 9 un).toArray, []⟩ ∧ JO es kn (lb.extract 0 (min lb.size 20)) (txl ps (min ps.length 6)) x1 es1 ∧ Row 69 1 (.slice tp185 es1.length tc186) es1.length (es1.map ev) Lr187 ∧ HA (zb w [] tb es1) ((tc.q, 74, (tcell tc (nms es0) (.slice pcp es0.length ccp))) :: (q8, 26, #[.slice ro (es0.map trm).length rc]) :: ((Lt ++ RL) ++ ((tb.q, 74, tcell tb (nms es1) (.slice tp185 es1.length tc186)) :: (Lr187 ++ PB es1)))) w') 27 (by kernel_rfl) (by kernel_rfl) (by kernel_rfl) (by kernel_rfl) (by kernel_rfl) (HA.base hA.drew) ?_ ?_
        ·have h181 := hA.drew
         refine wk_val (i := 0) (.pointer (some ⟨tb.q, 0, none⟩)) rfl rfl (by kernel_rfl) (by kernel_rfl) (fun _ _ => (by kernel_rfl)) ?_
         refine wk_val (i := 1) (.slice (some pa) ((al.take 25).length) c) rfl rfl (by kernel_rfl) (by kernel_rfl) (fun _ _ => (by kernel_rfl)) ?_
         refine wk_val (i := 2) (iN .i64 i) rfl rfl (by kernel_rfl) (by kernel_rfl) (fun _ _ => (by kernel_rfl)) ?_
         refine wk_val (i := 3) (.pointer (some (pa.add (i * 3)))) rfl rfl (by kernel_rfl) (by kernel_rfl) (fun _ _ => (run_addrg (a := pa) (n := (al.take 25).length) (m := c) (i := i) (sz := 3) Try.underlying22 Try.sizeOf56 (by omega))) ?_
         refine wk_val (i := 4) (.pointer (some (pa.add (i * 3)))) rfl rfl (by kernel_rfl) (by kernel_rfl) (fun _ _ => (by kernel_rfl)) ?_
         refine wk_val (i := 5) (.int .i64 z) rfl rfl (by kernel_rfl) (by kernel_rfl) (fun w' h' => run_load1g (a := (pa.add (i * 3))) Try.isAgg3 (got (w := w) h'.old.old d1)) ?_
         refine wk_val (i := 6) (iN .i64 kn) rfl rfl (by kernel_rfl) (by kernel_rfl) (fun _ _ => (run_subz1k (z := z) hkn)) ?_
         refine wk_val (i := 7) (.slice (some pa) ((al.take 25).length) c) rfl rfl (by kernel_rfl) (by kernel_rfl) (fun _ _ => (by kernel_rfl)) ?_
         refine wk_val (i := 8) (iN .i64 i) rfl rfl (by kernel_rfl) (by kernel_rfl) (fun _ _ => (by kernel_rfl)) ?_
         refine wk_val (i := 9) (.pointer (some (pa.add (i * 3)))) rfl rfl (by kernel_rfl) (by kernel_rfl) (fun _ _ => (run_addrg (a := pa) (n := (al.take 25).length) (m := c) (i := i) (sz := 3) Try.underlying22 Try.sizeOf56 (by omega))) ?_
         refine wk_val (i := 10) (.pointer (some ((pa.add (i * 3)).add 1))) rfl rfl (by kernel_rfl) (by kernel_rfl) (fun _ _ => (by kernel_rfl)) ?_
         refine wk_val (i := 11) (.string lb) rfl rfl (by kernel_rfl) (by kernel_rfl) (fun w' h' => run_load1g (a := ((pa.add (i * 3)).add 1)) Try.isAgg9 (got (w := w) h'.old.old (by rw [Addr.add_addr]; exact d2))) ?_
         refine wk_val (i := 12) (.slice (some pa) ((al.take 25).length) c) rfl rfl (by kernel_rfl) (by kernel_rfl) (fun _ _ => (by kernel_rfl)) ?_
         refine wk_val (i := 13) (iN .i64 i) rfl rfl (by kernel_rfl) (by kernel_rfl) (fun _ _ => (by kernel_rfl)) ?_
         refine wk_val (i := 14) (.pointer (some (pa.add (i * 3)))) rfl rfl (by kernel_rfl) (by kernel_rfl) (fun _ _ => (run_addrg (a := pa) (n := (al.take 25).length) (m := c) (i := i) (sz := 3) Try.underlying22 Try.sizeOf56 (by omega))) ?_
         refine wk_val (i := 15) (.pointer (some ((pa.add (i * 3)).add 1))) rfl rfl (by kernel_rfl) (by kernel_rfl) (fun _ _ => (by kernel_rfl)) ?_
         refine wk_val (i := 16) (.string lb) rfl rfl (by kernel_rfl) (by kernel_rfl) (fun w' h' => run_load1g (a := ((pa.add (i * 3)).add 1)) Try.isAgg9 (got (w := w) h'.old.old (by rw [Addr.add_addr]; exact d2))) ?_
         refine wk_val (i := 17) (iN .i64 lb.size) rfl rfl (by kernel_rfl) (by kernel_rfl) (fun _ _ => (run_len (s := lb))) ?_
         refine wk_val (i := 18) (iN .i64 (min lb.size 20)) rfl rfl (by kernel_rfl) (by kernel_rfl) (fun _ _ => (run_min (i := lb.size) (j := 20))) ?_
         refine wk_val (i := 19) (.string (lb.extract 0 (min lb.size 20))) rfl rfl (by kernel_rfl) (by kernel_rfl) (fun _ _ => (run_cut_hi (s := lb) (b := min lb.size 20) (by omega))) ?_
         refine wk_val (i := 20) (.slice o9 (txl ps (min ps.length 6)).length c9) rfl rfl (by kernel_rfl) (by kernel_rfl) (fun _ _ => (by kernel_rfl)) ?_
         refine wk_one 21 (by kernel_rfl) ?_
         refine ef_callx rfl (by kernel_rfl) h181 enter18 #[.pointer (some ⟨tb.q, 0, none⟩), iN .i64 kn, .string (lb.extract 0 (min lb.size 20)), .slice o9 (txl ps (min ps.length 6)).length c9] (by kernel_rfl) (fun w182 h183 => Make_ok (TH.cl ((tc.q, 74, (tcell tc (nms es0) (.slice pcp es0.length ccp))) :: (q8, 26, #[.slice ro (es0.map trm).length rc]) :: (Lt ++ RL)) hR h183) hI.wf kn (lb.extract 0 (min lb.size 20)) (txl ps (min ps.length 6)) o9 c9 (hpre.imp id (fun ⟨pq, cs, e1, e2, e3⟩ => ⟨pq, cs, e1, e2, by simp [e3]⟩)) (by omega) hmk (by rw [ByteArray.size_extract]; omega) (fun i => by have := txl_get ps (min ps.length 6) i; omega) (by rw [txl_len]; omega) (fun e => (hk42 e).1)) ?_
         rintro w182 h183 _ w184 ⟨x1, es1, hJ, rfl, hT1⟩
         obtain ⟨tp185, tc186, Lr187, hR188, h189⟩ := TH.op hT1
         have h190 : HA (zb w [] tb es1) ((tc.q, 74, (tcell tc (nms es0) (.slice pcp es0.length ccp))) :: (q8, 26, #[.slice ro (es0.map trm).length rc]) :: ((Lt ++ RL) ++ ((tb.q, 74, tcell tb (nms es1) (.slice tp185 es1.length tc186)) :: (Lr187 ++ PB es1)))) w184 := h189
         refine ⟨_, rfl, (HA.base h190), ?_⟩
         refine wk_val (i := 22) (.tuple #[.string (txt x1), iN .i64 0]) rfl rfl (by kernel_rfl) (by kernel_rfl) (fun _ _ => (by kernel_rfl)) ?_
         refine wk_val (i := 23) (.string (txt x1)) rfl rfl (by kernel_rfl) (by kernel_rfl) (fun _ _ => (by kernel_rfl)) ?_
         refine wk_val (i := 24) (iN .i64 0) rfl rfl (by kernel_rfl) (by kernel_rfl) (fun _ _ => (by kernel_rfl)) ?_
         refine wk_val (i := 25) (.string (txt x1)) rfl rfl (by kernel_rfl) (by kernel_rfl) (fun _ _ => (by kernel_rfl)) ?_
         refine wk_val (i := 26) (iN .i64 0) rfl rfl (by kernel_rfl) (by kernel_rfl) (fun _ _ => (by kernel_rfl)) ?_
         refine wk_end fun w191 hbx hsx => ?_
         have h192 := HA.keep _ _ h190 hbx
         exact ⟨x1, es1, tp185, tc186, Lr187, by kernel_rfl, hJ, hR188, h192⟩
        ·rintro _ w193 ⟨x1, es1, tp185, tc186, Lr187, rfl, hJ, hR188, h194⟩
         obtain ⟨_, _, hI1⟩ := mk_same hI hJ (by rw [txl_len]; omega) hn100 (fun i => by have := txl_get ps (min ps.length 6) i; omega) hk3 (fun e => hk31 e) (fun e => (hk42 e).1) (fun e => (hk42 e).2) hk6 hk7 (by rw [ByteArray.size_extract]; omega)
         have hl1 : es1.length ≤ es.length + 7 := by have := hJ.lt.2; rw [txl_len] at this; omega
         refine then_at rfl ?_
         refine zsr ?_
         refine zwv (.pointer (some ⟨tb.q, 0, none⟩)) ?_
         refine zwc h194 enter20 (Len_any (t := tb) (n := nms es1) (p := tp185) (c := tc186) (h194.blk (tb.q, 74, tcell tb (nms es1) (.slice tp185 es1.length tc186)) (by simp))) ?_
         intro w195 h196
         refine zwv (iN .i64 es1.length) ?_
         refine znt ?_
         refine wp_seq ?_
         refine wp_region_wk (HA (bs w) []) (fun A w' => ∃ (tp201 : Option Addr) (tc202 : Nat) (Lr203 : BL), A = ⟨(.slice (some pa) ((al.take 25).length) c :: un :: u19 2 :: pt tb.q :: pt q8 :: .bool true :: iN .i64 es0.length :: pt tc.q :: iN .i64 i :: .slice o9 (txl ps (min ps.length 6)).length c9 :: .string (txw ps (min ps.length 6)) :: .bool false :: iN .i64 ((txl ps (min ps.length 6)).length) :: u19 13 :: u19 14 :: .string (txt x1) :: iN .i64 0 :: iN .i64 es1.length :: .string (txt x1) :: iN .i64 0 :: .slice (some pa) al.length c :: .slice (some pa) al.length c :: iN .i64 al.length :: iN .i64 (min al.length 25) :: .slice (some pa) ((al.take 25).length) c :: .tuple #[pt tb.q, .agg #[.slice ro (es0.map trm).length rc], .bool true] :: .slice (some pa) ((al.take 25).length) c :: .tuple #[pt tb.q, .agg #[.slice ro (es0.map trm).length rc], .bool true] :: pt tb.q :: .agg #[.slice ro (es0.map trm).length rc] :: .bool true :: .bool true :: .bool false :: pt tb.q :: iN .i64 es0.length :: pt tb.q :: pt tc.q :: pt tc.q :: .bool false :: .bool false :: pt tc.q :: iN .i64 es0.length :: iN .i64 es0.length :: .bool false :: .bool false :: iN .i64 i :: .slice (some pa) ((al.take 25).length) c :: iN .i64 ((al.take 25).length) :: .bool true :: u19 49 :: u19 50 :: .tuple #[.slice o9 (txl ps (min ps.length 6)).length c9, .string (txw ps (min ps.length 6))] :: .slice (some pa) ((al.take 25).length) c :: iN .i64 i :: .pointer (some (pa.add (i * 3))) :: .pointer (some ((pa.add (i * 3)).add 2)) :: .slice po ps.length pc :: .tuple #[.slice o9 (txl ps (min ps.length 6)).length c9, .string (txw ps (min ps.length 6))] :: .slice o9 (txl ps (min ps.length 6)).length c9 :: .string (txw ps (min ps.length 6)) :: pt tb.q :: .string (txw ps (min ps.length 6)) :: .bool true :: iN .i64 ((txl ps (min ps.length 6)).length) :: .slice o9 (txl ps (min ps.length 6)).length c9 :: iN .i64 ((txl ps (min ps.length 6)).length) :: .bool false :: u121 67 :: u121 68 :: u121 69 :: u121 70 :: u121 71 :: u121 72 :: u121 73 :: u121 74 :: u121 75 :: u121 76 :: u121 77 :: .bool false :: .slice (some pa) ((al.take 25).length) c :: iN .i64 i :: .pointer (some (pa.add (i * 3))) :: .pointer (some (pa.add (i * 3))) :: .int .i64 z :: .bool false :: u19 85 :: u19 86 :: u19 87 :: u19 88 :: u19 89 :: u19 90 :: u19 91 :: u19 92 :: u19 93 :: u19 94 :: u19 95 :: u19 96 :: u19 97 :: u19 98 :: u19 99 :: u19 100 :: .slice (some pa) ((al.take 25).length) c :: iN .i64 i :: .pointer (some (pa.add (i * 3))) :: .pointer (some (pa.add (i * 3))) :: .int .i64 z :: .bool true :: .tuple #[.string (txt x1), iN .i64 0] :: pt tb.q :: .slice (some pa) ((al.take 25).length) c :: iN .i64 i :: .pointer (some (pa.add (i * 3))) :: .pointer (some (pa.add (i * 3))) :: .int .i64 z :: iN .i64 kn :: .slice (some pa) ((al.take 25).length) c :: iN .i64 i :: .pointer (some (pa.add (i * 3))) :: .pointer (some ((pa.add (i * 3)).add 1)) :: .string lb :: .slice (some pa) ((al.take 25).length) c :: iN .i64 i :: .pointer (some (pa.add (i * 3))) :: .pointer (some ((pa.add (i * 3)).add 1)) :: .string lb :: iN .i64 lb.size :: iN .i64 (min lb.size 20) :: .string (lb.extract 0 (min lb.size 20)) :: .slice o9 (txl ps (min ps.length 6)).length c9 :: .tuple #[.string (txt x1), iN .i64 0] :: .string (txt x1) :: iN .i64 0 :: pt tb.q :: iN .i64 es1.length :: .tuple #[.string (txt x1), iN .i64 0] :: pt tb.q :: .slice (some pa) ((al.take 25).length) c :: iN .i64 i :: .pointer (some (pa.add (i * 3))) :: .pointer (some (pa.add (i * 3))) :: .int .i64 z :: iN .i64 kn :: .slice (some pa) ((al.take 25).length) c :: iN .i64 i :: .pointer (some (pa.add (i * 3))) :: .pointer (some ((pa.add (i * 3)).add 1)) :: .string lb :: .slice (some pa) ((al.take 25).length) c :: iN .i64 i :: .pointer (some (pa.add (i * 3))) :: .pointer (some ((pa.add (i * 3)).add 1)) :: .string lb :: iN .i64 lb.size :: iN .i64 (min lb.size 20) :: .string (lb.extract 0 (min lb.size 20)) :: .slice o9 (txl ps (min ps.length 6)).length c9 :: .tuple #[.string (txt x1), iN .i64 0] :: .string (txt x1) :: iN .i64 0 :: u19 159 :: u19 160 :: u19 161 :: u19 162 :: u19 163 :: u19 164 :: u19 165 :: u19 166 :: u19 167 :: u19 168 :: u19 169 :: u19 170 :: u19 171 :: u19 172 :: List.replicate 9 un).toArray, []⟩ ∧ Row 69 1 (.slice tp201 es1.length tc202) es1.length (es1.map ev) Lr203 ∧ HA (zb w [] tb es1) ((tc.q, 74, (tcell tc (nms es0) (.slice pcp es0.length ccp))) :: (q8, 26, #[.slice ro (es0.map trm).length rc]) :: ((Lt ++ RL) ++ ((tb.q, 74, tcell tb (nms es1) (.slice tp201 es1.length tc202)) :: (Lr203 ++ PB es1)))) w') 27 (by kernel_rfl) (by kernel_rfl) (by kernel_rfl) (by kernel_rfl) (by kernel_rfl) (HA.base h196.drew) ?_ ?_
         ·have h197 := h196.drew
          refine wk_val (i := 0) (.pointer (some ⟨tb.q, 0, none⟩)) rfl rfl (by kernel_rfl) (by kernel_rfl) (fun _ _ => (by kernel_rfl)) ?_
          refine wk_val (i := 1) (.slice (some pa) ((al.take 25).length) c) rfl rfl (by kernel_rfl) (by kernel_rfl) (fun _ _ => (by kernel_rfl)) ?_
          refine wk_val (i := 2) (iN .i64 i) rfl rfl (by kernel_rfl) (by kernel_rfl) (fun _ _ => (by kernel_rfl)) ?_
          refine wk_val (i := 3) (.pointer (some (pa.add (i * 3)))) rfl rfl (by kernel_rfl) (by kernel_rfl) (fun _ _ => (run_addrg (a := pa) (n := (al.take 25).length) (m := c) (i := i) (sz := 3) Try.underlying22 Try.sizeOf56 (by omega))) ?_
          refine wk_val (i := 4) (.pointer (some (pa.add (i * 3)))) rfl rfl (by kernel_rfl) (by kernel_rfl) (fun _ _ => (by kernel_rfl)) ?_
          refine wk_val (i := 5) (.int .i64 z) rfl rfl (by kernel_rfl) (by kernel_rfl) (fun w' h' => run_load1g (a := (pa.add (i * 3))) Try.isAgg3 (got (w := w) h'.old.old d1)) ?_
          refine wk_val (i := 6) (iN .i64 kn) rfl rfl (by kernel_rfl) (by kernel_rfl) (fun _ _ => (run_subz1k (z := z) hkn)) ?_
          refine wk_val (i := 7) (.slice (some pa) ((al.take 25).length) c) rfl rfl (by kernel_rfl) (by kernel_rfl) (fun _ _ => (by kernel_rfl)) ?_
          refine wk_val (i := 8) (iN .i64 i) rfl rfl (by kernel_rfl) (by kernel_rfl) (fun _ _ => (by kernel_rfl)) ?_
          refine wk_val (i := 9) (.pointer (some (pa.add (i * 3)))) rfl rfl (by kernel_rfl) (by kernel_rfl) (fun _ _ => (run_addrg (a := pa) (n := (al.take 25).length) (m := c) (i := i) (sz := 3) Try.underlying22 Try.sizeOf56 (by omega))) ?_
          refine wk_val (i := 10) (.pointer (some ((pa.add (i * 3)).add 1))) rfl rfl (by kernel_rfl) (by kernel_rfl) (fun _ _ => (by kernel_rfl)) ?_
          refine wk_val (i := 11) (.string lb) rfl rfl (by kernel_rfl) (by kernel_rfl) (fun w' h' => run_load1g (a := ((pa.add (i * 3)).add 1)) Try.isAgg9 (got (w := w) h'.old.old (by rw [Addr.add_addr]; exact d2))) ?_
          refine wk_val (i := 12) (.slice (some pa) ((al.take 25).length) c) rfl rfl (by kernel_rfl) (by kernel_rfl) (fun _ _ => (by kernel_rfl)) ?_
          refine wk_val (i := 13) (iN .i64 i) rfl rfl (by kernel_rfl) (by kernel_rfl) (fun _ _ => (by kernel_rfl)) ?_
          refine wk_val (i := 14) (.pointer (some (pa.add (i * 3)))) rfl rfl (by kernel_rfl) (by kernel_rfl) (fun _ _ => (run_addrg (a := pa) (n := (al.take 25).length) (m := c) (i := i) (sz := 3) Try.underlying22 Try.sizeOf56 (by omega))) ?_
          refine wk_val (i := 15) (.pointer (some ((pa.add (i * 3)).add 1))) rfl rfl (by kernel_rfl) (by kernel_rfl) (fun _ _ => (by kernel_rfl)) ?_
          refine wk_val (i := 16) (.string lb) rfl rfl (by kernel_rfl) (by kernel_rfl) (fun w' h' => run_load1g (a := ((pa.add (i * 3)).add 1)) Try.isAgg9 (got (w := w) h'.old.old (by rw [Addr.add_addr]; exact d2))) ?_
          refine wk_val (i := 17) (iN .i64 lb.size) rfl rfl (by kernel_rfl) (by kernel_rfl) (fun _ _ => (run_len (s := lb))) ?_
          refine wk_val (i := 18) (iN .i64 (min lb.size 20)) rfl rfl (by kernel_rfl) (by kernel_rfl) (fun _ _ => (run_min (i := lb.size) (j := 20))) ?_
          refine wk_val (i := 19) (.string (lb.extract 0 (min lb.size 20))) rfl rfl (by kernel_rfl) (by kernel_rfl) (fun _ _ => (run_cut_hi (s := lb) (b := min lb.size 20) (by omega))) ?_
          refine wk_val (i := 20) (.slice o9 (txl ps (min ps.length 6)).length c9) rfl rfl (by kernel_rfl) (by kernel_rfl) (fun _ _ => (by kernel_rfl)) ?_
          refine wk_one 21 (by kernel_rfl) ?_
          refine ef_callx rfl (by kernel_rfl) h197 enter18 #[.pointer (some ⟨tb.q, 0, none⟩), iN .i64 kn, .string (lb.extract 0 (min lb.size 20)), .slice o9 (txl ps (min ps.length 6)).length c9] (by kernel_rfl) (fun w198 h199 => Make_ok (TH.cl ((tc.q, 74, (tcell tc (nms es0) (.slice pcp es0.length ccp))) :: (q8, 26, #[.slice ro (es0.map trm).length rc]) :: (Lt ++ RL)) hR188 h199) hI1.wf kn (lb.extract 0 (min lb.size 20)) (txl ps (min ps.length 6)) o9 c9 (hpre.imp id (fun ⟨pq, cs, e1, e2, e3⟩ => ⟨pq, cs, e1, e2, by simp [e3]⟩)) (by omega) hmk (by rw [ByteArray.size_extract]; omega) (fun i => by have := txl_get ps (min ps.length 6) i; omega) (by rw [txl_len]; omega) (fun e => (hk42 e).1)) ?_
          rintro w198 h199 _ w200 ⟨x2, es2, hJ2, rfl, hT2⟩
          obtain ⟨ex2, ee2⟩ := JO.again hJ hJ2 hok (fun e => (hk42 e).1)
          have ex3 := ex2.symm
          have ee3 := ee2.symm
          subst ex3 ee3
          obtain ⟨tp201, tc202, Lr203, hR204, h205⟩ := TH.op hT2
          have h206 : HA (zb w [] tb es1) ((tc.q, 74, (tcell tc (nms es0) (.slice pcp es0.length ccp))) :: (q8, 26, #[.slice ro (es0.map trm).length rc]) :: ((Lt ++ RL) ++ ((tb.q, 74, tcell tb (nms es1) (.slice tp201 es1.length tc202)) :: (Lr203 ++ PB es1)))) w200 := h205
          refine ⟨_, rfl, (HA.base h206), ?_⟩
          refine wk_val (i := 22) (.tuple #[.string (txt x1), iN .i64 0]) rfl rfl (by kernel_rfl) (by kernel_rfl) (fun _ _ => (by kernel_rfl)) ?_
          refine wk_val (i := 23) (.string (txt x1)) rfl rfl (by kernel_rfl) (by kernel_rfl) (fun _ _ => (by kernel_rfl)) ?_
          refine wk_val (i := 24) (iN .i64 0) rfl rfl (by kernel_rfl) (by kernel_rfl) (fun _ _ => (by kernel_rfl)) ?_
          refine wk_val (i := 25) (.string (txt x1)) rfl rfl (by kernel_rfl) (by kernel_rfl) (fun _ _ => (by kernel_rfl)) ?_
          refine wk_val (i := 26) (iN .i64 0) rfl rfl (by kernel_rfl) (by kernel_rfl) (fun _ _ => (by kernel_rfl)) ?_
          refine wk_end fun w207 hbx hsx => ?_
          have h208 := HA.keep _ _ h206 hbx
          exact ⟨tp201, tc202, Lr203, by kernel_rfl, hR204, h208⟩
         ·rintro _ w209 ⟨tp201, tc202, Lr203, rfl, hR204, h210⟩
          refine then_at rfl ?_
          refine zsr ?_
          refine zwv (.string (txt x1)) ?_
          refine zwv (.string (txt x1)) ?_
          refine zwu (run_nes (s := txt x1) (t := txt x1) false (decide_eq_true rfl)) ?_
          refine zwv (.bool false) ?_
          refine zwv (iN .i64 0) ?_
          refine zwv (iN .i64 0) ?_
          refine zwv (.bool false) ?_
          refine zwv (.bool false) ?_
          refine zwv (.bool false) ?_
          refine zwv (.pointer (some ⟨tb.q, 0, none⟩)) ?_
          refine zwc h210 enter20 (Len_any (t := tb) (n := nms es1) (p := tp201) (c := tc202) (h210.blk (tb.q, 74, tcell tb (nms es1) (.slice tp201 es1.length tc202)) (by simp))) ?_
          intro w211 h212
          refine zwv (iN .i64 es1.length) ?_
          refine zwu (run_nei (k := .i64) (a := es1.length) (b := es1.length) false (by simp)) ?_
          refine zwv (.bool false) ?_
          refine znt ?_
          refine zcf ?_
          refine wp_skip ?_
          refine block_normal ?_
          refine then_at rfl ?_
          refine wl_region ?_
          refine zwv (iN .i64 i) ?_
          refine zwu (run_add (k := .i64) (a := i) (b := 1) (by simp only [top]; omega)) ?_
          refine zwv (iN .i64 (i + 1)) ?_
          refine wl_nil ?_
          have h213 := HA.sub h212 (List.Sublist.cons_cons _ (List.Sublist.cons_cons _ (List.Sublist.append_right (List.sublist_append_right Lt _) _)))
          exact then_I (zex (⟨es1, tp201, tc202, Lr203, hI1, by omega, hR204, h213⟩))
      ·refine wl_region ?_
       refine zwv (.slice (some pa) ((al.take 25).length) c) ?_
       refine zwv (iN .i64 i) ?_
       refine zwu (v := .pointer (some (pa.add (i * 3)))) (run_addrg (a := pa) (n := (al.take 25).length) (m := c) (i := i) (sz := 3) Try.underlying22 Try.sizeOf56 (by omega)) ?_
       refine zwv (.pointer (some (pa.add (i * 3)))) ?_
       refine zwu (v := .int .i64 z) (run_load1g (a := (pa.add (i * 3))) Try.isAgg3 (got (w := w) hA.old.old d1)) ?_
       refine zwu (run_gtrz (z := z) false (decide_eq_false hz2)) ?_
       refine znt ?_
       refine zcf ?_
       refine wp_skip ?_
       refine block_normal ?_
       refine then_at rfl ?_
       refine wl_region ?_
       refine zwv (iN .i64 i) ?_
       refine zwu (run_add (k := .i64) (a := i) (b := 1) (by simp only [top]; omega)) ?_
       refine zwv (iN .i64 (i + 1)) ?_
       refine wl_nil ?_
       have h214 := HA.sub hA (List.Sublist.cons_cons _ (List.Sublist.cons_cons _ (List.Sublist.append_right (List.sublist_append_right Lt _) _)))
       exact then_I (zex (⟨es, tp, tcc, Lr, hI, by omega, hR, h214⟩))
 ·rintro _ w215 ⟨u19, rfl, ⟨es, tp, tcc, Lr, hI, hle, hR, hA⟩⟩
  have hal : (al.take 25).length ≤ 25 := by rw [List.length_take]; omega
  refine wp_seq ?_
  refine zsr ?_
  refine zwv (iN .i64 ((al.take 25).length)) ?_
  refine zwv (.slice o (al.take 25).length c) ?_
  refine zwv (iN .i64 ((al.take 25).length)) ?_
  refine zwu (run_lss (k := .i64) (a := (al.take 25).length) (b := (al.take 25).length) false (decide_eq_false (by omega))) ?_
  refine znt ?_
  refine zcf ?_
  refine wp_exit ?_
  repeat first | refine then_exit ?_ | refine block_exit ?_ | refine block_exit_ne (by decide) ?_
  refine then_at rfl ?_
  refine zsr ?_
  refine zwv (.pointer (some ⟨tb.q, 0, none⟩)) ?_
  refine wl_callx enter17 #[.pointer (some ⟨tb.q, 0, none⟩)] (Fresh_any (TH.cl ((tc.q, 74, (tcell tc (nms es0) (.slice pcp es0.length ccp))) :: (q8, 26, #[.slice ro (es0.map trm).length rc]) :: RL) hR hA) (by omega)) ?_
  rintro _ w216 ⟨rfl, hTf⟩
  refine ⟨_, rfl, ?_⟩
  obtain ⟨tp217, tc218, Lr219, hR220, h221⟩ := TH.op hTf
  have h222 : HA (zb w [] tb (es ++ [Ent.nm (nms es)])) ((tc.q, 74, (tcell tc (nms es0) (.slice pcp es0.length ccp))) :: (q8, 26, #[.slice ro (es0.map trm).length rc]) :: (RL ++ ((tb.q, 74, tcell tb (nms (es ++ [Ent.nm (nms es)])) (.slice tp217 (es ++ [Ent.nm (nms es)]).length tc218)) :: (Lr219 ++ PB (es ++ [Ent.nm (nms es)]))))) w216 := h221
  refine znt ?_
  refine zsr ?_
  refine zwv (.pointer (some ⟨tc.q, 0, none⟩)) ?_
  refine zwc h222 enter20 (Len_any (t := tc) (n := nms es0) (p := pcp) (c := ccp) (h222.blk (tc.q, 74, tcell tc (nms es0) (.slice pcp es0.length ccp)) (by simp))) ?_
  intro w223 h224
  refine zwv (iN .i64 es0.length) ?_
  refine zwu (run_eqi (k := .i64) (a := es0.length) (b := es0.length) true (ht := (by simp))) ?_
  refine zwv (.bool true) ?_
  refine zwc h224 enter15 (works_any w223) ?_
  intro w225 h226
  refine zwv (.bool true) ?_
  refine zwv (.bool true) ?_
  refine znt ?_
  refine wp_ret ?_
  repeat first | refine then_ret ?_ | refine block_ret ?_
  exact bodyPost_ret (by kernel_rfl) rfl ⟨rfl, h226.old.old⟩
end Go.Proofs.Ytihfeoanognonaa
