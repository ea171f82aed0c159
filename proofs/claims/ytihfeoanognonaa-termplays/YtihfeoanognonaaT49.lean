/-
 TermPlays: whatever is made, both tables have the same terms.
-/
import Derived.Test.YtihfeoanognonaaB6
import Derived.Test.YtihfeoanognonaaT46
namespace Go.Proofs.Ytihfeoanognonaa
set_option linter.unusedVariables false
set_option maxRecDepth 100000
set_option maxHeartbeats 8000000
open Go.RowKit
theorem Of_mkq {w : World} {t : Tb} {es : List Ent} (h : TV w t es) (hI : Iv es) {sx : ByteArray} {x : Nat} (hn : numT es.length sx = some x) {q : Ent} (he : es[x]? = some q) (hmk : ∃ k n s ps b, q = .mk k n s ps b) :
  Calls Try.prog 9 #[pt t.q, .string sx] w fun e w' => ∃ qp pc c, e = .returned (.tuple #[.agg #[iN .i64 (trm q).k, iN .i64 (trm q).n, .string (trm q).s, .slice (some ⟨qp, 0, none⟩) (trm q).ps.length pc], .bool true]) ∧ w.heap.size ≤ qp ∧ Blk w' qp 3 c ∧ (∀ j, j < (trm q).ps.length → c[j]? = some (iN .i64 ((trm q).ps.getD j 0))) ∧ Below w.heap.size w w' := by
 obtain ⟨k, n, s, ps, b, rfl⟩ := hmk
 refine (Of_made h hI.wf hn he (by have := hI.ll k n s ps b (List.mem_of_getElem? he); omega)).mono ?_
 rintro e w' ⟨mm, c, rfl, h1, h2, h3, h4⟩
 exact ⟨(unp mm).1, (unp mm).2, c, rfl, h1, h2, h3, h4⟩
theorem Of_flat {w : World} {t : Tb} {es : List Ent} (h : TV w t es) (hI : Iv es) {sx : ByteArray} {x : Nat} (hn : numT es.length sx = some x) {q : Ent} (he : es[x]? = some q) (hmk : ¬ ∃ k n s ps b, q = .mk k n s ps b) :
  Calls Try.prog 9 #[pt t.q, .string sx] w fun e w' => e = .returned (.tuple #[.agg #[iN .i64 (trm q).k, iN .i64 (trm q).n, .string (trm q).s, .slice none 0 0], .bool true]) ∧ Below w.heap.size w w' := by
 have hxl : x < es.length := (List.getElem?_eq_some_iff.1 he).1
 have hm : es.length ≤ 65536 := by have := hI.wf.few; omega
 obtain ⟨v, hq, hrow⟩ := h.row
 rcases hrow with ⟨rfl, _⟩ | ⟨g, cap, cur, rfl, hg, htk⟩
 ·simp at hxl
 cases q with
 | mk k n s ps b => exact absurd ⟨k, n, s, ps, b, rfl⟩ hmk
 | nm y => exact Of_nm hq hg hm hxl hn (row_get htk he)
 | dt s => exact Of_dt (s := s) hq hg hm hxl hn (by have := hI.dd s (List.mem_of_getElem? he); omega) (row_get htk he)
theorem flat_ps {q : Ent} (hmk : ¬ ∃ k n s ps b, q = .mk k n s ps b) : (trm q).ps = [] := by
 cases q with
 | mk k n s ps b => exact absurd ⟨k, n, s, ps, b, rfl⟩ hmk
 | nm y => rfl
 | dt s => rfl
theorem numT_txt {m i : Nat} (hi : i < m) (hm : m ≤ 400) : numT m (txt i) = some i := by
 unfold numT
 rw [if_pos (txt_size i)]
 exact first_txt hi hm
theorem plays_any {w : World} {m0 : Int} (hv : w.cell? ⟨0, 0, none⟩ = some (.int .i64 m0)) (al : List Ac) (o : Option Addr) (c : Nat) (hp : ActA w o al) (hln : al.length ≤ 9223372036854775807) (_ : al.length ≤ c) (_ : o = none → c = 0 ∧ al.length = 0) (s0 : ByteArray) :
  Calls Try.prog 3 #[.slice o al.length c, .string s0] w fun e w' => e = .returned (.bool true) ∧ Below w.heap.size w w' := by
 have H0 := HA.start w
 go_enter Try.func3, Try.ntmps3
 refine zsr ?_
 refine zwv (.bool false) ?_
 refine znt ?_
 refine zsr ?_
 refine zwv (.slice o al.length c) ?_
 refine wl_callx enter8 #[.slice o al.length c] (played_any al o c hp hln) ?_
 rintro _ w1 ⟨tb, es, rv, RL, rfl, hT0, hr, hI, hle⟩
 refine ⟨_, rfl, ?_⟩
 obtain ⟨ro, rc, rfl⟩ := hr.form
 obtain ⟨tp2, tc3, Lr4, hR5, h6⟩ := TH.op hT0
 have h7 : HA (zb w [] tb es) ((RL ++ ((tb.q, 74, tcell tb (nms es) (.slice tp2 es.length tc3)) :: (Lr4 ++ PB es)))) w1 := h6
 refine zwv (.tuple #[.pointer (some ⟨tb.q, 0, none⟩), .agg #[.slice ro (es.map trm).length rc], .bool true]) ?_
 refine zwv (.pointer (some ⟨tb.q, 0, none⟩)) ?_
 refine zwv (.agg #[.slice ro (es.map trm).length rc]) ?_
 refine zwv (.bool true) ?_
 refine wl_make (c := #[.slice none 0 0]) h7 26 ?_
 intro q8 w9 (h10 : HA (zb w [] tb es) ((q8, 26, #[.slice none 0 0]) :: (RL ++ ((tb.q, 74, tcell tb (nms es) (.slice tp2 es.length tc3)) :: (Lr4 ++ PB es)))) w9)
 refine zwv (.pointer (some ⟨tb.q, 0, none⟩)) ?_
 refine wl_fill (c' := #[.slice ro (es.map trm).length rc]) h10 0 rfl rfl ?_
 intro w11 (h12 : HA (zb w [] tb es) ((q8, 26, #[.slice ro (es.map trm).length rc]) :: (RL ++ ((tb.q, 74, tcell tb (nms es) (.slice tp2 es.length tc3)) :: (Lr4 ++ PB es)))) w11)
 refine zwv (.bool true) ?_
 refine znt ?_
 refine wp_seq ?_
 refine zsr ?_
 refine zwv (.bool true) ?_
 refine zwv (.bool false) ?_
 refine znt ?_
 refine zcf ?_
 refine wp_skip ?_
 refine then_at rfl ?_
 refine wp_seq ?_
 refine zsr ?_
 refine zwv (iN .i64 0) ?_
 refine znt ?_
 refine wp_block ?_
 refine wp_count (fun i A w' => ∃ u13 : Nat → Value, A = ⟨(.slice o al.length c :: .string s0 :: un :: un :: u13 4 :: pt tb.q :: pt q8 :: .bool true :: iN .i64 i :: u13 9 :: u13 10 :: u13 11 :: u13 12 :: u13 13 :: un :: un :: un :: un :: un :: un :: un :: .tuple #[pt tb.q, .agg #[.slice ro (es.map trm).length rc], .bool true] :: .slice o al.length c :: .tuple #[pt tb.q, .agg #[.slice ro (es.map trm).length rc], .bool true] :: pt tb.q :: .agg #[.slice ro (es.map trm).length rc] :: .bool true :: .bool true :: .bool false :: u13 29 :: u13 30 :: u13 31 :: u13 32 :: u13 33 :: u13 34 :: u13 35 :: u13 36 :: u13 37 :: u13 38 :: u13 39 :: u13 40 :: u13 41 :: u13 42 :: u13 43 :: u13 44 :: u13 45 :: u13 46 :: u13 47 :: u13 48 :: u13 49 :: u13 50 :: u13 51 :: u13 52 :: u13 53 :: u13 54 :: u13 55 :: u13 56 :: u13 57 :: u13 58 :: u13 59 :: u13 60 :: u13 61 :: u13 62 :: u13 63 :: u13 64 :: u13 65 :: u13 66 :: u13 67 :: u13 68 :: u13 69 :: u13 70 :: u13 71 :: u13 72 :: u13 73 :: u13 74 :: u13 75 :: u13 76 :: u13 77 :: u13 78 :: u13 79 :: u13 80 :: List.replicate 55 un).toArray, []⟩ ∧ HA (zb w [] tb es) ((q8, 26, #[.slice ro (es.map trm).length rc]) :: (RL ++ ((tb.q, 74, tcell tb (nms es) (.slice tp2 es.length tc3)) :: (Lr4 ++ PB es)))) w') ((es.map trm).length) ?_ ?_ ?_
 ·exact zex h12
 ·rintro i hk _ w14 ⟨u13, rfl, hA⟩
  rw [List.length_map] at hk
  have hi1 : i < es.length := hk
  have hi2 : i < (es.map trm).length := by rw [List.length_map]; exact hk
  obtain ⟨q, he⟩ : ∃ q, es[i]? = some q := ⟨_, List.getElem?_eq_getElem hi1⟩
  have hlq : (es.map trm)[i] = trm q := by rw [List.getElem_map]; congr 1; exact Option.some.inj ((List.getElem?_eq_getElem hi1).symm.trans he)
  obtain ⟨gt, tc2, cur, oq, cq, e2, hgt, hcq, hrq⟩ := RTL.at hr hi2
  cases e2
  refine wp_seq ?_
  refine zsr ?_
  refine zwv (iN .i64 i) ?_
  refine zwv (.pointer (some ⟨q8, 0, none⟩)) ?_
  refine zwu (v := .slice (some ⟨gt, 0, none⟩) ((es.map trm).length) rc) (run_load1 Try.isAgg24 (((hA.get 0 rfl).cell 0).trans rfl)) ?_
  refine zwv (iN .i64 ((es.map trm).length)) ?_
  refine zwu (run_lss (k := .i64) (a := i) (b := (es.map trm).length) true (decide_eq_true (by omega))) ?_
  refine znt ?_
  refine zct ?_
  refine wp_skip ?_
  refine then_at rfl ?_
  refine wp_seq ?_
  refine wp_block ?_
  refine wp_seq ?_
  by_cases hmk : ∃ k n s ps b, q = Ent.mk k n s ps b
  ·refine wl_region ?_
   refine zwv (.pointer (some ⟨tb.q, 0, none⟩)) ?_
   refine zwv (iN .i64 i) ?_
   refine zwc hA enter10 (rtext_any i (by omega) w14) ?_
   intro w15 h16
   refine wl_callx enter9 #[.pointer (some ⟨tb.q, 0, none⟩), .string (txt i)] (Of_mkq (TH.view (TH.cl ((q8, 26, #[.slice (some ⟨gt, 0, none⟩) ((es.map trm).length) rc]) :: RL) hR5 h16)) hI (numT_txt hi1 (by omega)) he hmk) ?_
   rintro _ w18 ⟨qp17, pc17, cc17, rfl, ho17, hb17, hc17, hl17⟩
   refine ⟨_, rfl, ?_⟩
   have h19 : HA (zb w [] tb es) ((qp17, 3, cc17) :: (q8, 26, #[.slice (some ⟨gt, 0, none⟩) ((es.map trm).length) rc]) :: (RL ++ ((tb.q, 74, tcell tb (nms es) (.slice tp2 es.length tc3)) :: (Lr4 ++ PB es)))) w18 := HA.add1 h16 hl17 ho17 hb17
   refine zwv (.tuple #[.agg #[iN .i64 ((trm q).k), iN .i64 ((trm q).n), .string ((trm q).s), .slice (some ⟨qp17, 0, none⟩) ((trm q).ps.length) pc17], .bool true]) ?_
   refine zwv (.agg #[iN .i64 ((trm q).k), iN .i64 ((trm q).n), .string ((trm q).s), .slice (some ⟨qp17, 0, none⟩) ((trm q).ps.length) pc17]) ?_
   refine zwv (.bool true) ?_
   refine wl_make (c := #[iN .i64 0, iN .i64 0, .string ({ data := #[] }), .slice none 0 0]) h19 31 ?_
   intro q20 w21 (h22 : HA (zb w [] tb es) ((q20, 31, #[iN .i64 0, iN .i64 0, .string ({ data := #[] }), .slice none 0 0]) :: (qp17, 3, cc17) :: (q8, 26, #[.slice (some ⟨gt, 0, none⟩) ((es.map trm).length) rc]) :: (RL ++ ((tb.q, 74, tcell tb (nms es) (.slice tp2 es.length tc3)) :: (Lr4 ++ PB es)))) w21)
   refine wl_fill (c' := #[iN .i64 ((trm q).k), iN .i64 ((trm q).n), .string ((trm q).s), .slice (some ⟨qp17, 0, none⟩) ((trm q).ps.length) pc17]) h22 0 rfl rfl ?_
   intro w23 (h24 : HA (zb w [] tb es) ((q20, 31, #[iN .i64 ((trm q).k), iN .i64 ((trm q).n), .string ((trm q).s), .slice (some ⟨qp17, 0, none⟩) ((trm q).ps.length) pc17]) :: (qp17, 3, cc17) :: (q8, 26, #[.slice (some ⟨gt, 0, none⟩) ((es.map trm).length) rc]) :: (RL ++ ((tb.q, 74, tcell tb (nms es) (.slice tp2 es.length tc3)) :: (Lr4 ++ PB es)))) w23)
   refine zwv (.bool true) ?_
   refine znt ?_
   refine wp_seq ?_
   refine wp_seq ?_
   refine zrs ⟨(.slice o al.length c :: .string s0 :: un :: un :: u13 4 :: pt tb.q :: pt q8 :: .bool true :: iN .i64 i :: pt q20 :: .bool true :: u13 11 :: u13 12 :: u13 13 :: un :: un :: un :: un :: un :: un :: un :: .tuple #[pt tb.q, .agg #[.slice (some ⟨gt, 0, none⟩) (es.map trm).length rc], .bool true] :: .slice o al.length c :: .tuple #[pt tb.q, .agg #[.slice (some ⟨gt, 0, none⟩) (es.map trm).length rc], .bool true] :: pt tb.q :: .agg #[.slice (some ⟨gt, 0, none⟩) (es.map trm).length rc] :: .bool true :: .bool true :: .bool false :: iN .i64 i :: pt q8 :: .slice (some ⟨gt, 0, none⟩) ((es.map trm).length) rc :: iN .i64 ((es.map trm).length) :: .bool true :: u13 34 :: u13 35 :: .tuple #[.agg #[iN .i64 ((trm q).k), iN .i64 ((trm q).n), .string ((trm q).s), .slice (some ⟨qp17, 0, none⟩) ((trm q).ps.length) pc17], .bool true] :: pt tb.q :: iN .i64 i :: .string (txt i) :: .tuple #[.agg #[iN .i64 ((trm q).k), iN .i64 ((trm q).n), .string ((trm q).s), .slice (some ⟨qp17, 0, none⟩) ((trm q).ps.length) pc17], .bool true] :: .agg #[iN .i64 ((trm q).k), iN .i64 ((trm q).n), .string ((trm q).s), .slice (some ⟨qp17, 0, none⟩) ((trm q).ps.length) pc17] :: .bool true :: .bool true :: .bool false :: .bool false :: .agg (#[iN .i64 ((trm q).k), iN .i64 ((trm q).n), .string ((trm q).s), .slice (some ⟨qp17, 0, none⟩) ((trm q).ps.length) pc17]) :: pt q8 :: .slice (some ⟨gt, 0, none⟩) ((es.map trm).length) rc :: iN .i64 i :: .pointer (some ⟨gt, 4 * i, none⟩) :: .agg (tmc (es.map trm)[i].k (es.map trm)[i].n (es.map trm)[i].s oq (es.map trm)[i].ps.length cq) :: .bool true :: .bool false :: .bool false :: u13 55 :: u13 56 :: u13 57 :: u13 58 :: u13 59 :: u13 60 :: u13 61 :: u13 62 :: u13 63 :: u13 64 :: u13 65 :: u13 66 :: u13 67 :: u13 68 :: u13 69 :: u13 70 :: u13 71 :: u13 72 :: u13 73 :: u13 74 :: u13 75 :: u13 76 :: u13 77 :: u13 78 :: u13 79 :: u13 80 :: List.replicate 55 un).toArray, []⟩ (HA (zb w [] tb es) ((q20, 31, #[iN .i64 ((trm q).k), iN .i64 ((trm q).n), .string ((trm q).s), .slice (some ⟨qp17, 0, none⟩) ((trm q).ps.length) pc17]) :: (qp17, 3, cc17) :: (q8, 26, #[.slice (some ⟨gt, 0, none⟩) ((es.map trm).length) rc]) :: (RL ++ ((tb.q, 74, tcell tb (nms es) (.slice tp2 es.length tc3)) :: (Lr4 ++ PB es))))) h24.drew ?_ ?_
   ·refine zsp (.bool true) ?_
    refine zsp (.bool false) ?_
    refine zsp (.bool false) ?_
    refine zst (v := .agg (#[iN .i64 ((trm q).k), iN .i64 ((trm q).n), .string ((trm q).s), .slice (some ⟨qp17, 0, none⟩) ((trm q).ps.length) pc17])) (fun _ h => run_load_blk (h.get 0 rfl) Try.underlying31 rfl) ?_
    refine zsp (.pointer (some ⟨q8, 0, none⟩)) ?_
    refine zst (v := .slice (some ⟨gt, 0, none⟩) ((es.map trm).length) rc) (fun w' h' => run_load1 Try.isAgg24 (((h'.get 2 rfl).cell 0).trans rfl)) ?_
    refine zsp (iN .i64 i) ?_
    refine zst (v := .pointer (some ⟨gt, 4 * i, none⟩)) (fun _ _ => (run_addr24 (n := (es.map trm).length) (m := rc) (a := i) hi2)) ?_
    refine zst (v := .agg (tmc (es.map trm)[i].k (es.map trm)[i].n (es.map trm)[i].s oq (es.map trm)[i].ps.length cq)) (fun w' h' => run_part ((fun y hy => h'.blk y (by simp [hy])) _ hgt) hcq Try.underlying31 rfl) ?_
    refine AllSure.cons (sure_call (v := .bool true) (by kernel_rfl) (by kernel_rfl) enter11 HA.keep #[.agg (#[iN .i64 ((trm q).k), iN .i64 ((trm q).n), .string ((trm q).s), .slice (some ⟨qp17, 0, none⟩) ((trm q).ps.length) pc17]), .agg (tmc (es.map trm)[i].k (es.map trm)[i].n (es.map trm)[i].s oq (es.map trm)[i].ps.length cq)] (by kernel_rfl) (fun w' h' => by have := same_any (w := w') (k := (trm q).k) (n := (trm q).n) (s := (trm q).s) (o := some ⟨qp17, 0, none⟩) (c := pc17) (ps := (trm q).ps) (k2 := (es.map trm)[i].k) (n2 := (es.map trm)[i].n) (s2 := (es.map trm)[i].s) (c2 := cq) (.inr ⟨qp17, cc17, rfl, Nat.zero_le _, h'.blk (qp17, 3, cc17) (by simp), hc17⟩) (hrq.ri (fun y hy => h'.blk y (by simp [hy]))) ((iv_ps hI).1 _ (List.mem_map.2 ⟨q, List.mem_of_getElem? he, rfl⟩)); rw [decide_eq_true (by rw [hlq]; exact ⟨rfl, rfl, rfl, rfl⟩)] at this; exact this)) ?_
    refine zsp (.bool false) ?_
    refine zsp (.bool false) ?_
    exact AllSure.nil
   intro w25 h26
   refine then_at rfl ?_
   refine zcf ?_
   refine wp_skip ?_
   refine then_at rfl ?_
   refine wp_seq ?_
   refine zsr ?_
   refine zwv (iN .i64 0) ?_
   refine znt ?_
   refine wp_block ?_
   refine wp_count (fun j A w' => ∃ u27 : Nat → Value, A = ⟨(.slice o al.length c :: .string s0 :: un :: un :: u13 4 :: pt tb.q :: pt q8 :: .bool true :: iN .i64 i :: pt q20 :: .bool true :: iN .i64 j :: u13 12 :: u13 13 :: un :: un :: un :: un :: un :: un :: un :: .tuple #[pt tb.q, .agg #[.slice (some ⟨gt, 0, none⟩) (es.map trm).length rc], .bool true] :: .slice o al.length c :: .tuple #[pt tb.q, .agg #[.slice (some ⟨gt, 0, none⟩) (es.map trm).length rc], .bool true] :: pt tb.q :: .agg #[.slice (some ⟨gt, 0, none⟩) (es.map trm).length rc] :: .bool true :: .bool true :: .bool false :: iN .i64 i :: pt q8 :: .slice (some ⟨gt, 0, none⟩) ((es.map trm).length) rc :: iN .i64 ((es.map trm).length) :: .bool true :: u13 34 :: u13 35 :: .tuple #[.agg #[iN .i64 ((trm q).k), iN .i64 ((trm q).n), .string ((trm q).s), .slice (some ⟨qp17, 0, none⟩) ((trm q).ps.length) pc17], .bool true] :: pt tb.q :: iN .i64 i :: .string (txt i) :: .tuple #[.agg #[iN .i64 ((trm q).k), iN .i64 ((trm q).n), .string ((trm q).s), .slice (some ⟨qp17, 0, none⟩) ((trm q).ps.length) pc17], .bool true] :: .agg #[iN .i64 ((trm q).k), iN .i64 ((trm q).n), .string ((trm q).s), .slice (some ⟨qp17, 0, none⟩) ((trm q).ps.length) pc17] :: .bool true :: .bool true :: .bool false :: .bool false :: .agg (#[iN .i64 ((trm q).k), iN .i64 ((trm q).n), .string ((trm q).s), .slice (some ⟨qp17, 0, none⟩) ((trm q).ps.length) pc17]) :: pt q8 :: .slice (some ⟨gt, 0, none⟩) ((es.map trm).length) rc :: iN .i64 i :: .pointer (some ⟨gt, 4 * i, none⟩) :: .agg (tmc (es.map trm)[i].k (es.map trm)[i].n (es.map trm)[i].s oq (es.map trm)[i].ps.length cq) :: .bool true :: .bool false :: .bool false :: u27 55 :: u27 56 :: u27 57 :: u27 58 :: u27 59 :: u27 60 :: u27 61 :: u27 62 :: u27 63 :: u27 64 :: u27 65 :: u13 66 :: u13 67 :: u13 68 :: u13 69 :: u13 70 :: u13 71 :: u13 72 :: u13 73 :: u13 74 :: u13 75 :: u13 76 :: u13 77 :: u13 78 :: u13 79 :: u13 80 :: List.replicate 55 un).toArray, []⟩ ∧ ∃ cx, cx.size = (cc17).size ∧ HA (zb w [] tb es) ((q20, 31, #[iN .i64 ((trm q).k), iN .i64 ((trm q).n), .string ((trm q).s), .slice (some ⟨qp17, 0, none⟩) ((trm q).ps.length) pc17]) :: (qp17, 3, cx) :: (q8, 26, #[.slice (some ⟨gt, 0, none⟩) ((es.map trm).length) rc]) :: (RL ++ ((tb.q, 74, tcell tb (nms es) (.slice tp2 es.length tc3)) :: (Lr4 ++ PB es)))) w') ((trm q).ps.length) ?_ ?_ ?_
   ·exact zex (⟨cc17, rfl, h26⟩)
   ·rintro j hk _ w28 ⟨u27, rfl, ⟨cx, hcx, hA⟩⟩
    have hpsl := (iv_ps hI).1 (trm q) (List.mem_map.2 ⟨q, List.mem_of_getElem? he, rfl⟩)
    refine wp_seq ?_
    refine zsr ?_
    refine zwv (iN .i64 j) ?_
    refine zwv (.pointer (some ⟨q20, 3, none⟩)) ?_
    refine zwu (v := .slice (some ⟨qp17, 0, none⟩) ((trm q).ps.length) pc17) (run_load1 Try.isAgg29 (((hA.get 0 rfl).cell 3).trans rfl)) ?_
    refine zwv (iN .i64 ((trm q).ps.length)) ?_
    refine zwu (run_lss (k := .i64) (a := j) (b := (trm q).ps.length) true (decide_eq_true (by omega))) ?_
    refine znt ?_
    refine zct ?_
    refine wp_skip ?_
    refine then_at rfl ?_
    refine wp_seq ?_
    refine wp_block ?_
    refine wl_region ?_
    refine zwv (.pointer (some ⟨q20, 3, none⟩)) ?_
    refine zwu (v := .slice (some ⟨qp17, 0, none⟩) ((trm q).ps.length) pc17) (run_load1 Try.isAgg29 (((hA.get 0 rfl).cell 3).trans rfl)) ?_
    refine zwv (iN .i64 j) ?_
    refine zwu (v := .pointer (some ⟨qp17, j, none⟩)) (run_addr_slice (q := qp17) (n := (trm q).ps.length) (m := pc17) (a := j) Try.underlying29 Try.sizeOf3 (by omega)) ?_
    refine wl_putv (v := iN .i64 9999) hA 1 rfl j (by rw [hcx]; exact (Array.getElem?_eq_some_iff.1 (hc17 j hk)).1) Try.sizeOf3 ?_
    intro w29 (h30 : HA (zb w [] tb es) ((q20, 31, #[iN .i64 ((trm q).k), iN .i64 ((trm q).n), .string ((trm q).s), .slice (some ⟨qp17, 0, none⟩) ((trm q).ps.length) pc17]) :: (qp17, 3, (cx).setIfInBounds j (iN .i64 9999)) :: (q8, 26, #[.slice (some ⟨gt, 0, none⟩) ((es.map trm).length) rc]) :: (RL ++ ((tb.q, 74, tcell tb (nms es) (.slice tp2 es.length tc3)) :: (Lr4 ++ PB es)))) w29)
    refine wl_nil ?_
    refine block_normal ?_
    refine then_at rfl ?_
    refine wl_region ?_
    refine zwv (iN .i64 j) ?_
    refine zwu (run_add (k := .i64) (a := j) (b := 1) (by simp only [top]; omega)) ?_
    refine zwv (iN .i64 (j + 1)) ?_
    refine wl_nil ?_
    exact then_I (zex (⟨(cx).setIfInBounds j (iN .i64 9999), by rw [Array.size_setIfInBounds]; exact hcx, h30⟩))
   ·rintro _ w31 ⟨u27, rfl, ⟨cx, hcx, hA⟩⟩
    have hpsl := (iv_ps hI).1 (trm q) (List.mem_map.2 ⟨q, List.mem_of_getElem? he, rfl⟩)
    refine wp_seq ?_
    refine zsr ?_
    refine zwv (iN .i64 ((trm q).ps.length)) ?_
    refine zwv (.pointer (some ⟨q20, 3, none⟩)) ?_
    refine zwu (v := .slice (some ⟨qp17, 0, none⟩) ((trm q).ps.length) pc17) (run_load1 Try.isAgg29 (((hA.get 0 rfl).cell 3).trans rfl)) ?_
    refine zwv (iN .i64 ((trm q).ps.length)) ?_
    refine zwu (run_lss (k := .i64) (a := (trm q).ps.length) (b := (trm q).ps.length) false (decide_eq_false (by omega))) ?_
    refine znt ?_
    refine zcf ?_
    refine wp_exit ?_
    repeat first | refine then_exit ?_ | refine block_exit ?_ | refine block_exit_ne (by decide) ?_
    refine then_at rfl ?_
    refine zsr ?_
    refine zwv (.pointer (some ⟨tb.q, 0, none⟩)) ?_
    refine zwv (iN .i64 i) ?_
    refine zwc hA enter10 (rtext_any i (by omega) w31) ?_
    intro w32 h33
    refine wl_callx enter9 #[.pointer (some ⟨tb.q, 0, none⟩), .string (txt i)] (Of_mkq (TH.view (TH.cl ((q20, 31, #[iN .i64 ((trm q).k), iN .i64 ((trm q).n), .string ((trm q).s), .slice (some ⟨qp17, 0, none⟩) ((trm q).ps.length) pc17]) :: (qp17, 3, cx) :: (q8, 26, #[.slice (some ⟨gt, 0, none⟩) ((es.map trm).length) rc]) :: RL) hR5 h33)) hI (numT_txt hi1 (by omega)) he hmk) ?_
    rintro _ w35 ⟨qp34, pc34, cc34, rfl, ho34, hb34, hc34, hl34⟩
    refine ⟨_, rfl, ?_⟩
    have h36 : HA (zb w [] tb es) ((qp34, 3, cc34) :: (q20, 31, #[iN .i64 ((trm q).k), iN .i64 ((trm q).n), .string ((trm q).s), .slice (some ⟨qp17, 0, none⟩) ((trm q).ps.length) pc17]) :: (qp17, 3, cx) :: (q8, 26, #[.slice (some ⟨gt, 0, none⟩) ((es.map trm).length) rc]) :: (RL ++ ((tb.q, 74, tcell tb (nms es) (.slice tp2 es.length tc3)) :: (Lr4 ++ PB es)))) w35 := HA.add1 h33 hl34 ho34 hb34
    refine zwv (.tuple #[.agg #[iN .i64 ((trm q).k), iN .i64 ((trm q).n), .string ((trm q).s), .slice (some ⟨qp34, 0, none⟩) ((trm q).ps.length) pc34], .bool true]) ?_
    refine zwv (.agg #[iN .i64 ((trm q).k), iN .i64 ((trm q).n), .string ((trm q).s), .slice (some ⟨qp34, 0, none⟩) ((trm q).ps.length) pc34]) ?_
    refine zwv (.bool true) ?_
    refine wl_make (c := #[iN .i64 0, iN .i64 0, .string ({ data := #[] }), .slice none 0 0]) h36 31 ?_
    intro q37 w38 (h39 : HA (zb w [] tb es) ((q37, 31, #[iN .i64 0, iN .i64 0, .string ({ data := #[] }), .slice none 0 0]) :: (qp34, 3, cc34) :: (q20, 31, #[iN .i64 ((trm q).k), iN .i64 ((trm q).n), .string ((trm q).s), .slice (some ⟨qp17, 0, none⟩) ((trm q).ps.length) pc17]) :: (qp17, 3, cx) :: (q8, 26, #[.slice (some ⟨gt, 0, none⟩) ((es.map trm).length) rc]) :: (RL ++ ((tb.q, 74, tcell tb (nms es) (.slice tp2 es.length tc3)) :: (Lr4 ++ PB es)))) w38)
    refine wl_fill (c' := #[iN .i64 ((trm q).k), iN .i64 ((trm q).n), .string ((trm q).s), .slice (some ⟨qp34, 0, none⟩) ((trm q).ps.length) pc34]) h39 0 rfl rfl ?_
    intro w40 (h41 : HA (zb w [] tb es) ((q37, 31, #[iN .i64 ((trm q).k), iN .i64 ((trm q).n), .string ((trm q).s), .slice (some ⟨qp34, 0, none⟩) ((trm q).ps.length) pc34]) :: (qp34, 3, cc34) :: (q20, 31, #[iN .i64 ((trm q).k), iN .i64 ((trm q).n), .string ((trm q).s), .slice (some ⟨qp17, 0, none⟩) ((trm q).ps.length) pc17]) :: (qp17, 3, cx) :: (q8, 26, #[.slice (some ⟨gt, 0, none⟩) ((es.map trm).length) rc]) :: (RL ++ ((tb.q, 74, tcell tb (nms es) (.slice tp2 es.length tc3)) :: (Lr4 ++ PB es)))) w40)
    refine zwv (.bool true) ?_
    refine znt ?_
    refine wp_seq ?_
    refine zrs ⟨(.slice o al.length c :: .string s0 :: un :: un :: u13 4 :: pt tb.q :: pt q8 :: .bool true :: iN .i64 i :: pt q20 :: .bool true :: iN .i64 ((trm q).ps.length) :: pt q37 :: .bool true :: un :: un :: un :: un :: un :: un :: un :: .tuple #[pt tb.q, .agg #[.slice (some ⟨gt, 0, none⟩) (es.map trm).length rc], .bool true] :: .slice o al.length c :: .tuple #[pt tb.q, .agg #[.slice (some ⟨gt, 0, none⟩) (es.map trm).length rc], .bool true] :: pt tb.q :: .agg #[.slice (some ⟨gt, 0, none⟩) (es.map trm).length rc] :: .bool true :: .bool true :: .bool false :: iN .i64 i :: pt q8 :: .slice (some ⟨gt, 0, none⟩) ((es.map trm).length) rc :: iN .i64 ((es.map trm).length) :: .bool true :: u13 34 :: u13 35 :: .tuple #[.agg #[iN .i64 ((trm q).k), iN .i64 ((trm q).n), .string ((trm q).s), .slice (some ⟨qp17, 0, none⟩) ((trm q).ps.length) pc17], .bool true] :: pt tb.q :: iN .i64 i :: .string (txt i) :: .tuple #[.agg #[iN .i64 ((trm q).k), iN .i64 ((trm q).n), .string ((trm q).s), .slice (some ⟨qp17, 0, none⟩) ((trm q).ps.length) pc17], .bool true] :: .agg #[iN .i64 ((trm q).k), iN .i64 ((trm q).n), .string ((trm q).s), .slice (some ⟨qp17, 0, none⟩) ((trm q).ps.length) pc17] :: .bool true :: .bool true :: .bool false :: .bool false :: .agg (#[iN .i64 ((trm q).k), iN .i64 ((trm q).n), .string ((trm q).s), .slice (some ⟨qp17, 0, none⟩) ((trm q).ps.length) pc17]) :: pt q8 :: .slice (some ⟨gt, 0, none⟩) ((es.map trm).length) rc :: iN .i64 i :: .pointer (some ⟨gt, 4 * i, none⟩) :: .agg (tmc (es.map trm)[i].k (es.map trm)[i].n (es.map trm)[i].s oq (es.map trm)[i].ps.length cq) :: .bool true :: .bool false :: .bool false :: iN .i64 ((trm q).ps.length) :: .pointer (some ⟨q20, 3, none⟩) :: .slice (some ⟨qp17, 0, none⟩) ((trm q).ps.length) pc17 :: iN .i64 ((trm q).ps.length) :: .bool false :: u27 60 :: u27 61 :: u27 62 :: u27 63 :: u27 64 :: u27 65 :: .tuple #[.agg #[iN .i64 ((trm q).k), iN .i64 ((trm q).n), .string ((trm q).s), .slice (some ⟨qp34, 0, none⟩) ((trm q).ps.length) pc34], .bool true] :: pt tb.q :: iN .i64 i :: .string (txt i) :: .tuple #[.agg #[iN .i64 ((trm q).k), iN .i64 ((trm q).n), .string ((trm q).s), .slice (some ⟨qp34, 0, none⟩) ((trm q).ps.length) pc34], .bool true] :: .agg #[iN .i64 ((trm q).k), iN .i64 ((trm q).n), .string ((trm q).s), .slice (some ⟨qp34, 0, none⟩) ((trm q).ps.length) pc34] :: .bool true :: .agg (#[iN .i64 ((trm q).k), iN .i64 ((trm q).n), .string ((trm q).s), .slice (some ⟨qp34, 0, none⟩) ((trm q).ps.length) pc34]) :: pt q8 :: .slice (some ⟨gt, 0, none⟩) ((es.map trm).length) rc :: iN .i64 i :: .pointer (some ⟨gt, 4 * i, none⟩) :: .agg (tmc (es.map trm)[i].k (es.map trm)[i].n (es.map trm)[i].s oq (es.map trm)[i].ps.length cq) :: .bool true :: .bool false :: List.replicate 55 un).toArray, []⟩ (HA (zb w [] tb es) ((q37, 31, #[iN .i64 ((trm q).k), iN .i64 ((trm q).n), .string ((trm q).s), .slice (some ⟨qp34, 0, none⟩) ((trm q).ps.length) pc34]) :: (qp34, 3, cc34) :: (q20, 31, #[iN .i64 ((trm q).k), iN .i64 ((trm q).n), .string ((trm q).s), .slice (some ⟨qp17, 0, none⟩) ((trm q).ps.length) pc17]) :: (qp17, 3, cx) :: (q8, 26, #[.slice (some ⟨gt, 0, none⟩) ((es.map trm).length) rc]) :: (RL ++ ((tb.q, 74, tcell tb (nms es) (.slice tp2 es.length tc3)) :: (Lr4 ++ PB es))))) h41.drew ?_ ?_
    ·refine zst (v := .agg (#[iN .i64 ((trm q).k), iN .i64 ((trm q).n), .string ((trm q).s), .slice (some ⟨qp34, 0, none⟩) ((trm q).ps.length) pc34])) (fun _ h => run_load_blk (h.get 0 rfl) Try.underlying31 rfl) ?_
     refine zsp (.pointer (some ⟨q8, 0, none⟩)) ?_
     refine zst (v := .slice (some ⟨gt, 0, none⟩) ((es.map trm).length) rc) (fun w' h' => run_load1 Try.isAgg24 (((h'.get 4 rfl).cell 0).trans rfl)) ?_
     refine zsp (iN .i64 i) ?_
     refine zst (v := .pointer (some ⟨gt, 4 * i, none⟩)) (fun _ _ => (run_addr24 (n := (es.map trm).length) (m := rc) (a := i) hi2)) ?_
     refine zst (v := .agg (tmc (es.map trm)[i].k (es.map trm)[i].n (es.map trm)[i].s oq (es.map trm)[i].ps.length cq)) (fun w' h' => run_part ((fun y hy => h'.blk y (by simp [hy])) _ hgt) hcq Try.underlying31 rfl) ?_
     refine AllSure.cons (sure_call (v := .bool true) (by kernel_rfl) (by kernel_rfl) enter11 HA.keep #[.agg (#[iN .i64 ((trm q).k), iN .i64 ((trm q).n), .string ((trm q).s), .slice (some ⟨qp34, 0, none⟩) ((trm q).ps.length) pc34]), .agg (tmc (es.map trm)[i].k (es.map trm)[i].n (es.map trm)[i].s oq (es.map trm)[i].ps.length cq)] (by kernel_rfl) (fun w' h' => by have := same_any (w := w') (k := (trm q).k) (n := (trm q).n) (s := (trm q).s) (o := some ⟨qp34, 0, none⟩) (c := pc34) (ps := (trm q).ps) (k2 := (es.map trm)[i].k) (n2 := (es.map trm)[i].n) (s2 := (es.map trm)[i].s) (c2 := cq) (.inr ⟨qp34, cc34, rfl, Nat.zero_le _, h'.blk (qp34, 3, cc34) (by simp), hc34⟩) (hrq.ri (fun y hy => h'.blk y (by simp [hy]))) ((iv_ps hI).1 _ (List.mem_map.2 ⟨q, List.mem_of_getElem? he, rfl⟩)); rw [decide_eq_true (by rw [hlq]; exact ⟨rfl, rfl, rfl, rfl⟩)] at this; exact this)) ?_
     refine zsp (.bool false) ?_
     exact AllSure.nil
    intro w42 h43
    refine then_at rfl ?_
    refine zcf ?_
    refine wp_skip ?_
    refine block_normal ?_
    refine then_at rfl ?_
    refine wl_region ?_
    refine zwv (iN .i64 i) ?_
    refine zwu (run_add (k := .i64) (a := i) (b := 1) (by simp only [top]; omega)) ?_
    refine zwv (iN .i64 (i + 1)) ?_
    refine wl_nil ?_
    have h44 := HA.sub h43 (List.Sublist.cons _ (List.Sublist.cons _ (List.Sublist.cons _ (List.Sublist.cons _ (List.Sublist.cons_cons _ (List.Sublist.refl _))))))
    exact then_I (zex h44)
  ·refine wl_region ?_
   refine zwv (.pointer (some ⟨tb.q, 0, none⟩)) ?_
   refine zwv (iN .i64 i) ?_
   refine zwc hA enter10 (rtext_any i (by omega) w14) ?_
   intro w45 h46
   refine zwc h46 enter9 (Of_flat (TH.view (TH.cl ((q8, 26, #[.slice (some ⟨gt, 0, none⟩) ((es.map trm).length) rc]) :: RL) hR5 h46)) hI (numT_txt hi1 (by omega)) he hmk) ?_
   intro w48 h49
   refine zwv (.tuple #[.agg #[iN .i64 ((trm q).k), iN .i64 ((trm q).n), .string ((trm q).s), .slice none 0 0], .bool true]) ?_
   refine zwv (.agg #[iN .i64 ((trm q).k), iN .i64 ((trm q).n), .string ((trm q).s), .slice none 0 0]) ?_
   refine zwv (.bool true) ?_
   refine wl_make (c := #[iN .i64 0, iN .i64 0, .string ({ data := #[] }), .slice none 0 0]) h49 31 ?_
   intro q50 w51 (h52 : HA (zb w [] tb es) ((q50, 31, #[iN .i64 0, iN .i64 0, .string ({ data := #[] }), .slice none 0 0]) :: (q8, 26, #[.slice (some ⟨gt, 0, none⟩) ((es.map trm).length) rc]) :: (RL ++ ((tb.q, 74, tcell tb (nms es) (.slice tp2 es.length tc3)) :: (Lr4 ++ PB es)))) w51)
   refine wl_fill (c' := #[iN .i64 ((trm q).k), iN .i64 ((trm q).n), .string ((trm q).s), .slice none 0 0]) h52 0 rfl rfl ?_
   intro w53 (h54 : HA (zb w [] tb es) ((q50, 31, #[iN .i64 ((trm q).k), iN .i64 ((trm q).n), .string ((trm q).s), .slice none 0 0]) :: (q8, 26, #[.slice (some ⟨gt, 0, none⟩) ((es.map trm).length) rc]) :: (RL ++ ((tb.q, 74, tcell tb (nms es) (.slice tp2 es.length tc3)) :: (Lr4 ++ PB es)))) w53)
   refine zwv (.bool true) ?_
   refine znt ?_
   refine wp_seq ?_
   refine wp_seq ?_
   refine zrs ⟨(.slice o al.length c :: .string s0 :: un :: un :: u13 4 :: pt tb.q :: pt q8 :: .bool true :: iN .i64 i :: pt q50 :: .bool true :: u13 11 :: u13 12 :: u13 13 :: un :: un :: un :: un :: un :: un :: un :: .tuple #[pt tb.q, .agg #[.slice (some ⟨gt, 0, none⟩) (es.map trm).length rc], .bool true] :: .slice o al.length c :: .tuple #[pt tb.q, .agg #[.slice (some ⟨gt, 0, none⟩) (es.map trm).length rc], .bool true] :: pt tb.q :: .agg #[.slice (some ⟨gt, 0, none⟩) (es.map trm).length rc] :: .bool true :: .bool true :: .bool false :: iN .i64 i :: pt q8 :: .slice (some ⟨gt, 0, none⟩) ((es.map trm).length) rc :: iN .i64 ((es.map trm).length) :: .bool true :: u13 34 :: u13 35 :: .tuple #[.agg #[iN .i64 ((trm q).k), iN .i64 ((trm q).n), .string ((trm q).s), .slice none 0 0], .bool true] :: pt tb.q :: iN .i64 i :: .string (txt i) :: .tuple #[.agg #[iN .i64 ((trm q).k), iN .i64 ((trm q).n), .string ((trm q).s), .slice none 0 0], .bool true] :: .agg #[iN .i64 ((trm q).k), iN .i64 ((trm q).n), .string ((trm q).s), .slice none 0 0] :: .bool true :: .bool true :: .bool false :: .bool false :: .agg (#[iN .i64 ((trm q).k), iN .i64 ((trm q).n), .string ((trm q).s), .slice none 0 0]) :: pt q8 :: .slice (some ⟨gt, 0, none⟩) ((es.map trm).length) rc :: iN .i64 i :: .pointer (some ⟨gt, 4 * i, none⟩) :: .agg (tmc (es.map trm)[i].k (es.map trm)[i].n (es.map trm)[i].s oq (es.map trm)[i].ps.length cq) :: .bool true :: .bool false :: .bool false :: u13 55 :: u13 56 :: u13 57 :: u13 58 :: u13 59 :: u13 60 :: u13 61 :: u13 62 :: u13 63 :: u13 64 :: u13 65 :: u13 66 :: u13 67 :: u13 68 :: u13 69 :: u13 70 :: u13 71 :: u13 72 :: u13 73 :: u13 74 :: u13 75 :: u13 76 :: u13 77 :: u13 78 :: u13 79 :: u13 80 :: List.replicate 55 un).toArray, []⟩ (HA (zb w [] tb es) ((q50, 31, #[iN .i64 ((trm q).k), iN .i64 ((trm q).n), .string ((trm q).s), .slice none 0 0]) :: (q8, 26, #[.slice (some ⟨gt, 0, none⟩) ((es.map trm).length) rc]) :: (RL ++ ((tb.q, 74, tcell tb (nms es) (.slice tp2 es.length tc3)) :: (Lr4 ++ PB es))))) h54.drew ?_ ?_
   ·refine zsp (.bool true) ?_
    refine zsp (.bool false) ?_
    refine zsp (.bool false) ?_
    refine zst (v := .agg (#[iN .i64 ((trm q).k), iN .i64 ((trm q).n), .string ((trm q).s), .slice none 0 0])) (fun _ h => run_load_blk (h.get 0 rfl) Try.underlying31 rfl) ?_
    refine zsp (.pointer (some ⟨q8, 0, none⟩)) ?_
    refine zst (v := .slice (some ⟨gt, 0, none⟩) ((es.map trm).length) rc) (fun w' h' => run_load1 Try.isAgg24 (((h'.get 1 rfl).cell 0).trans rfl)) ?_
    refine zsp (iN .i64 i) ?_
    refine zst (v := .pointer (some ⟨gt, 4 * i, none⟩)) (fun _ _ => (run_addr24 (n := (es.map trm).length) (m := rc) (a := i) hi2)) ?_
    refine zst (v := .agg (tmc (es.map trm)[i].k (es.map trm)[i].n (es.map trm)[i].s oq (es.map trm)[i].ps.length cq)) (fun w' h' => run_part ((fun y hy => h'.blk y (by simp [hy])) _ hgt) hcq Try.underlying31 rfl) ?_
    refine AllSure.cons (sure_call (v := .bool true) (by kernel_rfl) (by kernel_rfl) enter11 HA.keep #[.agg (#[iN .i64 ((trm q).k), iN .i64 ((trm q).n), .string ((trm q).s), .slice none 0 0]), .agg (tmc (es.map trm)[i].k (es.map trm)[i].n (es.map trm)[i].s oq (es.map trm)[i].ps.length cq)] (by kernel_rfl) (fun w' h' => by have := same_any (w := w') (k := (trm q).k) (n := (trm q).n) (s := (trm q).s) (o := none) (c := 0) (ps := []) (k2 := (es.map trm)[i].k) (n2 := (es.map trm)[i].n) (s2 := (es.map trm)[i].s) (c2 := cq) (.inl rfl) (hrq.ri (fun y hy => h'.blk y (by simp [hy]))) (by simp); rw [decide_eq_true (by rw [hlq]; exact ⟨rfl, rfl, rfl, (flat_ps hmk).symm⟩)] at this; exact this)) ?_
    refine zsp (.bool false) ?_
    refine zsp (.bool false) ?_
    exact AllSure.nil
   intro w55 h56
   refine then_at rfl ?_
   refine zcf ?_
   refine wp_skip ?_
   refine then_at rfl ?_
   refine wp_seq ?_
   refine zsr ?_
   refine zwv (iN .i64 0) ?_
   refine znt ?_
   refine wp_block ?_
   refine wp_loop_rounds 2 ?_
   try rw [rounds_succ]
   refine wp_seq ?_
   refine zsr ?_
   refine zwv (iN .i64 0) ?_
   refine zwv (.pointer (some ⟨q50, 3, none⟩)) ?_
   refine zwu (v := .slice none 0 0) (run_load1 Try.isAgg29 (((h56.get 0 rfl).cell 3).trans rfl)) ?_
   refine zwv (iN .i64 0) ?_
   refine zwu (run_lss (k := .i64) (a := 0) (b := 0) false (by decide)) ?_
   refine znt ?_
   refine zcf ?_
   refine wp_exit ?_
   repeat first | refine then_exit ?_ | refine block_exit ?_ | refine block_exit_ne (by decide) ?_
   refine then_at rfl ?_
   refine zsr ?_
   refine zwv (.pointer (some ⟨tb.q, 0, none⟩)) ?_
   refine zwv (iN .i64 i) ?_
   refine zwc h56 enter10 (rtext_any i (by omega) w55) ?_
   intro w57 h58
   refine zwc h58 enter9 (Of_flat (TH.view (TH.cl ((q50, 31, #[iN .i64 ((trm q).k), iN .i64 ((trm q).n), .string ((trm q).s), .slice none 0 0]) :: (q8, 26, #[.slice (some ⟨gt, 0, none⟩) ((es.map trm).length) rc]) :: RL) hR5 h58)) hI (numT_txt hi1 (by omega)) he hmk) ?_
   intro w60 h61
   refine zwv (.tuple #[.agg #[iN .i64 ((trm q).k), iN .i64 ((trm q).n), .string ((trm q).s), .slice none 0 0], .bool true]) ?_
   refine zwv (.agg #[iN .i64 ((trm q).k), iN .i64 ((trm q).n), .string ((trm q).s), .slice none 0 0]) ?_
   refine zwv (.bool true) ?_
   refine wl_make (c := #[iN .i64 0, iN .i64 0, .string ({ data := #[] }), .slice none 0 0]) h61 31 ?_
   intro q62 w63 (h64 : HA (zb w [] tb es) ((q62, 31, #[iN .i64 0, iN .i64 0, .string ({ data := #[] }), .slice none 0 0]) :: (q50, 31, #[iN .i64 ((trm q).k), iN .i64 ((trm q).n), .string ((trm q).s), .slice none 0 0]) :: (q8, 26, #[.slice (some ⟨gt, 0, none⟩) ((es.map trm).length) rc]) :: (RL ++ ((tb.q, 74, tcell tb (nms es) (.slice tp2 es.length tc3)) :: (Lr4 ++ PB es)))) w63)
   refine wl_fill (c' := #[iN .i64 ((trm q).k), iN .i64 ((trm q).n), .string ((trm q).s), .slice none 0 0]) h64 0 rfl rfl ?_
   intro w65 (h66 : HA (zb w [] tb es) ((q62, 31, #[iN .i64 ((trm q).k), iN .i64 ((trm q).n), .string ((trm q).s), .slice none 0 0]) :: (q50, 31, #[iN .i64 ((trm q).k), iN .i64 ((trm q).n), .string ((trm q).s), .slice none 0 0]) :: (q8, 26, #[.slice (some ⟨gt, 0, none⟩) ((es.map trm).length) rc]) :: (RL ++ ((tb.q, 74, tcell tb (nms es) (.slice tp2 es.length tc3)) :: (Lr4 ++ PB es)))) w65)
   refine zwv (.bool true) ?_
   refine znt ?_
   refine wp_seq ?_
   refine zrs ⟨(.slice o al.length c :: .string s0 :: un :: un :: u13 4 :: pt tb.q :: pt q8 :: .bool true :: iN .i64 i :: pt q50 :: .bool true :: iN .i64 0 :: pt q62 :: .bool true :: un :: un :: un :: un :: un :: un :: un :: .tuple #[pt tb.q, .agg #[.slice (some ⟨gt, 0, none⟩) (es.map trm).length rc], .bool true] :: .slice o al.length c :: .tuple #[pt tb.q, .agg #[.slice (some ⟨gt, 0, none⟩) (es.map trm).length rc], .bool true] :: pt tb.q :: .agg #[.slice (some ⟨gt, 0, none⟩) (es.map trm).length rc] :: .bool true :: .bool true :: .bool false :: iN .i64 i :: pt q8 :: .slice (some ⟨gt, 0, none⟩) ((es.map trm).length) rc :: iN .i64 ((es.map trm).length) :: .bool true :: u13 34 :: u13 35 :: .tuple #[.agg #[iN .i64 ((trm q).k), iN .i64 ((trm q).n), .string ((trm q).s), .slice none 0 0], .bool true] :: pt tb.q :: iN .i64 i :: .string (txt i) :: .tuple #[.agg #[iN .i64 ((trm q).k), iN .i64 ((trm q).n), .string ((trm q).s), .slice none 0 0], .bool true] :: .agg #[iN .i64 ((trm q).k), iN .i64 ((trm q).n), .string ((trm q).s), .slice none 0 0] :: .bool true :: .bool true :: .bool false :: .bool false :: .agg (#[iN .i64 ((trm q).k), iN .i64 ((trm q).n), .string ((trm q).s), .slice none 0 0]) :: pt q8 :: .slice (some ⟨gt, 0, none⟩) ((es.map trm).length) rc :: iN .i64 i :: .pointer (some ⟨gt, 4 * i, none⟩) :: .agg (tmc (es.map trm)[i].k (es.map trm)[i].n (es.map trm)[i].s oq (es.map trm)[i].ps.length cq) :: .bool true :: .bool false :: .bool false :: iN .i64 0 :: .pointer (some ⟨q50, 3, none⟩) :: .slice none 0 0 :: iN .i64 0 :: .bool false :: u13 60 :: u13 61 :: u13 62 :: u13 63 :: u13 64 :: u13 65 :: .tuple #[.agg #[iN .i64 ((trm q).k), iN .i64 ((trm q).n), .string ((trm q).s), .slice none 0 0], .bool true] :: pt tb.q :: iN .i64 i :: .string (txt i) :: .tuple #[.agg #[iN .i64 ((trm q).k), iN .i64 ((trm q).n), .string ((trm q).s), .slice none 0 0], .bool true] :: .agg #[iN .i64 ((trm q).k), iN .i64 ((trm q).n), .string ((trm q).s), .slice none 0 0] :: .bool true :: .agg (#[iN .i64 ((trm q).k), iN .i64 ((trm q).n), .string ((trm q).s), .slice none 0 0]) :: pt q8 :: .slice (some ⟨gt, 0, none⟩) ((es.map trm).length) rc :: iN .i64 i :: .pointer (some ⟨gt, 4 * i, none⟩) :: .agg (tmc (es.map trm)[i].k (es.map trm)[i].n (es.map trm)[i].s oq (es.map trm)[i].ps.length cq) :: .bool true :: .bool false :: List.replicate 55 un).toArray, []⟩ (HA (zb w [] tb es) ((q62, 31, #[iN .i64 ((trm q).k), iN .i64 ((trm q).n), .string ((trm q).s), .slice none 0 0]) :: (q50, 31, #[iN .i64 ((trm q).k), iN .i64 ((trm q).n), .string ((trm q).s), .slice none 0 0]) :: (q8, 26, #[.slice (some ⟨gt, 0, none⟩) ((es.map trm).length) rc]) :: (RL ++ ((tb.q, 74, tcell tb (nms es) (.slice tp2 es.length tc3)) :: (Lr4 ++ PB es))))) h66.drew ?_ ?_
   ·refine zst (v := .agg (#[iN .i64 ((trm q).k), iN .i64 ((trm q).n), .string ((trm q).s), .slice none 0 0])) (fun _ h => run_load_blk (h.get 0 rfl) Try.underlying31 rfl) ?_
    refine zsp (.pointer (some ⟨q8, 0, none⟩)) ?_
    refine zst (v := .slice (some ⟨gt, 0, none⟩) ((es.map trm).length) rc) (fun w' h' => run_load1 Try.isAgg24 (((h'.get 2 rfl).cell 0).trans rfl)) ?_
    refine zsp (iN .i64 i) ?_
    refine zst (v := .pointer (some ⟨gt, 4 * i, none⟩)) (fun _ _ => (run_addr24 (n := (es.map trm).length) (m := rc) (a := i) hi2)) ?_
    refine zst (v := .agg (tmc (es.map trm)[i].k (es.map trm)[i].n (es.map trm)[i].s oq (es.map trm)[i].ps.length cq)) (fun w' h' => run_part ((fun y hy => h'.blk y (by simp [hy])) _ hgt) hcq Try.underlying31 rfl) ?_
    refine AllSure.cons (sure_call (v := .bool true) (by kernel_rfl) (by kernel_rfl) enter11 HA.keep #[.agg (#[iN .i64 ((trm q).k), iN .i64 ((trm q).n), .string ((trm q).s), .slice none 0 0]), .agg (tmc (es.map trm)[i].k (es.map trm)[i].n (es.map trm)[i].s oq (es.map trm)[i].ps.length cq)] (by kernel_rfl) (fun w' h' => by have := same_any (w := w') (k := (trm q).k) (n := (trm q).n) (s := (trm q).s) (o := none) (c := 0) (ps := []) (k2 := (es.map trm)[i].k) (n2 := (es.map trm)[i].n) (s2 := (es.map trm)[i].s) (c2 := cq) (.inl rfl) (hrq.ri (fun y hy => h'.blk y (by simp [hy]))) (by simp); rw [decide_eq_true (by rw [hlq]; exact ⟨rfl, rfl, rfl, (flat_ps hmk).symm⟩)] at this; exact this)) ?_
    refine zsp (.bool false) ?_
    exact AllSure.nil
   intro w67 h68
   refine then_at rfl ?_
   refine zcf ?_
   refine wp_skip ?_
   refine block_normal ?_
   refine then_at rfl ?_
   refine wl_region ?_
   refine zwv (iN .i64 i) ?_
   refine zwu (run_add (k := .i64) (a := i) (b := 1) (by simp only [top]; omega)) ?_
   refine zwv (iN .i64 (i + 1)) ?_
   refine wl_nil ?_
   have h69 := HA.sub h68 (List.Sublist.cons _ (List.Sublist.cons _ (List.Sublist.cons_cons _ (List.Sublist.refl _))))
   exact then_I (zex h69)
 ·rintro _ w70 ⟨u13, rfl, hA⟩
  refine wp_seq ?_
  refine zsr ?_
  refine zwv (iN .i64 ((es.map trm).length)) ?_
  refine zwv (.pointer (some ⟨q8, 0, none⟩)) ?_
  refine zwu (v := .slice ro (es.map trm).length rc) (run_load1 Try.isAgg24 (((hA.get 0 rfl).cell 0).trans rfl)) ?_
  refine zwv (iN .i64 ((es.map trm).length)) ?_
  refine zwu (run_lss (k := .i64) (a := (es.map trm).length) (b := (es.map trm).length) false (decide_eq_false (by omega))) ?_
  refine znt ?_
  refine zcf ?_
  refine wp_exit ?_
  repeat first | refine then_exit ?_ | refine block_exit ?_ | refine block_exit_ne (by decide) ?_
  refine then_at rfl ?_
  refine zsr ?_
  refine zwv (.string s0) ?_
  refine zwv (.string s0) ?_
  refine zwu (run_len (s := s0)) ?_
  refine zwu (run_min (i := s0.size) (j := 100)) ?_
  refine zwu (v := .string (s0.extract 0 (min s0.size 100))) (run_cut_hi (s := s0) (b := min s0.size 100) (by omega)) ?_
  refine zwv (.string (s0.extract 0 (min s0.size 100))) ?_
  refine znt ?_
  refine wp_seq ?_
  rcases hn1 : numT es.length (s0.extract 0 (min s0.size 100)) with _ | x
  ·refine wl_region ?_
   refine zwv (.pointer (some ⟨tb.q, 0, none⟩)) ?_
   refine zwv (.string (s0.extract 0 (min s0.size 100))) ?_
   refine zwc hA enter9 (Of_not (TH.view (TH.cl ((q8, 26, #[.slice ro (es.map trm).length rc]) :: RL) hR5 hA)) hI.wf hn1) ?_
   intro w71 h72
   refine zwv (.tuple #[.agg #[iN .i64 0, iN .i64 0, .string { data := #[] }, .slice none 0 0], .bool false]) ?_
   refine zwv (.agg #[iN .i64 0, iN .i64 0, .string { data := #[] }, .slice none 0 0]) ?_
   refine zwv (.bool false) ?_
   refine wl_make (c := #[iN .i64 0, iN .i64 0, .string ({ data := #[] }), .slice none 0 0]) h72 31 ?_
   intro q73 w74 (h75 : HA (zb w [] tb es) ((q73, 31, #[iN .i64 0, iN .i64 0, .string ({ data := #[] }), .slice none 0 0]) :: (q8, 26, #[.slice ro (es.map trm).length rc]) :: (RL ++ ((tb.q, 74, tcell tb (nms es) (.slice tp2 es.length tc3)) :: (Lr4 ++ PB es)))) w74)
   refine wl_fill (c' := #[iN .i64 0, iN .i64 0, .string { data := #[] }, .slice none 0 0]) h75 0 rfl rfl ?_
   intro w76 (h77 : HA (zb w [] tb es) ((q73, 31, #[iN .i64 0, iN .i64 0, .string { data := #[] }, .slice none 0 0]) :: (q8, 26, #[.slice ro (es.map trm).length rc]) :: (RL ++ ((tb.q, 74, tcell tb (nms es) (.slice tp2 es.length tc3)) :: (Lr4 ++ PB es)))) w76)
   refine zwv (.bool false) ?_
   refine znt ?_
   refine zsr ?_
   refine wl_load h77 1 rfl Try.underlying26 rfl ?_
   refine zwv (.string (s0.extract 0 (min s0.size 100))) ?_
   refine zwc h77 enter12 (rof_no hr (fun y hy => h77.blk y (by simp [hy])) (by rw [List.length_map]; omega) (by rw [List.length_map]; exact hn1)) ?_
   intro w78 h79
   refine zwv (.tuple #[.agg #[iN .i64 0, iN .i64 0, .string { data := #[] }, .slice none 0 0], .bool false]) ?_
   refine zwv (.agg #[iN .i64 0, iN .i64 0, .string { data := #[] }, .slice none 0 0]) ?_
   refine zwv (.bool false) ?_
   refine wl_make (c := #[iN .i64 0, iN .i64 0, .string ({ data := #[] }), .slice none 0 0]) h79 31 ?_
   intro q80 w81 (h82 : HA (zb w [] tb es) ((q80, 31, #[iN .i64 0, iN .i64 0, .string ({ data := #[] }), .slice none 0 0]) :: (q73, 31, #[iN .i64 0, iN .i64 0, .string { data := #[] }, .slice none 0 0]) :: (q8, 26, #[.slice ro (es.map trm).length rc]) :: (RL ++ ((tb.q, 74, tcell tb (nms es) (.slice tp2 es.length tc3)) :: (Lr4 ++ PB es)))) w81)
   refine wl_fill (c' := #[iN .i64 0, iN .i64 0, .string { data := #[] }, .slice none 0 0]) h82 0 rfl rfl ?_
   intro w83 (h84 : HA (zb w [] tb es) ((q80, 31, #[iN .i64 0, iN .i64 0, .string { data := #[] }, .slice none 0 0]) :: (q73, 31, #[iN .i64 0, iN .i64 0, .string { data := #[] }, .slice none 0 0]) :: (q8, 26, #[.slice ro (es.map trm).length rc]) :: (RL ++ ((tb.q, 74, tcell tb (nms es) (.slice tp2 es.length tc3)) :: (Lr4 ++ PB es)))) w83)
   refine zwv (.bool false) ?_
   refine znt ?_
   refine wp_seq ?_
   refine wp_region_wk (HA (zb w [] tb es) ((q80, 31, #[iN .i64 0, iN .i64 0, .string { data := #[] }, .slice none 0 0]) :: (q73, 31, #[iN .i64 0, iN .i64 0, .string { data := #[] }, .slice none 0 0]) :: (q8, 26, #[.slice ro (es.map trm).length rc]) :: (RL ++ ((tb.q, 74, tcell tb (nms es) (.slice tp2 es.length tc3)) :: (Lr4 ++ PB es))))) (fun A w' => ∃ (NA : BL) (NB : BL) (oA : Option Addr) (oB : Option Addr) (cA : Nat) (cB : Nat), A = ⟨(.slice o al.length c :: .string (s0.extract 0 (min s0.size 100)) :: un :: un :: u13 4 :: pt tb.q :: pt q8 :: .bool true :: iN .i64 ((es.map trm).length) :: u13 9 :: u13 10 :: u13 11 :: u13 12 :: u13 13 :: pt q73 :: .bool false :: pt q80 :: .bool false :: .slice oA (wth es.length (s0.extract 0 (min s0.size 100))).length cA :: .slice oB (wth (es.map trm).length (s0.extract 0 (min s0.size 100))).length cB :: un :: .tuple #[pt tb.q, .agg #[.slice ro (es.map trm).length rc], .bool true] :: .slice o al.length c :: .tuple #[pt tb.q, .agg #[.slice ro (es.map trm).length rc], .bool true] :: pt tb.q :: .agg #[.slice ro (es.map trm).length rc] :: .bool true :: .bool true :: .bool false :: iN .i64 ((es.map trm).length) :: pt q8 :: .slice ro (es.map trm).length rc :: iN .i64 ((es.map trm).length) :: .bool false :: u13 34 :: u13 35 :: u13 36 :: u13 37 :: u13 38 :: u13 39 :: u13 40 :: u13 41 :: u13 42 :: u13 43 :: u13 44 :: u13 45 :: u13 46 :: u13 47 :: u13 48 :: u13 49 :: u13 50 :: u13 51 :: u13 52 :: u13 53 :: u13 54 :: u13 55 :: u13 56 :: u13 57 :: u13 58 :: u13 59 :: u13 60 :: u13 61 :: u13 62 :: u13 63 :: u13 64 :: u13 65 :: u13 66 :: u13 67 :: u13 68 :: u13 69 :: u13 70 :: u13 71 :: u13 72 :: u13 73 :: u13 74 :: u13 75 :: u13 76 :: u13 77 :: u13 78 :: u13 79 :: u13 80 :: .string s0 :: .string s0 :: iN .i64 s0.size :: iN .i64 (min s0.size 100) :: .string (s0.extract 0 (min s0.size 100)) :: .tuple #[.agg #[iN .i64 0, iN .i64 0, .string { data := #[] }, .slice none 0 0], .bool false] :: pt tb.q :: .string (s0.extract 0 (min s0.size 100)) :: .tuple #[.agg #[iN .i64 0, iN .i64 0, .string { data := #[] }, .slice none 0 0], .bool false] :: .agg #[iN .i64 0, iN .i64 0, .string { data := #[] }, .slice none 0 0] :: .bool false :: .tuple #[.agg #[iN .i64 0, iN .i64 0, .string { data := #[] }, .slice none 0 0], .bool false] :: .agg (#[.slice ro (es.map trm).length rc]) :: .string (s0.extract 0 (min s0.size 100)) :: .tuple #[.agg #[iN .i64 0, iN .i64 0, .string { data := #[] }, .slice none 0 0], .bool false] :: .agg #[iN .i64 0, iN .i64 0, .string { data := #[] }, .slice none 0 0] :: .bool false :: pt tb.q :: .string (s0.extract 0 (min s0.size 100)) :: .slice oA (wth es.length (s0.extract 0 (min s0.size 100))).length cA :: .agg (#[.slice ro (es.map trm).length rc]) :: .string (s0.extract 0 (min s0.size 100)) :: .slice oB (wth (es.map trm).length (s0.extract 0 (min s0.size 100))).length cB :: List.replicate 32 un).toArray, []⟩ ∧ RIL NA oA (wth es.length (s0.extract 0 (min s0.size 100))) ∧ RIL NB oB (wth (es.map trm).length (s0.extract 0 (min s0.size 100))) ∧ HA (zb w [] tb es) ((q80, 31, #[iN .i64 0, iN .i64 0, .string { data := #[] }, .slice none 0 0]) :: (q73, 31, #[iN .i64 0, iN .i64 0, .string { data := #[] }, .slice none 0 0]) :: (q8, 26, #[.slice ro (es.map trm).length rc]) :: ((NB ++ (NA ++ RL)) ++ ((tb.q, 74, tcell tb (nms es) (.slice tp2 es.length tc3)) :: (Lr4 ++ PB es)))) w') 8 (by kernel_rfl) (by kernel_rfl) (by kernel_rfl) (by kernel_rfl) (by kernel_rfl) (h84.drew) ?_ ?_
   ·have h85 := h84.drew
    refine wk_val (i := 0) (.pointer (some ⟨tb.q, 0, none⟩)) rfl rfl (by kernel_rfl) (by kernel_rfl) (fun _ _ => (by kernel_rfl)) ?_
    refine wk_val (i := 1) (.string (s0.extract 0 (min s0.size 100))) rfl rfl (by kernel_rfl) (by kernel_rfl) (fun _ _ => (by kernel_rfl)) ?_
    refine wk_val (i := 3) (.agg (#[.slice ro (es.map trm).length rc])) rfl rfl (by kernel_rfl) (by kernel_rfl) (fun w' h' => run_load_blk (h'.get 2 rfl) Try.underlying26 rfl) ?_
    refine wk_val (i := 4) (.string (s0.extract 0 (min s0.size 100))) rfl rfl (by kernel_rfl) (by kernel_rfl) (fun _ _ => (by kernel_rfl)) ?_
    refine wk_one 2 (by kernel_rfl) ?_
    refine ef_callx rfl (by kernel_rfl) h85 enter13 #[.pointer (some ⟨tb.q, 0, none⟩), .string (s0.extract 0 (min s0.size 100))] (by kernel_rfl) (fun w86 h87 => Within_any (TH.view (TH.cl ((q80, 31, #[iN .i64 0, iN .i64 0, .string { data := #[] }, .slice none 0 0]) :: (q73, 31, #[iN .i64 0, iN .i64 0, .string { data := #[] }, .slice none 0 0]) :: (q8, 26, #[.slice ro (es.map trm).length rc]) :: RL) hR5 h87)) (by omega) (got (w := w) h87.old.old hv) (s0.extract 0 (min s0.size 100)) (by rw [ByteArray.size_extract]; omega)) ?_
    rintro w86 h87 _ w88 ⟨oA, cA, rfl, hriA, hbA⟩
    obtain ⟨NA, hrA, hNA⟩ := hriA.newer
    have h89 : HA (zb w [] tb es) ((q80, 31, #[iN .i64 0, iN .i64 0, .string { data := #[] }, .slice none 0 0]) :: (q73, 31, #[iN .i64 0, iN .i64 0, .string { data := #[] }, .slice none 0 0]) :: (q8, 26, #[.slice ro (es.map trm).length rc]) :: ((NA ++ RL) ++ ((tb.q, 74, tcell tb (nms es) (.slice tp2 es.length tc3)) :: (Lr4 ++ PB es)))) w88 := HA.perm (HA.addL h87 hbA hNA) (perm_ref [(q80, 31, #[iN .i64 0, iN .i64 0, .string { data := #[] }, .slice none 0 0]), (q73, 31, #[iN .i64 0, iN .i64 0, .string { data := #[] }, .slice none 0 0]), (q8, 26, #[.slice ro (es.map trm).length rc])] RL ((tb.q, 74, tcell tb (nms es) (.slice tp2 es.length tc3)) :: (Lr4 ++ PB es)) NA)
    refine ⟨_, rfl, (HA.sub h89 (List.Sublist.cons_cons _ (List.Sublist.cons_cons _ (List.Sublist.cons_cons _ (List.Sublist.append_right ((List.Sublist.refl _).trans (List.sublist_append_right NA _)) _))))), ?_⟩
    refine wk_one 5 (by kernel_rfl) ?_
    refine ef_callx rfl (by kernel_rfl) h89 enter14 #[.agg (#[.slice ro (es.map trm).length rc]), .string (s0.extract 0 (min s0.size 100))] (by kernel_rfl) (fun w90 h91 => rwithin_any hr (fun y hy => h91.blk y (by simp [hy])) (by rw [List.length_map]; omega) (s0.extract 0 (min s0.size 100)) (by rw [ByteArray.size_extract]; omega)) ?_
    rintro w90 h91 _ w92 ⟨oB, cB, rfl, hriB, hbB⟩
    obtain ⟨NB, hrB, hNB⟩ := hriB.newer
    have h93 : HA (zb w [] tb es) ((q80, 31, #[iN .i64 0, iN .i64 0, .string { data := #[] }, .slice none 0 0]) :: (q73, 31, #[iN .i64 0, iN .i64 0, .string { data := #[] }, .slice none 0 0]) :: (q8, 26, #[.slice ro (es.map trm).length rc]) :: ((NB ++ (NA ++ RL)) ++ ((tb.q, 74, tcell tb (nms es) (.slice tp2 es.length tc3)) :: (Lr4 ++ PB es)))) w92 := HA.perm (HA.addL h91 hbB hNB) (perm_ref [(q80, 31, #[iN .i64 0, iN .i64 0, .string { data := #[] }, .slice none 0 0]), (q73, 31, #[iN .i64 0, iN .i64 0, .string { data := #[] }, .slice none 0 0]), (q8, 26, #[.slice ro (es.map trm).length rc])] (NA ++ RL) ((tb.q, 74, tcell tb (nms es) (.slice tp2 es.length tc3)) :: (Lr4 ++ PB es)) NB)
    refine ⟨_, rfl, (HA.sub h93 (List.Sublist.cons_cons _ (List.Sublist.cons_cons _ (List.Sublist.cons_cons _ (List.Sublist.append_right ((((List.Sublist.refl _).trans (List.sublist_append_right NA _))).trans (List.sublist_append_right NB _)) _))))), ?_⟩
    refine wk_val (i := 6) (.slice oA (wth es.length (s0.extract 0 (min s0.size 100))).length cA) rfl rfl (by kernel_rfl) (by kernel_rfl) (fun _ _ => (by kernel_rfl)) ?_
    refine wk_val (i := 7) (.slice oB (wth (es.map trm).length (s0.extract 0 (min s0.size 100))).length cB) rfl rfl (by kernel_rfl) (by kernel_rfl) (fun _ _ => (by kernel_rfl)) ?_
    refine wk_end fun w94 hbx hsx => ?_
    have h95 := HA.keep _ _ h93 hbx
    exact ⟨NA, NB, oA, oB, cA, cB, by kernel_rfl, hrA, hrB, h95⟩
   ·rintro _ w96 ⟨NA, NB, oA, oB, cA, cB, rfl, hrA, hrB, h97⟩
    refine then_at rfl ?_
    refine wp_seq ?_
    refine zsr ?_
    refine zwv (.bool false) ?_
    refine zwv (.bool false) ?_
    refine zwv (.bool false) ?_
    refine zwv (.bool false) ?_
    refine wl_load h97 1 rfl Try.underlying31 rfl ?_
    refine wl_load h97 0 rfl Try.underlying31 rfl ?_
    refine wl_call (v := .bool true) h97 enter11 #[.agg (#[iN .i64 0, iN .i64 0, .string { data := #[] }, .slice none 0 0]), .agg (#[iN .i64 0, iN .i64 0, .string { data := #[] }, .slice none 0 0])] (by have := same_any (w := w96) (k := 0) (n := 0) (s := { data := #[] }) (c := 0) (k2 := 0) (n2 := 0) (s2 := { data := #[] }) (c2 := 0) (o := none) (o2 := none) (ps := []) (ps2 := []) (.inl rfl) (.inl rfl) (by simp); rw [decide_eq_true (by simp)] at this; exact this) ?_
    intro w98 h99
    refine zwv (.bool false) ?_
    refine zwv (.bool false) ?_
    refine zwv (.bool false) ?_
    refine zwv (.slice oA (wth es.length (s0.extract 0 (min s0.size 100))).length cA) ?_
    refine zwv (iN .i64 ((wth es.length (s0.extract 0 (min s0.size 100))).length)) ?_
    refine zwv (.slice oB (wth (es.map trm).length (s0.extract 0 (min s0.size 100))).length cB) ?_
    refine zwv (iN .i64 ((wth (es.map trm).length (s0.extract 0 (min s0.size 100))).length)) ?_
    refine zwu (run_nei (k := .i64) (a := (wth es.length (s0.extract 0 (min s0.size 100))).length) (b := (wth (es.map trm).length (s0.extract 0 (min s0.size 100))).length) false (by simp)) ?_
    refine zwv (.bool false) ?_
    refine znt ?_
    refine zcf ?_
    refine wp_skip ?_
    refine then_at rfl ?_
    refine wp_seq ?_
    refine zsr ?_
    refine zwv (iN .i64 0) ?_
    refine znt ?_
    refine wp_block ?_
    refine wp_count (fun i A w' => ∃ u100 : Nat → Value, A = ⟨(.slice o al.length c :: .string (s0.extract 0 (min s0.size 100)) :: un :: un :: u100 4 :: pt tb.q :: pt q8 :: .bool true :: iN .i64 ((es.map trm).length) :: u13 9 :: u13 10 :: u13 11 :: u13 12 :: u13 13 :: pt q73 :: .bool false :: pt q80 :: .bool false :: .slice oA (wth es.length (s0.extract 0 (min s0.size 100))).length cA :: .slice oB (wth (es.map trm).length (s0.extract 0 (min s0.size 100))).length cB :: iN .i64 i :: .tuple #[pt tb.q, .agg #[.slice ro (es.map trm).length rc], .bool true] :: .slice o al.length c :: .tuple #[pt tb.q, .agg #[.slice ro (es.map trm).length rc], .bool true] :: pt tb.q :: .agg #[.slice ro (es.map trm).length rc] :: .bool true :: .bool true :: .bool false :: iN .i64 ((es.map trm).length) :: pt q8 :: .slice ro (es.map trm).length rc :: iN .i64 ((es.map trm).length) :: .bool false :: u13 34 :: u13 35 :: u13 36 :: u13 37 :: u13 38 :: u13 39 :: u13 40 :: u13 41 :: u13 42 :: u13 43 :: u13 44 :: u13 45 :: u13 46 :: u13 47 :: u13 48 :: u13 49 :: u13 50 :: u13 51 :: u13 52 :: u13 53 :: u13 54 :: u13 55 :: u13 56 :: u13 57 :: u13 58 :: u13 59 :: u13 60 :: u13 61 :: u13 62 :: u13 63 :: u13 64 :: u13 65 :: u13 66 :: u13 67 :: u13 68 :: u13 69 :: u13 70 :: u13 71 :: u13 72 :: u13 73 :: u13 74 :: u13 75 :: u13 76 :: u13 77 :: u13 78 :: u13 79 :: u13 80 :: .string s0 :: .string s0 :: iN .i64 s0.size :: iN .i64 (min s0.size 100) :: .string (s0.extract 0 (min s0.size 100)) :: .tuple #[.agg #[iN .i64 0, iN .i64 0, .string { data := #[] }, .slice none 0 0], .bool false] :: pt tb.q :: .string (s0.extract 0 (min s0.size 100)) :: .tuple #[.agg #[iN .i64 0, iN .i64 0, .string { data := #[] }, .slice none 0 0], .bool false] :: .agg #[iN .i64 0, iN .i64 0, .string { data := #[] }, .slice none 0 0] :: .bool false :: .tuple #[.agg #[iN .i64 0, iN .i64 0, .string { data := #[] }, .slice none 0 0], .bool false] :: .agg (#[.slice ro (es.map trm).length rc]) :: .string (s0.extract 0 (min s0.size 100)) :: .tuple #[.agg #[iN .i64 0, iN .i64 0, .string { data := #[] }, .slice none 0 0], .bool false] :: .agg #[iN .i64 0, iN .i64 0, .string { data := #[] }, .slice none 0 0] :: .bool false :: pt tb.q :: .string (s0.extract 0 (min s0.size 100)) :: .slice oA (wth es.length (s0.extract 0 (min s0.size 100))).length cA :: .agg (#[.slice ro (es.map trm).length rc]) :: .string (s0.extract 0 (min s0.size 100)) :: .slice oB (wth (es.map trm).length (s0.extract 0 (min s0.size 100))).length cB :: .bool false :: .bool false :: .bool false :: .bool false :: .agg (#[iN .i64 0, iN .i64 0, .string { data := #[] }, .slice none 0 0]) :: .agg (#[iN .i64 0, iN .i64 0, .string { data := #[] }, .slice none 0 0]) :: .bool true :: .bool false :: .bool false :: .bool false :: .slice oA (wth es.length (s0.extract 0 (min s0.size 100))).length cA :: iN .i64 ((wth es.length (s0.extract 0 (min s0.size 100))).length) :: .slice oB (wth (es.map trm).length (s0.extract 0 (min s0.size 100))).length cB :: iN .i64 ((wth (es.map trm).length (s0.extract 0 (min s0.size 100))).length) :: .bool false :: .bool false :: u100 120 :: u100 121 :: u100 122 :: u100 123 :: u100 124 :: u100 125 :: u100 126 :: u100 127 :: u100 128 :: u100 129 :: u100 130 :: u100 131 :: u100 132 :: u100 133 :: u100 134 :: List.replicate 1 un).toArray, []⟩ ∧ HA (zb w [] tb es) ((q80, 31, #[iN .i64 0, iN .i64 0, .string { data := #[] }, .slice none 0 0]) :: (q73, 31, #[iN .i64 0, iN .i64 0, .string { data := #[] }, .slice none 0 0]) :: (q8, 26, #[.slice ro (es.map trm).length rc]) :: ((NB ++ (NA ++ RL)) ++ ((tb.q, 74, tcell tb (nms es) (.slice tp2 es.length tc3)) :: (Lr4 ++ PB es)))) w') ((wth es.length (s0.extract 0 (min s0.size 100))).length) ?_ ?_ ?_
    ·exact zex h99
    ·rintro i hk _ w101 ⟨u100, rfl, hA⟩
     have hwl := wth_len es.length (s0.extract 0 (min s0.size 100))
     obtain ⟨qa, ca, rfl, ha1, ha2⟩ := hrA.resolve_left (by intro e; rw [e] at hk; simp at hk)
     have hk2 : i < (wth (es.map trm).length (s0.extract 0 (min s0.size 100))).length := by rw [List.length_map]; exact hk
     obtain ⟨qc, cb, rfl, hb1, hb2⟩ := hrB.resolve_left (by intro e; rw [e] at hk2; simp at hk2)
     refine wp_seq ?_
     refine zsr ?_
     refine zwv (iN .i64 i) ?_
     refine zwv (.slice (some ⟨qa, 0, none⟩) ((wth es.length (s0.extract 0 (min s0.size 100))).length) cA) ?_
     refine zwv (iN .i64 ((wth es.length (s0.extract 0 (min s0.size 100))).length)) ?_
     refine zwu (run_lss (k := .i64) (a := i) (b := (wth es.length (s0.extract 0 (min s0.size 100))).length) true (decide_eq_true (by omega))) ?_
     refine znt ?_
     refine zct ?_
     refine wp_skip ?_
     refine then_at rfl ?_
     refine wp_seq ?_
     refine wp_block ?_
     refine wp_seq ?_
     refine zrs ⟨(.slice o al.length c :: .string (s0.extract 0 (min s0.size 100)) :: un :: un :: u100 4 :: pt tb.q :: pt q8 :: .bool true :: iN .i64 ((es.map trm).length) :: u13 9 :: u13 10 :: u13 11 :: u13 12 :: u13 13 :: pt q73 :: .bool false :: pt q80 :: .bool false :: .slice (some ⟨qa, 0, none⟩) ((wth es.length (s0.extract 0 (min s0.size 100))).length) cA :: .slice (some ⟨qc, 0, none⟩) ((wth (es.map trm).length (s0.extract 0 (min s0.size 100))).length) cB :: iN .i64 i :: .tuple #[pt tb.q, .agg #[.slice ro (es.map trm).length rc], .bool true] :: .slice o al.length c :: .tuple #[pt tb.q, .agg #[.slice ro (es.map trm).length rc], .bool true] :: pt tb.q :: .agg #[.slice ro (es.map trm).length rc] :: .bool true :: .bool true :: .bool false :: iN .i64 ((es.map trm).length) :: pt q8 :: .slice ro (es.map trm).length rc :: iN .i64 ((es.map trm).length) :: .bool false :: u13 34 :: u13 35 :: u13 36 :: u13 37 :: u13 38 :: u13 39 :: u13 40 :: u13 41 :: u13 42 :: u13 43 :: u13 44 :: u13 45 :: u13 46 :: u13 47 :: u13 48 :: u13 49 :: u13 50 :: u13 51 :: u13 52 :: u13 53 :: u13 54 :: u13 55 :: u13 56 :: u13 57 :: u13 58 :: u13 59 :: u13 60 :: u13 61 :: u13 62 :: u13 63 :: u13 64 :: u13 65 :: u13 66 :: u13 67 :: u13 68 :: u13 69 :: u13 70 :: u13 71 :: u13 72 :: u13 73 :: u13 74 :: u13 75 :: u13 76 :: u13 77 :: u13 78 :: u13 79 :: u13 80 :: .string s0 :: .string s0 :: iN .i64 s0.size :: iN .i64 (min s0.size 100) :: .string (s0.extract 0 (min s0.size 100)) :: .tuple #[.agg #[iN .i64 0, iN .i64 0, .string { data := #[] }, .slice none 0 0], .bool false] :: pt tb.q :: .string (s0.extract 0 (min s0.size 100)) :: .tuple #[.agg #[iN .i64 0, iN .i64 0, .string { data := #[] }, .slice none 0 0], .bool false] :: .agg #[iN .i64 0, iN .i64 0, .string { data := #[] }, .slice none 0 0] :: .bool false :: .tuple #[.agg #[iN .i64 0, iN .i64 0, .string { data := #[] }, .slice none 0 0], .bool false] :: .agg (#[.slice ro (es.map trm).length rc]) :: .string (s0.extract 0 (min s0.size 100)) :: .tuple #[.agg #[iN .i64 0, iN .i64 0, .string { data := #[] }, .slice none 0 0], .bool false] :: .agg #[iN .i64 0, iN .i64 0, .string { data := #[] }, .slice none 0 0] :: .bool false :: pt tb.q :: .string (s0.extract 0 (min s0.size 100)) :: .slice (some ⟨qa, 0, none⟩) ((wth es.length (s0.extract 0 (min s0.size 100))).length) cA :: .agg (#[.slice ro (es.map trm).length rc]) :: .string (s0.extract 0 (min s0.size 100)) :: .slice (some ⟨qc, 0, none⟩) ((wth (es.map trm).length (s0.extract 0 (min s0.size 100))).length) cB :: .bool false :: .bool false :: .bool false :: .bool false :: .agg (#[iN .i64 0, iN .i64 0, .string { data := #[] }, .slice none 0 0]) :: .agg (#[iN .i64 0, iN .i64 0, .string { data := #[] }, .slice none 0 0]) :: .bool true :: .bool false :: .bool false :: .bool false :: .slice (some ⟨qa, 0, none⟩) ((wth es.length (s0.extract 0 (min s0.size 100))).length) cA :: iN .i64 ((wth es.length (s0.extract 0 (min s0.size 100))).length) :: .slice (some ⟨qc, 0, none⟩) ((wth (es.map trm).length (s0.extract 0 (min s0.size 100))).length) cB :: iN .i64 ((wth (es.map trm).length (s0.extract 0 (min s0.size 100))).length) :: .bool false :: .bool false :: iN .i64 i :: .slice (some ⟨qa, 0, none⟩) ((wth es.length (s0.extract 0 (min s0.size 100))).length) cA :: iN .i64 ((wth es.length (s0.extract 0 (min s0.size 100))).length) :: .bool true :: u100 124 :: u100 125 :: .slice (some ⟨qa, 0, none⟩) ((wth es.length (s0.extract 0 (min s0.size 100))).length) cA :: iN .i64 i :: .pointer (some ⟨qa, i, none⟩) :: iN .i64 ((wth es.length (s0.extract 0 (min s0.size 100))).getD i 0) :: .slice (some ⟨qc, 0, none⟩) ((wth (es.map trm).length (s0.extract 0 (min s0.size 100))).length) cB :: iN .i64 i :: .pointer (some ⟨qc, i, none⟩) :: iN .i64 ((wth (es.map trm).length (s0.extract 0 (min s0.size 100))).getD i 0) :: .bool false :: List.replicate 1 un).toArray, []⟩ (HA (zb w [] tb es) ((q80, 31, #[iN .i64 0, iN .i64 0, .string { data := #[] }, .slice none 0 0]) :: (q73, 31, #[iN .i64 0, iN .i64 0, .string { data := #[] }, .slice none 0 0]) :: (q8, 26, #[.slice ro (es.map trm).length rc]) :: ((NB ++ (NA ++ RL)) ++ ((tb.q, 74, tcell tb (nms es) (.slice tp2 es.length tc3)) :: (Lr4 ++ PB es))))) hA.drew ?_ ?_
     ·refine zsp (.slice (some ⟨qa, 0, none⟩) ((wth es.length (s0.extract 0 (min s0.size 100))).length) cA) ?_
      refine zsp (iN .i64 i) ?_
      refine zst (v := .pointer (some ⟨qa, i, none⟩)) (fun _ _ => (run_addr_slice (q := qa) (n := (wth es.length (s0.extract 0 (min s0.size 100))).length) (m := cA) (a := i) Try.underlying29 Try.sizeOf3 (by omega))) ?_
      refine zst (v := iN .i64 ((wth es.length (s0.extract 0 (min s0.size 100))).getD i 0)) (fun w' h' => run_load1 Try.isAgg3 (((h'.blk (qa, 3, ca) (by simp [ha1])).cell i).trans (ha2 i hk))) ?_
      refine zsp (.slice (some ⟨qc, 0, none⟩) ((wth (es.map trm).length (s0.extract 0 (min s0.size 100))).length) cB) ?_
      refine zsp (iN .i64 i) ?_
      refine zst (v := .pointer (some ⟨qc, i, none⟩)) (fun _ _ => (run_addr_slice (q := qc) (n := (wth (es.map trm).length (s0.extract 0 (min s0.size 100))).length) (m := cB) (a := i) Try.underlying29 Try.sizeOf3 (by omega))) ?_
      refine zst (v := iN .i64 ((wth (es.map trm).length (s0.extract 0 (min s0.size 100))).getD i 0)) (fun w' h' => run_load1 Try.isAgg3 (((h'.blk (qc, 3, cb) (by simp [hb1])).cell i).trans (hb2 i hk2))) ?_
      refine zst (fun _ _ => (run_nei (k := .i64) (a := (wth es.length (s0.extract 0 (min s0.size 100))).getD i 0) (b := (wth (es.map trm).length (s0.extract 0 (min s0.size 100))).getD i 0) false (by simp))) ?_
      exact AllSure.nil
     intro w102 h103
     refine then_at rfl ?_
     refine zcf ?_
     refine wp_skip ?_
     refine block_normal ?_
     refine then_at rfl ?_
     refine wl_region ?_
     refine zwv (iN .i64 i) ?_
     refine zwu (run_add (k := .i64) (a := i) (b := 1) (by simp only [top]; omega)) ?_
     refine zwv (iN .i64 (i + 1)) ?_
     refine wl_nil ?_
     exact then_I (zex h103)
    ·rintro _ w104 ⟨u100, rfl, hA⟩
     have hwl := wth_len es.length (s0.extract 0 (min s0.size 100))
     refine wp_seq ?_
     refine zsr ?_
     refine zwv (iN .i64 ((wth es.length (s0.extract 0 (min s0.size 100))).length)) ?_
     refine zwv (.slice oA (wth es.length (s0.extract 0 (min s0.size 100))).length cA) ?_
     refine zwv (iN .i64 ((wth es.length (s0.extract 0 (min s0.size 100))).length)) ?_
     refine zwu (run_lss (k := .i64) (a := (wth es.length (s0.extract 0 (min s0.size 100))).length) (b := (wth es.length (s0.extract 0 (min s0.size 100))).length) false (decide_eq_false (by omega))) ?_
     refine znt ?_
     refine zcf ?_
     refine wp_exit ?_
     repeat first | refine then_exit ?_ | refine block_exit ?_ | refine block_exit_ne (by decide) ?_
     refine then_at rfl ?_
     refine zsr ?_
     refine zwc hA enter15 (works_any w104) ?_
     intro w105 h106
     refine zwv (.bool true) ?_
     refine znt ?_
     refine wp_ret ?_
     repeat first | refine then_ret ?_ | refine block_ret ?_
     exact bodyPost_ret (by kernel_rfl) rfl ⟨rfl, h106.old.old⟩
  ·have hi1 := numT_lt hn1
   have hi2 : x < (es.map trm).length := by rw [List.length_map]; exact hi1
   obtain ⟨q, he⟩ : ∃ q, es[x]? = some q := ⟨_, List.getElem?_eq_getElem hi1⟩
   have hlq : (es.map trm)[x] = trm q := by rw [List.getElem_map]; congr 1; exact Option.some.inj ((List.getElem?_eq_getElem hi1).symm.trans he)
   by_cases hmk : ∃ k n s ps b, q = Ent.mk k n s ps b
   ·refine wl_region ?_
    refine zwv (.pointer (some ⟨tb.q, 0, none⟩)) ?_
    refine zwv (.string (s0.extract 0 (min s0.size 100))) ?_
    refine wl_callx enter9 #[.pointer (some ⟨tb.q, 0, none⟩), .string (s0.extract 0 (min s0.size 100))] (Of_mkq (TH.view (TH.cl ((q8, 26, #[.slice ro (es.map trm).length rc]) :: RL) hR5 hA)) hI hn1 he hmk) ?_
    rintro _ w108 ⟨qp107, pc107, cc107, rfl, ho107, hb107, hc107, hl107⟩
    refine ⟨_, rfl, ?_⟩
    have h109 : HA (zb w [] tb es) ((qp107, 3, cc107) :: (q8, 26, #[.slice ro (es.map trm).length rc]) :: (RL ++ ((tb.q, 74, tcell tb (nms es) (.slice tp2 es.length tc3)) :: (Lr4 ++ PB es)))) w108 := HA.add1 hA hl107 ho107 hb107
    refine zwv (.tuple #[.agg #[iN .i64 ((trm q).k), iN .i64 ((trm q).n), .string ((trm q).s), .slice (some ⟨qp107, 0, none⟩) ((trm q).ps.length) pc107], .bool true]) ?_
    refine zwv (.agg #[iN .i64 ((trm q).k), iN .i64 ((trm q).n), .string ((trm q).s), .slice (some ⟨qp107, 0, none⟩) ((trm q).ps.length) pc107]) ?_
    refine zwv (.bool true) ?_
    refine wl_make (c := #[iN .i64 0, iN .i64 0, .string ({ data := #[] }), .slice none 0 0]) h109 31 ?_
    intro q110 w111 (h112 : HA (zb w [] tb es) ((q110, 31, #[iN .i64 0, iN .i64 0, .string ({ data := #[] }), .slice none 0 0]) :: (qp107, 3, cc107) :: (q8, 26, #[.slice ro (es.map trm).length rc]) :: (RL ++ ((tb.q, 74, tcell tb (nms es) (.slice tp2 es.length tc3)) :: (Lr4 ++ PB es)))) w111)
    refine wl_fill (c' := #[iN .i64 ((trm q).k), iN .i64 ((trm q).n), .string ((trm q).s), .slice (some ⟨qp107, 0, none⟩) ((trm q).ps.length) pc107]) h112 0 rfl rfl ?_
    intro w113 (h114 : HA (zb w [] tb es) ((q110, 31, #[iN .i64 ((trm q).k), iN .i64 ((trm q).n), .string ((trm q).s), .slice (some ⟨qp107, 0, none⟩) ((trm q).ps.length) pc107]) :: (qp107, 3, cc107) :: (q8, 26, #[.slice ro (es.map trm).length rc]) :: (RL ++ ((tb.q, 74, tcell tb (nms es) (.slice tp2 es.length tc3)) :: (Lr4 ++ PB es)))) w113)
    refine zwv (.bool true) ?_
    refine znt ?_
    refine zsr ?_
    refine wl_load h114 2 rfl Try.underlying26 rfl ?_
    refine zwv (.string (s0.extract 0 (min s0.size 100))) ?_
    refine wl_callx enter12 #[.agg (#[.slice ro (es.map trm).length rc]), .string (s0.extract 0 (min s0.size 100))] (rof_yes hr (fun y hy => h114.blk y (by simp [hy])) (by rw [List.length_map]; omega) (x := x) (by rw [List.length_map]; exact hn1) hi2) ?_
    rintro _ w115 ⟨oq, cq, rfl, hrq, hbr⟩
    refine ⟨_, rfl, ?_⟩
    have h116 := HA.keep _ _ h114 hbr
    refine zwv (.tuple #[.agg (tmc (es.map trm)[x].k (es.map trm)[x].n (es.map trm)[x].s oq (es.map trm)[x].ps.length cq), .bool true]) ?_
    refine zwv (.agg (tmc (es.map trm)[x].k (es.map trm)[x].n (es.map trm)[x].s oq (es.map trm)[x].ps.length cq)) ?_
    refine zwv (.bool true) ?_
    refine wl_make (c := #[iN .i64 0, iN .i64 0, .string ({ data := #[] }), .slice none 0 0]) h116 31 ?_
    intro q117 w118 (h119 : HA (zb w [] tb es) ((q117, 31, #[iN .i64 0, iN .i64 0, .string ({ data := #[] }), .slice none 0 0]) :: (q110, 31, #[iN .i64 ((trm q).k), iN .i64 ((trm q).n), .string ((trm q).s), .slice (some ⟨qp107, 0, none⟩) ((trm q).ps.length) pc107]) :: (qp107, 3, cc107) :: (q8, 26, #[.slice ro (es.map trm).length rc]) :: (RL ++ ((tb.q, 74, tcell tb (nms es) (.slice tp2 es.length tc3)) :: (Lr4 ++ PB es)))) w118)
    refine wl_fill (c' := tmc (es.map trm)[x].k (es.map trm)[x].n (es.map trm)[x].s oq (es.map trm)[x].ps.length cq) h119 0 rfl rfl ?_
    intro w120 (h121 : HA (zb w [] tb es) ((q117, 31, tmc (es.map trm)[x].k (es.map trm)[x].n (es.map trm)[x].s oq (es.map trm)[x].ps.length cq) :: (q110, 31, #[iN .i64 ((trm q).k), iN .i64 ((trm q).n), .string ((trm q).s), .slice (some ⟨qp107, 0, none⟩) ((trm q).ps.length) pc107]) :: (qp107, 3, cc107) :: (q8, 26, #[.slice ro (es.map trm).length rc]) :: (RL ++ ((tb.q, 74, tcell tb (nms es) (.slice tp2 es.length tc3)) :: (Lr4 ++ PB es)))) w120)
    refine zwv (.bool true) ?_
    refine znt ?_
    refine wp_seq ?_
    refine wp_region_wk (HA (zb w [] tb es) ((q117, 31, tmc (es.map trm)[x].k (es.map trm)[x].n (es.map trm)[x].s oq (es.map trm)[x].ps.length cq) :: (q110, 31, #[iN .i64 ((trm q).k), iN .i64 ((trm q).n), .string ((trm q).s), .slice (some ⟨qp107, 0, none⟩) ((trm q).ps.length) pc107]) :: (qp107, 3, cc107) :: (q8, 26, #[.slice ro (es.map trm).length rc]) :: (RL ++ ((tb.q, 74, tcell tb (nms es) (.slice tp2 es.length tc3)) :: (Lr4 ++ PB es))))) (fun A w' => ∃ (NA : BL) (NB : BL) (oA : Option Addr) (oB : Option Addr) (cA : Nat) (cB : Nat), A = ⟨(.slice o al.length c :: .string (s0.extract 0 (min s0.size 100)) :: un :: un :: u13 4 :: pt tb.q :: pt q8 :: .bool true :: iN .i64 ((es.map trm).length) :: u13 9 :: u13 10 :: u13 11 :: u13 12 :: u13 13 :: pt q110 :: .bool true :: pt q117 :: .bool true :: .slice oA (wth es.length (s0.extract 0 (min s0.size 100))).length cA :: .slice oB (wth (es.map trm).length (s0.extract 0 (min s0.size 100))).length cB :: un :: .tuple #[pt tb.q, .agg #[.slice ro (es.map trm).length rc], .bool true] :: .slice o al.length c :: .tuple #[pt tb.q, .agg #[.slice ro (es.map trm).length rc], .bool true] :: pt tb.q :: .agg #[.slice ro (es.map trm).length rc] :: .bool true :: .bool true :: .bool false :: iN .i64 ((es.map trm).length) :: pt q8 :: .slice ro (es.map trm).length rc :: iN .i64 ((es.map trm).length) :: .bool false :: u13 34 :: u13 35 :: u13 36 :: u13 37 :: u13 38 :: u13 39 :: u13 40 :: u13 41 :: u13 42 :: u13 43 :: u13 44 :: u13 45 :: u13 46 :: u13 47 :: u13 48 :: u13 49 :: u13 50 :: u13 51 :: u13 52 :: u13 53 :: u13 54 :: u13 55 :: u13 56 :: u13 57 :: u13 58 :: u13 59 :: u13 60 :: u13 61 :: u13 62 :: u13 63 :: u13 64 :: u13 65 :: u13 66 :: u13 67 :: u13 68 :: u13 69 :: u13 70 :: u13 71 :: u13 72 :: u13 73 :: u13 74 :: u13 75 :: u13 76 :: u13 77 :: u13 78 :: u13 79 :: u13 80 :: .string s0 :: .string s0 :: iN .i64 s0.size :: iN .i64 (min s0.size 100) :: .string (s0.extract 0 (min s0.size 100)) :: .tuple #[.agg #[iN .i64 ((trm q).k), iN .i64 ((trm q).n), .string ((trm q).s), .slice (some ⟨qp107, 0, none⟩) ((trm q).ps.length) pc107], .bool true] :: pt tb.q :: .string (s0.extract 0 (min s0.size 100)) :: .tuple #[.agg #[iN .i64 ((trm q).k), iN .i64 ((trm q).n), .string ((trm q).s), .slice (some ⟨qp107, 0, none⟩) ((trm q).ps.length) pc107], .bool true] :: .agg #[iN .i64 ((trm q).k), iN .i64 ((trm q).n), .string ((trm q).s), .slice (some ⟨qp107, 0, none⟩) ((trm q).ps.length) pc107] :: .bool true :: .tuple #[.agg (tmc (es.map trm)[x].k (es.map trm)[x].n (es.map trm)[x].s oq (es.map trm)[x].ps.length cq), .bool true] :: .agg (#[.slice ro (es.map trm).length rc]) :: .string (s0.extract 0 (min s0.size 100)) :: .tuple #[.agg (tmc (es.map trm)[x].k (es.map trm)[x].n (es.map trm)[x].s oq (es.map trm)[x].ps.length cq), .bool true] :: .agg (tmc (es.map trm)[x].k (es.map trm)[x].n (es.map trm)[x].s oq (es.map trm)[x].ps.length cq) :: .bool true :: pt tb.q :: .string (s0.extract 0 (min s0.size 100)) :: .slice oA (wth es.length (s0.extract 0 (min s0.size 100))).length cA :: .agg (#[.slice ro (es.map trm).length rc]) :: .string (s0.extract 0 (min s0.size 100)) :: .slice oB (wth (es.map trm).length (s0.extract 0 (min s0.size 100))).length cB :: List.replicate 32 un).toArray, []⟩ ∧ RIL NA oA (wth es.length (s0.extract 0 (min s0.size 100))) ∧ RIL NB oB (wth (es.map trm).length (s0.extract 0 (min s0.size 100))) ∧ HA (zb w [] tb es) ((q117, 31, tmc (es.map trm)[x].k (es.map trm)[x].n (es.map trm)[x].s oq (es.map trm)[x].ps.length cq) :: (q110, 31, #[iN .i64 ((trm q).k), iN .i64 ((trm q).n), .string ((trm q).s), .slice (some ⟨qp107, 0, none⟩) ((trm q).ps.length) pc107]) :: (qp107, 3, cc107) :: (q8, 26, #[.slice ro (es.map trm).length rc]) :: ((NB ++ (NA ++ RL)) ++ ((tb.q, 74, tcell tb (nms es) (.slice tp2 es.length tc3)) :: (Lr4 ++ PB es)))) w') 8 (by kernel_rfl) (by kernel_rfl) (by kernel_rfl) (by kernel_rfl) (by kernel_rfl) (h121.drew) ?_ ?_
    ·have h122 := h121.drew
     refine wk_val (i := 0) (.pointer (some ⟨tb.q, 0, none⟩)) rfl rfl (by kernel_rfl) (by kernel_rfl) (fun _ _ => (by kernel_rfl)) ?_
     refine wk_val (i := 1) (.string (s0.extract 0 (min s0.size 100))) rfl rfl (by kernel_rfl) (by kernel_rfl) (fun _ _ => (by kernel_rfl)) ?_
     refine wk_val (i := 3) (.agg (#[.slice ro (es.map trm).length rc])) rfl rfl (by kernel_rfl) (by kernel_rfl) (fun w' h' => run_load_blk (h'.get 3 rfl) Try.underlying26 rfl) ?_
     refine wk_val (i := 4) (.string (s0.extract 0 (min s0.size 100))) rfl rfl (by kernel_rfl) (by kernel_rfl) (fun _ _ => (by kernel_rfl)) ?_
     refine wk_one 2 (by kernel_rfl) ?_
     refine ef_callx rfl (by kernel_rfl) h122 enter13 #[.pointer (some ⟨tb.q, 0, none⟩), .string (s0.extract 0 (min s0.size 100))] (by kernel_rfl) (fun w123 h124 => Within_any (TH.view (TH.cl ((q117, 31, tmc (es.map trm)[x].k (es.map trm)[x].n (es.map trm)[x].s oq (es.map trm)[x].ps.length cq) :: (q110, 31, #[iN .i64 ((trm q).k), iN .i64 ((trm q).n), .string ((trm q).s), .slice (some ⟨qp107, 0, none⟩) ((trm q).ps.length) pc107]) :: (qp107, 3, cc107) :: (q8, 26, #[.slice ro (es.map trm).length rc]) :: RL) hR5 h124)) (by omega) (got (w := w) h124.old.old hv) (s0.extract 0 (min s0.size 100)) (by rw [ByteArray.size_extract]; omega)) ?_
     rintro w123 h124 _ w125 ⟨oA, cA, rfl, hriA, hbA⟩
     obtain ⟨NA, hrA, hNA⟩ := hriA.newer
     have h126 : HA (zb w [] tb es) ((q117, 31, tmc (es.map trm)[x].k (es.map trm)[x].n (es.map trm)[x].s oq (es.map trm)[x].ps.length cq) :: (q110, 31, #[iN .i64 ((trm q).k), iN .i64 ((trm q).n), .string ((trm q).s), .slice (some ⟨qp107, 0, none⟩) ((trm q).ps.length) pc107]) :: (qp107, 3, cc107) :: (q8, 26, #[.slice ro (es.map trm).length rc]) :: ((NA ++ RL) ++ ((tb.q, 74, tcell tb (nms es) (.slice tp2 es.length tc3)) :: (Lr4 ++ PB es)))) w125 := HA.perm (HA.addL h124 hbA hNA) (perm_ref [(q117, 31, tmc (es.map trm)[x].k (es.map trm)[x].n (es.map trm)[x].s oq (es.map trm)[x].ps.length cq), (q110, 31, #[iN .i64 ((trm q).k), iN .i64 ((trm q).n), .string ((trm q).s), .slice (some ⟨qp107, 0, none⟩) ((trm q).ps.length) pc107]), (qp107, 3, cc107), (q8, 26, #[.slice ro (es.map trm).length rc])] RL ((tb.q, 74, tcell tb (nms es) (.slice tp2 es.length tc3)) :: (Lr4 ++ PB es)) NA)
     refine ⟨_, rfl, (HA.sub h126 (List.Sublist.cons_cons _ (List.Sublist.cons_cons _ (List.Sublist.cons_cons _ (List.Sublist.cons_cons _ (List.Sublist.append_right ((List.Sublist.refl _).trans (List.sublist_append_right NA _)) _)))))), ?_⟩
     refine wk_one 5 (by kernel_rfl) ?_
     refine ef_callx rfl (by kernel_rfl) h126 enter14 #[.agg (#[.slice ro (es.map trm).length rc]), .string (s0.extract 0 (min s0.size 100))] (by kernel_rfl) (fun w127 h128 => rwithin_any hr (fun y hy => h128.blk y (by simp [hy])) (by rw [List.length_map]; omega) (s0.extract 0 (min s0.size 100)) (by rw [ByteArray.size_extract]; omega)) ?_
     rintro w127 h128 _ w129 ⟨oB, cB, rfl, hriB, hbB⟩
     obtain ⟨NB, hrB, hNB⟩ := hriB.newer
     have h130 : HA (zb w [] tb es) ((q117, 31, tmc (es.map trm)[x].k (es.map trm)[x].n (es.map trm)[x].s oq (es.map trm)[x].ps.length cq) :: (q110, 31, #[iN .i64 ((trm q).k), iN .i64 ((trm q).n), .string ((trm q).s), .slice (some ⟨qp107, 0, none⟩) ((trm q).ps.length) pc107]) :: (qp107, 3, cc107) :: (q8, 26, #[.slice ro (es.map trm).length rc]) :: ((NB ++ (NA ++ RL)) ++ ((tb.q, 74, tcell tb (nms es) (.slice tp2 es.length tc3)) :: (Lr4 ++ PB es)))) w129 := HA.perm (HA.addL h128 hbB hNB) (perm_ref [(q117, 31, tmc (es.map trm)[x].k (es.map trm)[x].n (es.map trm)[x].s oq (es.map trm)[x].ps.length cq), (q110, 31, #[iN .i64 ((trm q).k), iN .i64 ((trm q).n), .string ((trm q).s), .slice (some ⟨qp107, 0, none⟩) ((trm q).ps.length) pc107]), (qp107, 3, cc107), (q8, 26, #[.slice ro (es.map trm).length rc])] (NA ++ RL) ((tb.q, 74, tcell tb (nms es) (.slice tp2 es.length tc3)) :: (Lr4 ++ PB es)) NB)
     refine ⟨_, rfl, (HA.sub h130 (List.Sublist.cons_cons _ (List.Sublist.cons_cons _ (List.Sublist.cons_cons _ (List.Sublist.cons_cons _ (List.Sublist.append_right ((((List.Sublist.refl _).trans (List.sublist_append_right NA _))).trans (List.sublist_append_right NB _)) _)))))), ?_⟩
     refine wk_val (i := 6) (.slice oA (wth es.length (s0.extract 0 (min s0.size 100))).length cA) rfl rfl (by kernel_rfl) (by kernel_rfl) (fun _ _ => (by kernel_rfl)) ?_
     refine wk_val (i := 7) (.slice oB (wth (es.map trm).length (s0.extract 0 (min s0.size 100))).length cB) rfl rfl (by kernel_rfl) (by kernel_rfl) (fun _ _ => (by kernel_rfl)) ?_
     refine wk_end fun w131 hbx hsx => ?_
     have h132 := HA.keep _ _ h130 hbx
     exact ⟨NA, NB, oA, oB, cA, cB, by kernel_rfl, hrA, hrB, h132⟩
    ·rintro _ w133 ⟨NA, NB, oA, oB, cA, cB, rfl, hrA, hrB, h134⟩
     refine then_at rfl ?_
     refine wp_seq ?_
     refine zsr ?_
     refine zwv (.bool true) ?_
     refine zwv (.bool true) ?_
     refine zwv (.bool false) ?_
     refine zwv (.bool false) ?_
     refine wl_load h134 1 rfl Try.underlying31 rfl ?_
     refine wl_load h134 0 rfl Try.underlying31 rfl ?_
     refine wl_call (v := .bool true) h134 enter11 #[.agg (#[iN .i64 ((trm q).k), iN .i64 ((trm q).n), .string ((trm q).s), .slice (some ⟨qp107, 0, none⟩) ((trm q).ps.length) pc107]), .agg (tmc (es.map trm)[x].k (es.map trm)[x].n (es.map trm)[x].s oq (es.map trm)[x].ps.length cq)] (by have := same_any (w := w133) (k := (trm q).k) (n := (trm q).n) (s := (trm q).s) (o := some ⟨qp107, 0, none⟩) (c := pc107) (ps := (trm q).ps) (k2 := (es.map trm)[x].k) (n2 := (es.map trm)[x].n) (s2 := (es.map trm)[x].s) (c2 := cq) (.inr ⟨qp107, cc107, rfl, Nat.zero_le _, h134.blk (qp107, 3, cc107) (by simp), hc107⟩) (hrq.ri (fun y hy => h134.blk y (by simp [hy]))) ((iv_ps hI).1 _ (List.mem_map.2 ⟨q, List.mem_of_getElem? he, rfl⟩)); rw [decide_eq_true (by rw [hlq]; exact ⟨rfl, rfl, rfl, rfl⟩)] at this; exact this) ?_
     intro w135 h136
     refine zwv (.bool false) ?_
     refine zwv (.bool false) ?_
     refine zwv (.bool false) ?_
     refine zwv (.slice oA (wth es.length (s0.extract 0 (min s0.size 100))).length cA) ?_
     refine zwv (iN .i64 ((wth es.length (s0.extract 0 (min s0.size 100))).length)) ?_
     refine zwv (.slice oB (wth (es.map trm).length (s0.extract 0 (min s0.size 100))).length cB) ?_
     refine zwv (iN .i64 ((wth (es.map trm).length (s0.extract 0 (min s0.size 100))).length)) ?_
     refine zwu (run_nei (k := .i64) (a := (wth es.length (s0.extract 0 (min s0.size 100))).length) (b := (wth (es.map trm).length (s0.extract 0 (min s0.size 100))).length) false (by simp)) ?_
     refine zwv (.bool false) ?_
     refine znt ?_
     refine zcf ?_
     refine wp_skip ?_
     refine then_at rfl ?_
     refine wp_seq ?_
     refine zsr ?_
     refine zwv (iN .i64 0) ?_
     refine znt ?_
     refine wp_block ?_
     refine wp_count (fun i A w' => ∃ u137 : Nat → Value, A = ⟨(.slice o al.length c :: .string (s0.extract 0 (min s0.size 100)) :: un :: un :: u137 4 :: pt tb.q :: pt q8 :: .bool true :: iN .i64 ((es.map trm).length) :: u13 9 :: u13 10 :: u13 11 :: u13 12 :: u13 13 :: pt q110 :: .bool true :: pt q117 :: .bool true :: .slice oA (wth es.length (s0.extract 0 (min s0.size 100))).length cA :: .slice oB (wth (es.map trm).length (s0.extract 0 (min s0.size 100))).length cB :: iN .i64 i :: .tuple #[pt tb.q, .agg #[.slice ro (es.map trm).length rc], .bool true] :: .slice o al.length c :: .tuple #[pt tb.q, .agg #[.slice ro (es.map trm).length rc], .bool true] :: pt tb.q :: .agg #[.slice ro (es.map trm).length rc] :: .bool true :: .bool true :: .bool false :: iN .i64 ((es.map trm).length) :: pt q8 :: .slice ro (es.map trm).length rc :: iN .i64 ((es.map trm).length) :: .bool false :: u13 34 :: u13 35 :: u13 36 :: u13 37 :: u13 38 :: u13 39 :: u13 40 :: u13 41 :: u13 42 :: u13 43 :: u13 44 :: u13 45 :: u13 46 :: u13 47 :: u13 48 :: u13 49 :: u13 50 :: u13 51 :: u13 52 :: u13 53 :: u13 54 :: u13 55 :: u13 56 :: u13 57 :: u13 58 :: u13 59 :: u13 60 :: u13 61 :: u13 62 :: u13 63 :: u13 64 :: u13 65 :: u13 66 :: u13 67 :: u13 68 :: u13 69 :: u13 70 :: u13 71 :: u13 72 :: u13 73 :: u13 74 :: u13 75 :: u13 76 :: u13 77 :: u13 78 :: u13 79 :: u13 80 :: .string s0 :: .string s0 :: iN .i64 s0.size :: iN .i64 (min s0.size 100) :: .string (s0.extract 0 (min s0.size 100)) :: .tuple #[.agg #[iN .i64 ((trm q).k), iN .i64 ((trm q).n), .string ((trm q).s), .slice (some ⟨qp107, 0, none⟩) ((trm q).ps.length) pc107], .bool true] :: pt tb.q :: .string (s0.extract 0 (min s0.size 100)) :: .tuple #[.agg #[iN .i64 ((trm q).k), iN .i64 ((trm q).n), .string ((trm q).s), .slice (some ⟨qp107, 0, none⟩) ((trm q).ps.length) pc107], .bool true] :: .agg #[iN .i64 ((trm q).k), iN .i64 ((trm q).n), .string ((trm q).s), .slice (some ⟨qp107, 0, none⟩) ((trm q).ps.length) pc107] :: .bool true :: .tuple #[.agg (tmc (es.map trm)[x].k (es.map trm)[x].n (es.map trm)[x].s oq (es.map trm)[x].ps.length cq), .bool true] :: .agg (#[.slice ro (es.map trm).length rc]) :: .string (s0.extract 0 (min s0.size 100)) :: .tuple #[.agg (tmc (es.map trm)[x].k (es.map trm)[x].n (es.map trm)[x].s oq (es.map trm)[x].ps.length cq), .bool true] :: .agg (tmc (es.map trm)[x].k (es.map trm)[x].n (es.map trm)[x].s oq (es.map trm)[x].ps.length cq) :: .bool true :: pt tb.q :: .string (s0.extract 0 (min s0.size 100)) :: .slice oA (wth es.length (s0.extract 0 (min s0.size 100))).length cA :: .agg (#[.slice ro (es.map trm).length rc]) :: .string (s0.extract 0 (min s0.size 100)) :: .slice oB (wth (es.map trm).length (s0.extract 0 (min s0.size 100))).length cB :: .bool true :: .bool true :: .bool false :: .bool false :: .agg (#[iN .i64 ((trm q).k), iN .i64 ((trm q).n), .string ((trm q).s), .slice (some ⟨qp107, 0, none⟩) ((trm q).ps.length) pc107]) :: .agg (tmc (es.map trm)[x].k (es.map trm)[x].n (es.map trm)[x].s oq (es.map trm)[x].ps.length cq) :: .bool true :: .bool false :: .bool false :: .bool false :: .slice oA (wth es.length (s0.extract 0 (min s0.size 100))).length cA :: iN .i64 ((wth es.length (s0.extract 0 (min s0.size 100))).length) :: .slice oB (wth (es.map trm).length (s0.extract 0 (min s0.size 100))).length cB :: iN .i64 ((wth (es.map trm).length (s0.extract 0 (min s0.size 100))).length) :: .bool false :: .bool false :: u137 120 :: u137 121 :: u137 122 :: u137 123 :: u137 124 :: u137 125 :: u137 126 :: u137 127 :: u137 128 :: u137 129 :: u137 130 :: u137 131 :: u137 132 :: u137 133 :: u137 134 :: List.replicate 1 un).toArray, []⟩ ∧ HA (zb w [] tb es) ((q117, 31, tmc (es.map trm)[x].k (es.map trm)[x].n (es.map trm)[x].s oq (es.map trm)[x].ps.length cq) :: (q110, 31, #[iN .i64 ((trm q).k), iN .i64 ((trm q).n), .string ((trm q).s), .slice (some ⟨qp107, 0, none⟩) ((trm q).ps.length) pc107]) :: (qp107, 3, cc107) :: (q8, 26, #[.slice ro (es.map trm).length rc]) :: ((NB ++ (NA ++ RL)) ++ ((tb.q, 74, tcell tb (nms es) (.slice tp2 es.length tc3)) :: (Lr4 ++ PB es)))) w') ((wth es.length (s0.extract 0 (min s0.size 100))).length) ?_ ?_ ?_
     ·exact zex h136
     ·rintro i hk _ w138 ⟨u137, rfl, hA⟩
      have hwl := wth_len es.length (s0.extract 0 (min s0.size 100))
      obtain ⟨qa, ca, rfl, ha1, ha2⟩ := hrA.resolve_left (by intro e; rw [e] at hk; simp at hk)
      have hk2 : i < (wth (es.map trm).length (s0.extract 0 (min s0.size 100))).length := by rw [List.length_map]; exact hk
      obtain ⟨qc, cb, rfl, hb1, hb2⟩ := hrB.resolve_left (by intro e; rw [e] at hk2; simp at hk2)
      refine wp_seq ?_
      refine zsr ?_
      refine zwv (iN .i64 i) ?_
      refine zwv (.slice (some ⟨qa, 0, none⟩) ((wth es.length (s0.extract 0 (min s0.size 100))).length) cA) ?_
      refine zwv (iN .i64 ((wth es.length (s0.extract 0 (min s0.size 100))).length)) ?_
      refine zwu (run_lss (k := .i64) (a := i) (b := (wth es.length (s0.extract 0 (min s0.size 100))).length) true (decide_eq_true (by omega))) ?_
      refine znt ?_
      refine zct ?_
      refine wp_skip ?_
      refine then_at rfl ?_
      refine wp_seq ?_
      refine wp_block ?_
      refine wp_seq ?_
      refine zrs ⟨(.slice o al.length c :: .string (s0.extract 0 (min s0.size 100)) :: un :: un :: u137 4 :: pt tb.q :: pt q8 :: .bool true :: iN .i64 ((es.map trm).length) :: u13 9 :: u13 10 :: u13 11 :: u13 12 :: u13 13 :: pt q110 :: .bool true :: pt q117 :: .bool true :: .slice (some ⟨qa, 0, none⟩) ((wth es.length (s0.extract 0 (min s0.size 100))).length) cA :: .slice (some ⟨qc, 0, none⟩) ((wth (es.map trm).length (s0.extract 0 (min s0.size 100))).length) cB :: iN .i64 i :: .tuple #[pt tb.q, .agg #[.slice ro (es.map trm).length rc], .bool true] :: .slice o al.length c :: .tuple #[pt tb.q, .agg #[.slice ro (es.map trm).length rc], .bool true] :: pt tb.q :: .agg #[.slice ro (es.map trm).length rc] :: .bool true :: .bool true :: .bool false :: iN .i64 ((es.map trm).length) :: pt q8 :: .slice ro (es.map trm).length rc :: iN .i64 ((es.map trm).length) :: .bool false :: u13 34 :: u13 35 :: u13 36 :: u13 37 :: u13 38 :: u13 39 :: u13 40 :: u13 41 :: u13 42 :: u13 43 :: u13 44 :: u13 45 :: u13 46 :: u13 47 :: u13 48 :: u13 49 :: u13 50 :: u13 51 :: u13 52 :: u13 53 :: u13 54 :: u13 55 :: u13 56 :: u13 57 :: u13 58 :: u13 59 :: u13 60 :: u13 61 :: u13 62 :: u13 63 :: u13 64 :: u13 65 :: u13 66 :: u13 67 :: u13 68 :: u13 69 :: u13 70 :: u13 71 :: u13 72 :: u13 73 :: u13 74 :: u13 75 :: u13 76 :: u13 77 :: u13 78 :: u13 79 :: u13 80 :: .string s0 :: .string s0 :: iN .i64 s0.size :: iN .i64 (min s0.size 100) :: .string (s0.extract 0 (min s0.size 100)) :: .tuple #[.agg #[iN .i64 ((trm q).k), iN .i64 ((trm q).n), .string ((trm q).s), .slice (some ⟨qp107, 0, none⟩) ((trm q).ps.length) pc107], .bool true] :: pt tb.q :: .string (s0.extract 0 (min s0.size 100)) :: .tuple #[.agg #[iN .i64 ((trm q).k), iN .i64 ((trm q).n), .string ((trm q).s), .slice (some ⟨qp107, 0, none⟩) ((trm q).ps.length) pc107], .bool true] :: .agg #[iN .i64 ((trm q).k), iN .i64 ((trm q).n), .string ((trm q).s), .slice (some ⟨qp107, 0, none⟩) ((trm q).ps.length) pc107] :: .bool true :: .tuple #[.agg (tmc (es.map trm)[x].k (es.map trm)[x].n (es.map trm)[x].s oq (es.map trm)[x].ps.length cq), .bool true] :: .agg (#[.slice ro (es.map trm).length rc]) :: .string (s0.extract 0 (min s0.size 100)) :: .tuple #[.agg (tmc (es.map trm)[x].k (es.map trm)[x].n (es.map trm)[x].s oq (es.map trm)[x].ps.length cq), .bool true] :: .agg (tmc (es.map trm)[x].k (es.map trm)[x].n (es.map trm)[x].s oq (es.map trm)[x].ps.length cq) :: .bool true :: pt tb.q :: .string (s0.extract 0 (min s0.size 100)) :: .slice (some ⟨qa, 0, none⟩) ((wth es.length (s0.extract 0 (min s0.size 100))).length) cA :: .agg (#[.slice ro (es.map trm).length rc]) :: .string (s0.extract 0 (min s0.size 100)) :: .slice (some ⟨qc, 0, none⟩) ((wth (es.map trm).length (s0.extract 0 (min s0.size 100))).length) cB :: .bool true :: .bool true :: .bool false :: .bool false :: .agg (#[iN .i64 ((trm q).k), iN .i64 ((trm q).n), .string ((trm q).s), .slice (some ⟨qp107, 0, none⟩) ((trm q).ps.length) pc107]) :: .agg (tmc (es.map trm)[x].k (es.map trm)[x].n (es.map trm)[x].s oq (es.map trm)[x].ps.length cq) :: .bool true :: .bool false :: .bool false :: .bool false :: .slice (some ⟨qa, 0, none⟩) ((wth es.length (s0.extract 0 (min s0.size 100))).length) cA :: iN .i64 ((wth es.length (s0.extract 0 (min s0.size 100))).length) :: .slice (some ⟨qc, 0, none⟩) ((wth (es.map trm).length (s0.extract 0 (min s0.size 100))).length) cB :: iN .i64 ((wth (es.map trm).length (s0.extract 0 (min s0.size 100))).length) :: .bool false :: .bool false :: iN .i64 i :: .slice (some ⟨qa, 0, none⟩) ((wth es.length (s0.extract 0 (min s0.size 100))).length) cA :: iN .i64 ((wth es.length (s0.extract 0 (min s0.size 100))).length) :: .bool true :: u137 124 :: u137 125 :: .slice (some ⟨qa, 0, none⟩) ((wth es.length (s0.extract 0 (min s0.size 100))).length) cA :: iN .i64 i :: .pointer (some ⟨qa, i, none⟩) :: iN .i64 ((wth es.length (s0.extract 0 (min s0.size 100))).getD i 0) :: .slice (some ⟨qc, 0, none⟩) ((wth (es.map trm).length (s0.extract 0 (min s0.size 100))).length) cB :: iN .i64 i :: .pointer (some ⟨qc, i, none⟩) :: iN .i64 ((wth (es.map trm).length (s0.extract 0 (min s0.size 100))).getD i 0) :: .bool false :: List.replicate 1 un).toArray, []⟩ (HA (zb w [] tb es) ((q117, 31, tmc (es.map trm)[x].k (es.map trm)[x].n (es.map trm)[x].s oq (es.map trm)[x].ps.length cq) :: (q110, 31, #[iN .i64 ((trm q).k), iN .i64 ((trm q).n), .string ((trm q).s), .slice (some ⟨qp107, 0, none⟩) ((trm q).ps.length) pc107]) :: (qp107, 3, cc107) :: (q8, 26, #[.slice ro (es.map trm).length rc]) :: ((NB ++ (NA ++ RL)) ++ ((tb.q, 74, tcell tb (nms es) (.slice tp2 es.length tc3)) :: (Lr4 ++ PB es))))) hA.drew ?_ ?_
      ·refine zsp (.slice (some ⟨qa, 0, none⟩) ((wth es.length (s0.extract 0 (min s0.size 100))).length) cA) ?_
       refine zsp (iN .i64 i) ?_
       refine zst (v := .pointer (some ⟨qa, i, none⟩)) (fun _ _ => (run_addr_slice (q := qa) (n := (wth es.length (s0.extract 0 (min s0.size 100))).length) (m := cA) (a := i) Try.underlying29 Try.sizeOf3 (by omega))) ?_
       refine zst (v := iN .i64 ((wth es.length (s0.extract 0 (min s0.size 100))).getD i 0)) (fun w' h' => run_load1 Try.isAgg3 (((h'.blk (qa, 3, ca) (by simp [ha1])).cell i).trans (ha2 i hk))) ?_
       refine zsp (.slice (some ⟨qc, 0, none⟩) ((wth (es.map trm).length (s0.extract 0 (min s0.size 100))).length) cB) ?_
       refine zsp (iN .i64 i) ?_
       refine zst (v := .pointer (some ⟨qc, i, none⟩)) (fun _ _ => (run_addr_slice (q := qc) (n := (wth (es.map trm).length (s0.extract 0 (min s0.size 100))).length) (m := cB) (a := i) Try.underlying29 Try.sizeOf3 (by omega))) ?_
       refine zst (v := iN .i64 ((wth (es.map trm).length (s0.extract 0 (min s0.size 100))).getD i 0)) (fun w' h' => run_load1 Try.isAgg3 (((h'.blk (qc, 3, cb) (by simp [hb1])).cell i).trans (hb2 i hk2))) ?_
       refine zst (fun _ _ => (run_nei (k := .i64) (a := (wth es.length (s0.extract 0 (min s0.size 100))).getD i 0) (b := (wth (es.map trm).length (s0.extract 0 (min s0.size 100))).getD i 0) false (by simp))) ?_
       exact AllSure.nil
      intro w139 h140
      refine then_at rfl ?_
      refine zcf ?_
      refine wp_skip ?_
      refine block_normal ?_
      refine then_at rfl ?_
      refine wl_region ?_
      refine zwv (iN .i64 i) ?_
      refine zwu (run_add (k := .i64) (a := i) (b := 1) (by simp only [top]; omega)) ?_
      refine zwv (iN .i64 (i + 1)) ?_
      refine wl_nil ?_
      exact then_I (zex h140)
     ·rintro _ w141 ⟨u137, rfl, hA⟩
      have hwl := wth_len es.length (s0.extract 0 (min s0.size 100))
      refine wp_seq ?_
      refine zsr ?_
      refine zwv (iN .i64 ((wth es.length (s0.extract 0 (min s0.size 100))).length)) ?_
      refine zwv (.slice oA (wth es.length (s0.extract 0 (min s0.size 100))).length cA) ?_
      refine zwv (iN .i64 ((wth es.length (s0.extract 0 (min s0.size 100))).length)) ?_
      refine zwu (run_lss (k := .i64) (a := (wth es.length (s0.extract 0 (min s0.size 100))).length) (b := (wth es.length (s0.extract 0 (min s0.size 100))).length) false (decide_eq_false (by omega))) ?_
      refine znt ?_
      refine zcf ?_
      refine wp_exit ?_
      repeat first | refine then_exit ?_ | refine block_exit ?_ | refine block_exit_ne (by decide) ?_
      refine then_at rfl ?_
      refine zsr ?_
      refine zwc hA enter15 (works_any w141) ?_
      intro w142 h143
      refine zwv (.bool true) ?_
      refine znt ?_
      refine wp_ret ?_
      repeat first | refine then_ret ?_ | refine block_ret ?_
      exact bodyPost_ret (by kernel_rfl) rfl ⟨rfl, h143.old.old⟩
   ·refine wl_region ?_
    refine zwv (.pointer (some ⟨tb.q, 0, none⟩)) ?_
    refine zwv (.string (s0.extract 0 (min s0.size 100))) ?_
    refine zwc hA enter9 (Of_flat (TH.view (TH.cl ((q8, 26, #[.slice ro (es.map trm).length rc]) :: RL) hR5 hA)) hI hn1 he hmk) ?_
    intro w145 h146
    refine zwv (.tuple #[.agg #[iN .i64 ((trm q).k), iN .i64 ((trm q).n), .string ((trm q).s), .slice none 0 0], .bool true]) ?_
    refine zwv (.agg #[iN .i64 ((trm q).k), iN .i64 ((trm q).n), .string ((trm q).s), .slice none 0 0]) ?_
    refine zwv (.bool true) ?_
    refine wl_make (c := #[iN .i64 0, iN .i64 0, .string ({ data := #[] }), .slice none 0 0]) h146 31 ?_
    intro q147 w148 (h149 : HA (zb w [] tb es) ((q147, 31, #[iN .i64 0, iN .i64 0, .string ({ data := #[] }), .slice none 0 0]) :: (q8, 26, #[.slice ro (es.map trm).length rc]) :: (RL ++ ((tb.q, 74, tcell tb (nms es) (.slice tp2 es.length tc3)) :: (Lr4 ++ PB es)))) w148)
    refine wl_fill (c' := #[iN .i64 ((trm q).k), iN .i64 ((trm q).n), .string ((trm q).s), .slice none 0 0]) h149 0 rfl rfl ?_
    intro w150 (h151 : HA (zb w [] tb es) ((q147, 31, #[iN .i64 ((trm q).k), iN .i64 ((trm q).n), .string ((trm q).s), .slice none 0 0]) :: (q8, 26, #[.slice ro (es.map trm).length rc]) :: (RL ++ ((tb.q, 74, tcell tb (nms es) (.slice tp2 es.length tc3)) :: (Lr4 ++ PB es)))) w150)
    refine zwv (.bool true) ?_
    refine znt ?_
    refine zsr ?_
    refine wl_load h151 1 rfl Try.underlying26 rfl ?_
    refine zwv (.string (s0.extract 0 (min s0.size 100))) ?_
    refine wl_callx enter12 #[.agg (#[.slice ro (es.map trm).length rc]), .string (s0.extract 0 (min s0.size 100))] (rof_yes hr (fun y hy => h151.blk y (by simp [hy])) (by rw [List.length_map]; omega) (x := x) (by rw [List.length_map]; exact hn1) hi2) ?_
    rintro _ w152 ⟨oq, cq, rfl, hrq, hbr⟩
    refine ⟨_, rfl, ?_⟩
    have h153 := HA.keep _ _ h151 hbr
    refine zwv (.tuple #[.agg (tmc (es.map trm)[x].k (es.map trm)[x].n (es.map trm)[x].s oq (es.map trm)[x].ps.length cq), .bool true]) ?_
    refine zwv (.agg (tmc (es.map trm)[x].k (es.map trm)[x].n (es.map trm)[x].s oq (es.map trm)[x].ps.length cq)) ?_
    refine zwv (.bool true) ?_
    refine wl_make (c := #[iN .i64 0, iN .i64 0, .string ({ data := #[] }), .slice none 0 0]) h153 31 ?_
    intro q154 w155 (h156 : HA (zb w [] tb es) ((q154, 31, #[iN .i64 0, iN .i64 0, .string ({ data := #[] }), .slice none 0 0]) :: (q147, 31, #[iN .i64 ((trm q).k), iN .i64 ((trm q).n), .string ((trm q).s), .slice none 0 0]) :: (q8, 26, #[.slice ro (es.map trm).length rc]) :: (RL ++ ((tb.q, 74, tcell tb (nms es) (.slice tp2 es.length tc3)) :: (Lr4 ++ PB es)))) w155)
    refine wl_fill (c' := tmc (es.map trm)[x].k (es.map trm)[x].n (es.map trm)[x].s oq (es.map trm)[x].ps.length cq) h156 0 rfl rfl ?_
    intro w157 (h158 : HA (zb w [] tb es) ((q154, 31, tmc (es.map trm)[x].k (es.map trm)[x].n (es.map trm)[x].s oq (es.map trm)[x].ps.length cq) :: (q147, 31, #[iN .i64 ((trm q).k), iN .i64 ((trm q).n), .string ((trm q).s), .slice none 0 0]) :: (q8, 26, #[.slice ro (es.map trm).length rc]) :: (RL ++ ((tb.q, 74, tcell tb (nms es) (.slice tp2 es.length tc3)) :: (Lr4 ++ PB es)))) w157)
    refine zwv (.bool true) ?_
    refine znt ?_
    refine wp_seq ?_
    refine wp_region_wk (HA (zb w [] tb es) ((q154, 31, tmc (es.map trm)[x].k (es.map trm)[x].n (es.map trm)[x].s oq (es.map trm)[x].ps.length cq) :: (q147, 31, #[iN .i64 ((trm q).k), iN .i64 ((trm q).n), .string ((trm q).s), .slice none 0 0]) :: (q8, 26, #[.slice ro (es.map trm).length rc]) :: (RL ++ ((tb.q, 74, tcell tb (nms es) (.slice tp2 es.length tc3)) :: (Lr4 ++ PB es))))) (fun A w' => ∃ (NA : BL) (NB : BL) (oA : Option Addr) (oB : Option Addr) (cA : Nat) (cB : Nat), A = ⟨(.slice o al.length c :: .string (s0.extract 0 (min s0.size 100)) :: un :: un :: u13 4 :: pt tb.q :: pt q8 :: .bool true :: iN .i64 ((es.map trm).length) :: u13 9 :: u13 10 :: u13 11 :: u13 12 :: u13 13 :: pt q147 :: .bool true :: pt q154 :: .bool true :: .slice oA (wth es.length (s0.extract 0 (min s0.size 100))).length cA :: .slice oB (wth (es.map trm).length (s0.extract 0 (min s0.size 100))).length cB :: un :: .tuple #[pt tb.q, .agg #[.slice ro (es.map trm).length rc], .bool true] :: .slice o al.length c :: .tuple #[pt tb.q, .agg #[.slice ro (es.map trm).length rc], .bool true] :: pt tb.q :: .agg #[.slice ro (es.map trm).length rc] :: .bool true :: .bool true :: .bool false :: iN .i64 ((es.map trm).length) :: pt q8 :: .slice ro (es.map trm).length rc :: iN .i64 ((es.map trm).length) :: .bool false :: u13 34 :: u13 35 :: u13 36 :: u13 37 :: u13 38 :: u13 39 :: u13 40 :: u13 41 :: u13 42 :: u13 43 :: u13 44 :: u13 45 :: u13 46 :: u13 47 :: u13 48 :: u13 49 :: u13 50 :: u13 51 :: u13 52 :: u13 53 :: u13 54 :: u13 55 :: u13 56 :: u13 57 :: u13 58 :: u13 59 :: u13 60 :: u13 61 :: u13 62 :: u13 63 :: u13 64 :: u13 65 :: u13 66 :: u13 67 :: u13 68 :: u13 69 :: u13 70 :: u13 71 :: u13 72 :: u13 73 :: u13 74 :: u13 75 :: u13 76 :: u13 77 :: u13 78 :: u13 79 :: u13 80 :: .string s0 :: .string s0 :: iN .i64 s0.size :: iN .i64 (min s0.size 100) :: .string (s0.extract 0 (min s0.size 100)) :: .tuple #[.agg #[iN .i64 ((trm q).k), iN .i64 ((trm q).n), .string ((trm q).s), .slice none 0 0], .bool true] :: pt tb.q :: .string (s0.extract 0 (min s0.size 100)) :: .tuple #[.agg #[iN .i64 ((trm q).k), iN .i64 ((trm q).n), .string ((trm q).s), .slice none 0 0], .bool true] :: .agg #[iN .i64 ((trm q).k), iN .i64 ((trm q).n), .string ((trm q).s), .slice none 0 0] :: .bool true :: .tuple #[.agg (tmc (es.map trm)[x].k (es.map trm)[x].n (es.map trm)[x].s oq (es.map trm)[x].ps.length cq), .bool true] :: .agg (#[.slice ro (es.map trm).length rc]) :: .string (s0.extract 0 (min s0.size 100)) :: .tuple #[.agg (tmc (es.map trm)[x].k (es.map trm)[x].n (es.map trm)[x].s oq (es.map trm)[x].ps.length cq), .bool true] :: .agg (tmc (es.map trm)[x].k (es.map trm)[x].n (es.map trm)[x].s oq (es.map trm)[x].ps.length cq) :: .bool true :: pt tb.q :: .string (s0.extract 0 (min s0.size 100)) :: .slice oA (wth es.length (s0.extract 0 (min s0.size 100))).length cA :: .agg (#[.slice ro (es.map trm).length rc]) :: .string (s0.extract 0 (min s0.size 100)) :: .slice oB (wth (es.map trm).length (s0.extract 0 (min s0.size 100))).length cB :: List.replicate 32 un).toArray, []⟩ ∧ RIL NA oA (wth es.length (s0.extract 0 (min s0.size 100))) ∧ RIL NB oB (wth (es.map trm).length (s0.extract 0 (min s0.size 100))) ∧ HA (zb w [] tb es) ((q154, 31, tmc (es.map trm)[x].k (es.map trm)[x].n (es.map trm)[x].s oq (es.map trm)[x].ps.length cq) :: (q147, 31, #[iN .i64 ((trm q).k), iN .i64 ((trm q).n), .string ((trm q).s), .slice none 0 0]) :: (q8, 26, #[.slice ro (es.map trm).length rc]) :: ((NB ++ (NA ++ RL)) ++ ((tb.q, 74, tcell tb (nms es) (.slice tp2 es.length tc3)) :: (Lr4 ++ PB es)))) w') 8 (by kernel_rfl) (by kernel_rfl) (by kernel_rfl) (by kernel_rfl) (by kernel_rfl) (h158.drew) ?_ ?_
    ·have h159 := h158.drew
     refine wk_val (i := 0) (.pointer (some ⟨tb.q, 0, none⟩)) rfl rfl (by kernel_rfl) (by kernel_rfl) (fun _ _ => (by kernel_rfl)) ?_
     refine wk_val (i := 1) (.string (s0.extract 0 (min s0.size 100))) rfl rfl (by kernel_rfl) (by kernel_rfl) (fun _ _ => (by kernel_rfl)) ?_
     refine wk_val (i := 3) (.agg (#[.slice ro (es.map trm).length rc])) rfl rfl (by kernel_rfl) (by kernel_rfl) (fun w' h' => run_load_blk (h'.get 2 rfl) Try.underlying26 rfl) ?_
     refine wk_val (i := 4) (.string (s0.extract 0 (min s0.size 100))) rfl rfl (by kernel_rfl) (by kernel_rfl) (fun _ _ => (by kernel_rfl)) ?_
     refine wk_one 2 (by kernel_rfl) ?_
     refine ef_callx rfl (by kernel_rfl) h159 enter13 #[.pointer (some ⟨tb.q, 0, none⟩), .string (s0.extract 0 (min s0.size 100))] (by kernel_rfl) (fun w160 h161 => Within_any (TH.view (TH.cl ((q154, 31, tmc (es.map trm)[x].k (es.map trm)[x].n (es.map trm)[x].s oq (es.map trm)[x].ps.length cq) :: (q147, 31, #[iN .i64 ((trm q).k), iN .i64 ((trm q).n), .string ((trm q).s), .slice none 0 0]) :: (q8, 26, #[.slice ro (es.map trm).length rc]) :: RL) hR5 h161)) (by omega) (got (w := w) h161.old.old hv) (s0.extract 0 (min s0.size 100)) (by rw [ByteArray.size_extract]; omega)) ?_
     rintro w160 h161 _ w162 ⟨oA, cA, rfl, hriA, hbA⟩
     obtain ⟨NA, hrA, hNA⟩ := hriA.newer
     have h163 : HA (zb w [] tb es) ((q154, 31, tmc (es.map trm)[x].k (es.map trm)[x].n (es.map trm)[x].s oq (es.map trm)[x].ps.length cq) :: (q147, 31, #[iN .i64 ((trm q).k), iN .i64 ((trm q).n), .string ((trm q).s), .slice none 0 0]) :: (q8, 26, #[.slice ro (es.map trm).length rc]) :: ((NA ++ RL) ++ ((tb.q, 74, tcell tb (nms es) (.slice tp2 es.length tc3)) :: (Lr4 ++ PB es)))) w162 := HA.perm (HA.addL h161 hbA hNA) (perm_ref [(q154, 31, tmc (es.map trm)[x].k (es.map trm)[x].n (es.map trm)[x].s oq (es.map trm)[x].ps.length cq), (q147, 31, #[iN .i64 ((trm q).k), iN .i64 ((trm q).n), .string ((trm q).s), .slice none 0 0]), (q8, 26, #[.slice ro (es.map trm).length rc])] RL ((tb.q, 74, tcell tb (nms es) (.slice tp2 es.length tc3)) :: (Lr4 ++ PB es)) NA)
     refine ⟨_, rfl, (HA.sub h163 (List.Sublist.cons_cons _ (List.Sublist.cons_cons _ (List.Sublist.cons_cons _ (List.Sublist.append_right ((List.Sublist.refl _).trans (List.sublist_append_right NA _)) _))))), ?_⟩
     refine wk_one 5 (by kernel_rfl) ?_
     refine ef_callx rfl (by kernel_rfl) h163 enter14 #[.agg (#[.slice ro (es.map trm).length rc]), .string (s0.extract 0 (min s0.size 100))] (by kernel_rfl) (fun w164 h165 => rwithin_any hr (fun y hy => h165.blk y (by simp [hy])) (by rw [List.length_map]; omega) (s0.extract 0 (min s0.size 100)) (by rw [ByteArray.size_extract]; omega)) ?_
     rintro w164 h165 _ w166 ⟨oB, cB, rfl, hriB, hbB⟩
     obtain ⟨NB, hrB, hNB⟩ := hriB.newer
     have h167 : HA (zb w [] tb es) ((q154, 31, tmc (es.map trm)[x].k (es.map trm)[x].n (es.map trm)[x].s oq (es.map trm)[x].ps.length cq) :: (q147, 31, #[iN .i64 ((trm q).k), iN .i64 ((trm q).n), .string ((trm q).s), .slice none 0 0]) :: (q8, 26, #[.slice ro (es.map trm).length rc]) :: ((NB ++ (NA ++ RL)) ++ ((tb.q, 74, tcell tb (nms es) (.slice tp2 es.length tc3)) :: (Lr4 ++ PB es)))) w166 := HA.perm (HA.addL h165 hbB hNB) (perm_ref [(q154, 31, tmc (es.map trm)[x].k (es.map trm)[x].n (es.map trm)[x].s oq (es.map trm)[x].ps.length cq), (q147, 31, #[iN .i64 ((trm q).k), iN .i64 ((trm q).n), .string ((trm q).s), .slice none 0 0]), (q8, 26, #[.slice ro (es.map trm).length rc])] (NA ++ RL) ((tb.q, 74, tcell tb (nms es) (.slice tp2 es.length tc3)) :: (Lr4 ++ PB es)) NB)
     refine ⟨_, rfl, (HA.sub h167 (List.Sublist.cons_cons _ (List.Sublist.cons_cons _ (List.Sublist.cons_cons _ (List.Sublist.append_right ((((List.Sublist.refl _).trans (List.sublist_append_right NA _))).trans (List.sublist_append_right NB _)) _))))), ?_⟩
     refine wk_val (i := 6) (.slice oA (wth es.length (s0.extract 0 (min s0.size 100))).length cA) rfl rfl (by kernel_rfl) (by kernel_rfl) (fun _ _ => (by kernel_rfl)) ?_
     refine wk_val (i := 7) (.slice oB (wth (es.map trm).length (s0.extract 0 (min s0.size 100))).length cB) rfl rfl (by kernel_rfl) (by kernel_rfl) (fun _ _ => (by kernel_rfl)) ?_
     refine wk_end fun w168 hbx hsx => ?_
     have h169 := HA.keep _ _ h167 hbx
     exact ⟨NA, NB, oA, oB, cA, cB, by kernel_rfl, hrA, hrB, h169⟩
    ·rintro _ w170 ⟨NA, NB, oA, oB, cA, cB, rfl, hrA, hrB, h171⟩
     refine then_at rfl ?_
     refine wp_seq ?_
     refine zsr ?_
     refine zwv (.bool true) ?_
     refine zwv (.bool true) ?_
     refine zwv (.bool false) ?_
     refine zwv (.bool false) ?_
     refine wl_load h171 1 rfl Try.underlying31 rfl ?_
     refine wl_load h171 0 rfl Try.underlying31 rfl ?_
     refine wl_call (v := .bool true) h171 enter11 #[.agg (#[iN .i64 ((trm q).k), iN .i64 ((trm q).n), .string ((trm q).s), .slice none 0 0]), .agg (tmc (es.map trm)[x].k (es.map trm)[x].n (es.map trm)[x].s oq (es.map trm)[x].ps.length cq)] (by have := same_any (w := w170) (k := (trm q).k) (n := (trm q).n) (s := (trm q).s) (o := none) (c := 0) (ps := []) (k2 := (es.map trm)[x].k) (n2 := (es.map trm)[x].n) (s2 := (es.map trm)[x].s) (c2 := cq) (.inl rfl) (hrq.ri (fun y hy => h171.blk y (by simp [hy]))) (by simp); rw [decide_eq_true (by rw [hlq]; exact ⟨rfl, rfl, rfl, (flat_ps hmk).symm⟩)] at this; exact this) ?_
     intro w172 h173
     refine zwv (.bool false) ?_
     refine zwv (.bool false) ?_
     refine zwv (.bool false) ?_
     refine zwv (.slice oA (wth es.length (s0.extract 0 (min s0.size 100))).length cA) ?_
     refine zwv (iN .i64 ((wth es.length (s0.extract 0 (min s0.size 100))).length)) ?_
     refine zwv (.slice oB (wth (es.map trm).length (s0.extract 0 (min s0.size 100))).length cB) ?_
     refine zwv (iN .i64 ((wth (es.map trm).length (s0.extract 0 (min s0.size 100))).length)) ?_
     refine zwu (run_nei (k := .i64) (a := (wth es.length (s0.extract 0 (min s0.size 100))).length) (b := (wth (es.map trm).length (s0.extract 0 (min s0.size 100))).length) false (by simp)) ?_
     refine zwv (.bool false) ?_
     refine znt ?_
     refine zcf ?_
     refine wp_skip ?_
     refine then_at rfl ?_
     refine wp_seq ?_
     refine zsr ?_
     refine zwv (iN .i64 0) ?_
     refine znt ?_
     refine wp_block ?_
     refine wp_count (fun i A w' => ∃ u174 : Nat → Value, A = ⟨(.slice o al.length c :: .string (s0.extract 0 (min s0.size 100)) :: un :: un :: u174 4 :: pt tb.q :: pt q8 :: .bool true :: iN .i64 ((es.map trm).length) :: u13 9 :: u13 10 :: u13 11 :: u13 12 :: u13 13 :: pt q147 :: .bool true :: pt q154 :: .bool true :: .slice oA (wth es.length (s0.extract 0 (min s0.size 100))).length cA :: .slice oB (wth (es.map trm).length (s0.extract 0 (min s0.size 100))).length cB :: iN .i64 i :: .tuple #[pt tb.q, .agg #[.slice ro (es.map trm).length rc], .bool true] :: .slice o al.length c :: .tuple #[pt tb.q, .agg #[.slice ro (es.map trm).length rc], .bool true] :: pt tb.q :: .agg #[.slice ro (es.map trm).length rc] :: .bool true :: .bool true :: .bool false :: iN .i64 ((es.map trm).length) :: pt q8 :: .slice ro (es.map trm).length rc :: iN .i64 ((es.map trm).length) :: .bool false :: u13 34 :: u13 35 :: u13 36 :: u13 37 :: u13 38 :: u13 39 :: u13 40 :: u13 41 :: u13 42 :: u13 43 :: u13 44 :: u13 45 :: u13 46 :: u13 47 :: u13 48 :: u13 49 :: u13 50 :: u13 51 :: u13 52 :: u13 53 :: u13 54 :: u13 55 :: u13 56 :: u13 57 :: u13 58 :: u13 59 :: u13 60 :: u13 61 :: u13 62 :: u13 63 :: u13 64 :: u13 65 :: u13 66 :: u13 67 :: u13 68 :: u13 69 :: u13 70 :: u13 71 :: u13 72 :: u13 73 :: u13 74 :: u13 75 :: u13 76 :: u13 77 :: u13 78 :: u13 79 :: u13 80 :: .string s0 :: .string s0 :: iN .i64 s0.size :: iN .i64 (min s0.size 100) :: .string (s0.extract 0 (min s0.size 100)) :: .tuple #[.agg #[iN .i64 ((trm q).k), iN .i64 ((trm q).n), .string ((trm q).s), .slice none 0 0], .bool true] :: pt tb.q :: .string (s0.extract 0 (min s0.size 100)) :: .tuple #[.agg #[iN .i64 ((trm q).k), iN .i64 ((trm q).n), .string ((trm q).s), .slice none 0 0], .bool true] :: .agg #[iN .i64 ((trm q).k), iN .i64 ((trm q).n), .string ((trm q).s), .slice none 0 0] :: .bool true :: .tuple #[.agg (tmc (es.map trm)[x].k (es.map trm)[x].n (es.map trm)[x].s oq (es.map trm)[x].ps.length cq), .bool true] :: .agg (#[.slice ro (es.map trm).length rc]) :: .string (s0.extract 0 (min s0.size 100)) :: .tuple #[.agg (tmc (es.map trm)[x].k (es.map trm)[x].n (es.map trm)[x].s oq (es.map trm)[x].ps.length cq), .bool true] :: .agg (tmc (es.map trm)[x].k (es.map trm)[x].n (es.map trm)[x].s oq (es.map trm)[x].ps.length cq) :: .bool true :: pt tb.q :: .string (s0.extract 0 (min s0.size 100)) :: .slice oA (wth es.length (s0.extract 0 (min s0.size 100))).length cA :: .agg (#[.slice ro (es.map trm).length rc]) :: .string (s0.extract 0 (min s0.size 100)) :: .slice oB (wth (es.map trm).length (s0.extract 0 (min s0.size 100))).length cB :: .bool true :: .bool true :: .bool false :: .bool false :: .agg (#[iN .i64 ((trm q).k), iN .i64 ((trm q).n), .string ((trm q).s), .slice none 0 0]) :: .agg (tmc (es.map trm)[x].k (es.map trm)[x].n (es.map trm)[x].s oq (es.map trm)[x].ps.length cq) :: .bool true :: .bool false :: .bool false :: .bool false :: .slice oA (wth es.length (s0.extract 0 (min s0.size 100))).length cA :: iN .i64 ((wth es.length (s0.extract 0 (min s0.size 100))).length) :: .slice oB (wth (es.map trm).length (s0.extract 0 (min s0.size 100))).length cB :: iN .i64 ((wth (es.map trm).length (s0.extract 0 (min s0.size 100))).length) :: .bool false :: .bool false :: u174 120 :: u174 121 :: u174 122 :: u174 123 :: u174 124 :: u174 125 :: u174 126 :: u174 127 :: u174 128 :: u174 129 :: u174 130 :: u174 131 :: u174 132 :: u174 133 :: u174 134 :: List.replicate 1 un).toArray, []⟩ ∧ HA (zb w [] tb es) ((q154, 31, tmc (es.map trm)[x].k (es.map trm)[x].n (es.map trm)[x].s oq (es.map trm)[x].ps.length cq) :: (q147, 31, #[iN .i64 ((trm q).k), iN .i64 ((trm q).n), .string ((trm q).s), .slice none 0 0]) :: (q8, 26, #[.slice ro (es.map trm).length rc]) :: ((NB ++ (NA ++ RL)) ++ ((tb.q, 74, tcell tb (nms es) (.slice tp2 es.length tc3)) :: (Lr4 ++ PB es)))) w') ((wth es.length (s0.extract 0 (min s0.size 100))).length) ?_ ?_ ?_
     ·exact zex h173
     ·rintro i hk _ w175 ⟨u174, rfl, hA⟩
      have hwl := wth_len es.length (s0.extract 0 (min s0.size 100))
      obtain ⟨qa, ca, rfl, ha1, ha2⟩ := hrA.resolve_left (by intro e; rw [e] at hk; simp at hk)
      have hk2 : i < (wth (es.map trm).length (s0.extract 0 (min s0.size 100))).length := by rw [List.length_map]; exact hk
      obtain ⟨qc, cb, rfl, hb1, hb2⟩ := hrB.resolve_left (by intro e; rw [e] at hk2; simp at hk2)
      refine wp_seq ?_
      refine zsr ?_
      refine zwv (iN .i64 i) ?_
      refine zwv (.slice (some ⟨qa, 0, none⟩) ((wth es.length (s0.extract 0 (min s0.size 100))).length) cA) ?_
      refine zwv (iN .i64 ((wth es.length (s0.extract 0 (min s0.size 100))).length)) ?_
      refine zwu (run_lss (k := .i64) (a := i) (b := (wth es.length (s0.extract 0 (min s0.size 100))).length) true (decide_eq_true (by omega))) ?_
      refine znt ?_
      refine zct ?_
      refine wp_skip ?_
      refine then_at rfl ?_
      refine wp_seq ?_
      refine wp_block ?_
      refine wp_seq ?_
      refine zrs ⟨(.slice o al.length c :: .string (s0.extract 0 (min s0.size 100)) :: un :: un :: u174 4 :: pt tb.q :: pt q8 :: .bool true :: iN .i64 ((es.map trm).length) :: u13 9 :: u13 10 :: u13 11 :: u13 12 :: u13 13 :: pt q147 :: .bool true :: pt q154 :: .bool true :: .slice (some ⟨qa, 0, none⟩) ((wth es.length (s0.extract 0 (min s0.size 100))).length) cA :: .slice (some ⟨qc, 0, none⟩) ((wth (es.map trm).length (s0.extract 0 (min s0.size 100))).length) cB :: iN .i64 i :: .tuple #[pt tb.q, .agg #[.slice ro (es.map trm).length rc], .bool true] :: .slice o al.length c :: .tuple #[pt tb.q, .agg #[.slice ro (es.map trm).length rc], .bool true] :: pt tb.q :: .agg #[.slice ro (es.map trm).length rc] :: .bool true :: .bool true :: .bool false :: iN .i64 ((es.map trm).length) :: pt q8 :: .slice ro (es.map trm).length rc :: iN .i64 ((es.map trm).length) :: .bool false :: u13 34 :: u13 35 :: u13 36 :: u13 37 :: u13 38 :: u13 39 :: u13 40 :: u13 41 :: u13 42 :: u13 43 :: u13 44 :: u13 45 :: u13 46 :: u13 47 :: u13 48 :: u13 49 :: u13 50 :: u13 51 :: u13 52 :: u13 53 :: u13 54 :: u13 55 :: u13 56 :: u13 57 :: u13 58 :: u13 59 :: u13 60 :: u13 61 :: u13 62 :: u13 63 :: u13 64 :: u13 65 :: u13 66 :: u13 67 :: u13 68 :: u13 69 :: u13 70 :: u13 71 :: u13 72 :: u13 73 :: u13 74 :: u13 75 :: u13 76 :: u13 77 :: u13 78 :: u13 79 :: u13 80 :: .string s0 :: .string s0 :: iN .i64 s0.size :: iN .i64 (min s0.size 100) :: .string (s0.extract 0 (min s0.size 100)) :: .tuple #[.agg #[iN .i64 ((trm q).k), iN .i64 ((trm q).n), .string ((trm q).s), .slice none 0 0], .bool true] :: pt tb.q :: .string (s0.extract 0 (min s0.size 100)) :: .tuple #[.agg #[iN .i64 ((trm q).k), iN .i64 ((trm q).n), .string ((trm q).s), .slice none 0 0], .bool true] :: .agg #[iN .i64 ((trm q).k), iN .i64 ((trm q).n), .string ((trm q).s), .slice none 0 0] :: .bool true :: .tuple #[.agg (tmc (es.map trm)[x].k (es.map trm)[x].n (es.map trm)[x].s oq (es.map trm)[x].ps.length cq), .bool true] :: .agg (#[.slice ro (es.map trm).length rc]) :: .string (s0.extract 0 (min s0.size 100)) :: .tuple #[.agg (tmc (es.map trm)[x].k (es.map trm)[x].n (es.map trm)[x].s oq (es.map trm)[x].ps.length cq), .bool true] :: .agg (tmc (es.map trm)[x].k (es.map trm)[x].n (es.map trm)[x].s oq (es.map trm)[x].ps.length cq) :: .bool true :: pt tb.q :: .string (s0.extract 0 (min s0.size 100)) :: .slice (some ⟨qa, 0, none⟩) ((wth es.length (s0.extract 0 (min s0.size 100))).length) cA :: .agg (#[.slice ro (es.map trm).length rc]) :: .string (s0.extract 0 (min s0.size 100)) :: .slice (some ⟨qc, 0, none⟩) ((wth (es.map trm).length (s0.extract 0 (min s0.size 100))).length) cB :: .bool true :: .bool true :: .bool false :: .bool false :: .agg (#[iN .i64 ((trm q).k), iN .i64 ((trm q).n), .string ((trm q).s), .slice none 0 0]) :: .agg (tmc (es.map trm)[x].k (es.map trm)[x].n (es.map trm)[x].s oq (es.map trm)[x].ps.length cq) :: .bool true :: .bool false :: .bool false :: .bool false :: .slice (some ⟨qa, 0, none⟩) ((wth es.length (s0.extract 0 (min s0.size 100))).length) cA :: iN .i64 ((wth es.length (s0.extract 0 (min s0.size 100))).length) :: .slice (some ⟨qc, 0, none⟩) ((wth (es.map trm).length (s0.extract 0 (min s0.size 100))).length) cB :: iN .i64 ((wth (es.map trm).length (s0.extract 0 (min s0.size 100))).length) :: .bool false :: .bool false :: iN .i64 i :: .slice (some ⟨qa, 0, none⟩) ((wth es.length (s0.extract 0 (min s0.size 100))).length) cA :: iN .i64 ((wth es.length (s0.extract 0 (min s0.size 100))).length) :: .bool true :: u174 124 :: u174 125 :: .slice (some ⟨qa, 0, none⟩) ((wth es.length (s0.extract 0 (min s0.size 100))).length) cA :: iN .i64 i :: .pointer (some ⟨qa, i, none⟩) :: iN .i64 ((wth es.length (s0.extract 0 (min s0.size 100))).getD i 0) :: .slice (some ⟨qc, 0, none⟩) ((wth (es.map trm).length (s0.extract 0 (min s0.size 100))).length) cB :: iN .i64 i :: .pointer (some ⟨qc, i, none⟩) :: iN .i64 ((wth (es.map trm).length (s0.extract 0 (min s0.size 100))).getD i 0) :: .bool false :: List.replicate 1 un).toArray, []⟩ (HA (zb w [] tb es) ((q154, 31, tmc (es.map trm)[x].k (es.map trm)[x].n (es.map trm)[x].s oq (es.map trm)[x].ps.length cq) :: (q147, 31, #[iN .i64 ((trm q).k), iN .i64 ((trm q).n), .string ((trm q).s), .slice none 0 0]) :: (q8, 26, #[.slice ro (es.map trm).length rc]) :: ((NB ++ (NA ++ RL)) ++ ((tb.q, 74, tcell tb (nms es) (.slice tp2 es.length tc3)) :: (Lr4 ++ PB es))))) hA.drew ?_ ?_
      ·refine zsp (.slice (some ⟨qa, 0, none⟩) ((wth es.length (s0.extract 0 (min s0.size 100))).length) cA) ?_
       refine zsp (iN .i64 i) ?_
       refine zst (v := .pointer (some ⟨qa, i, none⟩)) (fun _ _ => (run_addr_slice (q := qa) (n := (wth es.length (s0.extract 0 (min s0.size 100))).length) (m := cA) (a := i) Try.underlying29 Try.sizeOf3 (by omega))) ?_
       refine zst (v := iN .i64 ((wth es.length (s0.extract 0 (min s0.size 100))).getD i 0)) (fun w' h' => run_load1 Try.isAgg3 (((h'.blk (qa, 3, ca) (by simp [ha1])).cell i).trans (ha2 i hk))) ?_
       refine zsp (.slice (some ⟨qc, 0, none⟩) ((wth (es.map trm).length (s0.extract 0 (min s0.size 100))).length) cB) ?_
       refine zsp (iN .i64 i) ?_
       refine zst (v := .pointer (some ⟨qc, i, none⟩)) (fun _ _ => (run_addr_slice (q := qc) (n := (wth (es.map trm).length (s0.extract 0 (min s0.size 100))).length) (m := cB) (a := i) Try.underlying29 Try.sizeOf3 (by omega))) ?_
       refine zst (v := iN .i64 ((wth (es.map trm).length (s0.extract 0 (min s0.size 100))).getD i 0)) (fun w' h' => run_load1 Try.isAgg3 (((h'.blk (qc, 3, cb) (by simp [hb1])).cell i).trans (hb2 i hk2))) ?_
       refine zst (fun _ _ => (run_nei (k := .i64) (a := (wth es.length (s0.extract 0 (min s0.size 100))).getD i 0) (b := (wth (es.map trm).length (s0.extract 0 (min s0.size 100))).getD i 0) false (by simp))) ?_
       exact AllSure.nil
      intro w176 h177
      refine then_at rfl ?_
      refine zcf ?_
      refine wp_skip ?_
      refine block_normal ?_
      refine then_at rfl ?_
      refine wl_region ?_
      refine zwv (iN .i64 i) ?_
      refine zwu (run_add (k := .i64) (a := i) (b := 1) (by simp only [top]; omega)) ?_
      refine zwv (iN .i64 (i + 1)) ?_
      refine wl_nil ?_
      exact then_I (zex h177)
     ·rintro _ w178 ⟨u174, rfl, hA⟩
      have hwl := wth_len es.length (s0.extract 0 (min s0.size 100))
      refine wp_seq ?_
      refine zsr ?_
      refine zwv (iN .i64 ((wth es.length (s0.extract 0 (min s0.size 100))).length)) ?_
      refine zwv (.slice oA (wth es.length (s0.extract 0 (min s0.size 100))).length cA) ?_
      refine zwv (iN .i64 ((wth es.length (s0.extract 0 (min s0.size 100))).length)) ?_
      refine zwu (run_lss (k := .i64) (a := (wth es.length (s0.extract 0 (min s0.size 100))).length) (b := (wth es.length (s0.extract 0 (min s0.size 100))).length) false (decide_eq_false (by omega))) ?_
      refine znt ?_
      refine zcf ?_
      refine wp_exit ?_
      repeat first | refine then_exit ?_ | refine block_exit ?_ | refine block_exit_ne (by decide) ?_
      refine then_at rfl ?_
      refine zsr ?_
      refine zwc hA enter15 (works_any w178) ?_
      intro w179 h180
      refine zwv (.bool true) ?_
      refine znt ?_
      refine wp_ret ?_
      repeat first | refine then_ret ?_ | refine block_ret ?_
      exact bodyPost_ret (by kernel_rfl) rfl ⟨rfl, h180.old.old⟩
end Go.Proofs.Ytihfeoanognonaa
