/-
 lay: the rules of a term.
-/
import Derived.Test.YtihfeoanognonaaGreatT15
namespace Go.Proofs.YtihfeoanognonaaGreat
set_option linter.unusedVariables false
set_option maxRecDepth 100000
set_option maxHeartbeats 2000000
open Go.RowKit
theorem Within_any {w : World} {t : Tb} {es : List Ent} (h : TV w t es) (hm : es.length ≤ 65536) {m0 : Int} (hv : w.cell? ⟨0, 0, none⟩ = some (.int .i64 m0)) (s : ByteArray) (hs : s.size ≤ 1000000) :
  Calls Tryz.prog 20 #[pt t.q, .string s] w fun e w' => ∃ o c, e = .returned (.slice o (wth es.length s).length c) ∧ RI w.heap.size w' o (wth es.length s) ∧ Below w.heap.size w w' := by
 obtain ⟨v, hq, h2⟩ := h.row
 obtain ⟨p, c, rfl⟩ : ∃ p c, v = .slice p es.length c := by
  rcases h2 with ⟨rfl, h2⟩ | ⟨g, cap, cur, h2, _⟩
  ·exact ⟨_, _, h2⟩
  ·exact ⟨_, _, h2⟩
 exact Within_blk hq hm hv s hs
theorem WH.ri {z : Base} {b : Wb} {m : Nat} {st : St} {L : BL} {w w' : World} {o : Option Addr} {ps : List Nat} (h : WH z b m st L w) (hb : Below w.heap.size w w') (hr : RI w.heap.size w' o ps) : ∃ L1, WH z b m st (L1 ++ L) w' ∧ Rd3 z (L1 ++ L) o ps := by
 rcases hr with hr | ⟨q, c, h1, h2, h3, h4⟩
 ·exact ⟨[], h.keep hb, .inl hr⟩
 ·exact ⟨[(q, 3, c)], h.add hb h2 h3, .inr ⟨q, c, h1, .inl (by simp), h4⟩⟩
def dtS (st : St) (x : Nat) (wi : List Nat) (i : Nat) : St := (wi.take i).foldl (fun st y => ruleS st y [x]) (ruleS st x wi)
theorem dtS_ok {m : Nat} {st : St} (h : Wok m st) {x : Nat} (hx : x < m) (wi : List Nat) (hwi : ∀ y ∈ wi, y < m) : ∀ i, i ≤ wi.length → Wok m (dtS st x wi i) ∧ siz (dtS st x wi i) ≤ siz st + wi.length + 1 + 2 * i
 | 0, _ => ⟨ruleS_ok h hx wi, siz_rule st x wi⟩
 | i + 1, hi => by
  obtain ⟨h1, h2⟩ := dtS_ok h hx wi hwi i (by omega)
  have e : dtS st x wi (i + 1) = ruleS (dtS st x wi i) (wi.getD i 0) [x] := foldl_take_succ wi i (by omega)
  rw [e]
  have hy : wi.getD i 0 < m := hwi _ (by rw [List.getD_eq_getElem?_getD, List.getElem?_eq_getElem (by omega)]; exact List.getElem_mem _)
  have := siz_rule (dtS st x wi i) (wi.getD i 0) [x]
  simp only [List.length_cons, List.length_nil] at this
  exact ⟨ruleS_ok h1 hy _, by omega⟩
theorem wth_lt (m : Nat) (s : ByteArray) : ∀ y ∈ wth m s, y < m := fun y hy => by
 unfold wth at hy
 exact List.mem_range.1 (List.mem_filter.1 hy).1
theorem wth_len (m : Nat) (s : ByteArray) : (wth m s).length ≤ m := by
 unfold wth
 exact Nat.le_trans (List.length_filter_le _ _) (by simp)
theorem lay_nm {z : Base} {b : Wb} {m : Nat} {st : St} {L : BL} {w : World} (H : WH z b m st L w) (hok : Wok m st) (hm4 : m ≤ 400) {t : Tb} {es : List Ent} (h : TV z.w t es) (hme : m = es.length) (hwf : Wf es) (hwg : Wg es) {m0 : Int} (hv : z.w.cell? ⟨0, 0, none⟩ = some (.int .i64 m0)) {x : Nat} (hx : x < m) (hs : siz st + 1500 ≤ 1000000) {y : Nat} :
  Calls Tryz.prog 19 #[pt t.q, pt b.p, iN .i64 x, .iface 80 (.agg #[iN .i64 y])] w fun e w' => e = .returned (.tuple #[]) ∧ WH z b m (st) L w' := by
 have hm : m ≤ 100000 := by omega
 go_enter Tryz.func19, Tryz.ntmps19
 refine zsr ?_
 refine zwv (.iface 80 (.agg #[iN .i64 y])) ?_
 refine znt ?_
 refine wp_block ?_
 refine zsr ?_
 refine zwv (.tuple #[.agg #[iN .i64 y], .bool true]) ?_
 refine zwv (.bool true) ?_
 refine zwv (.agg #[iN .i64 y]) ?_
 refine znt ?_
 refine zct ?_
 refine wl_region ?_
 refine wl_makeW (c := #[iN .i64 0]) H 80 ?_
 intro q1 w2 (hW3 : WH z b m st ((q1, 80, #[iN .i64 0]) :: L) w2)
 refine wl_fillW (c' := #[iN .i64 y]) hW3 rfl ?_
 intro w4 (hW5 : WH z b m st ((q1, 80, #[iN .i64 y]) :: L) w4)
 refine wl_nil ?_
 refine block_normal ?_
 exact bodyPost_end (v := .tuple #[]) (by kernel_rfl) rfl ⟨rfl, WH.sub hW5 (List.sublist_append_right [(q1, 80, #[iN .i64 y])] L)⟩
theorem lay_dt {z : Base} {b : Wb} {m : Nat} {st : St} {L : BL} {w : World} (H : WH z b m st L w) (hok : Wok m st) (hm4 : m ≤ 400) {t : Tb} {es : List Ent} (h : TV z.w t es) (hme : m = es.length) (hwf : Wf es) (hwg : Wg es) {m0 : Int} (hv : z.w.cell? ⟨0, 0, none⟩ = some (.int .i64 m0)) {x : Nat} (hx : x < m) (hs : siz st + 1500 ≤ 1000000) {s : ByteArray} (hsz : s.size ≤ 1000000) :
  Calls Tryz.prog 19 #[pt t.q, pt b.p, iN .i64 x, .iface 91 (.agg #[.string s])] w fun e w' => e = .returned (.tuple #[]) ∧ WH z b m (layS es st x (.dt s)) L w' := by
 have hm : m ≤ 100000 := by omega
 go_enter Tryz.func19, Tryz.ntmps19
 refine zsr ?_
 refine zwv (.iface 91 (.agg #[.string s])) ?_
 refine znt ?_
 refine wp_block ?_
 refine zsr ?_
 refine zwv (.tuple #[.agg #[iN .i64 0], .bool false]) ?_
 refine zwv (.bool false) ?_
 refine zwv (.agg #[iN .i64 0]) ?_
 refine znt ?_
 refine zcf ?_
 refine zsr ?_
 refine zwv (.tuple #[.agg #[.string s], .bool true]) ?_
 refine zwv (.bool true) ?_
 refine zwv (.agg #[.string s]) ?_
 refine znt ?_
 refine zct ?_
 refine zsr ?_
 refine wl_makeW (c := #[.string ({ data := #[] })]) H 91 ?_
 intro q1 w2 (hW3 : WH z b m st ((q1, 91, #[.string ({ data := #[] })]) :: L) w2)
 refine wl_fillW (c' := #[.string s]) hW3 rfl ?_
 intro w4 (hW5 : WH z b m st ((q1, 91, #[.string s]) :: L) w4)
 refine znt ?_
 refine zsr ?_
 refine zwv (.pointer (some ⟨t.q, 0, none⟩)) ?_
 refine zwv (.pointer (some ⟨q1, 0, none⟩)) ?_
 refine zwu (v := .string s) (run_load1 Tryz.isAgg9 (((hW5.ha.get 0 rfl).cell 0).trans rfl)) ?_
 refine wl_callx enter20 #[.pointer (some ⟨t.q, 0, none⟩), .string s] (Within_any (h.keep hW5.ha.old.old) (by omega) (cell_below hW5.ha.old.old hv) s hsz) ?_
 rintro _ w6 ⟨ow, cw, rfl, hri, hbw⟩
 refine ⟨_, rfl, ?_⟩
 obtain ⟨L1, hW1, hRd⟩ := WH.ri hW5 hbw hri
 refine zwv (.slice ow (wth es.length s).length cw) ?_
 refine znt ?_
 refine zsr ?_
 refine zwv (.pointer (some ⟨b.p, 0, none⟩)) ?_
 refine zwv (iN .i64 x) ?_
 refine zwv (.slice ow (wth es.length s).length cw) ?_
 refine wl_callx enter39 #[.pointer (some ⟨b.p, 0, none⟩), iN .i64 x, .slice ow (wth es.length s).length cw] (rule_any hW1 hok hx hm ((wth es.length s)) _ cw hRd (fun j hj => by rw [hme]; exact wth_lt es.length s _ (by rw [List.getD_eq_getElem?_getD, List.getElem?_eq_getElem hj]; exact List.getElem_mem _)) (by have := wth_len es.length s; omega)) ?_
 rintro _ w8 ⟨rfl, hW7⟩
 refine ⟨_, rfl, ?_⟩
 have hok9 := ruleS_ok hok hx ((wth es.length s))
 have hszhok9 := siz_rule st x ((wth es.length s))
 refine znt ?_
 refine zsr ?_
 refine zwv (.slice ow (wth es.length s).length cw) ?_
 refine zwv (iN .i64 ((wth es.length s).length)) ?_
 refine zwv (iN .i64 0) ?_
 refine znt ?_
 have hwl := wth_len es.length s
 refine wp_block ?_
 refine wp_count (fun i A w' => ∃ u10 : Nat → Value, A = ⟨(pt t.q :: pt b.p :: iN .i64 x :: .iface 91 (.agg #[.string s]) :: un :: un :: un :: un :: un :: pt q1 :: .slice ow (wth es.length s).length cw :: un :: u10 12 :: un :: .iface 91 (.agg #[.string s]) :: .tuple #[.agg #[iN .i64 0], .bool false] :: .bool false :: .agg #[iN .i64 0] :: .tuple #[.agg #[.string s], .bool true] :: .bool true :: .agg #[.string s] :: pt t.q :: pt q1 :: .string s :: .slice ow (wth es.length s).length cw :: pt b.p :: iN .i64 x :: .slice ow (wth es.length s).length cw :: .tuple #[] :: .slice ow (wth es.length s).length cw :: iN .i64 ((wth es.length s).length) :: iN .i64 i :: u10 32 :: u10 33 :: u10 34 :: u10 35 :: u10 36 :: u10 37 :: u10 38 :: u10 39 :: u10 40 :: List.replicate 8 un).toArray, []⟩ ∧ WH z b m (dtS st x (wth es.length s) i) ((L1 ++ ((q1, 91, #[.string s]) :: L))) w') ((wth es.length s).length) ?_ ?_ ?_
 ·exact zex hW7
 ·rintro i hk _ w11 ⟨u10, rfl, hX⟩
  obtain ⟨qw, c0, rfl, hmw, hcw⟩ := hRd.resolve_left (by intro e; rw [e] at hk; simp at hk)
  obtain ⟨hoki, hszi⟩ := dtS_ok hok hx (wth es.length s) (by rw [hme]; exact wth_lt _ _) i (by omega)
  have hyl : (wth es.length s).getD i 0 < m := by rw [hme]; exact wth_lt es.length s _ (by rw [List.getD_eq_getElem?_getD, List.getElem?_eq_getElem hk]; exact List.getElem_mem _)
  have hwl := wth_len es.length s
  refine zsr ?_
  refine zwu (run_lss (k := .i64) (a := i) (b := (wth es.length s).length) true (decide_eq_true (by omega))) ?_
  refine znt ?_
  refine zit ?_
  refine wp_seq ?_
  refine wp_block ?_
  refine zsr ?_
  refine zwu (v := .pointer (some ⟨qw, i, none⟩)) (run_addr_slice (q := qw) (n := (wth es.length s).length) (m := cw) (a := i) Tryz.underlying63 Tryz.sizeOf3 (by omega)) ?_
  refine zwu (v := iN .i64 ((wth es.length s).getD i 0)) (run_load1 Tryz.isAgg3 (((Rd3.cell hmw hX.ha (fun y hy => hy)).cell i).trans (hcw i hk))) ?_
  refine zwv (iN .i64 ((wth es.length s).getD i 0)) ?_
  refine znt ?_
  refine wl_region ?_
  refine zwv (.pointer (some ⟨b.p, 0, none⟩)) ?_
  refine zwv (iN .i64 ((wth es.length s).getD i 0)) ?_
  refine zwv (iN .i64 x) ?_
  refine wl_mksW (n := 1) (k := 1) (c := intc [x]) hX 3 (by kernel_rfl) (by kernel_rfl) ?_
  intro q12 w13 (hW14 : WH z b m (dtS st x (wth es.length s) i) ((q12, 3, intc [x]) :: (L1 ++ ((q1, 91, #[.string s]) :: L))) w13)
  refine wl_callx enter39 #[.pointer (some ⟨b.p, 0, none⟩), iN .i64 ((wth es.length s).getD i 0), .slice (some ⟨q12, 0, none⟩) 1 1] (rule_any hW14 hoki hyl hm [x] _ 1 (.inr ⟨q12, intc [x], rfl, .inl (by simp), fun j hj => intc_get _ j hj⟩) (fun j hj => getD_lt (m := m) (by intro y hy; simp only [List.mem_cons, List.not_mem_nil, or_false] at hy; omega) (by omega) j) (by simp only [List.length_cons, List.length_nil]; omega)) ?_
  rintro _ w16 ⟨rfl, hW15⟩
  refine ⟨_, rfl, ?_⟩
  have hok17 := ruleS_ok hoki hyl [x]
  have hszhok17 := siz_rule (dtS st x (wth es.length s) i) ((wth es.length s).getD i 0) [x]
  refine wl_nil ?_
  refine block_normal ?_
  refine then_at rfl ?_
  refine wl_region ?_
  refine zwu (run_add (k := .i64) (a := i) (b := 1) (by simp only [top]; omega)) ?_
  refine zwv (iN .i64 (i + 1)) ?_
  refine wl_nil ?_
  exact then_I (zex ((by have e := foldl_take_succ (f := fun st y => ruleS st y [x]) (a := ruleS st x (wth es.length s)) (wth es.length s) i hk; unfold dtS; rw [e]; exact WH.sub hW15 (List.sublist_cons_self _ _))))
 ·rintro _ w18 ⟨u10, rfl, hX⟩
  refine zsr ?_
  refine zwu (run_lss (k := .i64) (a := (wth es.length s).length) (b := (wth es.length s).length) false (decide_eq_false (by omega))) ?_
  refine znt ?_
  refine wp_seq ?_
  refine zcf ?_
  refine wp_exit ?_
  repeat first | refine then_exit ?_ | refine block_exit ?_ | refine block_exit_ne (by decide) ?_
  refine block_normal ?_
  exact bodyPost_end (v := .tuple #[]) (by kernel_rfl) rfl ⟨rfl, by unfold layS; have := hX; unfold dtS at this; rw [List.take_length] at this; exact WH.sub this (List.Sublist.trans (List.sublist_cons_self _ _) (List.sublist_append_right L1 _))⟩
theorem made_any {z : Base} {b : Wb} {m : Nat} {st : St} {L : BL} {w : World} (H : WH z b m st L w) (hok : Wok m st) (hm : m ≤ 100000) {t : Tb} {es : List Ent} (h : TV z.w t es) (hme : m = es.length) (hwf : Wf es) (hwg : Wg es) {x i k n : Nat} {s : ByteArray} {ps : List Nat} {pb : Nat} (hx : x < m) (hpb : Blk z.w pb 3 (intc ps)) (he : es[i]? = some (.mk k n s ps pb)) (hs : siz st + 1500 ≤ 1000000) :
  Calls Tryz.prog 40 #[pt t.q, pt b.p, iN .i64 x, mkv k n s pb ps.length] w fun e w' => e = .returned (.tuple #[]) ∧ WH z b m (madeS es st x k n ps) L w' := by
 have hps : ∀ j, j < ps.length → ps.getD j 0 < m := fun j hj => by
  rw [hme]
  refine hwg.lt i k n s ps pb he _ ?_
  rw [List.getD_eq_getElem?_getD, List.getElem?_eq_getElem hj]
  exact List.getElem_mem _
 have hpl := hwf.len i k n s ps pb he
 by_cases h4 : k = 4
 ·have hl := hwg.two i n s ps pb (h4 ▸ he)
  by_cases hn : n = 0
  ·exact made_dh0 H hok hm h hme hx hpb hps hpl (by omega) h4 hl hn
  ·exact made_dh1 H hok hm h hme hx hpb hps hpl (by omega) h4 hl hn
 by_cases h6 : k = 6
 ·exact made_enc H hok hm h hme hx hpb hps hpl (by omega) h6 (hwg.four i n s ps pb (h6 ▸ he))
 by_cases h7 : k = 7
 ·exact made_sig H hok hm h hme hx hpb hps hpl (by omega) h7 (hwg.sig i n s ps pb (h7 ▸ he))
 exact made_oth H hok hm h hme hx hpb hps hpl (by omega) ⟨h4, h6, h7⟩
theorem lay_mk {z : Base} {b : Wb} {m : Nat} {st : St} {L : BL} {w : World} (H : WH z b m st L w) (hok : Wok m st) (hm4 : m ≤ 400) {t : Tb} {es : List Ent} (h : TV z.w t es) (hme : m = es.length) (hwf : Wf es) (hwg : Wg es) {m0 : Int} (hv : z.w.cell? ⟨0, 0, none⟩ = some (.int .i64 m0)) {x : Nat} (hx : x < m) (hs : siz st + 1500 ≤ 1000000) {i k n pb : Nat} {s : ByteArray} {ps : List Nat} (hpb : Blk z.w pb 3 (intc ps)) (he : es[i]? = some (.mk k n s ps pb)) :
  Calls Tryz.prog 19 #[pt t.q, pt b.p, iN .i64 x, .iface 94 (.agg #[iN .i64 k, iN .i64 n, .string s, .slice (some ⟨pb, 0, none⟩) ps.length ps.length])] w fun e w' => e = .returned (.tuple #[]) ∧ WH z b m (layS es st x (.mk k n s ps pb)) L w' := by
 have hm : m ≤ 100000 := by omega
 go_enter Tryz.func19, Tryz.ntmps19
 refine zsr ?_
 refine zwv (.iface 94 (.agg #[iN .i64 k, iN .i64 n, .string s, .slice (some ⟨pb, 0, none⟩) ps.length ps.length])) ?_
 refine znt ?_
 refine wp_block ?_
 refine zsr ?_
 refine zwv (.tuple #[.agg #[iN .i64 0], .bool false]) ?_
 refine zwv (.bool false) ?_
 refine zwv (.agg #[iN .i64 0]) ?_
 refine znt ?_
 refine zcf ?_
 refine zsr ?_
 refine zwv (.tuple #[.agg #[.string ({ data := #[] })], .bool false]) ?_
 refine zwv (.bool false) ?_
 refine zwv (.agg #[.string ({ data := #[] })]) ?_
 refine znt ?_
 refine zcf ?_
 refine zsr ?_
 refine zwv (.tuple #[.agg #[iN .i64 k, iN .i64 n, .string s, .slice (some ⟨pb, 0, none⟩) ps.length ps.length], .bool true]) ?_
 refine zwv (.bool true) ?_
 refine zwv (.agg #[iN .i64 k, iN .i64 n, .string s, .slice (some ⟨pb, 0, none⟩) ps.length ps.length]) ?_
 refine znt ?_
 refine zct ?_
 refine zsr ?_
 refine wl_makeW (c := #[iN .i64 0, iN .i64 0, .string ({ data := #[] }), .slice none 0 0]) H 94 ?_
 intro q1 w2 (hW3 : WH z b m st ((q1, 94, #[iN .i64 0, iN .i64 0, .string ({ data := #[] }), .slice none 0 0]) :: L) w2)
 refine wl_fillW (c' := #[iN .i64 k, iN .i64 n, .string s, .slice (some ⟨pb, 0, none⟩) ps.length ps.length]) hW3 rfl ?_
 intro w4 (hW5 : WH z b m st ((q1, 94, #[iN .i64 k, iN .i64 n, .string s, .slice (some ⟨pb, 0, none⟩) ps.length ps.length]) :: L) w4)
 refine znt ?_
 refine wl_region ?_
 refine zwv (.pointer (some ⟨t.q, 0, none⟩)) ?_
 refine zwv (.pointer (some ⟨b.p, 0, none⟩)) ?_
 refine zwv (iN .i64 x) ?_
 refine wl_load hW5.ha 0 rfl Tryz.underlying94 rfl ?_
 refine wl_callx enter40 #[.pointer (some ⟨t.q, 0, none⟩), .pointer (some ⟨b.p, 0, none⟩), iN .i64 x, .agg (#[iN .i64 k, iN .i64 n, .string s, .slice (some ⟨pb, 0, none⟩) ps.length ps.length])] (made_any hW5 hok hm h hme hwf hwg hx hpb he hs) ?_
 rintro _ w6 ⟨rfl, hM⟩
 refine ⟨_, rfl, ?_⟩
 refine wl_nil ?_
 refine block_normal ?_
 exact bodyPost_end (v := .tuple #[]) (by kernel_rfl) rfl ⟨rfl, WH.sub hM (List.sublist_append_right [(q1, 94, #[iN .i64 k, iN .i64 n, .string s, .slice (some ⟨pb, 0, none⟩) ps.length ps.length])] L)⟩
theorem lay_any {z : Base} {b : Wb} {m : Nat} {st : St} {L : BL} {w : World} (H : WH z b m st L w) (hok : Wok m st) (hm4 : m ≤ 400) {t : Tb} {es : List Ent} (h : TV z.w t es) (hme : m = es.length) (hwf : Wf es) (hwg : Wg es) {m0 : Int} (hv : z.w.cell? ⟨0, 0, none⟩ = some (.int .i64 m0)) {x : Nat} (hx : x < m) (hs : siz st + 1500 ≤ 1000000) {e : Ent} (he : es[x]? = some e) (hd : ∀ s, e = .dt s → s.size ≤ 1000000) :
  Calls Tryz.prog 19 #[pt t.q, pt b.p, iN .i64 x, ev e] w fun r w' => r = .returned (.tuple #[]) ∧ WH z b m (layS es st x e) L w' := by
 cases e with
 | nm y => exact lay_nm H hok hm4 h hme hwf hwg hv hx hs
 | dt s => exact lay_dt H hok hm4 h hme hwf hwg hv hx hs (hd s rfl)
 | mk k n s ps pb => exact lay_mk H hok hm4 h hme hwf hwg hv hx hs (h.pbs _ (pb_mem he)) he
theorem rule_sz {m : Nat} {st : St} (h : Wok m st) {x : Nat} (hx : x < m) (l : List Nat) : Wok m (ruleS st x l) ∧ siz (ruleS st x l) ≤ siz st + l.length + 1 := ⟨ruleS_ok h hx l, siz_rule st x l⟩
theorem lay_ok {m : Nat} {st : St} (hok : Wok m st) {es : List Ent} (hme : m = es.length) (hwf : Wf es) (hwg : Wg es) {x : Nat} (hx : x < m) {e : Ent} (he : es[x]? = some e) : Wok m (layS es st x e) ∧ siz (layS es st x e) ≤ siz st + 3 * m + 200 := by
 cases e with
 | nm y => exact ⟨hok, by show siz st ≤ _; omega⟩
 | dt s =>
  have h1 := dtS_ok hok hx (wth es.length s) (by rw [hme]; exact wth_lt _ _) _ (Nat.le_refl _)
  have h2 := wth_len es.length s
  unfold dtS at h1
  rw [List.take_length] at h1
  exact ⟨h1.1, by have := h1.2; show siz ((wth es.length s).foldl (fun st y => ruleS st y [x]) (ruleS st x (wth es.length s))) ≤ _; omega⟩
 | mk k n s ps pb =>
  have hps : ∀ j, j < ps.length → ps.getD j 0 < m := fun j hj => by
   rw [hme]
   refine hwg.lt x k n s ps pb he _ ?_
   rw [List.getD_eq_getElem?_getD, List.getElem?_eq_getElem hj]
   exact List.getElem_mem _
  have hpl := hwf.len x k n s ps pb he
  obtain ⟨r1, r2⟩ := rule_sz hok hx ps
  show Wok m (madeS es st x k n ps) ∧ siz (madeS es st x k n ps) ≤ _
  unfold madeS
  split
  ·split
   ·obtain ⟨a1, a2⟩ := half_ok r1 es hx (ps.getD 0 0) (ps.getD 1 0)
    obtain ⟨b1, b2⟩ := half_ok a1 es hx (ps.getD 1 0) (ps.getD 0 0)
    exact ⟨b1, by omega⟩
   ·exact ⟨r1, by omega⟩
  ·split
   ·rename_i h6
    have hl := hwg.four x n s ps pb (h6 ▸ he)
    obtain ⟨a1, a2⟩ := rule_sz r1 (hps 3 (by omega)) [x, ps.getD 0 0]
    exact ⟨a1, by simp only [List.length_cons, List.length_nil] at a2; omega⟩
   ·split
    ·rename_i h7
     have hl := hwg.sig x n s ps pb (h7 ▸ he)
     obtain ⟨a1, a2⟩ := rule_sz r1 (hps 1 (by omega)) [x]
     exact ⟨a1, by simp only [List.length_cons, List.length_nil] at a2; omega⟩
    ·exact ⟨r1, by omega⟩
end Go.Proofs.YtihfeoanognonaaGreat
