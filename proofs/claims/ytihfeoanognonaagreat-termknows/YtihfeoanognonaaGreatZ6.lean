/-
 TermKnows: the reference's Known of any table; both know the same.
-/
import Derived.Test.YtihfeoanognonaaGreatZ5
import Derived.Test.YtihfeoanognonaaGreatT10
namespace Go.Proofs.YtihfeoanognonaaGreat
set_option linter.unusedVariables false
set_option maxRecDepth 100000
set_option maxHeartbeats 8000000
open Go.RowKit
theorem wth_zero (s : ByteArray) : wth 0 s = [] := by unfold wth; rfl
theorem Newer.one {B : Nat} {w : World} {q : Nat} {t : TypeId} {c : Array Value} (h1 : B ≤ q) (h2 : Blk w q t c) : Newer B w [(q, t, c)] := ⟨fun y hy => by rw [List.mem_singleton.1 hy]; exact ⟨h1, h2⟩, by simp⟩
theorem HA.add1 {z : Base} {L : BL} {w w' : World} {q : Nat} {t : TypeId} {c : Array Value} (H : HA z L w) (hb : Below w.heap.size w w') (h1 : w.heap.size ≤ q) (h2 : Blk w' q t c) : HA z ((q, t, c) :: L) w' := HA.perm (HA.addL H hb (Newer.one h1 h2)) (List.perm_append_singleton _ _)
theorem knownF_len {es : List Ent} (hwf : Wf es) (hwg : Wg es) (ss : List ByteArray) : (knownF es ss).length = es.length := by
 unfold knownF spreadS
 have h := seenK_ok (layK_ok hwf hwg es.length (Nat.le_refl _)).1 ss ss.length
 have key : ∀ n st, Wok es.length st → (runS n st).known.length = es.length := by
  intro n
  induction n with
  | zero => exact fun st h => h.kl
  | succ n ih =>
   intro st h
   rw [runS]
   split
   ·exact h.kl
   ·exact ih _ (stepS_ok h (by assumption)).1
 exact key _ _ h
theorem run_neqb {ρ : Operand → Value} {x y : Operand} {w : World} {dst : Option Tmp} {ty : TypeId} {pos : String} {aft : Array Edge} {gd : Option (Nat × Bool)} {b : Bool} (hx : ρ x = .bool b) (hy : ρ y = .bool b) : (execOp ρ ⟨dst, .binOp .neq 4 x y 4, ty, pos, aft, gd⟩).run Tryz.prog w = .ok (.value (.bool false)) w := by
 simp only [execOp, hx, hy]
 cases b <;> kernel_rfl
theorem rknown_nil {w : World} {v : Value} {RL : BL} (h : RTL v [] RL) (hS : Stand w RL) (ss : List ByteArray) {o : Option Addr} {cs : Nat} (hp : ss = [] ∨ ∃ pq cq, o = some ⟨pq, 0, none⟩ ∧ PreS cq ss ∧ Blk w pq 9 cq) (hss : ∀ i, (ss.getD i ByteArray.empty).size ≤ 1000000) (hsl : ss.length ≤ 1000000) :
  Calls Tryz.prog 7 #[.agg #[v], .slice o ss.length cs] w fun e w' => e = .returned (.slice none 0 0) ∧ Below w.heap.size w w' := by
 have H0 := HA.start w
 have hvf : ∃ p c, v = .slice p 0 c := h.form
 go_enter Tryz.func7, Tryz.ntmps7
 refine zsr ?_
 refine wl_make (c := #[v]) H0 27 ?_
 intro q1 w2 (h3 : HA (bs w) [(q1, 27, #[v])] w2)
 refine zwv (.slice none 0 0) ?_
 refine znt ?_
 refine zsr ?_
 refine zwv (.slice none 0 0) ?_
 refine znt ?_
 refine wp_seq ?_
 refine zsr ?_
 refine zwv (iN .i64 0) ?_
 refine znt ?_
 refine wp_block ?_
 refine wp_loop_rounds 2 ?_
 try rw [rounds_succ]
 refine wp_seq ?_
 refine zsr ?_
 refine zwv (iN .i64 0) ?_
 refine zwv (.pointer (some ⟨q1, 0, none⟩)) ?_
 refine zwu (v := v) (run_load1 Tryz.isAgg25 (((h3.get 0 rfl).cell 0).trans rfl)) ?_
 refine zwu (run_len_of hvf (by kernel_rfl)) ?_
 refine zwu (run_lss (k := .i64) (a := 0) (b := 0) false (by decide)) ?_
 refine znt ?_
 refine zcf ?_
 refine wp_exit ?_
 repeat first | refine then_exit ?_ | refine block_exit ?_ | refine block_exit_ne (by decide) ?_
 refine then_at rfl ?_
 refine wp_seq ?_
 refine zsr ?_
 refine zwv (iN .i64 0) ?_
 refine znt ?_
 refine wp_block ?_
 refine wp_count (fun i A w' => ∃ u4 : Nat → Value, A = ⟨(.agg #[v] :: .slice o ss.length cs :: pt q1 :: un :: .slice none 0 0 :: .slice none 0 0 :: iN .i64 0 :: iN .i64 i :: u4 8 :: u4 9 :: un :: un :: un :: un :: iN .i64 0 :: pt q1 :: v :: iN .i64 0 :: .bool false :: un :: un :: un :: un :: un :: u4 24 :: u4 25 :: u4 26 :: u4 27 :: u4 28 :: u4 29 :: u4 30 :: u4 31 :: u4 32 :: u4 33 :: u4 34 :: u4 35 :: u4 36 :: u4 37 :: u4 38 :: u4 39 :: u4 40 :: u4 41 :: u4 42 :: u4 43 :: u4 44 :: u4 45 :: u4 46 :: u4 47 :: List.replicate 64 un).toArray, []⟩ ∧ HA (bs w) [(q1, 27, #[v])] w') ss.length ?_ ?_ ?_
 ·exact zex h3
 ·rintro i hi _ w5 ⟨u4, rfl, hA⟩
  obtain ⟨gs, cqs, hos, hcs, hbs⟩ := hp.resolve_left (fun e => by rw [e] at hi; cases hi)
  refine wp_seq ?_
  refine zsr ?_
  refine zwv (iN .i64 i) ?_
  refine zwv (.slice o ss.length cs) ?_
  refine zwv (iN .i64 ss.length) ?_
  refine zwu (run_lss (k := .i64) (a := i) (b := ss.length) true (decide_eq_true (by omega))) ?_
  refine znt ?_
  refine zct ?_
  refine wp_skip ?_
  refine then_at rfl ?_
  refine wp_seq ?_
  refine wp_block ?_
  refine wp_seq ?_
  refine wp_region_wk (HA (bs w) [(q1, 27, #[v])]) (fun A w' => ∃ (oB : Option Addr) (cB : Nat), A = ⟨(.agg #[v] :: .slice o ss.length cs :: pt q1 :: un :: .slice none 0 0 :: .slice none 0 0 :: iN .i64 0 :: iN .i64 i :: .slice oB 0 cB :: u4 9 :: un :: un :: un :: un :: iN .i64 0 :: pt q1 :: v :: iN .i64 0 :: .bool false :: un :: un :: un :: un :: un :: iN .i64 i :: .slice o ss.length cs :: iN .i64 ss.length :: .bool true :: u4 28 :: u4 29 :: .agg #[v] :: .slice o ss.length cs :: iN .i64 i :: .pointer (some ⟨gs, i, none⟩) :: .string (ss.getD i ByteArray.empty) :: .slice oB 0 cB :: u4 36 :: u4 37 :: u4 38 :: u4 39 :: u4 40 :: u4 41 :: u4 42 :: u4 43 :: u4 44 :: u4 45 :: u4 46 :: u4 47 :: List.replicate 64 un).toArray, []⟩ ∧ HA (bs w) [(q1, 27, #[v])] w') 7 (by kernel_rfl) (by kernel_rfl) (by kernel_rfl) (by kernel_rfl) (by kernel_rfl) (hA.drew) ?_ ?_
  ·have h6 := hA.drew
   refine wk_val (i := 0) (.agg #[v]) rfl rfl (by kernel_rfl) (by kernel_rfl) (fun w' h' => run_load_blk (h'.get 0 rfl) Tryz.underlying27 rfl) ?_
   refine wk_val (i := 1) (.slice o ss.length cs) rfl rfl (by kernel_rfl) (by kernel_rfl) (fun _ _ => (by kernel_rfl)) ?_
   refine wk_val (i := 2) (iN .i64 i) rfl rfl (by kernel_rfl) (by kernel_rfl) (fun _ _ => (by kernel_rfl)) ?_
   refine wk_val (i := 3) (.pointer (some ⟨gs, i, none⟩)) rfl rfl (by kernel_rfl) (by kernel_rfl) (fun _ _ => (run_addr_t (g := gs) (n := ss.length) (c := cs) (i := i) hos (by kernel_rfl) (by kernel_rfl) hi)) ?_
   refine wk_val (i := 4) (.string (ss.getD i ByteArray.empty)) rfl rfl (by kernel_rfl) (by kernel_rfl) (fun w' h' => run_load1 Tryz.isAgg9 (((hbs.keep h'.old.old).cell i).trans (hcs i hi))) ?_
   refine wk_one 5 (by kernel_rfl) ?_
   refine ef_callx rfl (by kernel_rfl) h6 enter23 #[.agg #[v], .string (ss.getD i ByteArray.empty)] (by kernel_rfl) (fun w7 h8 => by have hh := rwithin_any h (hS.keep h8.old.old) (by simp) (ss.getD i ByteArray.empty) (hss i); rw [List.length_nil, wth_zero, List.length_nil] at hh; exact hh) ?_
   rintro w7 h8 _ w9 ⟨oB, cB, rfl, hriB, hbB⟩
   have h10 := h8.keep _ _ hbB
   refine ⟨_, rfl, (HA.sub h10 (List.Sublist.cons_cons _ (List.Sublist.refl _))), ?_⟩
   refine wk_val (i := 6) (.slice oB 0 cB) rfl rfl (by kernel_rfl) (by kernel_rfl) (fun _ _ => (by kernel_rfl)) ?_
   refine wk_end fun w11 hbx hsx => ?_
   have h12 := HA.keep _ _ h10 hbx
   exact ⟨oB, cB, by kernel_rfl, h12⟩
  ·rintro _ w13 ⟨oB, cB, rfl, h14⟩
   refine then_at rfl ?_
   refine zsr ?_
   refine zwv (iN .i64 0) ?_
   refine znt ?_
   refine wp_block ?_
   refine wp_loop_rounds 2 ?_
   try rw [rounds_succ]
   refine wp_seq ?_
   refine zsr ?_
   refine zwv (iN .i64 0) ?_
   refine zwv (.slice oB 0 cB) ?_
   refine zwv (iN .i64 0) ?_
   refine zwu (run_lss (k := .i64) (a := 0) (b := 0) false (by decide)) ?_
   refine znt ?_
   refine zcf ?_
   refine wp_exit ?_
   repeat first | refine then_exit ?_ | refine block_exit ?_ | refine block_exit_ne (by decide) ?_
   refine block_normal ?_
   refine then_at rfl ?_
   refine wl_region ?_
   refine zwv (iN .i64 i) ?_
   refine zwu (run_add (k := .i64) (a := i) (b := 1) (by first | omega | (simp only [top]; omega))) ?_
   refine zwv (iN .i64 (i + 1)) ?_
   refine wl_nil ?_
   exact then_I (zex h14)
 ·rintro _ w15 ⟨u4, rfl, hA⟩
  refine wp_seq ?_
  refine zsr ?_
  refine zwv (iN .i64 ss.length) ?_
  refine zwv (.slice o ss.length cs) ?_
  refine zwv (iN .i64 ss.length) ?_
  refine zwu (run_lss (k := .i64) (a := ss.length) (b := ss.length) false (decide_eq_false (by omega))) ?_
  refine znt ?_
  refine zcf ?_
  refine wp_exit ?_
  repeat first | refine then_exit ?_ | refine block_exit ?_ | refine block_exit_ne (by decide) ?_
  refine then_at rfl ?_
  refine wp_block ?_
  refine wp_loop_rounds 2 ?_
  try rw [rounds_succ]
  refine wp_block ?_
  refine zsr ?_
  refine zwv (.bool false) ?_
  refine znt ?_
  refine wp_seq ?_
  refine zsr ?_
  refine zwv (iN .i64 0) ?_
  refine znt ?_
  refine wp_block ?_
  refine wp_loop_rounds 2 ?_
  try rw [rounds_succ]
  refine wp_seq ?_
  refine zsr ?_
  refine zwv (iN .i64 0) ?_
  refine zwv (.pointer (some ⟨q1, 0, none⟩)) ?_
  refine zwu (v := v) (run_load1 Tryz.isAgg25 (((hA.get 0 rfl).cell 0).trans rfl)) ?_
  refine zwu (run_len_of hvf (by kernel_rfl)) ?_
  refine zwu (run_lss (k := .i64) (a := 0) (b := 0) false (by decide)) ?_
  refine znt ?_
  refine zcf ?_
  refine wp_exit ?_
  repeat first | refine then_exit ?_ | refine block_exit ?_ | refine block_exit_ne (by decide) ?_
  refine then_at rfl ?_
  refine zsr ?_
  refine zwv (.bool false) ?_
  refine zwv (.bool true) ?_
  refine znt ?_
  refine zct ?_
  refine zsr ?_
  refine zwv (.slice none 0 0) ?_
  refine zwv (.slice none 0 0) ?_
  refine znt ?_
  refine wp_ret ?_
  repeat first | refine then_ret ?_ | refine block_ret ?_
  exact bodyPost_ret (by kernel_rfl) rfl ⟨rfl, hA.old.old⟩
def RKB (m : Nat) (f : Nat → Bool) (o : Option Addr) (N : BL) : Prop := m = 0 ∨ ∃ g cu, o = some ⟨g, 0, none⟩ ∧ (g, 4, cu) ∈ N ∧ ∀ j, j < m → cu[j]? = some (.bool (f j))
theorem rknown_any {w : World} {es : List Ent} (hI : Iv es) (hm4 : es.length ≤ 400) {v : Value} {RL : BL} (h : RTL v (es.map trm) RL) (hS : Stand w RL) (ss : List ByteArray) {o : Option Addr} {cs : Nat} (hp : ss = [] ∨ ∃ pq cq, o = some ⟨pq, 0, none⟩ ∧ PreS cq ss ∧ Blk w pq 9 cq) (hss : ∀ i, (ss.getD i ByteArray.empty).size ≤ 1000000) (hsl : ss.length ≤ 1000000) :
  Calls Tryz.prog 7 #[.agg #[v], .slice o ss.length cs] w fun e w' => ∃ oK cK N, e = .returned (.slice oK es.length cK) ∧ RKB es.length (fun j => (knownF es ss).getD j false) oK N ∧ Newer w.heap.size w' N ∧ Below w.heap.size w w' := by
 rcases Nat.eq_zero_or_pos es.length with h0 | hpos
 ·have h1 := List.length_eq_zero_iff.1 h0
  subst h1
  refine (rknown_nil h hS ss hp hss hsl).mono ?_
  rintro e w' ⟨rfl, hb⟩
  exact ⟨none, 0, [], rfl, .inl rfl, Newer.nil _ _, hb⟩
 ·refine (rknown_pos hI hm4 hpos h hS ss hp hss hsl).mono ?_
  rintro e w' ⟨g, c, cu, K, rfl, hg, hb, hck, hK, hbl⟩
  exact ⟨_, c, [(g, 4, cu)], rfl, .inr ⟨g, cu, rfl, by simp, fun j hj => by rw [hck.at_ j hj, hK j]⟩, Newer.one hg hb, hbl⟩
theorem knows_any {w : World} {m0 : Int} (hv : w.cell? ⟨0, 0, none⟩ = some (.int .i64 m0)) (al : List Ac) (o : Option Addr) (c : Nat) (hp : ActA w o al) (hln : al.length ≤ 9223372036854775807) (hlc : al.length ≤ c) (ho : o = none → c = 0 ∧ al.length = 0) (ps : List (Int × ByteArray)) (po : Option Addr) (pc : Nat) (hpp : PcA w po ps) (hpl : ps.length ≤ 9223372036854775807) :
  Calls Tryz.prog 3 #[.slice o al.length c, .slice po ps.length pc] w fun e w' => e = .returned (.bool true) ∧ Below w.heap.size w w' := by
 have H0 := HA.start w
 go_enter Tryz.func3, Tryz.ntmps3
 refine zsr ?_
 refine zwv (.bool false) ?_
 refine znt ?_
 refine zsr ?_
 refine zwv (.slice o al.length c) ?_
 refine wl_callx enter4 #[.slice o al.length c] (played_any al o c hp hln) ?_
 rintro _ w1 ⟨tb, es, rv, RL, rfl, hT0, hr, hI, hle⟩
 refine ⟨_, rfl, ?_⟩
 obtain ⟨ro, rc, rfl⟩ := hr.form
 obtain ⟨tp2, tc3, Lr4, hR5, h6⟩ := TH.op hT0
 have h7 : HA (zb w [] tb es) ((RL ++ ((tb.q, 61, tcell tb (nms es) (.slice tp2 es.length tc3)) :: (Lr4 ++ PB es)))) w1 := h6
 refine zwv (.tuple #[.pointer (some ⟨tb.q, 0, none⟩), .agg #[.slice ro (es.map trm).length rc], .bool true]) ?_
 refine zwv (.pointer (some ⟨tb.q, 0, none⟩)) ?_
 refine zwv (.agg #[.slice ro (es.map trm).length rc]) ?_
 refine zwv (.bool true) ?_
 refine wl_make (c := #[.slice none 0 0]) h7 27 ?_
 intro q8 w9 (h10 : HA (zb w [] tb es) ((q8, 27, #[.slice none 0 0]) :: (RL ++ ((tb.q, 61, tcell tb (nms es) (.slice tp2 es.length tc3)) :: (Lr4 ++ PB es)))) w9)
 refine zwv (.pointer (some ⟨tb.q, 0, none⟩)) ?_
 refine wl_fill (c' := #[.slice ro (es.map trm).length rc]) h10 0 rfl rfl ?_
 intro w11 (h12 : HA (zb w [] tb es) ((q8, 27, #[.slice ro (es.map trm).length rc]) :: (RL ++ ((tb.q, 61, tcell tb (nms es) (.slice tp2 es.length tc3)) :: (Lr4 ++ PB es)))) w11)
 refine zwv (.bool true) ?_
 refine znt ?_
 refine wp_seq ?_
 refine zsr ?_
 refine zwv (.bool true) ?_
 refine zwv (.bool false) ?_
 refine znt ?_
 refine zcf ?_
 refine wp_skip ?_
 refine then_at rfl ?_
 refine zsr ?_
 refine zwv (.slice po ps.length pc) ?_
 refine wl_callx enter5 #[.slice po ps.length pc] (texts_any ps po pc (hpp.keep h12.old.old) hpl) ?_
 rintro _ w13 ⟨pv, Lt, rfl, hRt, hNt, hbt⟩
 refine ⟨_, rfl, ?_⟩
 have h14 : HA (zb w [] tb es) ((q8, 27, #[.slice ro (es.map trm).length rc]) :: ((Lt ++ RL) ++ ((tb.q, 61, tcell tb (nms es) (.slice tp2 es.length tc3)) :: (Lr4 ++ PB es)))) w13 := HA.perm (HA.addL h12 hbt hNt) (perm_ref [(q8, 27, #[.slice ro (es.map trm).length rc])] RL ((tb.q, 61, tcell tb (nms es) (.slice tp2 es.length tc3)) :: (Lr4 ++ PB es)) Lt)
 obtain ⟨o9, c9, rfl, hpre⟩ := Row.pre hRt
 refine zwv (.tuple #[.slice o9 (txl ps (min ps.length 6)).length c9, .string (txw ps (min ps.length 6))]) ?_
 refine zwv (.slice o9 (txl ps (min ps.length 6)).length c9) ?_
 refine zwv (.string (txw ps (min ps.length 6))) ?_
 refine zwv (.slice o9 (txl ps (min ps.length 6)).length c9) ?_
 refine zwv (.string (txw ps (min ps.length 6))) ?_
 refine znt ?_
 refine zsr ?_
 refine zwv (.pointer (some ⟨tb.q, 0, none⟩)) ?_
 refine zwv (.slice o9 (txl ps (min ps.length 6)).length c9) ?_
 refine wl_callx enter6 #[.pointer (some ⟨tb.q, 0, none⟩), .slice o9 (txl ps (min ps.length 6)).length c9] (Known_any (TH.view (TH.cl ((q8, 27, #[.slice ro (es.map trm).length rc]) :: (Lt ++ RL)) hR5 h14)) hI.wf hI.wg (by omega) (fun i u hu => hI.dd u (List.mem_of_getElem? hu)) (got (w := w) h14.old.old hv) (txl ps (min ps.length 6)) o9 c9 (hpre.imp id (fun ⟨pq, cs, e1, e2, e3⟩ => ⟨pq, cs, e1, e2, h14.blk (pq, 9, cs) (by simp [e3])⟩)) (fun i => by have := txl_get ps (min ps.length 6) i; omega) (by rw [txl_len]; omega)) ?_
 rintro _ w15 ⟨kb, rfl, hk1, hk2, hk3⟩
 refine ⟨_, rfl, ?_⟩
 have h16 : HA (zb w [] tb es) ((kb, 4, boc (knownF es (txl ps (min ps.length 6)))) :: (q8, 27, #[.slice ro (es.map trm).length rc]) :: ((Lt ++ RL) ++ ((tb.q, 61, tcell tb (nms es) (.slice tp2 es.length tc3)) :: (Lr4 ++ PB es)))) w15 := HA.add1 h14 hk3 hk1 hk2
 refine zwv (.slice (some ⟨kb, 0, none⟩) es.length es.length) ?_
 refine znt ?_
 refine zsr ?_
 refine wl_load h16 1 rfl Tryz.underlying27 rfl ?_
 refine zwv (.slice o9 (txl ps (min ps.length 6)).length c9) ?_
 refine wl_callx enter7 #[.agg (#[.slice ro (es.map trm).length rc]), .slice o9 (txl ps (min ps.length 6)).length c9] (rknown_any hI (by omega) hr (fun y hy => h16.blk y (by simp [hy])) (txl ps (min ps.length 6)) (hpre.imp id (fun ⟨pq, cs, e1, e2, e3⟩ => ⟨pq, cs, e1, e2, h16.blk (pq, 9, cs) (by simp [e3])⟩)) (fun i => by have := txl_get ps (min ps.length 6) i; omega) (by rw [txl_len]; omega)) ?_
 rintro _ w17 ⟨oK, cK, NK, rfl, hRK, hNK, hbK⟩
 refine ⟨_, rfl, ?_⟩
 have h18 : HA (zb w [] tb es) ((kb, 4, boc (knownF es (txl ps (min ps.length 6)))) :: (q8, 27, #[.slice ro (es.map trm).length rc]) :: ((NK ++ (Lt ++ RL)) ++ ((tb.q, 61, tcell tb (nms es) (.slice tp2 es.length tc3)) :: (Lr4 ++ PB es)))) w17 := HA.perm (HA.addL h16 hbK hNK) (perm_ref [(kb, 4, boc (knownF es (txl ps (min ps.length 6)))), (q8, 27, #[.slice ro (es.map trm).length rc])] (Lt ++ RL) ((tb.q, 61, tcell tb (nms es) (.slice tp2 es.length tc3)) :: (Lr4 ++ PB es)) NK)
 refine zwv (.slice oK es.length cK) ?_
 refine znt ?_
 refine wp_seq ?_
 refine zsr ?_
 refine zwv (.slice (some ⟨kb, 0, none⟩) es.length es.length) ?_
 refine zwv (iN .i64 es.length) ?_
 refine zwv (.slice oK es.length cK) ?_
 refine zwv (iN .i64 es.length) ?_
 refine zwu (run_nei (k := .i64) (a := es.length) (b := es.length) false (by simp)) ?_
 refine znt ?_
 refine zcf ?_
 refine wp_skip ?_
 refine then_at rfl ?_
 refine wp_seq ?_
 refine zsr ?_
 refine zwv (iN .i64 0) ?_
 refine zna ⟨(.slice o al.length c :: .slice po ps.length pc :: un :: un :: .bool false :: pt tb.q :: pt q8 :: .bool true :: .slice o9 (txl ps (min ps.length 6)).length c9 :: .string (txw ps (min ps.length 6)) :: .slice (some ⟨kb, 0, none⟩) es.length es.length :: .slice oK es.length cK :: iN .i64 0 :: .tuple #[pt tb.q, .agg #[.slice ro (es.map trm).length rc], .bool true] :: .slice o al.length c :: .tuple #[pt tb.q, .agg #[.slice ro (es.map trm).length rc], .bool true] :: pt tb.q :: .agg #[.slice ro (es.map trm).length rc] :: .bool true :: .bool true :: .bool false :: .tuple #[.slice o9 (txl ps (min ps.length 6)).length c9, .string (txw ps (min ps.length 6))] :: .slice po ps.length pc :: .tuple #[.slice o9 (txl ps (min ps.length 6)).length c9, .string (txw ps (min ps.length 6))] :: .slice o9 (txl ps (min ps.length 6)).length c9 :: .string (txw ps (min ps.length 6)) :: pt tb.q :: .slice o9 (txl ps (min ps.length 6)).length c9 :: .slice (some ⟨kb, 0, none⟩) es.length es.length :: .agg (#[.slice ro (es.map trm).length rc]) :: .slice o9 (txl ps (min ps.length 6)).length c9 :: .slice oK es.length cK :: .slice (some ⟨kb, 0, none⟩) es.length es.length :: iN .i64 es.length :: .slice oK es.length cK :: iN .i64 es.length :: .bool false :: List.replicate 16 un).toArray, []⟩ ?_
 refine wp_block ?_
 refine wp_count (fun i A w' => ∃ u19 : Nat → Value, A = ⟨(.slice o al.length c :: .slice po ps.length pc :: un :: un :: u19 4 :: pt tb.q :: pt q8 :: .bool true :: .slice o9 (txl ps (min ps.length 6)).length c9 :: .string (txw ps (min ps.length 6)) :: .slice (some ⟨kb, 0, none⟩) es.length es.length :: .slice oK es.length cK :: iN .i64 i :: .tuple #[pt tb.q, .agg #[.slice ro (es.map trm).length rc], .bool true] :: .slice o al.length c :: .tuple #[pt tb.q, .agg #[.slice ro (es.map trm).length rc], .bool true] :: pt tb.q :: .agg #[.slice ro (es.map trm).length rc] :: .bool true :: .bool true :: .bool false :: .tuple #[.slice o9 (txl ps (min ps.length 6)).length c9, .string (txw ps (min ps.length 6))] :: .slice po ps.length pc :: .tuple #[.slice o9 (txl ps (min ps.length 6)).length c9, .string (txw ps (min ps.length 6))] :: .slice o9 (txl ps (min ps.length 6)).length c9 :: .string (txw ps (min ps.length 6)) :: pt tb.q :: .slice o9 (txl ps (min ps.length 6)).length c9 :: .slice (some ⟨kb, 0, none⟩) es.length es.length :: .agg (#[.slice ro (es.map trm).length rc]) :: .slice o9 (txl ps (min ps.length 6)).length c9 :: .slice oK es.length cK :: .slice (some ⟨kb, 0, none⟩) es.length es.length :: iN .i64 es.length :: .slice oK es.length cK :: iN .i64 es.length :: .bool false :: u19 37 :: u19 38 :: u19 39 :: u19 40 :: u19 41 :: u19 42 :: u19 43 :: u19 44 :: u19 45 :: u19 46 :: u19 47 :: u19 48 :: u19 49 :: u19 50 :: u19 51 :: List.replicate 1 un).toArray, []⟩ ∧ HA (zb w [] tb es) ((kb, 4, boc (knownF es (txl ps (min ps.length 6)))) :: (q8, 27, #[.slice ro (es.map trm).length rc]) :: ((NK ++ (Lt ++ RL)) ++ ((tb.q, 61, tcell tb (nms es) (.slice tp2 es.length tc3)) :: (Lr4 ++ PB es)))) w') es.length ?_ ?_ ?_
 ·exact zex h18
 ·rintro i hk _ w20 ⟨u19, rfl, hA⟩
  obtain ⟨g2, cu2, rfl, hg2, hc2⟩ := hRK.resolve_left (by omega)
  refine wp_seq ?_
  refine zsr ?_
  refine zwv (iN .i64 i) ?_
  refine zwv (.slice (some ⟨kb, 0, none⟩) es.length es.length) ?_
  refine zwv (iN .i64 es.length) ?_
  refine zwu (run_lss (k := .i64) (a := i) (b := es.length) true (decide_eq_true (by omega))) ?_
  refine znt ?_
  refine zct ?_
  refine wp_skip ?_
  refine then_at rfl ?_
  refine wp_seq ?_
  refine wp_block ?_
  refine wp_seq ?_
  refine wp_region_wk (HA (zb w [] tb es) ((kb, 4, boc (knownF es (txl ps (min ps.length 6)))) :: (q8, 27, #[.slice ro (es.map trm).length rc]) :: ((NK ++ (Lt ++ RL)) ++ ((tb.q, 61, tcell tb (nms es) (.slice tp2 es.length tc3)) :: (Lr4 ++ PB es))))) (fun A w' => A = ⟨(.slice o al.length c :: .slice po ps.length pc :: un :: un :: u19 4 :: pt tb.q :: pt q8 :: .bool true :: .slice o9 (txl ps (min ps.length 6)).length c9 :: .string (txw ps (min ps.length 6)) :: .slice (some ⟨kb, 0, none⟩) es.length es.length :: .slice (some ⟨g2, 0, none⟩) es.length cK :: iN .i64 i :: .tuple #[pt tb.q, .agg #[.slice ro (es.map trm).length rc], .bool true] :: .slice o al.length c :: .tuple #[pt tb.q, .agg #[.slice ro (es.map trm).length rc], .bool true] :: pt tb.q :: .agg #[.slice ro (es.map trm).length rc] :: .bool true :: .bool true :: .bool false :: .tuple #[.slice o9 (txl ps (min ps.length 6)).length c9, .string (txw ps (min ps.length 6))] :: .slice po ps.length pc :: .tuple #[.slice o9 (txl ps (min ps.length 6)).length c9, .string (txw ps (min ps.length 6))] :: .slice o9 (txl ps (min ps.length 6)).length c9 :: .string (txw ps (min ps.length 6)) :: pt tb.q :: .slice o9 (txl ps (min ps.length 6)).length c9 :: .slice (some ⟨kb, 0, none⟩) es.length es.length :: .agg (#[.slice ro (es.map trm).length rc]) :: .slice o9 (txl ps (min ps.length 6)).length c9 :: .slice (some ⟨g2, 0, none⟩) es.length cK :: .slice (some ⟨kb, 0, none⟩) es.length es.length :: iN .i64 es.length :: .slice (some ⟨g2, 0, none⟩) es.length cK :: iN .i64 es.length :: .bool false :: iN .i64 i :: .slice (some ⟨kb, 0, none⟩) es.length es.length :: iN .i64 es.length :: .bool true :: u19 41 :: u19 42 :: .slice (some ⟨kb, 0, none⟩) es.length es.length :: iN .i64 i :: .pointer (some ⟨kb, i, none⟩) :: .bool ((knownF es (txl ps (min ps.length 6))).getD i false) :: .slice (some ⟨g2, 0, none⟩) es.length cK :: iN .i64 i :: .pointer (some ⟨g2, i, none⟩) :: .bool ((knownF es (txl ps (min ps.length 6))).getD i false) :: .bool false :: List.replicate 1 un).toArray, []⟩ ∧ HA (zb w [] tb es) ((kb, 4, boc (knownF es (txl ps (min ps.length 6)))) :: (q8, 27, #[.slice ro (es.map trm).length rc]) :: ((NK ++ (Lt ++ RL)) ++ ((tb.q, 61, tcell tb (nms es) (.slice tp2 es.length tc3)) :: (Lr4 ++ PB es)))) w') 9 (by kernel_rfl) (by kernel_rfl) (by kernel_rfl) (by kernel_rfl) (by kernel_rfl) (hA.drew) ?_ ?_
  ·have h21 := hA.drew
   refine wk_val (i := 0) (.slice (some ⟨kb, 0, none⟩) es.length es.length) rfl rfl (by kernel_rfl) (by kernel_rfl) (fun _ _ => (by kernel_rfl)) ?_
   refine wk_val (i := 1) (iN .i64 i) rfl rfl (by kernel_rfl) (by kernel_rfl) (fun _ _ => (by kernel_rfl)) ?_
   refine wk_val (i := 2) (.pointer (some ⟨kb, i, none⟩)) rfl rfl (by kernel_rfl) (by kernel_rfl) (fun _ _ => (run_addr_slice (q := kb) (n := es.length) (m := es.length) (a := i) Tryz.underlying33 Tryz.sizeOf4 (by omega))) ?_
   refine wk_val (i := 3) (.bool ((knownF es (txl ps (min ps.length 6))).getD i false)) rfl rfl (by kernel_rfl) (by kernel_rfl) (fun w' h' => run_load1 Tryz.isAgg4 (((h'.get 0 rfl).cell i).trans (boc_get (knownF es (txl ps (min ps.length 6))) i (by rw [knownF_len hI.wf hI.wg]; omega)))) ?_
   refine wk_val (i := 4) (.slice (some ⟨g2, 0, none⟩) es.length cK) rfl rfl (by kernel_rfl) (by kernel_rfl) (fun _ _ => (by kernel_rfl)) ?_
   refine wk_val (i := 5) (iN .i64 i) rfl rfl (by kernel_rfl) (by kernel_rfl) (fun _ _ => (by kernel_rfl)) ?_
   refine wk_val (i := 6) (.pointer (some ⟨g2, i, none⟩)) rfl rfl (by kernel_rfl) (by kernel_rfl) (fun _ _ => (run_addr_slice (q := g2) (n := es.length) (m := cK) (a := i) Tryz.underlying33 Tryz.sizeOf4 (by omega))) ?_
   refine wk_val (i := 7) (.bool ((knownF es (txl ps (min ps.length 6))).getD i false)) rfl rfl (by kernel_rfl) (by kernel_rfl) (fun w' h' => run_load1 Tryz.isAgg4 (((h'.blk (g2, 4, cu2) (by simp [hg2])).cell i).trans (hc2 i hk))) ?_
   refine wk_val (i := 8) (.bool false) rfl rfl (by kernel_rfl) (by kernel_rfl) (fun _ _ => (run_neqb (b := (knownF es (txl ps (min ps.length 6))).getD i false) (by kernel_rfl) (by kernel_rfl))) ?_
   refine wk_end fun w22 hbx hsx => ?_
   have h23 := HA.keep _ _ h21 hbx
   exact ⟨by kernel_rfl, h23⟩
  ·rintro _ w24 ⟨rfl, h25⟩
   refine then_at rfl ?_
   refine zcf ?_
   refine wp_skip ?_
   refine block_normal ?_
   refine then_at rfl ?_
   refine wl_region ?_
   refine zwv (iN .i64 i) ?_
   refine zwu (run_add (k := .i64) (a := i) (b := 1) (by simp only [top]; omega)) ?_
   refine zwv (iN .i64 (i + 1)) ?_
   refine wl_nil ?_
   exact then_I (zex h25)
 ·rintro _ w26 ⟨u19, rfl, hA⟩
  refine wp_seq ?_
  refine zsr ?_
  refine zwv (iN .i64 es.length) ?_
  refine zwv (.slice (some ⟨kb, 0, none⟩) es.length es.length) ?_
  refine zwv (iN .i64 es.length) ?_
  refine zwu (run_lss (k := .i64) (a := es.length) (b := es.length) false (decide_eq_false (by omega))) ?_
  refine znt ?_
  refine zcf ?_
  refine wp_exit ?_
  repeat first | refine then_exit ?_ | refine block_exit ?_ | refine block_exit_ne (by decide) ?_
  refine then_at rfl ?_
  refine zsr ?_
  refine zwc hA enter8 (works_any w26) ?_
  intro w27 h28
  refine zwv (.bool true) ?_
  refine znt ?_
  refine wp_ret ?_
  repeat first | refine then_ret ?_ | refine block_ret ?_
  exact bodyPost_ret (by kernel_rfl) rfl ⟨rfl, h28.old.old⟩
end Go.Proofs.YtihfeoanognonaaGreat
