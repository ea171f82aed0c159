/-
  A table that is copied.
-/
import Derived.Test.YtoogiblkommdfaaGreatTCa
import Derived.Test.YtoogiblkommdfaaGreatWZ
import Derived.Test.YtoogiblkommdfaaGreatGF
set_option linter.unusedVariables false
namespace Go.Proofs.YtoogiblkommdfaaGreat
open Go.RowKit

theorem HA.ownMap {w0 w : World} {M : ML} {L : BL} (h : HA ⟨w0, M⟩ L w) (es : Array MapEntry) (c : Nat) : HA ⟨w0, (w.heap.size, es, c) :: M⟩ L (w.alloc (.map es c)) := by
  have ho := h.old.alloc (.map es c)
  refine ⟨⟨ho.old, fun m hm => ?_, fun m hm => ?_, ?_⟩, fun x hx => (h.blk x hx).alloc _, h.own, h.nd⟩
  · rcases List.mem_cons.1 hm with rfl | hm
    · exact heap_alloc_last w _
    · exact ho.maps m hm
  · rcases List.mem_cons.1 hm with rfl | hm
    · exact h.old.size
    · exact ho.mown m hm
  · rw [show (Base.mk w0 ((w.heap.size, es, c) :: M)).M = (w.heap.size, es, c) :: M from rfl, List.map_cons, List.nodup_cons]
    refine ⟨fun hm => ?_, h.old.mnd⟩
    obtain ⟨x, hx, e⟩ := List.mem_map.1 hm
    have := lt_of_block (h.old.maps x hx)
    omega
set_option maxRecDepth 100000 in
set_option maxHeartbeats 2000000 in
theorem cmap324 {w0 w : World} {M : ML} {L : BL} (H0 : HA ⟨w0, M⟩ L w) {b : Nat} {es : Array MapEntry} {clock : Nat} (hb : w.heap[b]? = some (.map es clock)) :
    Calls Tryz.prog 375 #[.map (some b)] w fun e w' => ∃ r, e = .returned (.map (some r)) ∧ HA ⟨w0, (r, es, clock) :: M⟩ L w' := by
  go_enter Tryz.func375, Tryz.ntmps375
  refine wp_seq (wl_region ?_)
  refine zv (.map none) ?_
  refine wl_nil (then_at rfl (wp_seq (wp_seq (wl_region ?_))))
  refine zv (.map (some b)) ?_
  refine zv (.bool false) ?_
  refine wl_nil (then_at rfl ?_)
  refine wp_cond_false ky ?_
  refine wp_skip (then_at rfl (wp_seq (wl_region ?_)))
  refine zv (.map (some b)) ?_
  refine zv (.iface 142 (.map (some b))) ?_
  refine wl_any ky (run_clone68 (T := 142) (b := b) (es := es) (clock := clock) ky hb) ?_
  have h1 := HA.ownMap H0 es clock
  refine zu (.map (some w.heap.size)) (run_asMap71 ky) ?_
  refine zv (.map (some w.heap.size)) ?_
  refine wl_nil (then_at rfl ?_)
  refine wp_ret ?_
  repeat first | refine then_ret ?_ | refine block_ret ?_
  exact bodyPost_ret (v := .map (some w.heap.size)) ky rfl ⟨_, rfl, h1⟩
set_option maxRecDepth 100000 in
set_option maxHeartbeats 2000000 in
theorem cmap325 {w0 w : World} {M : ML} {L : BL} (H0 : HA ⟨w0, M⟩ L w) {b : Nat} {es : Array MapEntry} {clock : Nat} (hb : w.heap[b]? = some (.map es clock)) :
    Calls Tryz.prog 376 #[.map (some b)] w fun e w' => ∃ r, e = .returned (.map (some r)) ∧ HA ⟨w0, (r, es, clock) :: M⟩ L w' := by
  go_enter Tryz.func376, Tryz.ntmps376
  refine wp_seq (wl_region ?_)
  refine zv (.map none) ?_
  refine wl_nil (then_at rfl (wp_seq (wp_seq (wl_region ?_))))
  refine zv (.map (some b)) ?_
  refine zv (.bool false) ?_
  refine wl_nil (then_at rfl ?_)
  refine wp_cond_false ky ?_
  refine wp_skip (then_at rfl (wp_seq (wl_region ?_)))
  refine zv (.map (some b)) ?_
  refine zv (.iface 143 (.map (some b))) ?_
  refine wl_any ky (run_clone68 (T := 143) (b := b) (es := es) (clock := clock) ky hb) ?_
  have h1 := HA.ownMap H0 es clock
  refine zu (.map (some w.heap.size)) (run_asMap72 ky) ?_
  refine zv (.map (some w.heap.size)) ?_
  refine wl_nil (then_at rfl ?_)
  refine wp_ret ?_
  repeat first | refine then_ret ?_ | refine block_ret ?_
  exact bodyPost_ret (v := .map (some w.heap.size)) ky rfl ⟨_, rfl, h1⟩
set_option maxRecDepth 100000 in
set_option maxHeartbeats 2000000 in
theorem crow {z : Base} {w : World} {L : BL} (H0 : HA z L w) (g cap : Nat) (es : List Ent) (cur : Array Value) (hg : ∀ w' L', HA z L' w' → Blk w' g 150 cur) (htk : cur.toList.take es.length = es.map ev) (hpos : 0 < es.length) (hm : es.length ≤ 60000) :
    Calls Tryz.prog 374 #[.slice (some ⟨g, 0, none⟩) es.length cap] w fun e w' => ∃ g' c' cur', e = .returned (.slice (some ⟨g', 0, none⟩) es.length c') ∧ cur'.toList.take es.length = es.map ev ∧ HA z ((g', 150, cur') :: L) w' := by
  go_enter Tryz.func374, Tryz.ntmps374
  refine wp_seq (wl_region ?_)
  refine zv (.slice none 0 0) ?_
  refine wl_nil (then_at rfl (wp_seq (wp_seq (wl_region ?_))))
  refine zv (.slice (some ⟨g, 0, none⟩) es.length cap) ?_
  refine zv (.bool false) ?_
  refine wl_nil (then_at rfl ?_)
  refine wp_cond_false ky ?_
  refine wp_skip (then_at rfl (wp_seq (wl_region ?_)))
  refine wl_mks (n := 0) (m := 0) (c := #[]) H0 150 ky ky ?_
  intro q1 w2 (h3 : HA z ((q1, 150, #[]) :: L) w2)
  refine zv (.slice (some ⟨g, 0, none⟩) es.length cap) ?_
  have hR0 : Row 150 1 (.slice (some ⟨q1, 0, none⟩) 0 0) 0 [] [(q1, 150, #[])] := ⟨rfl, .inr ⟨_, _, _, rfl, rfl, Nat.le_refl _, by decide, rfl, rfl⟩⟩
  refine wl_appendR (p := g) (m := es.length) (c := cap) (news := es.map ev) (Lr := [(q1, 150, #[])]) (L := L) hR0 h3 (by decide) _ 16 Tryz.underlying141 info69 rfl (by decide) ky ky ky (by simp) (fun j u hu => ?_) (fun u hu => by obtain ⟨e, _, rfl⟩ := List.mem_map.1 hu; exact ev_one e) (by unfold maxLen; omega) (by omega) hpos ?_
  · have hj : j < es.length := by have := (List.getElem?_eq_some_iff.1 hu).1; simpa using this
    rw [(hg w2 _ h3).cell j]
    rw [List.getElem?_map] at hu
    obtain ⟨e, he, rfl⟩ := Option.map_eq_some_iff.1 hu
    exact row_get htk he
  intro v2 w4 Lr2 hR2 h5
  obtain ⟨p2, c2, rfl⟩ := hR2.form
  refine zv (.slice p2 (0 + es.length) c2) ?_
  refine wl_nil (then_at rfl ?_)
  refine wp_ret ?_
  repeat first | refine then_ret ?_ | refine block_ret ?_
  obtain ⟨_, ⟨_, hz, _⟩ | ⟨g', c', cur', e1, rfl, _, _, _, e2⟩⟩ := hR2
  · omega
  · obtain ⟨rfl, _, rfl⟩ := Value.slice.inj e1
    exact bodyPost_ret (v := .slice (some ⟨g', 0, none⟩) (0 + es.length) c2) ky rfl ⟨g', c2, cur', by rw [Nat.zero_add], by simpa using e2, h5⟩
end Go.Proofs.YtoogiblkommdfaaGreat

namespace Go.Proofs.YtoogiblkommdfaaGreat
open Go.RowKit

set_option maxRecDepth 100000 in
set_option maxHeartbeats 2000000 in
theorem Copy_TV {w : World} {t : Tb} {es : List Ent} (h : TV w t es) (hm : es.length ≤ 60000) (hpos : 0 < es.length) :
    Calls Tryz.prog 367 #[pt t.q] w fun e w' => ∃ tc : Tb, e = .returned (pt tc.q) ∧ TV w' tc es ∧ Below w.heap.size w w' := by
  have H0 : HA ⟨w, []⟩ [] w := HA.start w
  obtain ⟨vr, hq, hrow⟩ := h.row
  have hmb := h.mb
  have hmm := h.mm
  obtain ⟨g, cap, cur, rfl, hg, htk⟩ := hrow.resolve_left (fun e => by rw [e.1] at hpos; cases hpos)
  go_enter Tryz.func367, Tryz.ntmps367
  refine wp_seq (wl_region ?_)
  refine zv (.pointer none) ?_
  refine wl_nil (then_at rfl (wp_seq (wp_seq (wl_region ?_))))
  refine zv (.pointer (some ⟨t.q, 0, none⟩)) ?_
  refine wl_call (v := .bool false) H0 ky enter80 #[.pointer (some ⟨t.q, 0, none⟩)] ky (none_no (hq.keep H0.old.old)) ?_
  intro w1 h2
  refine wl_nil (then_at rfl ?_)
  refine wp_cond_false ky ?_
  refine wp_skip (then_at rfl (wp_seq ?_))
  refine wp_region_wx (fun w' => Below w.heap.size w w') (fun AQ w' => ∃ (g69 : Nat) (c70 : Nat) (cu71 : Array Value) (rb80 : Nat) (rm88 : Nat) (q96 : Nat), AQ = ⟨(pt t.q :: un :: pt q96 :: pt t.q :: .bool false :: pt t.q :: pt t.q :: pt t.q :: .slice (some ⟨g, 0, none⟩) es.length cap :: .slice (some ⟨g69, 0, none⟩) es.length c70 :: pt t.q :: pt t.q :: .pointer (some ⟨t.q, 1, none⟩) :: iN .i64 (nms es) :: pt t.q :: pt t.q :: .pointer (some ⟨t.q, 2, none⟩) :: .map (some t.mb) :: .map (some rb80) :: pt t.q :: pt t.q :: .pointer (some ⟨t.q, 3, none⟩) :: .map (some t.mm) :: .map (some rm88) :: .agg #[.slice (some ⟨g69, 0, none⟩) es.length c70, iN .i64 (nms es), .map (some rb80), .map (some rm88)] :: pt q96 :: List.replicate 0 un).toArray, []⟩ ∧ (cu71.toList.take es.length = es.map ev) ∧ HA ⟨w, (rm88, eM es, (mks es 0).length) :: (rb80, eB es, (dts es 0).length) :: []⟩ ((q96, 145, #[.slice (some ⟨g69, 0, none⟩) es.length c70, iN .i64 (nms es), .map (some rb80), .map (some rm88)]) :: (g69, 150, cu71) :: []) w') 22 ky ky ky ky ky (h2.drew.old.old) ?_ ?_
  · have h3 := h2.drew
    refine zp 0 (.pointer (some ⟨t.q, 0, none⟩)) ?_
    refine zp 1 (.pointer (some ⟨t.q, 0, none⟩)) ?_
    refine zp 2 (.pointer (some ⟨t.q, 0, none⟩)) ?_
    refine wx_val (i := 3) (.slice (some ⟨g, 0, none⟩) es.length cap) rfl rfl ky ky (fun w' h' => run_load1 (fun w => Tryz.isAgg141 w) ky (((hq.keep h').cell 0).trans rfl)) ?_
    refine zp 5 (.pointer (some ⟨t.q, 0, none⟩)) ?_
    refine zp 6 (.pointer (some ⟨t.q, 0, none⟩)) ?_
    refine zp 7 (.pointer (some ⟨t.q, 1, none⟩)) ?_
    refine wx_val (i := 8) (iN .i64 (nms es)) rfl rfl ky ky (fun w' h' => run_load1 (fun w => Tryz.isAgg3 w) ky (((hq.keep h').cell 1).trans rfl)) ?_
    refine zp 9 (.pointer (some ⟨t.q, 0, none⟩)) ?_
    refine zp 10 (.pointer (some ⟨t.q, 0, none⟩)) ?_
    refine zp 11 (.pointer (some ⟨t.q, 2, none⟩)) ?_
    refine wx_val (i := 12) (.map (some t.mb)) rfl rfl ky ky (fun w' h' => run_load1 (fun w => Tryz.isAgg142 w) ky (((hq.keep h').cell 2).trans rfl)) ?_
    refine zp 14 (.pointer (some ⟨t.q, 0, none⟩)) ?_
    refine zp 15 (.pointer (some ⟨t.q, 0, none⟩)) ?_
    refine zp 16 (.pointer (some ⟨t.q, 3, none⟩)) ?_
    refine wx_val (i := 17) (.map (some t.mm)) rfl rfl ky ky (fun w' h' => run_load1 (fun w => Tryz.isAgg143 w) ky (((hq.keep h').cell 3).trans rfl)) ?_
    refine wx_one 4 ky ?_
    refine ex_callx rfl ky h3 enter374 #[.slice (some ⟨g, 0, none⟩) es.length cap] ky (fun w74 h75 => crow h75 g cap es cur (fun w' L' H' => hg.keep H'.old.old) htk hpos hm) ?_
    rintro w74 h75 _ w76 ⟨g69, c70, cu71, rfl, hk72, h73⟩
    have h77 : HA ⟨w, []⟩ ((g69, 150, cu71) :: []) w76 := h73
    refine ⟨_, rfl, _, .inr rfl, h77.old.old, ?_⟩
    refine wx_one 13 ky ?_
    refine ex_callx rfl ky h77 enter375 #[.map (some t.mb)] ky (fun w82 h83 => cmap324 h83 ((h83.old.old.block t.mb (lt_of_block hmb)).trans hmb)) ?_
    rintro w82 h83 _ w84 ⟨rb80, rfl, h81⟩
    have h85 : HA ⟨w, (rb80, eB es, (dts es 0).length) :: []⟩ ((g69, 150, cu71) :: []) w84 := h81
    refine ⟨_, rfl, _, .inr rfl, h85.old.old, ?_⟩
    refine wx_one 18 ky ?_
    refine ex_callx rfl ky h85 enter376 #[.map (some t.mm)] ky (fun w90 h91 => cmap325 h91 ((h91.old.old.block t.mm (lt_of_block hmm)).trans hmm)) ?_
    rintro w90 h91 _ w92 ⟨rm88, rfl, h89⟩
    have h93 : HA ⟨w, (rm88, eM es, (mks es 0).length) :: (rb80, eB es, (dts es 0).length) :: []⟩ ((g69, 150, cu71) :: []) w92 := h89
    refine ⟨_, rfl, _, .inr rfl, h93.old.old, ?_⟩
    refine zp 19 (.agg #[.slice (some ⟨g69, 0, none⟩) es.length c70, iN .i64 (nms es), .map (some rb80), .map (some rm88)]) ?_
    refine wx_one 20 ky ?_
    refine ex_makeT (c := #[.slice (some ⟨g69, 0, none⟩) es.length c70, iN .i64 (nms es), .map (some rb80), .map (some rm88)]) rfl ky h93 145 (fun q => .pointer (some ⟨q, 0, none⟩)) (fun _ => ky) ?_
    intro q96 w94 (h95 : HA ⟨w, (rm88, eM es, (mks es 0).length) :: (rb80, eB es, (dts es 0).length) :: []⟩ ((q96, 145, #[.slice (some ⟨g69, 0, none⟩) es.length c70, iN .i64 (nms es), .map (some rb80), .map (some rm88)]) :: (g69, 150, cu71) :: []) w94)
    refine ⟨_, .inr rfl, h95.old.old, ?_⟩
    refine zp 21 (.pointer (some ⟨q96, 0, none⟩)) ?_
    refine wx_end fun w97 hbx _ => ?_
    have h98 := HA.keep _ _ h95 hbx
    exact ⟨g69, c70, cu71, rb80, rm88, q96, by kernel_rfl, hk72, h98⟩
  · rintro _ w99 ⟨g69, c70, cu71, rb80, rm88, q96, rfl, hk72, h100⟩
    refine then_at rfl ?_
    refine wp_ret ?_
    repeat first | refine then_ret ?_ | refine block_ret ?_
    exact bodyPost_ret (v := pt q96) ky rfl ⟨⟨q96, rb80, rm88⟩, rfl, ⟨⟨_, h100.get 0 rfl, .inr ⟨g69, c70, cu71, rfl, h100.get 1 rfl, hk72⟩⟩, fun x hx => (h.pbs x hx).keep h100.old.old, h100.old.maps (rb80, eB es, (dts es 0).length) (by simp), h100.old.maps (rm88, eM es, (mks es 0).length) (by simp)⟩, h100.old.old⟩
theorem PH.tv {w0 w : World} {M : ML} {p : Pr} {A : List Ent} {n : Nat} {L : BL} (h : PH w0 M p A n L w) : ∃ es, Z es = A ∧ OkT es ∧ TV w p.t es := by
  obtain ⟨es, jv, xs, Lj, h1, h2, h3, H⟩ := h
  exact ⟨es, h1, h2, H.view⟩
set_option maxRecDepth 100000 in
set_option maxHeartbeats 2000000 in
theorem terms_TV {w : World} {t : Tb} {es : List Ent} (hT : TV w t es) (hm : es.length ≤ 60000) (hpos : 0 < es.length) :
    Calls Tryz.prog 362 #[.agg #[pt t.q]] w fun e w' => ∃ tc : Tb, e = .returned (pt tc.q) ∧ TV w' tc es ∧ Below w.heap.size w w' := by
  have H0 := HA.start w
  go_enter Tryz.func362, Tryz.ntmps362
  refine wp_seq (wl_region ?_)
  refine wl_make (c := #[.pointer (some ⟨t.q, 0, none⟩)]) H0 114 ky ky ?_
  intro q1 w2 (h3 : HA (bs w) [(q1, 114, #[.pointer (some ⟨t.q, 0, none⟩)])] w2)
  refine zv (.pointer none) ?_
  refine wl_nil (then_at rfl (wp_seq (wl_region ?_)))
  refine zv (.pointer (some ⟨q1, 0, none⟩)) ?_
  refine zu (.pointer (some ⟨t.q, 0, none⟩)) (run_load1 (fun w => Tryz.isAgg82 w) ky (((h3.get 0 rfl).cell 0).trans rfl)) ?_
  refine wl_callx ky enter367 #[.pointer (some ⟨t.q, 0, none⟩)] ky (Copy_TV (hT.keep h3.old.old) hm hpos) ?_
  rintro _ w4 ⟨tc, rfl, hTc, hbc⟩
  refine ⟨_, rfl, ?_⟩
  have hcc := HA.keep _ _ h3 hbc
  refine zv (.pointer (some ⟨tc.q, 0, none⟩)) ?_
  refine wl_nil (then_at rfl ?_)
  refine wp_ret ?_
  repeat first | refine then_ret ?_ | refine block_ret ?_
  exact bodyPost_ret (v := pt tc.q) ky rfl ⟨tc, rfl, hTc, hcc.old.old⟩
set_option maxRecDepth 100000 in
set_option maxHeartbeats 2000000 in
theorem Table_P {w0 w : World} {M : ML} {p : Pr} {A : List Ent} {n : Nat} {L : BL} (H : PH w0 M p A n L w) {es : List Ent} (hT : TV w p.t es) (hm : es.length ≤ 60000) (hpos : 0 < es.length) :
    Calls Tryz.prog 35 #[pt p.q] w fun e w' => ∃ tc : Tb, e = .returned (pt tc.q) ∧ TV w' tc es ∧ Below w.heap.size w w' := by
  have H0 := HA.start w
  go_enter Tryz.func35, Tryz.ntmps35
  refine wp_seq (wl_region ?_)
  refine zv (.pointer none) ?_
  refine wl_nil (then_at rfl (wp_seq (wp_seq (wl_region ?_))))
  refine zv (.pointer (some ⟨p.q, 0, none⟩)) ?_
  refine wl_call (v := .bool false) H0 ky enter56 #[.pointer (some ⟨p.q, 0, none⟩)] ky (none_k (PH.kit (PH.keep H H0.old.old))) ?_
  intro w1 h2
  refine wl_nil (then_at rfl ?_)
  refine wp_cond_false ky ?_
  refine wp_skip (then_at rfl (wp_seq (wl_region ?_)))
  refine zv (.pointer (some ⟨p.q, 0, none⟩)) ?_
  refine zv (.pointer (some ⟨p.q, 0, none⟩)) ?_
  refine zv (.pointer (some ⟨p.q, 0, none⟩)) ?_
  refine zu (.iface 114 (.agg #[pt p.t.q])) (run_load1 (fun w => Tryz.isAgg110 w) ky (PH.kit (PH.keep H h2.old.old))) ?_
  refine wl_invoke (f := 362) (T := 114) (rv := .agg #[.pointer (some ⟨p.t.q, 0, none⟩)]) (args := #[]) ky (fun _ => by kernel_rfl) ky ky (terms_TV (hT.keep h2.old.old) hm hpos) ?_
  rintro _ w3 ⟨tc, rfl, hTc, hbc⟩
  refine ⟨_, rfl, ?_⟩
  have hcc := HA.keep _ _ h2 hbc
  refine zv (.pointer (some ⟨tc.q, 0, none⟩)) ?_
  refine wl_nil (then_at rfl ?_)
  refine wp_ret ?_
  repeat first | refine then_ret ?_ | refine block_ret ?_
  exact bodyPost_ret (v := pt tc.q) ky rfl ⟨tc, rfl, hTc, hcc.old.old⟩
end Go.Proofs.YtoogiblkommdfaaGreat
