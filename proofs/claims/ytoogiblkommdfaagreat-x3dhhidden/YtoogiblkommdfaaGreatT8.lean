/-
  join: the terms of the parts, and what is made of them.
-/
import Derived.Test.YtoogiblkommdfaaGreatT7
set_option linter.unusedVariables false
namespace Go.Proofs.YtoogiblkommdfaaGreat
open Go.RowKit

section
variable {w0 w : World} {M : ML} {t : Tb} {es : List Ent} {L : BL}
theorem HA.upM (rc : Rec) (n : Nat) (H : HA (zb w0 M t es) L w) : HA ⟨w0, (t.mb, eB es, (dts es 0).length) :: (t.mm, entA (recK (mks es 0 ++ [(rc, n)])), (mks es 0).length + 1) :: M⟩ L (World.setMap w t.mm (entA (recK (mks es 0 ++ [(rc, n)]))) ((mks es 0).length + 1)) := H.setMap 1 rfl
theorem zb_mk' (k n : Nat) (s : ByteArray) (ps : List Nat) (b : Nat) : zb w0 M t (es ++ [.mk k n s ps b]) = ⟨w0, (t.mb, eB es, (dts es 0).length) :: (t.mm, entA (recK (mks es 0 ++ [(recOf k n s ps, es.length)])), (mks es 0).length + 1) :: M⟩ := by
  rw [zb_mk]; rfl
end
def joinN (es : List Ent) (k : Nat) (ns : List Nat) : Nat := if k = 4 then dhN es (ns.getD 1 0) else 0
def joinS (k : Nat) (s : ByteArray) : ByteArray := if k = 4 then { data := #[] } else s
def joinP (es : List Ent) (k : Nat) (ns : List Nat) : List Nat := if k = 4 then dhP es (ns.getD 0 0) (ns.getD 1 0) else ns
set_option maxRecDepth 100000 in
set_option maxHeartbeats 2000000 in
theorem join_a {w0 w : World} {M : ML} {t : Tb} {es : List Ent} {L : BL} (H : TH w0 M t es L w) (hwf : Wf es) (k : Nat) (label : ByteArray) (hlab : label.size ≤ 281474976710656) (ss : List ByteArray) (o : Option Addr) (c : Nat) (hp : ss = [] ∨ ∃ pq cs, o = some ⟨pq, 0, none⟩ ∧ PreS cs ss ∧ (pq, 9, cs) ∈ L) (hss : ∀ i, (ss.getD i ByteArray.empty).size ≤ 281474976710656) (hsl : ss.length ≤ 100) (hf : es.length < 58000) (hk4 : ¬ k = 4) {x : Nat} (hl0 : lkR (mks (pfE es ss ss.length) 0) (recOf k (joinN (pfE es ss ss.length) k (pfN es ss ss.length)) (joinS k label) (joinP (pfE es ss ss.length) k (pfN es ss ss.length))) = some x) :
    Calls Tryz.prog 372 #[pt t.q, iN .i64 k, .string label, .slice o ss.length c] w fun e w' =>
      (∃ x, lkR (mks (pfE es ss ss.length) 0) (recOf k (joinN (pfE es ss ss.length) k (pfN es ss ss.length)) (joinS k label) (joinP (pfE es ss ss.length) k (pfN es ss ss.length))) = some x ∧ e = .returned (.tuple #[iN .i64 x, .bool true]) ∧ TH w0 M t (pfE es ss ss.length) L w') ∨
      (lkR (mks (pfE es ss ss.length) 0) (recOf k (joinN (pfE es ss ss.length) k (pfN es ss ss.length)) (joinS k label) (joinP (pfE es ss ss.length) k (pfN es ss ss.length))) = none ∧ ∃ b, e = .returned (.tuple #[iN .i64 (pfE es ss ss.length).length, .bool true]) ∧ TH w0 M t ((pfE es ss ss.length) ++ [.mk k (joinN (pfE es ss ss.length) k (pfN es ss ss.length)) (joinS k label) (joinP (pfE es ss ss.length) k (pfN es ss ss.length)) b]) L w') := by
  have e1 : joinN (pfE es ss ss.length) k (pfN es ss ss.length) = 0 := if_neg hk4
  have e2 : joinS k label = label := if_neg hk4
  have e3 : joinP (pfE es ss ss.length) k (pfN es ss ss.length) = (pfN es ss ss.length) := if_neg hk4
  rw [e1, e2, e3] at hl0 ⊢
  have hl := hl0
  obtain ⟨v0, Lr0, hR0, H0⟩ := H
  go_enter Tryz.func372, Tryz.ntmps372
  refine wp_seq (wl_region ?_)
  refine zv (iN .i64 0) ?_
  refine zv (.bool false) ?_
  refine wl_nil (then_at rfl (wp_seq (wl_region ?_)))
  refine zv (.slice o ss.length c) ?_
  refine zv (iN .i64 ss.length) ?_
  refine wl_mks (n := 0) (m := ss.length) (c := intc (List.replicate ss.length 0)) H0 3 ky (run_mk29 (k := .i64) (m := 0) (c := ss.length) ky ky (by omega) (by omega)) ?_
  intro q1 w2 (h3 : HA (zb w0 M t es) ((q1, 3, intc (List.replicate ss.length 0)) :: (t.q, 145, tcell t (nms es) v0) :: (Lr0 ++ (PB es ++ L))) w2)
  refine zv (.slice (some ⟨q1, 0, none⟩) 0 ss.length) ?_
  refine wl_nil (then_at rfl (wp_seq (wp_seq (wl_region ?_))))
  refine zv (.slice o ss.length c) ?_
  refine zv (iN .i64 ss.length) ?_
  refine zv (iN .i64 0) ?_
  refine wl_nil (then_at rfl ?_)
  have HT0 : TH w0 M t (pfE es ss 0) (((q1, 3, intc ((pfN es ss 0) ++ List.replicate (ss.length - 0) 0))) :: L) w2 := TH.dn hR0 h3
  obtain ⟨nb, enb⟩ : ∃ nb, nb = q1 := ⟨_, rfl⟩
  rw [← enb] at HT0 ⊢
  clear enb
  refine wp_block ?_
  refine wp_count (fun i A w' => ∃ u4 : Nat → Value, A = ⟨(pt t.q :: iN .i64 k :: .string label :: .slice o ss.length c :: un :: un :: un :: un :: u4 8 :: u4 9 :: .slice (some ⟨nb, 0, none⟩) i ss.length :: un :: u4 12 :: u4 13 :: u4 14 :: un :: un :: un :: un :: un :: un :: .slice o ss.length c :: iN .i64 ss.length :: .slice (some ⟨nb, 0, none⟩) 0 ss.length :: .slice o ss.length c :: iN .i64 ss.length :: iN .i64 i :: u4 27 :: u4 28 :: u4 29 :: u4 30 :: u4 31 :: u4 32 :: u4 33 :: u4 34 :: u4 35 :: u4 36 :: u4 37 :: u4 38 :: u4 39 :: u4 40 :: u4 41 :: u4 42 :: List.replicate 44 un).toArray, []⟩ ∧ TH w0 M t (pfE es ss i) ((nb, 3, intc ((pfN es ss i) ++ List.replicate (ss.length - i) 0)) :: L) w') ss.length ?_ ?_ ?_
  · exact ⟨fun ii => (([(8, iN .i64 0), (9, .bool false), (12, undef), (13, undef), (14, undef), (27, undef), (28, undef), (29, undef), (30, undef), (31, undef), (32, undef), (33, undef), (34, undef), (35, undef), (36, undef), (37, undef), (38, undef), (39, undef), (40, undef), (41, undef), (42, undef)] : List (Nat × Value)).find? (·.1 == ii)).elim undef (·.2), by kernel_rfl, HT0⟩
  · rintro i hk _ w5 ⟨u4, rfl, hT⟩
    obtain ⟨pq, cs, rfl, hps, hm⟩ := hp.resolve_left (by intro e; rw [e] at hk; simp at hk)
    have hpl := pfE_len es ss i
    refine wp_seq (wl_region ?_)
    refine zu (.bool true) (run_lss (k := .i64) (a := i) (b := ss.length) ky ky true (decide_eq_true (by omega))) ?_
    refine wl_nil (then_at rfl (wp_seq ?_))
    refine wp_cond_true ky ?_
    refine wp_skip (then_at rfl (wp_seq (wp_block (wp_seq (wl_region ?_)))))
    refine zu (.pointer (some ⟨pq, i, none⟩)) (run_addr_slice (q := pq) (n := ss.length) (m := c) (a := i) Tryz.underlying86 (fun w => Tryz.sizeOf9 w) ky ky (by omega)) ?_
    refine zu (.string (ss.getD i ByteArray.empty)) (run_load1 (fun w => Tryz.isAgg9 w) ky (((hT.blk (x := (pq, 9, cs)) (List.mem_cons_of_mem _ hm)).cell i).trans (hps i hk))) ?_
    refine zv (.string (ss.getD i ByteArray.empty)) ?_
    refine wl_nil (then_at rfl (wp_seq (wl_region ?_)))
    refine zv (.pointer (some ⟨t.q, 0, none⟩)) ?_
    refine zv (.string (ss.getD i ByteArray.empty)) ?_
    refine wl_callx ky enter379 #[.pointer (some ⟨t.q, 0, none⟩), .string (ss.getD i ByteArray.empty)] ky (part_any hT (by omega) (ss.getD i ByteArray.empty) (hss i)) ?_
    rintro _ w6 ⟨rfl, hT1⟩
    refine ⟨_, rfl, ?_⟩
    obtain ⟨v, Lr, hR, H1⟩ := hT1.up
    refine zv (.tuple #[iN .i64 ((partF (pfE es ss i) (ss.getD i ByteArray.empty)).2), .bool true]) ?_
    refine zv (iN .i64 ((partF (pfE es ss i) (ss.getD i ByteArray.empty)).2)) ?_
    refine zv (.bool true) ?_
    refine zv (iN .i64 ((partF (pfE es ss i) (ss.getD i ByteArray.empty)).2)) ?_
    refine zv (.bool true) ?_
    refine wl_nil (then_at rfl (wp_seq (wp_seq (wl_region ?_))))
    refine zv (.bool true) ?_
    refine zv (.bool false) ?_
    refine wl_nil (then_at rfl ?_)
    refine wp_cond_false ky ?_
    refine wp_skip (then_at rfl (wl_region ?_))
    refine zv (.slice (some ⟨nb, 0, none⟩) i ss.length) ?_
    refine zv (iN .i64 ((partF (pfE es ss i) (ss.getD i ByteArray.empty)).2)) ?_
    refine wl_mks (n := 1) (m := 1) (c := intc ([(partF (pfE es ss i) (ss.getD i ByteArray.empty)).2])) H1 3 ky ky ?_
    intro q7 w8 (h9 : HA (zb w0 M t (pfE es ss (i + 1))) ((q7, 3, intc ([(partF (pfE es ss i) (ss.getD i ByteArray.empty)).2])) :: (nb, 3, intc ((pfN es ss i) ++ List.replicate (ss.length - i) 0)) :: (t.q, 145, tcell t (nms (pfE es ss (i + 1))) v) :: (Lr ++ (PB (pfE es ss (i + 1)) ++ L))) w8)
    refine wl_any ky (run_appI (m := i) (c := ss.length) (u := (partF (pfE es ss i) (ss.getD i ByteArray.empty)).2) (l := pfN es ss i ++ List.replicate (ss.length - i) 0) ky ky (h9.get 1 rfl) (h9.get 0 rfl) (by omega) (by rw [List.length_append, pfN_len, List.length_replicate]; omega)) ?_
    have h11 := h9.put 1 rfl i (iN .i64 ((partF (pfE es ss i) (ss.getD i ByteArray.empty)).2))
    rw [intc_put, pad_set _ _ _ _ (pfN_len es ss i) hk] at h11
    generalize w8.setCell ⟨nb, i, none⟩ (iN .i64 ((partF (pfE es ss i) (ss.getD i ByteArray.empty)).2)) = w10 at h11 ⊢
    have h12 : HA (zb w0 M t (pfE es ss (i + 1))) ((nb, 3, intc ((pfN es ss (i + 1)) ++ List.replicate (ss.length - (i + 1)) 0)) :: (t.q, 145, tcell t (nms (pfE es ss (i + 1))) v) :: (Lr ++ (PB (pfE es ss (i + 1)) ++ L))) w10 := h11.tl
    refine zv (.slice (some ⟨nb, 0, none⟩) (i + 1) ss.length) ?_
    refine wl_nil (block_normal (then_at rfl (wl_region ?_)))
    refine zu (iN .i64 (i + 1)) (run_add (k := .i64) (a := i) (b := 1) ky ky (by simp only [top]; omega)) ?_
    refine zv (iN .i64 (i + 1)) ?_
    refine wl_nil ?_
    exact then_I ⟨fun ii => (([(8, u4 8), (9, u4 9), (12, .string (ss.getD i ByteArray.empty)), (13, iN .i64 ((partF (pfE es ss i) (ss.getD i ByteArray.empty)).2)), (14, .bool true), (27, .bool true), (28, .pointer (some ⟨pq, i, none⟩)), (29, .string (ss.getD i ByteArray.empty)), (30, .tuple #[iN .i64 ((partF (pfE es ss i) (ss.getD i ByteArray.empty)).2), .bool true]), (31, .pointer (some ⟨t.q, 0, none⟩)), (32, .string (ss.getD i ByteArray.empty)), (33, .tuple #[iN .i64 ((partF (pfE es ss i) (ss.getD i ByteArray.empty)).2), .bool true]), (34, iN .i64 ((partF (pfE es ss i) (ss.getD i ByteArray.empty)).2)), (35, .bool true), (36, .bool true), (37, .bool false), (38, .slice (some ⟨nb, 0, none⟩) i ss.length), (39, iN .i64 ((partF (pfE es ss i) (ss.getD i ByteArray.empty)).2)), (40, .slice (some ⟨q7, 0, none⟩) 1 1), (41, .slice (some ⟨nb, 0, none⟩) (i + 1) ss.length), (42, iN .i64 (i + 1))] : List (Nat × Value)).find? (·.1 == ii)).elim undef (·.2), by kernel_rfl, TH.dn hR h12⟩
  · rintro _ w13 ⟨u4, rfl, hT⟩
    obtain ⟨v, Lr, hR, H1⟩ := hT.up
    rw [Nat.sub_self, List.replicate_zero, List.append_nil] at H1
    have hpl := pfE_len es ss ss.length
    clear hT
    refine wp_seq (wl_region ?_)
    refine zu (.bool false) (run_lss (k := .i64) (a := ss.length) (b := ss.length) ky ky false (decide_eq_false (by omega))) ?_
    refine wl_nil (then_at rfl (wp_seq ?_))
    refine wp_cond_false ky ?_
    refine wp_exit ?_
    repeat first | refine then_exit ?_ | refine block_exit ?_ | refine block_exit_ne (by decide) ?_
    refine then_at rfl (wp_seq (wl_region ?_))
    refine zv (iN .i64 k) ?_
    refine zv (.string label) ?_
    refine wl_call (v := .string label) H1 ky enter113 #[.string label] ky (clone_any label hlab w13) ?_
    intro w14 h15
    refine zv (.slice (some ⟨nb, 0, none⟩) ss.length ss.length) ?_
    refine zv (.agg #[iN .i64 k, iN .i64 0, .string label, .slice (some ⟨nb, 0, none⟩) ss.length ss.length]) ?_
    refine wl_make (c := #[iN .i64 0, iN .i64 0, .string ({ data := #[] }), .slice none 0 0]) h15 190 ky ky ?_
    intro q16 w17 (h18 : HA (zb w0 M t (pfE es ss ss.length)) ((q16, 190, #[iN .i64 0, iN .i64 0, .string ({ data := #[] }), .slice none 0 0]) :: (nb, 3, intc ((pfN es ss ss.length))) :: (t.q, 145, tcell t (nms (pfE es ss ss.length)) v) :: (Lr ++ (PB (pfE es ss ss.length) ++ L))) w17)
    refine wl_fill (c' := #[iN .i64 k, iN .i64 0, .string label, .slice (some ⟨nb, 0, none⟩) ss.length ss.length]) h18 0 rfl ky ky ky rfl ky ky ?_
    intro w19 (h20 : HA (zb w0 M t (pfE es ss ss.length)) ((q16, 190, #[iN .i64 k, iN .i64 0, .string label, .slice (some ⟨nb, 0, none⟩) ss.length ss.length]) :: (nb, 3, intc ((pfN es ss ss.length))) :: (t.q, 145, tcell t (nms (pfE es ss ss.length)) v) :: (Lr ++ (PB (pfE es ss ss.length) ++ L))) w19)
    refine wl_nil (then_at rfl (wp_seq (wp_seq (wl_region ?_))))
    refine zv (iN .i64 k) ?_
    refine zu (.bool false) (run_eqi (k := .i64) (a := k) (b := 4) ky ky false (decide_eq_false hk4)) ?_
    refine wl_nil (then_at rfl ?_)
    refine wp_cond_false ky ?_
    refine wp_skip (then_at rfl (wp_seq (wl_region ?_)))
    refine wl_load h20 0 rfl ky ky Tryz.underlying190 rfl ky ?_
    refine wl_call (v := recV (recOf k 0 label (pfN es ss ss.length))) h20 ky enter211 #[.agg (#[iN .i64 k, iN .i64 0, .string label, .slice (some ⟨nb, 0, none⟩) ss.length ss.length])] ky (by have := recipe_any k 0 label (pfN es ss ss.length) nb (h20.get 1 rfl) (by rw [pfN_len]; omega) (fun j => getD_lt (m := 1000000) (fun y hy => by have := pfN_lt es ss ss.length y hy; omega) (by decide) j); rw [pfN_len] at this; exact this) ?_
    intro w21 h22
    refine wl_make (c := #[iN .i64 0, iN .i64 0, .string ({ data := #[] }), .string ({ data := #[] })]) h22 276 ky ky ?_
    intro q23 w24 (h25 : HA (zb w0 M t (pfE es ss ss.length)) ((q23, 276, #[iN .i64 0, iN .i64 0, .string ({ data := #[] }), .string ({ data := #[] })]) :: (q16, 190, #[iN .i64 k, iN .i64 0, .string label, .slice (some ⟨nb, 0, none⟩) ss.length ss.length]) :: (nb, 3, intc ((pfN es ss ss.length))) :: (t.q, 145, tcell t (nms (pfE es ss ss.length)) v) :: (Lr ++ (PB (pfE es ss ss.length) ++ L))) w24)
    refine wl_fill (c' := #[iN .i64 k, iN .i64 0, .string label, .string (laid (pfN es ss ss.length))]) h25 0 rfl ky ky ky rfl ky ky ?_
    intro w26 (h27 : HA (zb w0 M t (pfE es ss ss.length)) ((q23, 276, #[iN .i64 k, iN .i64 0, .string label, .string (laid (pfN es ss ss.length))]) :: (q16, 190, #[iN .i64 k, iN .i64 0, .string label, .slice (some ⟨nb, 0, none⟩) ss.length ss.length]) :: (nb, 3, intc ((pfN es ss ss.length))) :: (t.q, 145, tcell t (nms (pfE es ss ss.length)) v) :: (Lr ++ (PB (pfE es ss ss.length) ++ L))) w26)
    refine wl_nil (then_at rfl (wp_seq (wp_seq ?_)))
    refine wp_region_sure ⟨(pt t.q :: iN .i64 k :: .string label :: .slice o ss.length c :: un :: un :: un :: un :: u4 8 :: u4 9 :: .slice (some ⟨nb, 0, none⟩) ss.length ss.length :: un :: u4 12 :: u4 13 :: u4 14 :: pt q16 :: pt q23 :: iN .i64 x :: .bool true :: un :: un :: .slice o ss.length c :: iN .i64 ss.length :: .slice (some ⟨nb, 0, none⟩) 0 ss.length :: .slice o ss.length c :: iN .i64 ss.length :: iN .i64 ss.length :: .bool false :: u4 28 :: u4 29 :: u4 30 :: u4 31 :: u4 32 :: u4 33 :: u4 34 :: u4 35 :: u4 36 :: u4 37 :: u4 38 :: u4 39 :: u4 40 :: u4 41 :: u4 42 :: iN .i64 k :: .string label :: .string label :: .slice (some ⟨nb, 0, none⟩) ss.length ss.length :: .agg #[iN .i64 k, iN .i64 0, .string label, .slice (some ⟨nb, 0, none⟩) ss.length ss.length] :: iN .i64 k :: .bool false :: un :: un :: un :: un :: un :: un :: un :: un :: .agg (#[iN .i64 k, iN .i64 0, .string label, .slice (some ⟨nb, 0, none⟩) ss.length ss.length]) :: recV (recOf k 0 label (pfN es ss ss.length)) :: .tuple #[iN .i64 x, .bool true] :: pt t.q :: pt t.q :: .pointer (some ⟨t.q, 3, none⟩) :: .map (some t.mm) :: .agg (#[iN .i64 k, iN .i64 0, .string label, .string (laid (pfN es ss ss.length))]) :: .tuple #[iN .i64 x, .bool true] :: iN .i64 x :: .bool true :: List.replicate 18 un).toArray, []⟩ (HA (zb w0 M t (pfE es ss ss.length)) ((q23, 276, #[iN .i64 k, iN .i64 0, .string label, .string (laid (pfN es ss ss.length))]) :: (q16, 190, #[iN .i64 k, iN .i64 0, .string label, .slice (some ⟨nb, 0, none⟩) ss.length ss.length]) :: (nb, 3, intc ((pfN es ss ss.length))) :: (t.q, 145, tcell t (nms (pfE es ss ss.length)) v) :: (Lr ++ (PB (pfE es ss ss.length) ++ L)))) [.pointer (some ⟨t.q, 0, none⟩), .pointer (some ⟨t.q, 0, none⟩), .pointer (some ⟨t.q, 3, none⟩), .map (some t.mm), .agg (#[iN .i64 k, iN .i64 0, .string label, .string (laid (pfN es ss ss.length))]), .tuple #[iN .i64 x, .bool true], .tuple #[iN .i64 x, .bool true], iN .i64 x, .bool true, iN .i64 x, .bool true] ky ky ky ky (fun _ _ _ h => h) h27.drew ?_ ?_
    · refine AllSure.cons (OpSure.take (v := .pointer (some ⟨t.q, 0, none⟩)) ky ky (fun _ _ => ky)) ?_
      refine AllSure.cons (OpSure.take (v := .pointer (some ⟨t.q, 0, none⟩)) ky ky (fun _ _ => ky)) ?_
      refine AllSure.cons (OpSure.take (v := .pointer (some ⟨t.q, 3, none⟩)) ky ky (fun _ _ => ky)) ?_
      refine AllSure.cons (OpSure.take (v := .map (some t.mm)) ky ky (fun w' h' => run_load1 (fun w => Tryz.isAgg143 w) ky (((h'.get 3 rfl).cell 3).trans rfl))) ?_
      refine AllSure.cons (OpSure.take (v := .agg (#[iN .i64 k, iN .i64 0, .string label, .string (laid (pfN es ss ss.length))])) ky ky (fun _ h => run_load_blk ky (h.get 0 rfl) Tryz.underlying276 rfl ky)) ?_
      refine AllSure.cons (OpSure.take (v := .tuple #[iN .i64 x, .bool true]) ky ky (fun w' h' => run_lk72 (s := recOf k 0 label (pfN es ss ss.length)) ky ky h'.mapM (some x) hl)) ?_
      refine AllSure.cons (OpSure.take (v := .tuple #[iN .i64 x, .bool true]) ky ky (fun _ _ => ky)) ?_
      refine AllSure.cons (OpSure.take (v := iN .i64 x) ky ky (fun _ _ => ky)) ?_
      refine AllSure.cons (OpSure.take (v := .bool true) ky ky (fun _ _ => ky)) ?_
      refine AllSure.cons (OpSure.take (v := iN .i64 x) ky ky (fun _ _ => ky)) ?_
      refine AllSure.cons (OpSure.take (v := .bool true) ky ky (fun _ _ => ky)) ?_
      exact AllSure.nil
    intro w28 h29
    refine then_at rfl (wp_seq (wl_region ?_))
    refine zv (.bool true) ?_
    refine wl_nil (then_at rfl ?_)
    refine wp_cond_true ky ?_
    refine wp_seq (wl_region ?_)
    refine zv (iN .i64 x) ?_
    refine zv (iN .i64 x) ?_
    refine zv (.bool true) ?_
    refine wl_nil (then_at rfl ?_)
    refine wp_ret ?_
    repeat first | refine then_ret ?_ | refine block_ret ?_
    exact bodyPost_ret (v := .tuple #[iN .i64 x, .bool true]) ky rfl (.inl ⟨x, hl0, rfl, ⟨v, Lr, hR, h29.sub (List.sublist_append_right [(q23, 276, #[iN .i64 k, iN .i64 0, .string label, .string (laid (pfN es ss ss.length))]), (q16, 190, #[iN .i64 k, iN .i64 0, .string label, .slice (some ⟨nb, 0, none⟩) ss.length ss.length]), (nb, 3, intc ((pfN es ss ss.length)))] _)⟩⟩)
set_option maxRecDepth 100000 in
set_option maxHeartbeats 2000000 in
theorem join_b {w0 w : World} {M : ML} {t : Tb} {es : List Ent} {L : BL} (H : TH w0 M t es L w) (hwf : Wf es) (k : Nat) (label : ByteArray) (hlab : label.size ≤ 281474976710656) (ss : List ByteArray) (o : Option Addr) (c : Nat) (hp : ss = [] ∨ ∃ pq cs, o = some ⟨pq, 0, none⟩ ∧ PreS cs ss ∧ (pq, 9, cs) ∈ L) (hss : ∀ i, (ss.getD i ByteArray.empty).size ≤ 281474976710656) (hsl : ss.length ≤ 100) (hf : es.length < 58000) (hk4 : ¬ k = 4) (hl0 : lkR (mks (pfE es ss ss.length) 0) (recOf k (joinN (pfE es ss ss.length) k (pfN es ss ss.length)) (joinS k label) (joinP (pfE es ss ss.length) k (pfN es ss ss.length))) = none) :
    Calls Tryz.prog 372 #[pt t.q, iN .i64 k, .string label, .slice o ss.length c] w fun e w' =>
      (∃ x, lkR (mks (pfE es ss ss.length) 0) (recOf k (joinN (pfE es ss ss.length) k (pfN es ss ss.length)) (joinS k label) (joinP (pfE es ss ss.length) k (pfN es ss ss.length))) = some x ∧ e = .returned (.tuple #[iN .i64 x, .bool true]) ∧ TH w0 M t (pfE es ss ss.length) L w') ∨
      (lkR (mks (pfE es ss ss.length) 0) (recOf k (joinN (pfE es ss ss.length) k (pfN es ss ss.length)) (joinS k label) (joinP (pfE es ss ss.length) k (pfN es ss ss.length))) = none ∧ ∃ b, e = .returned (.tuple #[iN .i64 (pfE es ss ss.length).length, .bool true]) ∧ TH w0 M t ((pfE es ss ss.length) ++ [.mk k (joinN (pfE es ss ss.length) k (pfN es ss ss.length)) (joinS k label) (joinP (pfE es ss ss.length) k (pfN es ss ss.length)) b]) L w') := by
  have e1 : joinN (pfE es ss ss.length) k (pfN es ss ss.length) = 0 := if_neg hk4
  have e2 : joinS k label = label := if_neg hk4
  have e3 : joinP (pfE es ss ss.length) k (pfN es ss ss.length) = (pfN es ss ss.length) := if_neg hk4
  rw [e1, e2, e3] at hl0 ⊢
  have hl := hl0
  obtain ⟨v0, Lr0, hR0, H0⟩ := H
  go_enter Tryz.func372, Tryz.ntmps372
  refine wp_seq (wl_region ?_)
  refine zv (iN .i64 0) ?_
  refine zv (.bool false) ?_
  refine wl_nil (then_at rfl (wp_seq (wl_region ?_)))
  refine zv (.slice o ss.length c) ?_
  refine zv (iN .i64 ss.length) ?_
  refine wl_mks (n := 0) (m := ss.length) (c := intc (List.replicate ss.length 0)) H0 3 ky (run_mk29 (k := .i64) (m := 0) (c := ss.length) ky ky (by omega) (by omega)) ?_
  intro q1 w2 (h3 : HA (zb w0 M t es) ((q1, 3, intc (List.replicate ss.length 0)) :: (t.q, 145, tcell t (nms es) v0) :: (Lr0 ++ (PB es ++ L))) w2)
  refine zv (.slice (some ⟨q1, 0, none⟩) 0 ss.length) ?_
  refine wl_nil (then_at rfl (wp_seq (wp_seq (wl_region ?_))))
  refine zv (.slice o ss.length c) ?_
  refine zv (iN .i64 ss.length) ?_
  refine zv (iN .i64 0) ?_
  refine wl_nil (then_at rfl ?_)
  have HT0 : TH w0 M t (pfE es ss 0) (((q1, 3, intc ((pfN es ss 0) ++ List.replicate (ss.length - 0) 0))) :: L) w2 := TH.dn hR0 h3
  obtain ⟨nb, enb⟩ : ∃ nb, nb = q1 := ⟨_, rfl⟩
  rw [← enb] at HT0 ⊢
  clear enb
  refine wp_block ?_
  refine wp_count (fun i A w' => ∃ u4 : Nat → Value, A = ⟨(pt t.q :: iN .i64 k :: .string label :: .slice o ss.length c :: un :: un :: un :: un :: u4 8 :: u4 9 :: .slice (some ⟨nb, 0, none⟩) i ss.length :: un :: u4 12 :: u4 13 :: u4 14 :: un :: un :: un :: un :: un :: un :: .slice o ss.length c :: iN .i64 ss.length :: .slice (some ⟨nb, 0, none⟩) 0 ss.length :: .slice o ss.length c :: iN .i64 ss.length :: iN .i64 i :: u4 27 :: u4 28 :: u4 29 :: u4 30 :: u4 31 :: u4 32 :: u4 33 :: u4 34 :: u4 35 :: u4 36 :: u4 37 :: u4 38 :: u4 39 :: u4 40 :: u4 41 :: u4 42 :: List.replicate 44 un).toArray, []⟩ ∧ TH w0 M t (pfE es ss i) ((nb, 3, intc ((pfN es ss i) ++ List.replicate (ss.length - i) 0)) :: L) w') ss.length ?_ ?_ ?_
  · exact ⟨fun ii => (([(8, iN .i64 0), (9, .bool false), (12, undef), (13, undef), (14, undef), (27, undef), (28, undef), (29, undef), (30, undef), (31, undef), (32, undef), (33, undef), (34, undef), (35, undef), (36, undef), (37, undef), (38, undef), (39, undef), (40, undef), (41, undef), (42, undef)] : List (Nat × Value)).find? (·.1 == ii)).elim undef (·.2), by kernel_rfl, HT0⟩
  · rintro i hk _ w5 ⟨u4, rfl, hT⟩
    obtain ⟨pq, cs, rfl, hps, hm⟩ := hp.resolve_left (by intro e; rw [e] at hk; simp at hk)
    have hpl := pfE_len es ss i
    refine wp_seq (wl_region ?_)
    refine zu (.bool true) (run_lss (k := .i64) (a := i) (b := ss.length) ky ky true (decide_eq_true (by omega))) ?_
    refine wl_nil (then_at rfl (wp_seq ?_))
    refine wp_cond_true ky ?_
    refine wp_skip (then_at rfl (wp_seq (wp_block (wp_seq (wl_region ?_)))))
    refine zu (.pointer (some ⟨pq, i, none⟩)) (run_addr_slice (q := pq) (n := ss.length) (m := c) (a := i) Tryz.underlying86 (fun w => Tryz.sizeOf9 w) ky ky (by omega)) ?_
    refine zu (.string (ss.getD i ByteArray.empty)) (run_load1 (fun w => Tryz.isAgg9 w) ky (((hT.blk (x := (pq, 9, cs)) (List.mem_cons_of_mem _ hm)).cell i).trans (hps i hk))) ?_
    refine zv (.string (ss.getD i ByteArray.empty)) ?_
    refine wl_nil (then_at rfl (wp_seq (wl_region ?_)))
    refine zv (.pointer (some ⟨t.q, 0, none⟩)) ?_
    refine zv (.string (ss.getD i ByteArray.empty)) ?_
    refine wl_callx ky enter379 #[.pointer (some ⟨t.q, 0, none⟩), .string (ss.getD i ByteArray.empty)] ky (part_any hT (by omega) (ss.getD i ByteArray.empty) (hss i)) ?_
    rintro _ w6 ⟨rfl, hT1⟩
    refine ⟨_, rfl, ?_⟩
    obtain ⟨v, Lr, hR, H1⟩ := hT1.up
    refine zv (.tuple #[iN .i64 ((partF (pfE es ss i) (ss.getD i ByteArray.empty)).2), .bool true]) ?_
    refine zv (iN .i64 ((partF (pfE es ss i) (ss.getD i ByteArray.empty)).2)) ?_
    refine zv (.bool true) ?_
    refine zv (iN .i64 ((partF (pfE es ss i) (ss.getD i ByteArray.empty)).2)) ?_
    refine zv (.bool true) ?_
    refine wl_nil (then_at rfl (wp_seq (wp_seq (wl_region ?_))))
    refine zv (.bool true) ?_
    refine zv (.bool false) ?_
    refine wl_nil (then_at rfl ?_)
    refine wp_cond_false ky ?_
    refine wp_skip (then_at rfl (wl_region ?_))
    refine zv (.slice (some ⟨nb, 0, none⟩) i ss.length) ?_
    refine zv (iN .i64 ((partF (pfE es ss i) (ss.getD i ByteArray.empty)).2)) ?_
    refine wl_mks (n := 1) (m := 1) (c := intc ([(partF (pfE es ss i) (ss.getD i ByteArray.empty)).2])) H1 3 ky ky ?_
    intro q7 w8 (h9 : HA (zb w0 M t (pfE es ss (i + 1))) ((q7, 3, intc ([(partF (pfE es ss i) (ss.getD i ByteArray.empty)).2])) :: (nb, 3, intc ((pfN es ss i) ++ List.replicate (ss.length - i) 0)) :: (t.q, 145, tcell t (nms (pfE es ss (i + 1))) v) :: (Lr ++ (PB (pfE es ss (i + 1)) ++ L))) w8)
    refine wl_any ky (run_appI (m := i) (c := ss.length) (u := (partF (pfE es ss i) (ss.getD i ByteArray.empty)).2) (l := pfN es ss i ++ List.replicate (ss.length - i) 0) ky ky (h9.get 1 rfl) (h9.get 0 rfl) (by omega) (by rw [List.length_append, pfN_len, List.length_replicate]; omega)) ?_
    have h11 := h9.put 1 rfl i (iN .i64 ((partF (pfE es ss i) (ss.getD i ByteArray.empty)).2))
    rw [intc_put, pad_set _ _ _ _ (pfN_len es ss i) hk] at h11
    generalize w8.setCell ⟨nb, i, none⟩ (iN .i64 ((partF (pfE es ss i) (ss.getD i ByteArray.empty)).2)) = w10 at h11 ⊢
    have h12 : HA (zb w0 M t (pfE es ss (i + 1))) ((nb, 3, intc ((pfN es ss (i + 1)) ++ List.replicate (ss.length - (i + 1)) 0)) :: (t.q, 145, tcell t (nms (pfE es ss (i + 1))) v) :: (Lr ++ (PB (pfE es ss (i + 1)) ++ L))) w10 := h11.tl
    refine zv (.slice (some ⟨nb, 0, none⟩) (i + 1) ss.length) ?_
    refine wl_nil (block_normal (then_at rfl (wl_region ?_)))
    refine zu (iN .i64 (i + 1)) (run_add (k := .i64) (a := i) (b := 1) ky ky (by simp only [top]; omega)) ?_
    refine zv (iN .i64 (i + 1)) ?_
    refine wl_nil ?_
    exact then_I ⟨fun ii => (([(8, u4 8), (9, u4 9), (12, .string (ss.getD i ByteArray.empty)), (13, iN .i64 ((partF (pfE es ss i) (ss.getD i ByteArray.empty)).2)), (14, .bool true), (27, .bool true), (28, .pointer (some ⟨pq, i, none⟩)), (29, .string (ss.getD i ByteArray.empty)), (30, .tuple #[iN .i64 ((partF (pfE es ss i) (ss.getD i ByteArray.empty)).2), .bool true]), (31, .pointer (some ⟨t.q, 0, none⟩)), (32, .string (ss.getD i ByteArray.empty)), (33, .tuple #[iN .i64 ((partF (pfE es ss i) (ss.getD i ByteArray.empty)).2), .bool true]), (34, iN .i64 ((partF (pfE es ss i) (ss.getD i ByteArray.empty)).2)), (35, .bool true), (36, .bool true), (37, .bool false), (38, .slice (some ⟨nb, 0, none⟩) i ss.length), (39, iN .i64 ((partF (pfE es ss i) (ss.getD i ByteArray.empty)).2)), (40, .slice (some ⟨q7, 0, none⟩) 1 1), (41, .slice (some ⟨nb, 0, none⟩) (i + 1) ss.length), (42, iN .i64 (i + 1))] : List (Nat × Value)).find? (·.1 == ii)).elim undef (·.2), by kernel_rfl, TH.dn hR h12⟩
  · rintro _ w13 ⟨u4, rfl, hT⟩
    obtain ⟨v, Lr, hR, H1⟩ := hT.up
    rw [Nat.sub_self, List.replicate_zero, List.append_nil] at H1
    have hpl := pfE_len es ss ss.length
    clear hT
    refine wp_seq (wl_region ?_)
    refine zu (.bool false) (run_lss (k := .i64) (a := ss.length) (b := ss.length) ky ky false (decide_eq_false (by omega))) ?_
    refine wl_nil (then_at rfl (wp_seq ?_))
    refine wp_cond_false ky ?_
    refine wp_exit ?_
    repeat first | refine then_exit ?_ | refine block_exit ?_ | refine block_exit_ne (by decide) ?_
    refine then_at rfl (wp_seq (wl_region ?_))
    refine zv (iN .i64 k) ?_
    refine zv (.string label) ?_
    refine wl_call (v := .string label) H1 ky enter113 #[.string label] ky (clone_any label hlab w13) ?_
    intro w14 h15
    refine zv (.slice (some ⟨nb, 0, none⟩) ss.length ss.length) ?_
    refine zv (.agg #[iN .i64 k, iN .i64 0, .string label, .slice (some ⟨nb, 0, none⟩) ss.length ss.length]) ?_
    refine wl_make (c := #[iN .i64 0, iN .i64 0, .string ({ data := #[] }), .slice none 0 0]) h15 190 ky ky ?_
    intro q16 w17 (h18 : HA (zb w0 M t (pfE es ss ss.length)) ((q16, 190, #[iN .i64 0, iN .i64 0, .string ({ data := #[] }), .slice none 0 0]) :: (nb, 3, intc ((pfN es ss ss.length))) :: (t.q, 145, tcell t (nms (pfE es ss ss.length)) v) :: (Lr ++ (PB (pfE es ss ss.length) ++ L))) w17)
    refine wl_fill (c' := #[iN .i64 k, iN .i64 0, .string label, .slice (some ⟨nb, 0, none⟩) ss.length ss.length]) h18 0 rfl ky ky ky rfl ky ky ?_
    intro w19 (h20 : HA (zb w0 M t (pfE es ss ss.length)) ((q16, 190, #[iN .i64 k, iN .i64 0, .string label, .slice (some ⟨nb, 0, none⟩) ss.length ss.length]) :: (nb, 3, intc ((pfN es ss ss.length))) :: (t.q, 145, tcell t (nms (pfE es ss ss.length)) v) :: (Lr ++ (PB (pfE es ss ss.length) ++ L))) w19)
    refine wl_nil (then_at rfl (wp_seq (wp_seq (wl_region ?_))))
    refine zv (iN .i64 k) ?_
    refine zu (.bool false) (run_eqi (k := .i64) (a := k) (b := 4) ky ky false (decide_eq_false hk4)) ?_
    refine wl_nil (then_at rfl ?_)
    refine wp_cond_false ky ?_
    refine wp_skip (then_at rfl (wp_seq (wl_region ?_)))
    refine wl_load h20 0 rfl ky ky Tryz.underlying190 rfl ky ?_
    refine wl_call (v := recV (recOf k 0 label (pfN es ss ss.length))) h20 ky enter211 #[.agg (#[iN .i64 k, iN .i64 0, .string label, .slice (some ⟨nb, 0, none⟩) ss.length ss.length])] ky (by have := recipe_any k 0 label (pfN es ss ss.length) nb (h20.get 1 rfl) (by rw [pfN_len]; omega) (fun j => getD_lt (m := 1000000) (fun y hy => by have := pfN_lt es ss ss.length y hy; omega) (by decide) j); rw [pfN_len] at this; exact this) ?_
    intro w21 h22
    refine wl_make (c := #[iN .i64 0, iN .i64 0, .string ({ data := #[] }), .string ({ data := #[] })]) h22 276 ky ky ?_
    intro q23 w24 (h25 : HA (zb w0 M t (pfE es ss ss.length)) ((q23, 276, #[iN .i64 0, iN .i64 0, .string ({ data := #[] }), .string ({ data := #[] })]) :: (q16, 190, #[iN .i64 k, iN .i64 0, .string label, .slice (some ⟨nb, 0, none⟩) ss.length ss.length]) :: (nb, 3, intc ((pfN es ss ss.length))) :: (t.q, 145, tcell t (nms (pfE es ss ss.length)) v) :: (Lr ++ (PB (pfE es ss ss.length) ++ L))) w24)
    refine wl_fill (c' := #[iN .i64 k, iN .i64 0, .string label, .string (laid (pfN es ss ss.length))]) h25 0 rfl ky ky ky rfl ky ky ?_
    intro w26 (h27 : HA (zb w0 M t (pfE es ss ss.length)) ((q23, 276, #[iN .i64 k, iN .i64 0, .string label, .string (laid (pfN es ss ss.length))]) :: (q16, 190, #[iN .i64 k, iN .i64 0, .string label, .slice (some ⟨nb, 0, none⟩) ss.length ss.length]) :: (nb, 3, intc ((pfN es ss ss.length))) :: (t.q, 145, tcell t (nms (pfE es ss ss.length)) v) :: (Lr ++ (PB (pfE es ss ss.length) ++ L))) w26)
    refine wl_nil (then_at rfl (wp_seq (wp_seq ?_)))
    refine wp_region_sure ⟨(pt t.q :: iN .i64 k :: .string label :: .slice o ss.length c :: un :: un :: un :: un :: u4 8 :: u4 9 :: .slice (some ⟨nb, 0, none⟩) ss.length ss.length :: un :: u4 12 :: u4 13 :: u4 14 :: pt q16 :: pt q23 :: iN .i64 0 :: .bool false :: un :: un :: .slice o ss.length c :: iN .i64 ss.length :: .slice (some ⟨nb, 0, none⟩) 0 ss.length :: .slice o ss.length c :: iN .i64 ss.length :: iN .i64 ss.length :: .bool false :: u4 28 :: u4 29 :: u4 30 :: u4 31 :: u4 32 :: u4 33 :: u4 34 :: u4 35 :: u4 36 :: u4 37 :: u4 38 :: u4 39 :: u4 40 :: u4 41 :: u4 42 :: iN .i64 k :: .string label :: .string label :: .slice (some ⟨nb, 0, none⟩) ss.length ss.length :: .agg #[iN .i64 k, iN .i64 0, .string label, .slice (some ⟨nb, 0, none⟩) ss.length ss.length] :: iN .i64 k :: .bool false :: un :: un :: un :: un :: un :: un :: un :: un :: .agg (#[iN .i64 k, iN .i64 0, .string label, .slice (some ⟨nb, 0, none⟩) ss.length ss.length]) :: recV (recOf k 0 label (pfN es ss ss.length)) :: .tuple #[iN .i64 0, .bool false] :: pt t.q :: pt t.q :: .pointer (some ⟨t.q, 3, none⟩) :: .map (some t.mm) :: .agg (#[iN .i64 k, iN .i64 0, .string label, .string (laid (pfN es ss ss.length))]) :: .tuple #[iN .i64 0, .bool false] :: iN .i64 0 :: .bool false :: List.replicate 18 un).toArray, []⟩ (HA (zb w0 M t (pfE es ss ss.length)) ((q23, 276, #[iN .i64 k, iN .i64 0, .string label, .string (laid (pfN es ss ss.length))]) :: (q16, 190, #[iN .i64 k, iN .i64 0, .string label, .slice (some ⟨nb, 0, none⟩) ss.length ss.length]) :: (nb, 3, intc ((pfN es ss ss.length))) :: (t.q, 145, tcell t (nms (pfE es ss ss.length)) v) :: (Lr ++ (PB (pfE es ss ss.length) ++ L)))) [.pointer (some ⟨t.q, 0, none⟩), .pointer (some ⟨t.q, 0, none⟩), .pointer (some ⟨t.q, 3, none⟩), .map (some t.mm), .agg (#[iN .i64 k, iN .i64 0, .string label, .string (laid (pfN es ss ss.length))]), .tuple #[iN .i64 0, .bool false], .tuple #[iN .i64 0, .bool false], iN .i64 0, .bool false, iN .i64 0, .bool false] ky ky ky ky (fun _ _ _ h => h) h27.drew ?_ ?_
    · refine AllSure.cons (OpSure.take (v := .pointer (some ⟨t.q, 0, none⟩)) ky ky (fun _ _ => ky)) ?_
      refine AllSure.cons (OpSure.take (v := .pointer (some ⟨t.q, 0, none⟩)) ky ky (fun _ _ => ky)) ?_
      refine AllSure.cons (OpSure.take (v := .pointer (some ⟨t.q, 3, none⟩)) ky ky (fun _ _ => ky)) ?_
      refine AllSure.cons (OpSure.take (v := .map (some t.mm)) ky ky (fun w' h' => run_load1 (fun w => Tryz.isAgg143 w) ky (((h'.get 3 rfl).cell 3).trans rfl))) ?_
      refine AllSure.cons (OpSure.take (v := .agg (#[iN .i64 k, iN .i64 0, .string label, .string (laid (pfN es ss ss.length))])) ky ky (fun _ h => run_load_blk ky (h.get 0 rfl) Tryz.underlying276 rfl ky)) ?_
      refine AllSure.cons (OpSure.take (v := .tuple #[iN .i64 0, .bool false]) ky ky (fun w' h' => run_lk72 (s := recOf k 0 label (pfN es ss ss.length)) ky ky h'.mapM none hl)) ?_
      refine AllSure.cons (OpSure.take (v := .tuple #[iN .i64 0, .bool false]) ky ky (fun _ _ => ky)) ?_
      refine AllSure.cons (OpSure.take (v := iN .i64 0) ky ky (fun _ _ => ky)) ?_
      refine AllSure.cons (OpSure.take (v := .bool false) ky ky (fun _ _ => ky)) ?_
      refine AllSure.cons (OpSure.take (v := iN .i64 0) ky ky (fun _ _ => ky)) ?_
      refine AllSure.cons (OpSure.take (v := .bool false) ky ky (fun _ _ => ky)) ?_
      exact AllSure.nil
    intro w28 h29
    refine then_at rfl (wp_seq (wl_region ?_))
    refine zv (.bool false) ?_
    refine wl_nil (then_at rfl ?_)
    refine wp_cond_false ky ?_
    refine wp_skip (then_at rfl (wp_seq (wl_region ?_)))
    refine zv (.pointer (some ⟨t.q, 0, none⟩)) ?_
    refine wl_load h29 1 rfl ky ky Tryz.underlying190 rfl ky ?_
    refine zv (.iface 190 (.agg (#[iN .i64 k, iN .i64 0, .string label, .slice (some ⟨nb, 0, none⟩) ss.length ss.length]))) ?_
    have hA0 : HA (zb w0 M t (pfE es ss ss.length)) ((t.q, 145, tcell t (nms (pfE es ss ss.length)) v) :: (Lr ++ ([(q23, 276, #[iN .i64 k, iN .i64 0, .string label, .string (laid (pfN es ss ss.length))]), (q16, 190, #[iN .i64 k, iN .i64 0, .string label, .slice (some ⟨nb, 0, none⟩) ss.length ss.length]), (nb, 3, intc ((pfN es ss ss.length)))] ++ (PB (pfE es ss ss.length) ++ L)))) w28 := HA.mv [(q23, 276, #[iN .i64 k, iN .i64 0, .string label, .string (laid (pfN es ss ss.length))]), (q16, 190, #[iN .i64 k, iN .i64 0, .string label, .slice (some ⟨nb, 0, none⟩) ss.length ss.length]), (nb, 3, intc ((pfN es ss ss.length)))] ((t.q, 145, tcell t (nms (pfE es ss ss.length)) v) :: Lr) (PB (pfE es ss ss.length) ++ L) h29
    refine wl_callx ky enter365 #[.pointer (some ⟨t.q, 0, none⟩), .iface 190 (.agg (#[iN .i64 k, iN .i64 0, .string label, .slice (some ⟨nb, 0, none⟩) ss.length ss.length]))] ky (add_any hR hA0 (by omega) (.iface 190 (.agg (#[iN .i64 k, iN .i64 0, .string label, .slice (some ⟨nb, 0, none⟩) ss.length ss.length]))) rfl) ?_
    rintro _ w30 ⟨v1, Lr1, rfl, hR1, hA1⟩
    refine ⟨_, rfl, ?_⟩
    have hev : .iface 190 (.agg (#[iN .i64 k, iN .i64 0, .string label, .slice (some ⟨nb, 0, none⟩) ss.length ss.length])) = ev (.mk k 0 label (pfN es ss ss.length) nb) := by simp only [ev, mkv, slv, pfN_len]
    rw [hev] at hR1
    have hA2 := HA.mv ((t.q, 145, tcell t (nms (pfE es ss ss.length)) v1) :: Lr1) [(q23, 276, #[iN .i64 k, iN .i64 0, .string label, .string (laid (pfN es ss ss.length))]), (q16, 190, #[iN .i64 k, iN .i64 0, .string label, .slice (some ⟨nb, 0, none⟩) ss.length ss.length]), (nb, 3, intc ((pfN es ss ss.length)))] (PB (pfE es ss ss.length) ++ L) hA1
    have h31 : HA (zb w0 M t (pfE es ss ss.length)) ((q23, 276, #[iN .i64 k, iN .i64 0, .string label, .string (laid (pfN es ss ss.length))]) :: (q16, 190, #[iN .i64 k, iN .i64 0, .string label, .slice (some ⟨nb, 0, none⟩) ss.length ss.length]) :: (nb, 3, intc ((pfN es ss ss.length))) :: (t.q, 145, tcell t (nms (pfE es ss ss.length)) v1) :: (Lr1 ++ (PB (pfE es ss ss.length) ++ L))) w30 := hA2
    refine zv (.tuple #[iN .i64 ((pfE es ss ss.length).length), .bool true]) ?_
    refine zv (iN .i64 ((pfE es ss ss.length).length)) ?_
    refine zv (.bool true) ?_
    refine zv (iN .i64 ((pfE es ss ss.length).length)) ?_
    refine zv (.bool true) ?_
    refine wl_nil (then_at rfl (wp_seq (wp_seq (wl_region ?_))))
    refine zv (.bool true) ?_
    refine wl_nil (then_at rfl ?_)
    refine wp_cond_true ky ?_
    refine wp_region_ghost (fun g : Nat → Nat => (⟨(pt t.q :: iN .i64 k :: .string label :: .slice o ss.length c :: un :: un :: un :: un :: u4 8 :: u4 9 :: .slice (some ⟨nb, 0, none⟩) ss.length ss.length :: un :: u4 12 :: u4 13 :: u4 14 :: pt q16 :: pt q23 :: iN .i64 0 :: .bool false :: iN .i64 ((pfE es ss ss.length).length) :: .bool true :: .slice o ss.length c :: iN .i64 ss.length :: .slice (some ⟨nb, 0, none⟩) 0 ss.length :: .slice o ss.length c :: iN .i64 ss.length :: iN .i64 ss.length :: .bool false :: u4 28 :: u4 29 :: u4 30 :: u4 31 :: u4 32 :: u4 33 :: u4 34 :: u4 35 :: u4 36 :: u4 37 :: u4 38 :: u4 39 :: u4 40 :: u4 41 :: u4 42 :: iN .i64 k :: .string label :: .string label :: .slice (some ⟨nb, 0, none⟩) ss.length ss.length :: .agg #[iN .i64 k, iN .i64 0, .string label, .slice (some ⟨nb, 0, none⟩) ss.length ss.length] :: iN .i64 k :: .bool false :: un :: un :: un :: un :: un :: un :: un :: un :: .agg (#[iN .i64 k, iN .i64 0, .string label, .slice (some ⟨nb, 0, none⟩) ss.length ss.length]) :: recV (recOf k 0 label (pfN es ss ss.length)) :: .tuple #[iN .i64 0, .bool false] :: pt t.q :: pt t.q :: .pointer (some ⟨t.q, 3, none⟩) :: .map (some t.mm) :: .agg (#[iN .i64 k, iN .i64 0, .string label, .string (laid (pfN es ss ss.length))]) :: .tuple #[iN .i64 0, .bool false] :: iN .i64 0 :: .bool false :: .bool false :: un :: .tuple #[iN .i64 ((pfE es ss ss.length).length), .bool true] :: pt t.q :: .agg (#[iN .i64 k, iN .i64 0, .string label, .slice (some ⟨nb, 0, none⟩) ss.length ss.length]) :: .iface 190 (.agg (#[iN .i64 k, iN .i64 0, .string label, .slice (some ⟨nb, 0, none⟩) ss.length ss.length])) :: .tuple #[iN .i64 ((pfE es ss ss.length).length), .bool true] :: iN .i64 ((pfE es ss ss.length).length) :: .bool true :: .bool true :: pt t.q :: pt t.q :: .pointer (some ⟨t.q, 3, none⟩) :: .map (some t.mm) :: .agg (#[iN .i64 k, iN .i64 0, .string label, .string (laid (pfN es ss ss.length))]) :: iN .i64 ((pfE es ss ss.length).length) :: List.replicate 2 un).toArray, []⟩ : Act)) (G1 (HA ⟨w0, M⟩ ((q23, 276, #[iN .i64 k, iN .i64 0, .string label, .string (laid (pfN es ss ss.length))]) :: (q16, 190, #[iN .i64 k, iN .i64 0, .string label, .slice (some ⟨nb, 0, none⟩) ss.length ss.length]) :: (nb, 3, intc ((pfN es ss ss.length))) :: (t.q, 145, tcell t (nms (pfE es ss ss.length)) v1) :: (Lr1 ++ (PB (pfE es ss ss.length) ++ L)))) (HA (zb w0 M t (pfE es ss ss.length)) ((q23, 276, #[iN .i64 k, iN .i64 0, .string label, .string (laid (pfN es ss ss.length))]) :: (q16, 190, #[iN .i64 k, iN .i64 0, .string label, .slice (some ⟨nb, 0, none⟩) ss.length ss.length]) :: (nb, 3, intc ((pfN es ss ss.length))) :: (t.q, 145, tcell t (nms (pfE es ss ss.length)) v1) :: (Lr1 ++ (PB (pfE es ss ss.length) ++ L)))) (fun _ => HA (zb w0 M t ((pfE es ss ss.length) ++ [.mk k 0 label (pfN es ss ss.length) nb])) ((q23, 276, #[iN .i64 k, iN .i64 0, .string label, .string (laid (pfN es ss ss.length))]) :: (q16, 190, #[iN .i64 k, iN .i64 0, .string label, .slice (some ⟨nb, 0, none⟩) ss.length ss.length]) :: (nb, 3, intc ((pfN es ss ss.length))) :: (t.q, 145, tcell t (nms (pfE es ss ss.length)) v1) :: (Lr1 ++ (PB (pfE es ss ss.length) ++ L)))) 6) [.pointer (some ⟨t.q, 0, none⟩), .pointer (some ⟨t.q, 0, none⟩), .pointer (some ⟨t.q, 3, none⟩), .map (some t.mm), .agg (#[iN .i64 k, iN .i64 0, .string label, .string (laid (pfN es ss ss.length))]), iN .i64 ((pfE es ss ss.length).length), undef] ky ky ky ky (fun _ _ _ _ h => h) (fun d hd => G1.start (HA.forget h31.drew) h31.drew (hd 6 (by decide))) ?_ ?_
    · refine AllGhost.cons (g1_read (v := fun g => .pointer (some ⟨t.q, 0, none⟩)) (by decide) (fun _ => by kernel_rfl) (fun _ => by kernel_rfl) (fun g _ _ => ky)) ?_
      refine AllGhost.cons (g1_read (v := fun g => .pointer (some ⟨t.q, 0, none⟩)) (by decide) (fun _ => by kernel_rfl) (fun _ => by kernel_rfl) (fun g _ _ => ky)) ?_
      refine AllGhost.cons (g1_read (v := fun g => .pointer (some ⟨t.q, 3, none⟩)) (by decide) (fun _ => by kernel_rfl) (fun _ => by kernel_rfl) (fun g _ _ => ky)) ?_
      refine AllGhost.cons (g1_read (v := fun g => .map (some t.mm)) (by decide) (fun _ => by kernel_rfl) (fun _ => by kernel_rfl) (fun g w' h' => run_load1 (fun w => Tryz.isAgg143 w) ky (((h'.get 3 rfl).cell 3).trans rfl))) ?_
      refine AllGhost.cons (g1_read (v := fun g => .agg (#[iN .i64 k, iN .i64 0, .string label, .string (laid (pfN es ss ss.length))])) (by decide) (fun _ => by kernel_rfl) (fun _ => by kernel_rfl) (fun g w' h' => run_load_blk ky (h'.get 0 rfl) Tryz.underlying276 rfl ky)) ?_
      refine AllGhost.cons (g1_read (v := fun g => iN .i64 ((pfE es ss ss.length).length)) (by decide) (fun _ => by kernel_rfl) (fun _ => by kernel_rfl) (fun g _ _ => ky)) ?_
      refine AllGhost.cons (g1_acts (fun _ => by kernel_rfl) (fun _ => by kernel_rfl) (fun g w' _ h' => ⟨World.setMap w' t.mm (entA (recK (mks (pfE es ss ss.length) 0 ++ [(recOf k 0 label (pfN es ss ss.length), (pfE es ss ss.length).length)]))) ((mks (pfE es ss ss.length) 0).length + 1), run_up72 (s := recOf k 0 label (pfN es ss ss.length)) (n := (pfE es ss ss.length).length) (l := mks (pfE es ss ss.length) 0) (r := t.mm) ky ky ky (HA.mapM h') hl, HA.forget (HA.upM (recOf k 0 label (pfN es ss ss.length)) (pfE es ss ss.length).length h'), fun _ => by rw [zb_mk']; exact HA.upM (recOf k 0 label (pfN es ss ss.length)) (pfE es ss ss.length).length h'⟩)) ?_
      exact AllGhost.nil
    intro g w32 gg33
    have h34 := gg33.held
    rw [if_pos rfl] at h34
    clear gg33
    generalize g 6 = n35 at h34 ⊢
    clear g
    refine then_at rfl (wp_seq (wl_region ?_))
    refine zv (iN .i64 ((pfE es ss ss.length).length)) ?_
    refine zv (.bool true) ?_
    refine zv (iN .i64 ((pfE es ss ss.length).length)) ?_
    refine zv (.bool true) ?_
    refine wl_nil (then_at rfl ?_)
    refine wp_ret ?_
    repeat first | refine then_ret ?_ | refine block_ret ?_
    exact bodyPost_ret (v := .tuple #[iN .i64 (pfE es ss ss.length).length, .bool true]) ky rfl (.inr ⟨hl0, nb, rfl, TH.mk hR1 (HA.perm (h34.sub (List.sublist_append_right [(q23, 276, #[iN .i64 k, iN .i64 0, .string label, .string (laid (pfN es ss ss.length))]), (q16, 190, #[iN .i64 k, iN .i64 0, .string label, .slice (some ⟨nb, 0, none⟩) ss.length ss.length])] _)) (perm_up _ _ _ _ _).symm)⟩)
theorem dhP_len (es : List Ent) (a p : Nat) : (dhP es a p).length = 2 := by
  unfold dhP
  split <;> rfl
theorem dhP_lt {es : List Ent} (h : Wf es) {a p : Nat} (ha : a < 1000000) (hp : p < 1000000) (j : Nat) : (dhP es a p).getD j 0 < 1000000 := by
  refine getD_lt (fun x hx => ?_) (by decide) j
  unfold dhP at hx
  split at hx
  · rename_i b hb
    have hb2 : b < 1000000 := by
      unfold secT at hb
      split at hb
      · rename_i k n s ps c he
        split at hb
        · obtain rfl := Option.some.inj hb
          have := h.lt p k n s ps c he 0
          omega
        · cases hb
      · cases hb
    simp at hx
    omega
  · simp at hx
    omega
theorem ns_lt (es : List Ent) (ss : List ByteArray) {j : Nat} (h : j < ss.length) : (pfN es ss ss.length).getD j 0 < (pfE es ss ss.length).length := by
  have hj : j < (pfN es ss ss.length).length := by rw [pfN_len]; exact h
  rw [List.getD_eq_getElem?_getD, List.getElem?_eq_getElem hj]
  exact pfN_lt es ss ss.length _ (List.getElem_mem hj)
set_option maxRecDepth 100000 in
set_option maxHeartbeats 2000000 in
theorem join_c {w0 w : World} {M : ML} {t : Tb} {es : List Ent} {L : BL} (H : TH w0 M t es L w) (hwf : Wf es) (label : ByteArray) (hlab : label.size ≤ 281474976710656) (ss : List ByteArray) (o : Option Addr) (c : Nat) (hp : ss = [] ∨ ∃ pq cs, o = some ⟨pq, 0, none⟩ ∧ PreS cs ss ∧ (pq, 9, cs) ∈ L) (hss : ∀ i, (ss.getD i ByteArray.empty).size ≤ 281474976710656) (hsl : ss.length ≤ 100) (hf : es.length < 58000) (h2 : ss.length = 2) {x : Nat} (hl0 : lkR (mks (pfE es ss ss.length) 0) (recOf 4 (joinN (pfE es ss ss.length) 4 (pfN es ss ss.length)) (joinS 4 label) (joinP (pfE es ss ss.length) 4 (pfN es ss ss.length))) = some x) :
    Calls Tryz.prog 372 #[pt t.q, iN .i64 4, .string label, .slice o ss.length c] w fun e w' =>
      (∃ x, lkR (mks (pfE es ss ss.length) 0) (recOf 4 (joinN (pfE es ss ss.length) 4 (pfN es ss ss.length)) (joinS 4 label) (joinP (pfE es ss ss.length) 4 (pfN es ss ss.length))) = some x ∧ e = .returned (.tuple #[iN .i64 x, .bool true]) ∧ TH w0 M t (pfE es ss ss.length) L w') ∨
      (lkR (mks (pfE es ss ss.length) 0) (recOf 4 (joinN (pfE es ss ss.length) 4 (pfN es ss ss.length)) (joinS 4 label) (joinP (pfE es ss ss.length) 4 (pfN es ss ss.length))) = none ∧ ∃ b, e = .returned (.tuple #[iN .i64 (pfE es ss ss.length).length, .bool true]) ∧ TH w0 M t ((pfE es ss ss.length) ++ [.mk 4 (joinN (pfE es ss ss.length) 4 (pfN es ss ss.length)) (joinS 4 label) (joinP (pfE es ss ss.length) 4 (pfN es ss ss.length)) b]) L w') := by
  have e1 : joinN (pfE es ss ss.length) 4 (pfN es ss ss.length) = (dhN (pfE es ss ss.length) ((pfN es ss ss.length).getD 1 0)) := if_pos rfl
  have e2 : joinS 4 label = { data := #[] } := if_pos rfl
  have e3 : joinP (pfE es ss ss.length) 4 (pfN es ss ss.length) = (dhP (pfE es ss ss.length) ((pfN es ss ss.length).getD 0 0) ((pfN es ss ss.length).getD 1 0)) := if_pos rfl
  rw [e1, e2, e3] at hl0 ⊢
  have hl := hl0
  have hw1 := hwf.parts ss ss.length (by omega)
  have hn0 : (pfN es ss ss.length).getD 0 0 < (pfE es ss ss.length).length := ns_lt es ss (by omega)
  have hn1 : (pfN es ss ss.length).getD 1 0 < (pfE es ss ss.length).length := ns_lt es ss (by omega)
  obtain ⟨v0, Lr0, hR0, H0⟩ := H
  go_enter Tryz.func372, Tryz.ntmps372
  refine wp_seq (wl_region ?_)
  refine zv (iN .i64 0) ?_
  refine zv (.bool false) ?_
  refine wl_nil (then_at rfl (wp_seq (wl_region ?_)))
  refine zv (.slice o ss.length c) ?_
  refine zv (iN .i64 ss.length) ?_
  refine wl_mks (n := 0) (m := ss.length) (c := intc (List.replicate ss.length 0)) H0 3 ky (run_mk29 (k := .i64) (m := 0) (c := ss.length) ky ky (by omega) (by omega)) ?_
  intro q1 w2 (h3 : HA (zb w0 M t es) ((q1, 3, intc (List.replicate ss.length 0)) :: (t.q, 145, tcell t (nms es) v0) :: (Lr0 ++ (PB es ++ L))) w2)
  refine zv (.slice (some ⟨q1, 0, none⟩) 0 ss.length) ?_
  refine wl_nil (then_at rfl (wp_seq (wp_seq (wl_region ?_))))
  refine zv (.slice o ss.length c) ?_
  refine zv (iN .i64 ss.length) ?_
  refine zv (iN .i64 0) ?_
  refine wl_nil (then_at rfl ?_)
  have HT0 : TH w0 M t (pfE es ss 0) (((q1, 3, intc ((pfN es ss 0) ++ List.replicate (ss.length - 0) 0))) :: L) w2 := TH.dn hR0 h3
  obtain ⟨nb, enb⟩ : ∃ nb, nb = q1 := ⟨_, rfl⟩
  rw [← enb] at HT0 ⊢
  clear enb
  refine wp_block ?_
  refine wp_count (fun i A w' => ∃ u4 : Nat → Value, A = ⟨(pt t.q :: iN .i64 4 :: .string label :: .slice o ss.length c :: un :: un :: un :: un :: u4 8 :: u4 9 :: .slice (some ⟨nb, 0, none⟩) i ss.length :: un :: u4 12 :: u4 13 :: u4 14 :: un :: un :: un :: un :: un :: un :: .slice o ss.length c :: iN .i64 ss.length :: .slice (some ⟨nb, 0, none⟩) 0 ss.length :: .slice o ss.length c :: iN .i64 ss.length :: iN .i64 i :: u4 27 :: u4 28 :: u4 29 :: u4 30 :: u4 31 :: u4 32 :: u4 33 :: u4 34 :: u4 35 :: u4 36 :: u4 37 :: u4 38 :: u4 39 :: u4 40 :: u4 41 :: u4 42 :: List.replicate 44 un).toArray, []⟩ ∧ TH w0 M t (pfE es ss i) ((nb, 3, intc ((pfN es ss i) ++ List.replicate (ss.length - i) 0)) :: L) w') ss.length ?_ ?_ ?_
  · exact ⟨fun ii => (([(8, iN .i64 0), (9, .bool false), (12, undef), (13, undef), (14, undef), (27, undef), (28, undef), (29, undef), (30, undef), (31, undef), (32, undef), (33, undef), (34, undef), (35, undef), (36, undef), (37, undef), (38, undef), (39, undef), (40, undef), (41, undef), (42, undef)] : List (Nat × Value)).find? (·.1 == ii)).elim undef (·.2), by kernel_rfl, HT0⟩
  · rintro i hk _ w5 ⟨u4, rfl, hT⟩
    obtain ⟨pq, cs, rfl, hps, hm⟩ := hp.resolve_left (by intro e; rw [e] at hk; simp at hk)
    have hpl := pfE_len es ss i
    refine wp_seq (wl_region ?_)
    refine zu (.bool true) (run_lss (k := .i64) (a := i) (b := ss.length) ky ky true (decide_eq_true (by omega))) ?_
    refine wl_nil (then_at rfl (wp_seq ?_))
    refine wp_cond_true ky ?_
    refine wp_skip (then_at rfl (wp_seq (wp_block (wp_seq (wl_region ?_)))))
    refine zu (.pointer (some ⟨pq, i, none⟩)) (run_addr_slice (q := pq) (n := ss.length) (m := c) (a := i) Tryz.underlying86 (fun w => Tryz.sizeOf9 w) ky ky (by omega)) ?_
    refine zu (.string (ss.getD i ByteArray.empty)) (run_load1 (fun w => Tryz.isAgg9 w) ky (((hT.blk (x := (pq, 9, cs)) (List.mem_cons_of_mem _ hm)).cell i).trans (hps i hk))) ?_
    refine zv (.string (ss.getD i ByteArray.empty)) ?_
    refine wl_nil (then_at rfl (wp_seq (wl_region ?_)))
    refine zv (.pointer (some ⟨t.q, 0, none⟩)) ?_
    refine zv (.string (ss.getD i ByteArray.empty)) ?_
    refine wl_callx ky enter379 #[.pointer (some ⟨t.q, 0, none⟩), .string (ss.getD i ByteArray.empty)] ky (part_any hT (by omega) (ss.getD i ByteArray.empty) (hss i)) ?_
    rintro _ w6 ⟨rfl, hT1⟩
    refine ⟨_, rfl, ?_⟩
    obtain ⟨v, Lr, hR, H1⟩ := hT1.up
    refine zv (.tuple #[iN .i64 ((partF (pfE es ss i) (ss.getD i ByteArray.empty)).2), .bool true]) ?_
    refine zv (iN .i64 ((partF (pfE es ss i) (ss.getD i ByteArray.empty)).2)) ?_
    refine zv (.bool true) ?_
    refine zv (iN .i64 ((partF (pfE es ss i) (ss.getD i ByteArray.empty)).2)) ?_
    refine zv (.bool true) ?_
    refine wl_nil (then_at rfl (wp_seq (wp_seq (wl_region ?_))))
    refine zv (.bool true) ?_
    refine zv (.bool false) ?_
    refine wl_nil (then_at rfl ?_)
    refine wp_cond_false ky ?_
    refine wp_skip (then_at rfl (wl_region ?_))
    refine zv (.slice (some ⟨nb, 0, none⟩) i ss.length) ?_
    refine zv (iN .i64 ((partF (pfE es ss i) (ss.getD i ByteArray.empty)).2)) ?_
    refine wl_mks (n := 1) (m := 1) (c := intc ([(partF (pfE es ss i) (ss.getD i ByteArray.empty)).2])) H1 3 ky ky ?_
    intro q7 w8 (h9 : HA (zb w0 M t (pfE es ss (i + 1))) ((q7, 3, intc ([(partF (pfE es ss i) (ss.getD i ByteArray.empty)).2])) :: (nb, 3, intc ((pfN es ss i) ++ List.replicate (ss.length - i) 0)) :: (t.q, 145, tcell t (nms (pfE es ss (i + 1))) v) :: (Lr ++ (PB (pfE es ss (i + 1)) ++ L))) w8)
    refine wl_any ky (run_appI (m := i) (c := ss.length) (u := (partF (pfE es ss i) (ss.getD i ByteArray.empty)).2) (l := pfN es ss i ++ List.replicate (ss.length - i) 0) ky ky (h9.get 1 rfl) (h9.get 0 rfl) (by omega) (by rw [List.length_append, pfN_len, List.length_replicate]; omega)) ?_
    have h11 := h9.put 1 rfl i (iN .i64 ((partF (pfE es ss i) (ss.getD i ByteArray.empty)).2))
    rw [intc_put, pad_set _ _ _ _ (pfN_len es ss i) hk] at h11
    generalize w8.setCell ⟨nb, i, none⟩ (iN .i64 ((partF (pfE es ss i) (ss.getD i ByteArray.empty)).2)) = w10 at h11 ⊢
    have h12 : HA (zb w0 M t (pfE es ss (i + 1))) ((nb, 3, intc ((pfN es ss (i + 1)) ++ List.replicate (ss.length - (i + 1)) 0)) :: (t.q, 145, tcell t (nms (pfE es ss (i + 1))) v) :: (Lr ++ (PB (pfE es ss (i + 1)) ++ L))) w10 := h11.tl
    refine zv (.slice (some ⟨nb, 0, none⟩) (i + 1) ss.length) ?_
    refine wl_nil (block_normal (then_at rfl (wl_region ?_)))
    refine zu (iN .i64 (i + 1)) (run_add (k := .i64) (a := i) (b := 1) ky ky (by simp only [top]; omega)) ?_
    refine zv (iN .i64 (i + 1)) ?_
    refine wl_nil ?_
    exact then_I ⟨fun ii => (([(8, u4 8), (9, u4 9), (12, .string (ss.getD i ByteArray.empty)), (13, iN .i64 ((partF (pfE es ss i) (ss.getD i ByteArray.empty)).2)), (14, .bool true), (27, .bool true), (28, .pointer (some ⟨pq, i, none⟩)), (29, .string (ss.getD i ByteArray.empty)), (30, .tuple #[iN .i64 ((partF (pfE es ss i) (ss.getD i ByteArray.empty)).2), .bool true]), (31, .pointer (some ⟨t.q, 0, none⟩)), (32, .string (ss.getD i ByteArray.empty)), (33, .tuple #[iN .i64 ((partF (pfE es ss i) (ss.getD i ByteArray.empty)).2), .bool true]), (34, iN .i64 ((partF (pfE es ss i) (ss.getD i ByteArray.empty)).2)), (35, .bool true), (36, .bool true), (37, .bool false), (38, .slice (some ⟨nb, 0, none⟩) i ss.length), (39, iN .i64 ((partF (pfE es ss i) (ss.getD i ByteArray.empty)).2)), (40, .slice (some ⟨q7, 0, none⟩) 1 1), (41, .slice (some ⟨nb, 0, none⟩) (i + 1) ss.length), (42, iN .i64 (i + 1))] : List (Nat × Value)).find? (·.1 == ii)).elim undef (·.2), by kernel_rfl, TH.dn hR h12⟩
  · rintro _ w13 ⟨u4, rfl, hT⟩
    obtain ⟨v, Lr, hR, H1⟩ := hT.up
    rw [Nat.sub_self, List.replicate_zero, List.append_nil] at H1
    have hpl := pfE_len es ss ss.length
    clear hT
    refine wp_seq (wl_region ?_)
    refine zu (.bool false) (run_lss (k := .i64) (a := ss.length) (b := ss.length) ky ky false (decide_eq_false (by omega))) ?_
    refine wl_nil (then_at rfl (wp_seq ?_))
    refine wp_cond_false ky ?_
    refine wp_exit ?_
    repeat first | refine then_exit ?_ | refine block_exit ?_ | refine block_exit_ne (by decide) ?_
    refine then_at rfl (wp_seq (wl_region ?_))
    refine zv (iN .i64 4) ?_
    refine zv (.string label) ?_
    refine wl_call (v := .string label) H1 ky enter113 #[.string label] ky (clone_any label hlab w13) ?_
    intro w14 h15
    refine zv (.slice (some ⟨nb, 0, none⟩) ss.length ss.length) ?_
    refine zv (.agg #[iN .i64 4, iN .i64 0, .string label, .slice (some ⟨nb, 0, none⟩) ss.length ss.length]) ?_
    refine wl_make (c := #[iN .i64 0, iN .i64 0, .string ({ data := #[] }), .slice none 0 0]) h15 190 ky ky ?_
    intro q16 w17 (h18 : HA (zb w0 M t (pfE es ss ss.length)) ((q16, 190, #[iN .i64 0, iN .i64 0, .string ({ data := #[] }), .slice none 0 0]) :: (nb, 3, intc ((pfN es ss ss.length))) :: (t.q, 145, tcell t (nms (pfE es ss ss.length)) v) :: (Lr ++ (PB (pfE es ss ss.length) ++ L))) w17)
    refine wl_fill (c' := #[iN .i64 4, iN .i64 0, .string label, .slice (some ⟨nb, 0, none⟩) ss.length ss.length]) h18 0 rfl ky ky ky rfl ky ky ?_
    intro w19 (h20 : HA (zb w0 M t (pfE es ss ss.length)) ((q16, 190, #[iN .i64 4, iN .i64 0, .string label, .slice (some ⟨nb, 0, none⟩) ss.length ss.length]) :: (nb, 3, intc ((pfN es ss ss.length))) :: (t.q, 145, tcell t (nms (pfE es ss ss.length)) v) :: (Lr ++ (PB (pfE es ss ss.length) ++ L))) w19)
    refine wl_nil (then_at rfl (wp_seq (wp_seq (wl_region ?_))))
    refine zv (iN .i64 4) ?_
    refine zu (.bool true) (run_eqi (k := .i64) (a := 4) (b := 4) ky ky true (by decide)) ?_
    refine wl_nil (then_at rfl ?_)
    refine wp_cond_true ky ?_
    refine wp_region_ghost (fun g : Nat → Nat => (⟨(pt t.q :: iN .i64 4 :: .string label :: .slice o ss.length c :: un :: un :: un :: un :: u4 8 :: u4 9 :: .slice (some ⟨nb, 0, none⟩) ss.length ss.length :: un :: u4 12 :: u4 13 :: u4 14 :: pt q16 :: un :: un :: un :: un :: un :: .slice o ss.length c :: iN .i64 ss.length :: .slice (some ⟨nb, 0, none⟩) 0 ss.length :: .slice o ss.length c :: iN .i64 ss.length :: iN .i64 ss.length :: .bool false :: u4 28 :: u4 29 :: u4 30 :: u4 31 :: u4 32 :: u4 33 :: u4 34 :: u4 35 :: u4 36 :: u4 37 :: u4 38 :: u4 39 :: u4 40 :: u4 41 :: u4 42 :: iN .i64 4 :: .string label :: .string label :: .slice (some ⟨nb, 0, none⟩) ss.length ss.length :: .agg #[iN .i64 4, iN .i64 0, .string label, .slice (some ⟨nb, 0, none⟩) ss.length ss.length] :: iN .i64 4 :: .bool true :: pt t.q :: .slice (some ⟨nb, 0, none⟩) ss.length ss.length :: pt nb :: iN .i64 (((pfN es ss ss.length)).getD 0 0) :: .slice (some ⟨nb, 0, none⟩) ss.length ss.length :: .pointer (some ⟨nb, 1, none⟩) :: iN .i64 (((pfN es ss ss.length)).getD 1 0) :: .agg (#[iN .i64 4, iN .i64 (dhN (pfE es ss ss.length) ((pfN es ss ss.length).getD 1 0)), .string { data := #[] }, .slice (some ⟨g 7, 0, none⟩) (dhP (pfE es ss ss.length) ((pfN es ss ss.length).getD 0 0) ((pfN es ss ss.length).getD 1 0)).length (dhP (pfE es ss ss.length) ((pfN es ss ss.length).getD 0 0) ((pfN es ss ss.length).getD 1 0)).length]) :: List.replicate 29 un).toArray, []⟩ : Act)) (G2 (HA (zb w0 M t (pfE es ss ss.length)) ((nb, 3, intc ((pfN es ss ss.length))) :: (t.q, 145, tcell t (nms (pfE es ss ss.length)) v) :: (Lr ++ (PB (pfE es ss ss.length) ++ L)))) (HA (zb w0 M t (pfE es ss ss.length)) ((q16, 190, #[iN .i64 4, iN .i64 0, .string label, .slice (some ⟨nb, 0, none⟩) ss.length ss.length]) :: (nb, 3, intc ((pfN es ss ss.length))) :: (t.q, 145, tcell t (nms (pfE es ss ss.length)) v) :: (Lr ++ (PB (pfE es ss ss.length) ++ L)))) (fun n => HA (zb w0 M t (pfE es ss ss.length)) ((n, 3, intc (dhP (pfE es ss ss.length) ((pfN es ss ss.length).getD 0 0) ((pfN es ss ss.length).getD 1 0))) :: ((q16, 190, #[iN .i64 4, iN .i64 0, .string label, .slice (some ⟨nb, 0, none⟩) ss.length ss.length]) :: (nb, 3, intc ((pfN es ss ss.length))) :: (t.q, 145, tcell t (nms (pfE es ss ss.length)) v) :: (Lr ++ (PB (pfE es ss ss.length) ++ L))))) (fun n => HA (zb w0 M t (pfE es ss ss.length)) ((n, 3, intc (dhP (pfE es ss ss.length) ((pfN es ss ss.length).getD 0 0) ((pfN es ss ss.length).getD 1 0))) :: (q16, 190, #[iN .i64 4, iN .i64 (dhN (pfE es ss ss.length) ((pfN es ss ss.length).getD 1 0)), .string { data := #[] }, .slice (some ⟨n, 0, none⟩) (dhP (pfE es ss ss.length) ((pfN es ss ss.length).getD 0 0) ((pfN es ss ss.length).getD 1 0)).length (dhP (pfE es ss ss.length) ((pfN es ss ss.length).getD 0 0) ((pfN es ss ss.length).getD 1 0)).length]) :: ((nb, 3, intc ((pfN es ss ss.length))) :: (t.q, 145, tcell t (nms (pfE es ss ss.length)) v) :: (Lr ++ (PB (pfE es ss ss.length) ++ L))))) (fun i => ([[], [], [], [], [], [], [], [], [7]] : List (List Nat)).getD i []) 7 8) [.pointer (some ⟨t.q, 0, none⟩), .slice (some ⟨nb, 0, none⟩) ss.length ss.length, .pointer (some ⟨nb, 0, none⟩), iN .i64 (((pfN es ss ss.length)).getD 0 0), .slice (some ⟨nb, 0, none⟩) ss.length ss.length, .pointer (some ⟨nb, 1, none⟩), iN .i64 (((pfN es ss ss.length)).getD 1 0), .agg (#[iN .i64 4, iN .i64 (dhN (pfE es ss ss.length) ((pfN es ss ss.length).getD 1 0)), .string { data := #[] }, .slice (some ⟨0, 0, none⟩) (dhP (pfE es ss ss.length) ((pfN es ss ss.length).getD 0 0) ((pfN es ss ss.length).getD 1 0)).length (dhP (pfE es ss ss.length) ((pfN es ss ss.length).getD 0 0) ((pfN es ss ss.length).getD 1 0)).length]), undef] ky ky ky ky (fun _ _ _ _ h => h) (fun d hd => G2.start h20.drew.tl h20.drew (hd 7 (by decide)) (hd 8 (by decide)) (Cl.start (n := 9) hd (by decide))) ?_ ?_
    · refine AllGhost.cons (g2_read (v := fun g => .pointer (some ⟨t.q, 0, none⟩)) (by decide) (by decide) ky (fun _ => by kernel_rfl) (fun _ => by kernel_rfl) (fun g _ _ => ky)) ?_
      refine AllGhost.cons (g2_read (v := fun g => .slice (some ⟨nb, 0, none⟩) ss.length ss.length) (by decide) (by decide) ky (fun _ => by kernel_rfl) (fun _ => by kernel_rfl) (fun g _ _ => ky)) ?_
      refine AllGhost.cons (g2_read (v := fun g => .pointer (some ⟨nb, 0, none⟩)) (by decide) (by decide) ky (fun _ => by kernel_rfl) (fun _ => by kernel_rfl) (fun g _ _ => (run_addr_slice (q := nb) (n := ss.length) (m := ss.length) (a := 0) Tryz.underlying84 (fun w => Tryz.sizeOf3 w) ky ky (by omega)))) ?_
      refine AllGhost.cons (g2_read (v := fun g => iN .i64 (((pfN es ss ss.length)).getD 0 0)) (by decide) (by decide) ky (fun _ => by kernel_rfl) (fun _ => by kernel_rfl) (fun g w' h' => run_load1 (fun w => Tryz.isAgg3 w) ky (((h'.get 0 rfl).cell 0).trans (intc_get ((pfN es ss ss.length)) 0 (by rw [pfN_len]; omega))))) ?_
      refine AllGhost.cons (g2_read (v := fun g => .slice (some ⟨nb, 0, none⟩) ss.length ss.length) (by decide) (by decide) ky (fun _ => by kernel_rfl) (fun _ => by kernel_rfl) (fun g _ _ => ky)) ?_
      refine AllGhost.cons (g2_read (v := fun g => .pointer (some ⟨nb, 1, none⟩)) (by decide) (by decide) ky (fun _ => by kernel_rfl) (fun _ => by kernel_rfl) (fun g _ _ => (run_addr_slice (q := nb) (n := ss.length) (m := ss.length) (a := 1) Tryz.underlying84 (fun w => Tryz.sizeOf3 w) ky ky (by omega)))) ?_
      refine AllGhost.cons (g2_read (v := fun g => iN .i64 (((pfN es ss ss.length)).getD 1 0)) (by decide) (by decide) ky (fun _ => by kernel_rfl) (fun _ => by kernel_rfl) (fun g w' h' => run_load1 (fun w => Tryz.isAgg3 w) ky (((h'.get 0 rfl).cell 1).trans (intc_get ((pfN es ss ss.length)) 1 (by rw [pfN_len]; omega))))) ?_
      refine AllGhost.cons (g2_call0 (v := fun n => .agg (#[iN .i64 4, iN .i64 (dhN (pfE es ss ss.length) ((pfN es ss ss.length).getD 1 0)), .string { data := #[] }, .slice (some ⟨n, 0, none⟩) (dhP (pfE es ss ss.length) ((pfN es ss ss.length).getD 0 0) ((pfN es ss ss.length).getD 1 0)).length (dhP (pfE es ss ss.length) ((pfN es ss ss.length).getD 0 0) ((pfN es ss ss.length).getD 1 0)).length])) (args := #[.pointer (some ⟨t.q, 0, none⟩), iN .i64 ((pfN es ss ss.length).getD 0 0), iN .i64 ((pfN es ss ss.length).getD 1 0)]) (by decide) (fun d hc hm => hm 7 (by decide)) ky (fun _ => by kernel_rfl) (fun _ _ => by kernel_rfl) enter380 (fun _ => by kernel_rfl) (fun w' hRr h0 => (shared_any (TV.of (A := [(q16, 190, #[iN .i64 4, iN .i64 0, .string label, .slice (some ⟨nb, 0, none⟩) ss.length ss.length]), (nb, 3, intc ((pfN es ss ss.length)))]) hR h0) hw1 hn1).mono (by rintro e w2 ⟨b, e1, e2, e3, e4⟩; exact ⟨b, e1, hRr.keep _ _ e4, HA.addNew h0 e4 e2 e3⟩))) ?_
      refine AllGhost.cons (g2_act1 (fun d hc hm => hm 7 (by decide)) ky (fun _ => by kernel_rfl) (fun _ => by kernel_rfl) (fun g w' _ h' => ⟨_, run_store_blk (c' := #[iN .i64 4, iN .i64 (dhN (pfE es ss ss.length) ((pfN es ss ss.length).getD 1 0)), .string { data := #[] }, .slice (some ⟨g 7, 0, none⟩) (dhP (pfE es ss ss.length) ((pfN es ss ss.length).getD 0 0) ((pfN es ss ss.length).getD 1 0)).length (dhP (pfE es ss ss.length) ((pfN es ss ss.length).getD 0 0) ((pfN es ss ss.length).getD 1 0)).length]) ky ky (h'.get 1 rfl) rfl ky ky, (h'.fill (c' := #[iN .i64 4, iN .i64 (dhN (pfE es ss ss.length) ((pfN es ss ss.length).getD 1 0)), .string { data := #[] }, .slice (some ⟨g 7, 0, none⟩) (dhP (pfE es ss ss.length) ((pfN es ss ss.length).getD 0 0) ((pfN es ss ss.length).getD 1 0)).length (dhP (pfE es ss ss.length) ((pfN es ss ss.length).getD 0 0) ((pfN es ss ss.length).getD 1 0)).length]) 1 rfl rfl).tl.tl, h'.fill (c' := #[iN .i64 4, iN .i64 (dhN (pfE es ss ss.length) ((pfN es ss ss.length).getD 1 0)), .string { data := #[] }, .slice (some ⟨g 7, 0, none⟩) (dhP (pfE es ss ss.length) ((pfN es ss ss.length).getD 0 0) ((pfN es ss ss.length).getD 1 0)).length (dhP (pfE es ss ss.length) ((pfN es ss ss.length).getD 0 0) ((pfN es ss ss.length).getD 1 0)).length]) 1 rfl rfl⟩)) ?_
      exact AllGhost.nil
    intro g w21 gg22
    have h23 := gg22.held
    rw [if_pos rfl] at h23
    clear gg22
    generalize g 7 = n24 at h23 ⊢
    clear g
    obtain ⟨nq, enq⟩ : ∃ nq, nq = n24 := ⟨_, rfl⟩
    rw [← enq] at h23 ⊢
    clear enq
    refine then_at rfl (wp_seq (wl_region ?_))
    refine wl_load h23 1 rfl ky ky Tryz.underlying190 rfl ky ?_
    refine wl_call (v := recV (recOf 4 (dhN (pfE es ss ss.length) ((pfN es ss ss.length).getD 1 0)) { data := #[] } (dhP (pfE es ss ss.length) ((pfN es ss ss.length).getD 0 0) ((pfN es ss ss.length).getD 1 0)))) h23 ky enter211 #[.agg (#[iN .i64 4, iN .i64 (dhN (pfE es ss ss.length) ((pfN es ss ss.length).getD 1 0)), .string { data := #[] }, .slice (some ⟨nq, 0, none⟩) (dhP (pfE es ss ss.length) ((pfN es ss ss.length).getD 0 0) ((pfN es ss ss.length).getD 1 0)).length (dhP (pfE es ss ss.length) ((pfN es ss ss.length).getD 0 0) ((pfN es ss ss.length).getD 1 0)).length])] ky (recipe_any 4 (dhN (pfE es ss ss.length) ((pfN es ss ss.length).getD 1 0)) { data := #[] } (dhP (pfE es ss ss.length) ((pfN es ss ss.length).getD 0 0) ((pfN es ss ss.length).getD 1 0)) nq (h23.get 0 rfl) (by rw [dhP_len]; decide) (dhP_lt hw1 (by omega) (by omega))) ?_
    intro w25 h26
    refine wl_make (c := #[iN .i64 0, iN .i64 0, .string ({ data := #[] }), .string ({ data := #[] })]) h26 276 ky ky ?_
    intro q27 w28 (h29 : HA (zb w0 M t (pfE es ss ss.length)) ((q27, 276, #[iN .i64 0, iN .i64 0, .string ({ data := #[] }), .string ({ data := #[] })]) :: (nq, 3, intc ((dhP (pfE es ss ss.length) ((pfN es ss ss.length).getD 0 0) ((pfN es ss ss.length).getD 1 0)))) :: (q16, 190, #[iN .i64 4, iN .i64 (dhN (pfE es ss ss.length) ((pfN es ss ss.length).getD 1 0)), .string { data := #[] }, .slice (some ⟨nq, 0, none⟩) (dhP (pfE es ss ss.length) ((pfN es ss ss.length).getD 0 0) ((pfN es ss ss.length).getD 1 0)).length (dhP (pfE es ss ss.length) ((pfN es ss ss.length).getD 0 0) ((pfN es ss ss.length).getD 1 0)).length]) :: (nb, 3, intc ((pfN es ss ss.length))) :: (t.q, 145, tcell t (nms (pfE es ss ss.length)) v) :: (Lr ++ (PB (pfE es ss ss.length) ++ L))) w28)
    refine wl_fill (c' := #[iN .i64 4, iN .i64 (dhN (pfE es ss ss.length) ((pfN es ss ss.length).getD 1 0)), .string { data := #[] }, .string (laid (dhP (pfE es ss ss.length) ((pfN es ss ss.length).getD 0 0) ((pfN es ss ss.length).getD 1 0)))]) h29 0 rfl ky ky ky rfl ky ky ?_
    intro w30 (h31 : HA (zb w0 M t (pfE es ss ss.length)) ((q27, 276, #[iN .i64 4, iN .i64 (dhN (pfE es ss ss.length) ((pfN es ss ss.length).getD 1 0)), .string { data := #[] }, .string (laid (dhP (pfE es ss ss.length) ((pfN es ss ss.length).getD 0 0) ((pfN es ss ss.length).getD 1 0)))]) :: (nq, 3, intc ((dhP (pfE es ss ss.length) ((pfN es ss ss.length).getD 0 0) ((pfN es ss ss.length).getD 1 0)))) :: (q16, 190, #[iN .i64 4, iN .i64 (dhN (pfE es ss ss.length) ((pfN es ss ss.length).getD 1 0)), .string { data := #[] }, .slice (some ⟨nq, 0, none⟩) (dhP (pfE es ss ss.length) ((pfN es ss ss.length).getD 0 0) ((pfN es ss ss.length).getD 1 0)).length (dhP (pfE es ss ss.length) ((pfN es ss ss.length).getD 0 0) ((pfN es ss ss.length).getD 1 0)).length]) :: (nb, 3, intc ((pfN es ss ss.length))) :: (t.q, 145, tcell t (nms (pfE es ss ss.length)) v) :: (Lr ++ (PB (pfE es ss ss.length) ++ L))) w30)
    refine wl_nil (then_at rfl (wp_seq (wp_seq ?_)))
    refine wp_region_sure ⟨(pt t.q :: iN .i64 4 :: .string label :: .slice o ss.length c :: un :: un :: un :: un :: u4 8 :: u4 9 :: .slice (some ⟨nb, 0, none⟩) ss.length ss.length :: un :: u4 12 :: u4 13 :: u4 14 :: pt q16 :: pt q27 :: iN .i64 x :: .bool true :: un :: un :: .slice o ss.length c :: iN .i64 ss.length :: .slice (some ⟨nb, 0, none⟩) 0 ss.length :: .slice o ss.length c :: iN .i64 ss.length :: iN .i64 ss.length :: .bool false :: u4 28 :: u4 29 :: u4 30 :: u4 31 :: u4 32 :: u4 33 :: u4 34 :: u4 35 :: u4 36 :: u4 37 :: u4 38 :: u4 39 :: u4 40 :: u4 41 :: u4 42 :: iN .i64 4 :: .string label :: .string label :: .slice (some ⟨nb, 0, none⟩) ss.length ss.length :: .agg #[iN .i64 4, iN .i64 0, .string label, .slice (some ⟨nb, 0, none⟩) ss.length ss.length] :: iN .i64 4 :: .bool true :: pt t.q :: .slice (some ⟨nb, 0, none⟩) ss.length ss.length :: pt nb :: iN .i64 (((pfN es ss ss.length)).getD 0 0) :: .slice (some ⟨nb, 0, none⟩) ss.length ss.length :: .pointer (some ⟨nb, 1, none⟩) :: iN .i64 (((pfN es ss ss.length)).getD 1 0) :: .agg (#[iN .i64 4, iN .i64 (dhN (pfE es ss ss.length) ((pfN es ss ss.length).getD 1 0)), .string { data := #[] }, .slice (some ⟨nq, 0, none⟩) (dhP (pfE es ss ss.length) ((pfN es ss ss.length).getD 0 0) ((pfN es ss ss.length).getD 1 0)).length (dhP (pfE es ss ss.length) ((pfN es ss ss.length).getD 0 0) ((pfN es ss ss.length).getD 1 0)).length]) :: .agg (#[iN .i64 4, iN .i64 (dhN (pfE es ss ss.length) ((pfN es ss ss.length).getD 1 0)), .string { data := #[] }, .slice (some ⟨nq, 0, none⟩) (dhP (pfE es ss ss.length) ((pfN es ss ss.length).getD 0 0) ((pfN es ss ss.length).getD 1 0)).length (dhP (pfE es ss ss.length) ((pfN es ss ss.length).getD 0 0) ((pfN es ss ss.length).getD 1 0)).length]) :: recV (recOf 4 (dhN (pfE es ss ss.length) ((pfN es ss ss.length).getD 1 0)) { data := #[] } (dhP (pfE es ss ss.length) ((pfN es ss ss.length).getD 0 0) ((pfN es ss ss.length).getD 1 0))) :: .tuple #[iN .i64 x, .bool true] :: pt t.q :: pt t.q :: .pointer (some ⟨t.q, 3, none⟩) :: .map (some t.mm) :: .agg (#[iN .i64 4, iN .i64 (dhN (pfE es ss ss.length) ((pfN es ss ss.length).getD 1 0)), .string { data := #[] }, .string (laid (dhP (pfE es ss ss.length) ((pfN es ss ss.length).getD 0 0) ((pfN es ss ss.length).getD 1 0)))]) :: .tuple #[iN .i64 x, .bool true] :: iN .i64 x :: .bool true :: List.replicate 18 un).toArray, []⟩ (HA (zb w0 M t (pfE es ss ss.length)) ((q27, 276, #[iN .i64 4, iN .i64 (dhN (pfE es ss ss.length) ((pfN es ss ss.length).getD 1 0)), .string { data := #[] }, .string (laid (dhP (pfE es ss ss.length) ((pfN es ss ss.length).getD 0 0) ((pfN es ss ss.length).getD 1 0)))]) :: (nq, 3, intc ((dhP (pfE es ss ss.length) ((pfN es ss ss.length).getD 0 0) ((pfN es ss ss.length).getD 1 0)))) :: (q16, 190, #[iN .i64 4, iN .i64 (dhN (pfE es ss ss.length) ((pfN es ss ss.length).getD 1 0)), .string { data := #[] }, .slice (some ⟨nq, 0, none⟩) (dhP (pfE es ss ss.length) ((pfN es ss ss.length).getD 0 0) ((pfN es ss ss.length).getD 1 0)).length (dhP (pfE es ss ss.length) ((pfN es ss ss.length).getD 0 0) ((pfN es ss ss.length).getD 1 0)).length]) :: (nb, 3, intc ((pfN es ss ss.length))) :: (t.q, 145, tcell t (nms (pfE es ss ss.length)) v) :: (Lr ++ (PB (pfE es ss ss.length) ++ L)))) [.pointer (some ⟨t.q, 0, none⟩), .pointer (some ⟨t.q, 0, none⟩), .pointer (some ⟨t.q, 3, none⟩), .map (some t.mm), .agg (#[iN .i64 4, iN .i64 (dhN (pfE es ss ss.length) ((pfN es ss ss.length).getD 1 0)), .string { data := #[] }, .string (laid (dhP (pfE es ss ss.length) ((pfN es ss ss.length).getD 0 0) ((pfN es ss ss.length).getD 1 0)))]), .tuple #[iN .i64 x, .bool true], .tuple #[iN .i64 x, .bool true], iN .i64 x, .bool true, iN .i64 x, .bool true] ky ky ky ky (fun _ _ _ h => h) h31.drew ?_ ?_
    · refine AllSure.cons (OpSure.take (v := .pointer (some ⟨t.q, 0, none⟩)) ky ky (fun _ _ => ky)) ?_
      refine AllSure.cons (OpSure.take (v := .pointer (some ⟨t.q, 0, none⟩)) ky ky (fun _ _ => ky)) ?_
      refine AllSure.cons (OpSure.take (v := .pointer (some ⟨t.q, 3, none⟩)) ky ky (fun _ _ => ky)) ?_
      refine AllSure.cons (OpSure.take (v := .map (some t.mm)) ky ky (fun w' h' => run_load1 (fun w => Tryz.isAgg143 w) ky (((h'.get 4 rfl).cell 3).trans rfl))) ?_
      refine AllSure.cons (OpSure.take (v := .agg (#[iN .i64 4, iN .i64 (dhN (pfE es ss ss.length) ((pfN es ss ss.length).getD 1 0)), .string { data := #[] }, .string (laid (dhP (pfE es ss ss.length) ((pfN es ss ss.length).getD 0 0) ((pfN es ss ss.length).getD 1 0)))])) ky ky (fun _ h => run_load_blk ky (h.get 0 rfl) Tryz.underlying276 rfl ky)) ?_
      refine AllSure.cons (OpSure.take (v := .tuple #[iN .i64 x, .bool true]) ky ky (fun w' h' => run_lk72 (s := recOf 4 (dhN (pfE es ss ss.length) ((pfN es ss ss.length).getD 1 0)) { data := #[] } (dhP (pfE es ss ss.length) ((pfN es ss ss.length).getD 0 0) ((pfN es ss ss.length).getD 1 0))) ky ky h'.mapM (some x) hl)) ?_
      refine AllSure.cons (OpSure.take (v := .tuple #[iN .i64 x, .bool true]) ky ky (fun _ _ => ky)) ?_
      refine AllSure.cons (OpSure.take (v := iN .i64 x) ky ky (fun _ _ => ky)) ?_
      refine AllSure.cons (OpSure.take (v := .bool true) ky ky (fun _ _ => ky)) ?_
      refine AllSure.cons (OpSure.take (v := iN .i64 x) ky ky (fun _ _ => ky)) ?_
      refine AllSure.cons (OpSure.take (v := .bool true) ky ky (fun _ _ => ky)) ?_
      exact AllSure.nil
    intro w32 h33
    refine then_at rfl (wp_seq (wl_region ?_))
    refine zv (.bool true) ?_
    refine wl_nil (then_at rfl ?_)
    refine wp_cond_true ky ?_
    refine wp_seq (wl_region ?_)
    refine zv (iN .i64 x) ?_
    refine zv (iN .i64 x) ?_
    refine zv (.bool true) ?_
    refine wl_nil (then_at rfl ?_)
    refine wp_ret ?_
    repeat first | refine then_ret ?_ | refine block_ret ?_
    exact bodyPost_ret (v := .tuple #[iN .i64 x, .bool true]) ky rfl (.inl ⟨x, hl0, rfl, ⟨v, Lr, hR, h33.sub (List.sublist_append_right [(q27, 276, #[iN .i64 4, iN .i64 (dhN (pfE es ss ss.length) ((pfN es ss ss.length).getD 1 0)), .string { data := #[] }, .string (laid (dhP (pfE es ss ss.length) ((pfN es ss ss.length).getD 0 0) ((pfN es ss ss.length).getD 1 0)))]), (nq, 3, intc ((dhP (pfE es ss ss.length) ((pfN es ss ss.length).getD 0 0) ((pfN es ss ss.length).getD 1 0)))), (q16, 190, #[iN .i64 4, iN .i64 (dhN (pfE es ss ss.length) ((pfN es ss ss.length).getD 1 0)), .string { data := #[] }, .slice (some ⟨nq, 0, none⟩) (dhP (pfE es ss ss.length) ((pfN es ss ss.length).getD 0 0) ((pfN es ss ss.length).getD 1 0)).length (dhP (pfE es ss ss.length) ((pfN es ss ss.length).getD 0 0) ((pfN es ss ss.length).getD 1 0)).length]), (nb, 3, intc ((pfN es ss ss.length)))] _)⟩⟩)
set_option maxRecDepth 100000 in
set_option maxHeartbeats 2000000 in
theorem join_d {w0 w : World} {M : ML} {t : Tb} {es : List Ent} {L : BL} (H : TH w0 M t es L w) (hwf : Wf es) (label : ByteArray) (hlab : label.size ≤ 281474976710656) (ss : List ByteArray) (o : Option Addr) (c : Nat) (hp : ss = [] ∨ ∃ pq cs, o = some ⟨pq, 0, none⟩ ∧ PreS cs ss ∧ (pq, 9, cs) ∈ L) (hss : ∀ i, (ss.getD i ByteArray.empty).size ≤ 281474976710656) (hsl : ss.length ≤ 100) (hf : es.length < 58000) (h2 : ss.length = 2) (hl0 : lkR (mks (pfE es ss ss.length) 0) (recOf 4 (joinN (pfE es ss ss.length) 4 (pfN es ss ss.length)) (joinS 4 label) (joinP (pfE es ss ss.length) 4 (pfN es ss ss.length))) = none) :
    Calls Tryz.prog 372 #[pt t.q, iN .i64 4, .string label, .slice o ss.length c] w fun e w' =>
      (∃ x, lkR (mks (pfE es ss ss.length) 0) (recOf 4 (joinN (pfE es ss ss.length) 4 (pfN es ss ss.length)) (joinS 4 label) (joinP (pfE es ss ss.length) 4 (pfN es ss ss.length))) = some x ∧ e = .returned (.tuple #[iN .i64 x, .bool true]) ∧ TH w0 M t (pfE es ss ss.length) L w') ∨
      (lkR (mks (pfE es ss ss.length) 0) (recOf 4 (joinN (pfE es ss ss.length) 4 (pfN es ss ss.length)) (joinS 4 label) (joinP (pfE es ss ss.length) 4 (pfN es ss ss.length))) = none ∧ ∃ b, e = .returned (.tuple #[iN .i64 (pfE es ss ss.length).length, .bool true]) ∧ TH w0 M t ((pfE es ss ss.length) ++ [.mk 4 (joinN (pfE es ss ss.length) 4 (pfN es ss ss.length)) (joinS 4 label) (joinP (pfE es ss ss.length) 4 (pfN es ss ss.length)) b]) L w') := by
  have e1 : joinN (pfE es ss ss.length) 4 (pfN es ss ss.length) = (dhN (pfE es ss ss.length) ((pfN es ss ss.length).getD 1 0)) := if_pos rfl
  have e2 : joinS 4 label = { data := #[] } := if_pos rfl
  have e3 : joinP (pfE es ss ss.length) 4 (pfN es ss ss.length) = (dhP (pfE es ss ss.length) ((pfN es ss ss.length).getD 0 0) ((pfN es ss ss.length).getD 1 0)) := if_pos rfl
  rw [e1, e2, e3] at hl0 ⊢
  have hl := hl0
  have hw1 := hwf.parts ss ss.length (by omega)
  have hn0 : (pfN es ss ss.length).getD 0 0 < (pfE es ss ss.length).length := ns_lt es ss (by omega)
  have hn1 : (pfN es ss ss.length).getD 1 0 < (pfE es ss ss.length).length := ns_lt es ss (by omega)
  obtain ⟨v0, Lr0, hR0, H0⟩ := H
  go_enter Tryz.func372, Tryz.ntmps372
  refine wp_seq (wl_region ?_)
  refine zv (iN .i64 0) ?_
  refine zv (.bool false) ?_
  refine wl_nil (then_at rfl (wp_seq (wl_region ?_)))
  refine zv (.slice o ss.length c) ?_
  refine zv (iN .i64 ss.length) ?_
  refine wl_mks (n := 0) (m := ss.length) (c := intc (List.replicate ss.length 0)) H0 3 ky (run_mk29 (k := .i64) (m := 0) (c := ss.length) ky ky (by omega) (by omega)) ?_
  intro q1 w2 (h3 : HA (zb w0 M t es) ((q1, 3, intc (List.replicate ss.length 0)) :: (t.q, 145, tcell t (nms es) v0) :: (Lr0 ++ (PB es ++ L))) w2)
  refine zv (.slice (some ⟨q1, 0, none⟩) 0 ss.length) ?_
  refine wl_nil (then_at rfl (wp_seq (wp_seq (wl_region ?_))))
  refine zv (.slice o ss.length c) ?_
  refine zv (iN .i64 ss.length) ?_
  refine zv (iN .i64 0) ?_
  refine wl_nil (then_at rfl ?_)
  have HT0 : TH w0 M t (pfE es ss 0) (((q1, 3, intc ((pfN es ss 0) ++ List.replicate (ss.length - 0) 0))) :: L) w2 := TH.dn hR0 h3
  obtain ⟨nb, enb⟩ : ∃ nb, nb = q1 := ⟨_, rfl⟩
  rw [← enb] at HT0 ⊢
  clear enb
  refine wp_block ?_
  refine wp_count (fun i A w' => ∃ u4 : Nat → Value, A = ⟨(pt t.q :: iN .i64 4 :: .string label :: .slice o ss.length c :: un :: un :: un :: un :: u4 8 :: u4 9 :: .slice (some ⟨nb, 0, none⟩) i ss.length :: un :: u4 12 :: u4 13 :: u4 14 :: un :: un :: un :: un :: un :: un :: .slice o ss.length c :: iN .i64 ss.length :: .slice (some ⟨nb, 0, none⟩) 0 ss.length :: .slice o ss.length c :: iN .i64 ss.length :: iN .i64 i :: u4 27 :: u4 28 :: u4 29 :: u4 30 :: u4 31 :: u4 32 :: u4 33 :: u4 34 :: u4 35 :: u4 36 :: u4 37 :: u4 38 :: u4 39 :: u4 40 :: u4 41 :: u4 42 :: List.replicate 44 un).toArray, []⟩ ∧ TH w0 M t (pfE es ss i) ((nb, 3, intc ((pfN es ss i) ++ List.replicate (ss.length - i) 0)) :: L) w') ss.length ?_ ?_ ?_
  · exact ⟨fun ii => (([(8, iN .i64 0), (9, .bool false), (12, undef), (13, undef), (14, undef), (27, undef), (28, undef), (29, undef), (30, undef), (31, undef), (32, undef), (33, undef), (34, undef), (35, undef), (36, undef), (37, undef), (38, undef), (39, undef), (40, undef), (41, undef), (42, undef)] : List (Nat × Value)).find? (·.1 == ii)).elim undef (·.2), by kernel_rfl, HT0⟩
  · rintro i hk _ w5 ⟨u4, rfl, hT⟩
    obtain ⟨pq, cs, rfl, hps, hm⟩ := hp.resolve_left (by intro e; rw [e] at hk; simp at hk)
    have hpl := pfE_len es ss i
    refine wp_seq (wl_region ?_)
    refine zu (.bool true) (run_lss (k := .i64) (a := i) (b := ss.length) ky ky true (decide_eq_true (by omega))) ?_
    refine wl_nil (then_at rfl (wp_seq ?_))
    refine wp_cond_true ky ?_
    refine wp_skip (then_at rfl (wp_seq (wp_block (wp_seq (wl_region ?_)))))
    refine zu (.pointer (some ⟨pq, i, none⟩)) (run_addr_slice (q := pq) (n := ss.length) (m := c) (a := i) Tryz.underlying86 (fun w => Tryz.sizeOf9 w) ky ky (by omega)) ?_
    refine zu (.string (ss.getD i ByteArray.empty)) (run_load1 (fun w => Tryz.isAgg9 w) ky (((hT.blk (x := (pq, 9, cs)) (List.mem_cons_of_mem _ hm)).cell i).trans (hps i hk))) ?_
    refine zv (.string (ss.getD i ByteArray.empty)) ?_
    refine wl_nil (then_at rfl (wp_seq (wl_region ?_)))
    refine zv (.pointer (some ⟨t.q, 0, none⟩)) ?_
    refine zv (.string (ss.getD i ByteArray.empty)) ?_
    refine wl_callx ky enter379 #[.pointer (some ⟨t.q, 0, none⟩), .string (ss.getD i ByteArray.empty)] ky (part_any hT (by omega) (ss.getD i ByteArray.empty) (hss i)) ?_
    rintro _ w6 ⟨rfl, hT1⟩
    refine ⟨_, rfl, ?_⟩
    obtain ⟨v, Lr, hR, H1⟩ := hT1.up
    refine zv (.tuple #[iN .i64 ((partF (pfE es ss i) (ss.getD i ByteArray.empty)).2), .bool true]) ?_
    refine zv (iN .i64 ((partF (pfE es ss i) (ss.getD i ByteArray.empty)).2)) ?_
    refine zv (.bool true) ?_
    refine zv (iN .i64 ((partF (pfE es ss i) (ss.getD i ByteArray.empty)).2)) ?_
    refine zv (.bool true) ?_
    refine wl_nil (then_at rfl (wp_seq (wp_seq (wl_region ?_))))
    refine zv (.bool true) ?_
    refine zv (.bool false) ?_
    refine wl_nil (then_at rfl ?_)
    refine wp_cond_false ky ?_
    refine wp_skip (then_at rfl (wl_region ?_))
    refine zv (.slice (some ⟨nb, 0, none⟩) i ss.length) ?_
    refine zv (iN .i64 ((partF (pfE es ss i) (ss.getD i ByteArray.empty)).2)) ?_
    refine wl_mks (n := 1) (m := 1) (c := intc ([(partF (pfE es ss i) (ss.getD i ByteArray.empty)).2])) H1 3 ky ky ?_
    intro q7 w8 (h9 : HA (zb w0 M t (pfE es ss (i + 1))) ((q7, 3, intc ([(partF (pfE es ss i) (ss.getD i ByteArray.empty)).2])) :: (nb, 3, intc ((pfN es ss i) ++ List.replicate (ss.length - i) 0)) :: (t.q, 145, tcell t (nms (pfE es ss (i + 1))) v) :: (Lr ++ (PB (pfE es ss (i + 1)) ++ L))) w8)
    refine wl_any ky (run_appI (m := i) (c := ss.length) (u := (partF (pfE es ss i) (ss.getD i ByteArray.empty)).2) (l := pfN es ss i ++ List.replicate (ss.length - i) 0) ky ky (h9.get 1 rfl) (h9.get 0 rfl) (by omega) (by rw [List.length_append, pfN_len, List.length_replicate]; omega)) ?_
    have h11 := h9.put 1 rfl i (iN .i64 ((partF (pfE es ss i) (ss.getD i ByteArray.empty)).2))
    rw [intc_put, pad_set _ _ _ _ (pfN_len es ss i) hk] at h11
    generalize w8.setCell ⟨nb, i, none⟩ (iN .i64 ((partF (pfE es ss i) (ss.getD i ByteArray.empty)).2)) = w10 at h11 ⊢
    have h12 : HA (zb w0 M t (pfE es ss (i + 1))) ((nb, 3, intc ((pfN es ss (i + 1)) ++ List.replicate (ss.length - (i + 1)) 0)) :: (t.q, 145, tcell t (nms (pfE es ss (i + 1))) v) :: (Lr ++ (PB (pfE es ss (i + 1)) ++ L))) w10 := h11.tl
    refine zv (.slice (some ⟨nb, 0, none⟩) (i + 1) ss.length) ?_
    refine wl_nil (block_normal (then_at rfl (wl_region ?_)))
    refine zu (iN .i64 (i + 1)) (run_add (k := .i64) (a := i) (b := 1) ky ky (by simp only [top]; omega)) ?_
    refine zv (iN .i64 (i + 1)) ?_
    refine wl_nil ?_
    exact then_I ⟨fun ii => (([(8, u4 8), (9, u4 9), (12, .string (ss.getD i ByteArray.empty)), (13, iN .i64 ((partF (pfE es ss i) (ss.getD i ByteArray.empty)).2)), (14, .bool true), (27, .bool true), (28, .pointer (some ⟨pq, i, none⟩)), (29, .string (ss.getD i ByteArray.empty)), (30, .tuple #[iN .i64 ((partF (pfE es ss i) (ss.getD i ByteArray.empty)).2), .bool true]), (31, .pointer (some ⟨t.q, 0, none⟩)), (32, .string (ss.getD i ByteArray.empty)), (33, .tuple #[iN .i64 ((partF (pfE es ss i) (ss.getD i ByteArray.empty)).2), .bool true]), (34, iN .i64 ((partF (pfE es ss i) (ss.getD i ByteArray.empty)).2)), (35, .bool true), (36, .bool true), (37, .bool false), (38, .slice (some ⟨nb, 0, none⟩) i ss.length), (39, iN .i64 ((partF (pfE es ss i) (ss.getD i ByteArray.empty)).2)), (40, .slice (some ⟨q7, 0, none⟩) 1 1), (41, .slice (some ⟨nb, 0, none⟩) (i + 1) ss.length), (42, iN .i64 (i + 1))] : List (Nat × Value)).find? (·.1 == ii)).elim undef (·.2), by kernel_rfl, TH.dn hR h12⟩
  · rintro _ w13 ⟨u4, rfl, hT⟩
    obtain ⟨v, Lr, hR, H1⟩ := hT.up
    rw [Nat.sub_self, List.replicate_zero, List.append_nil] at H1
    have hpl := pfE_len es ss ss.length
    clear hT
    refine wp_seq (wl_region ?_)
    refine zu (.bool false) (run_lss (k := .i64) (a := ss.length) (b := ss.length) ky ky false (decide_eq_false (by omega))) ?_
    refine wl_nil (then_at rfl (wp_seq ?_))
    refine wp_cond_false ky ?_
    refine wp_exit ?_
    repeat first | refine then_exit ?_ | refine block_exit ?_ | refine block_exit_ne (by decide) ?_
    refine then_at rfl (wp_seq (wl_region ?_))
    refine zv (iN .i64 4) ?_
    refine zv (.string label) ?_
    refine wl_call (v := .string label) H1 ky enter113 #[.string label] ky (clone_any label hlab w13) ?_
    intro w14 h15
    refine zv (.slice (some ⟨nb, 0, none⟩) ss.length ss.length) ?_
    refine zv (.agg #[iN .i64 4, iN .i64 0, .string label, .slice (some ⟨nb, 0, none⟩) ss.length ss.length]) ?_
    refine wl_make (c := #[iN .i64 0, iN .i64 0, .string ({ data := #[] }), .slice none 0 0]) h15 190 ky ky ?_
    intro q16 w17 (h18 : HA (zb w0 M t (pfE es ss ss.length)) ((q16, 190, #[iN .i64 0, iN .i64 0, .string ({ data := #[] }), .slice none 0 0]) :: (nb, 3, intc ((pfN es ss ss.length))) :: (t.q, 145, tcell t (nms (pfE es ss ss.length)) v) :: (Lr ++ (PB (pfE es ss ss.length) ++ L))) w17)
    refine wl_fill (c' := #[iN .i64 4, iN .i64 0, .string label, .slice (some ⟨nb, 0, none⟩) ss.length ss.length]) h18 0 rfl ky ky ky rfl ky ky ?_
    intro w19 (h20 : HA (zb w0 M t (pfE es ss ss.length)) ((q16, 190, #[iN .i64 4, iN .i64 0, .string label, .slice (some ⟨nb, 0, none⟩) ss.length ss.length]) :: (nb, 3, intc ((pfN es ss ss.length))) :: (t.q, 145, tcell t (nms (pfE es ss ss.length)) v) :: (Lr ++ (PB (pfE es ss ss.length) ++ L))) w19)
    refine wl_nil (then_at rfl (wp_seq (wp_seq (wl_region ?_))))
    refine zv (iN .i64 4) ?_
    refine zu (.bool true) (run_eqi (k := .i64) (a := 4) (b := 4) ky ky true (by decide)) ?_
    refine wl_nil (then_at rfl ?_)
    refine wp_cond_true ky ?_
    refine wp_region_ghost (fun g : Nat → Nat => (⟨(pt t.q :: iN .i64 4 :: .string label :: .slice o ss.length c :: un :: un :: un :: un :: u4 8 :: u4 9 :: .slice (some ⟨nb, 0, none⟩) ss.length ss.length :: un :: u4 12 :: u4 13 :: u4 14 :: pt q16 :: un :: un :: un :: un :: un :: .slice o ss.length c :: iN .i64 ss.length :: .slice (some ⟨nb, 0, none⟩) 0 ss.length :: .slice o ss.length c :: iN .i64 ss.length :: iN .i64 ss.length :: .bool false :: u4 28 :: u4 29 :: u4 30 :: u4 31 :: u4 32 :: u4 33 :: u4 34 :: u4 35 :: u4 36 :: u4 37 :: u4 38 :: u4 39 :: u4 40 :: u4 41 :: u4 42 :: iN .i64 4 :: .string label :: .string label :: .slice (some ⟨nb, 0, none⟩) ss.length ss.length :: .agg #[iN .i64 4, iN .i64 0, .string label, .slice (some ⟨nb, 0, none⟩) ss.length ss.length] :: iN .i64 4 :: .bool true :: pt t.q :: .slice (some ⟨nb, 0, none⟩) ss.length ss.length :: pt nb :: iN .i64 (((pfN es ss ss.length)).getD 0 0) :: .slice (some ⟨nb, 0, none⟩) ss.length ss.length :: .pointer (some ⟨nb, 1, none⟩) :: iN .i64 (((pfN es ss ss.length)).getD 1 0) :: .agg (#[iN .i64 4, iN .i64 (dhN (pfE es ss ss.length) ((pfN es ss ss.length).getD 1 0)), .string { data := #[] }, .slice (some ⟨g 7, 0, none⟩) (dhP (pfE es ss ss.length) ((pfN es ss ss.length).getD 0 0) ((pfN es ss ss.length).getD 1 0)).length (dhP (pfE es ss ss.length) ((pfN es ss ss.length).getD 0 0) ((pfN es ss ss.length).getD 1 0)).length]) :: List.replicate 29 un).toArray, []⟩ : Act)) (G2 (HA (zb w0 M t (pfE es ss ss.length)) ((nb, 3, intc ((pfN es ss ss.length))) :: (t.q, 145, tcell t (nms (pfE es ss ss.length)) v) :: (Lr ++ (PB (pfE es ss ss.length) ++ L)))) (HA (zb w0 M t (pfE es ss ss.length)) ((q16, 190, #[iN .i64 4, iN .i64 0, .string label, .slice (some ⟨nb, 0, none⟩) ss.length ss.length]) :: (nb, 3, intc ((pfN es ss ss.length))) :: (t.q, 145, tcell t (nms (pfE es ss ss.length)) v) :: (Lr ++ (PB (pfE es ss ss.length) ++ L)))) (fun n => HA (zb w0 M t (pfE es ss ss.length)) ((n, 3, intc (dhP (pfE es ss ss.length) ((pfN es ss ss.length).getD 0 0) ((pfN es ss ss.length).getD 1 0))) :: ((q16, 190, #[iN .i64 4, iN .i64 0, .string label, .slice (some ⟨nb, 0, none⟩) ss.length ss.length]) :: (nb, 3, intc ((pfN es ss ss.length))) :: (t.q, 145, tcell t (nms (pfE es ss ss.length)) v) :: (Lr ++ (PB (pfE es ss ss.length) ++ L))))) (fun n => HA (zb w0 M t (pfE es ss ss.length)) ((n, 3, intc (dhP (pfE es ss ss.length) ((pfN es ss ss.length).getD 0 0) ((pfN es ss ss.length).getD 1 0))) :: (q16, 190, #[iN .i64 4, iN .i64 (dhN (pfE es ss ss.length) ((pfN es ss ss.length).getD 1 0)), .string { data := #[] }, .slice (some ⟨n, 0, none⟩) (dhP (pfE es ss ss.length) ((pfN es ss ss.length).getD 0 0) ((pfN es ss ss.length).getD 1 0)).length (dhP (pfE es ss ss.length) ((pfN es ss ss.length).getD 0 0) ((pfN es ss ss.length).getD 1 0)).length]) :: ((nb, 3, intc ((pfN es ss ss.length))) :: (t.q, 145, tcell t (nms (pfE es ss ss.length)) v) :: (Lr ++ (PB (pfE es ss ss.length) ++ L))))) (fun i => ([[], [], [], [], [], [], [], [], [7]] : List (List Nat)).getD i []) 7 8) [.pointer (some ⟨t.q, 0, none⟩), .slice (some ⟨nb, 0, none⟩) ss.length ss.length, .pointer (some ⟨nb, 0, none⟩), iN .i64 (((pfN es ss ss.length)).getD 0 0), .slice (some ⟨nb, 0, none⟩) ss.length ss.length, .pointer (some ⟨nb, 1, none⟩), iN .i64 (((pfN es ss ss.length)).getD 1 0), .agg (#[iN .i64 4, iN .i64 (dhN (pfE es ss ss.length) ((pfN es ss ss.length).getD 1 0)), .string { data := #[] }, .slice (some ⟨0, 0, none⟩) (dhP (pfE es ss ss.length) ((pfN es ss ss.length).getD 0 0) ((pfN es ss ss.length).getD 1 0)).length (dhP (pfE es ss ss.length) ((pfN es ss ss.length).getD 0 0) ((pfN es ss ss.length).getD 1 0)).length]), undef] ky ky ky ky (fun _ _ _ _ h => h) (fun d hd => G2.start h20.drew.tl h20.drew (hd 7 (by decide)) (hd 8 (by decide)) (Cl.start (n := 9) hd (by decide))) ?_ ?_
    · refine AllGhost.cons (g2_read (v := fun g => .pointer (some ⟨t.q, 0, none⟩)) (by decide) (by decide) ky (fun _ => by kernel_rfl) (fun _ => by kernel_rfl) (fun g _ _ => ky)) ?_
      refine AllGhost.cons (g2_read (v := fun g => .slice (some ⟨nb, 0, none⟩) ss.length ss.length) (by decide) (by decide) ky (fun _ => by kernel_rfl) (fun _ => by kernel_rfl) (fun g _ _ => ky)) ?_
      refine AllGhost.cons (g2_read (v := fun g => .pointer (some ⟨nb, 0, none⟩)) (by decide) (by decide) ky (fun _ => by kernel_rfl) (fun _ => by kernel_rfl) (fun g _ _ => (run_addr_slice (q := nb) (n := ss.length) (m := ss.length) (a := 0) Tryz.underlying84 (fun w => Tryz.sizeOf3 w) ky ky (by omega)))) ?_
      refine AllGhost.cons (g2_read (v := fun g => iN .i64 (((pfN es ss ss.length)).getD 0 0)) (by decide) (by decide) ky (fun _ => by kernel_rfl) (fun _ => by kernel_rfl) (fun g w' h' => run_load1 (fun w => Tryz.isAgg3 w) ky (((h'.get 0 rfl).cell 0).trans (intc_get ((pfN es ss ss.length)) 0 (by rw [pfN_len]; omega))))) ?_
      refine AllGhost.cons (g2_read (v := fun g => .slice (some ⟨nb, 0, none⟩) ss.length ss.length) (by decide) (by decide) ky (fun _ => by kernel_rfl) (fun _ => by kernel_rfl) (fun g _ _ => ky)) ?_
      refine AllGhost.cons (g2_read (v := fun g => .pointer (some ⟨nb, 1, none⟩)) (by decide) (by decide) ky (fun _ => by kernel_rfl) (fun _ => by kernel_rfl) (fun g _ _ => (run_addr_slice (q := nb) (n := ss.length) (m := ss.length) (a := 1) Tryz.underlying84 (fun w => Tryz.sizeOf3 w) ky ky (by omega)))) ?_
      refine AllGhost.cons (g2_read (v := fun g => iN .i64 (((pfN es ss ss.length)).getD 1 0)) (by decide) (by decide) ky (fun _ => by kernel_rfl) (fun _ => by kernel_rfl) (fun g w' h' => run_load1 (fun w => Tryz.isAgg3 w) ky (((h'.get 0 rfl).cell 1).trans (intc_get ((pfN es ss ss.length)) 1 (by rw [pfN_len]; omega))))) ?_
      refine AllGhost.cons (g2_call0 (v := fun n => .agg (#[iN .i64 4, iN .i64 (dhN (pfE es ss ss.length) ((pfN es ss ss.length).getD 1 0)), .string { data := #[] }, .slice (some ⟨n, 0, none⟩) (dhP (pfE es ss ss.length) ((pfN es ss ss.length).getD 0 0) ((pfN es ss ss.length).getD 1 0)).length (dhP (pfE es ss ss.length) ((pfN es ss ss.length).getD 0 0) ((pfN es ss ss.length).getD 1 0)).length])) (args := #[.pointer (some ⟨t.q, 0, none⟩), iN .i64 ((pfN es ss ss.length).getD 0 0), iN .i64 ((pfN es ss ss.length).getD 1 0)]) (by decide) (fun d hc hm => hm 7 (by decide)) ky (fun _ => by kernel_rfl) (fun _ _ => by kernel_rfl) enter380 (fun _ => by kernel_rfl) (fun w' hRr h0 => (shared_any (TV.of (A := [(q16, 190, #[iN .i64 4, iN .i64 0, .string label, .slice (some ⟨nb, 0, none⟩) ss.length ss.length]), (nb, 3, intc ((pfN es ss ss.length)))]) hR h0) hw1 hn1).mono (by rintro e w2 ⟨b, e1, e2, e3, e4⟩; exact ⟨b, e1, hRr.keep _ _ e4, HA.addNew h0 e4 e2 e3⟩))) ?_
      refine AllGhost.cons (g2_act1 (fun d hc hm => hm 7 (by decide)) ky (fun _ => by kernel_rfl) (fun _ => by kernel_rfl) (fun g w' _ h' => ⟨_, run_store_blk (c' := #[iN .i64 4, iN .i64 (dhN (pfE es ss ss.length) ((pfN es ss ss.length).getD 1 0)), .string { data := #[] }, .slice (some ⟨g 7, 0, none⟩) (dhP (pfE es ss ss.length) ((pfN es ss ss.length).getD 0 0) ((pfN es ss ss.length).getD 1 0)).length (dhP (pfE es ss ss.length) ((pfN es ss ss.length).getD 0 0) ((pfN es ss ss.length).getD 1 0)).length]) ky ky (h'.get 1 rfl) rfl ky ky, (h'.fill (c' := #[iN .i64 4, iN .i64 (dhN (pfE es ss ss.length) ((pfN es ss ss.length).getD 1 0)), .string { data := #[] }, .slice (some ⟨g 7, 0, none⟩) (dhP (pfE es ss ss.length) ((pfN es ss ss.length).getD 0 0) ((pfN es ss ss.length).getD 1 0)).length (dhP (pfE es ss ss.length) ((pfN es ss ss.length).getD 0 0) ((pfN es ss ss.length).getD 1 0)).length]) 1 rfl rfl).tl.tl, h'.fill (c' := #[iN .i64 4, iN .i64 (dhN (pfE es ss ss.length) ((pfN es ss ss.length).getD 1 0)), .string { data := #[] }, .slice (some ⟨g 7, 0, none⟩) (dhP (pfE es ss ss.length) ((pfN es ss ss.length).getD 0 0) ((pfN es ss ss.length).getD 1 0)).length (dhP (pfE es ss ss.length) ((pfN es ss ss.length).getD 0 0) ((pfN es ss ss.length).getD 1 0)).length]) 1 rfl rfl⟩)) ?_
      exact AllGhost.nil
    intro g w21 gg22
    have h23 := gg22.held
    rw [if_pos rfl] at h23
    clear gg22
    generalize g 7 = n24 at h23 ⊢
    clear g
    obtain ⟨nq, enq⟩ : ∃ nq, nq = n24 := ⟨_, rfl⟩
    rw [← enq] at h23 ⊢
    clear enq
    refine then_at rfl (wp_seq (wl_region ?_))
    refine wl_load h23 1 rfl ky ky Tryz.underlying190 rfl ky ?_
    refine wl_call (v := recV (recOf 4 (dhN (pfE es ss ss.length) ((pfN es ss ss.length).getD 1 0)) { data := #[] } (dhP (pfE es ss ss.length) ((pfN es ss ss.length).getD 0 0) ((pfN es ss ss.length).getD 1 0)))) h23 ky enter211 #[.agg (#[iN .i64 4, iN .i64 (dhN (pfE es ss ss.length) ((pfN es ss ss.length).getD 1 0)), .string { data := #[] }, .slice (some ⟨nq, 0, none⟩) (dhP (pfE es ss ss.length) ((pfN es ss ss.length).getD 0 0) ((pfN es ss ss.length).getD 1 0)).length (dhP (pfE es ss ss.length) ((pfN es ss ss.length).getD 0 0) ((pfN es ss ss.length).getD 1 0)).length])] ky (recipe_any 4 (dhN (pfE es ss ss.length) ((pfN es ss ss.length).getD 1 0)) { data := #[] } (dhP (pfE es ss ss.length) ((pfN es ss ss.length).getD 0 0) ((pfN es ss ss.length).getD 1 0)) nq (h23.get 0 rfl) (by rw [dhP_len]; decide) (dhP_lt hw1 (by omega) (by omega))) ?_
    intro w25 h26
    refine wl_make (c := #[iN .i64 0, iN .i64 0, .string ({ data := #[] }), .string ({ data := #[] })]) h26 276 ky ky ?_
    intro q27 w28 (h29 : HA (zb w0 M t (pfE es ss ss.length)) ((q27, 276, #[iN .i64 0, iN .i64 0, .string ({ data := #[] }), .string ({ data := #[] })]) :: (nq, 3, intc ((dhP (pfE es ss ss.length) ((pfN es ss ss.length).getD 0 0) ((pfN es ss ss.length).getD 1 0)))) :: (q16, 190, #[iN .i64 4, iN .i64 (dhN (pfE es ss ss.length) ((pfN es ss ss.length).getD 1 0)), .string { data := #[] }, .slice (some ⟨nq, 0, none⟩) (dhP (pfE es ss ss.length) ((pfN es ss ss.length).getD 0 0) ((pfN es ss ss.length).getD 1 0)).length (dhP (pfE es ss ss.length) ((pfN es ss ss.length).getD 0 0) ((pfN es ss ss.length).getD 1 0)).length]) :: (nb, 3, intc ((pfN es ss ss.length))) :: (t.q, 145, tcell t (nms (pfE es ss ss.length)) v) :: (Lr ++ (PB (pfE es ss ss.length) ++ L))) w28)
    refine wl_fill (c' := #[iN .i64 4, iN .i64 (dhN (pfE es ss ss.length) ((pfN es ss ss.length).getD 1 0)), .string { data := #[] }, .string (laid (dhP (pfE es ss ss.length) ((pfN es ss ss.length).getD 0 0) ((pfN es ss ss.length).getD 1 0)))]) h29 0 rfl ky ky ky rfl ky ky ?_
    intro w30 (h31 : HA (zb w0 M t (pfE es ss ss.length)) ((q27, 276, #[iN .i64 4, iN .i64 (dhN (pfE es ss ss.length) ((pfN es ss ss.length).getD 1 0)), .string { data := #[] }, .string (laid (dhP (pfE es ss ss.length) ((pfN es ss ss.length).getD 0 0) ((pfN es ss ss.length).getD 1 0)))]) :: (nq, 3, intc ((dhP (pfE es ss ss.length) ((pfN es ss ss.length).getD 0 0) ((pfN es ss ss.length).getD 1 0)))) :: (q16, 190, #[iN .i64 4, iN .i64 (dhN (pfE es ss ss.length) ((pfN es ss ss.length).getD 1 0)), .string { data := #[] }, .slice (some ⟨nq, 0, none⟩) (dhP (pfE es ss ss.length) ((pfN es ss ss.length).getD 0 0) ((pfN es ss ss.length).getD 1 0)).length (dhP (pfE es ss ss.length) ((pfN es ss ss.length).getD 0 0) ((pfN es ss ss.length).getD 1 0)).length]) :: (nb, 3, intc ((pfN es ss ss.length))) :: (t.q, 145, tcell t (nms (pfE es ss ss.length)) v) :: (Lr ++ (PB (pfE es ss ss.length) ++ L))) w30)
    refine wl_nil (then_at rfl (wp_seq (wp_seq ?_)))
    refine wp_region_sure ⟨(pt t.q :: iN .i64 4 :: .string label :: .slice o ss.length c :: un :: un :: un :: un :: u4 8 :: u4 9 :: .slice (some ⟨nb, 0, none⟩) ss.length ss.length :: un :: u4 12 :: u4 13 :: u4 14 :: pt q16 :: pt q27 :: iN .i64 0 :: .bool false :: un :: un :: .slice o ss.length c :: iN .i64 ss.length :: .slice (some ⟨nb, 0, none⟩) 0 ss.length :: .slice o ss.length c :: iN .i64 ss.length :: iN .i64 ss.length :: .bool false :: u4 28 :: u4 29 :: u4 30 :: u4 31 :: u4 32 :: u4 33 :: u4 34 :: u4 35 :: u4 36 :: u4 37 :: u4 38 :: u4 39 :: u4 40 :: u4 41 :: u4 42 :: iN .i64 4 :: .string label :: .string label :: .slice (some ⟨nb, 0, none⟩) ss.length ss.length :: .agg #[iN .i64 4, iN .i64 0, .string label, .slice (some ⟨nb, 0, none⟩) ss.length ss.length] :: iN .i64 4 :: .bool true :: pt t.q :: .slice (some ⟨nb, 0, none⟩) ss.length ss.length :: pt nb :: iN .i64 (((pfN es ss ss.length)).getD 0 0) :: .slice (some ⟨nb, 0, none⟩) ss.length ss.length :: .pointer (some ⟨nb, 1, none⟩) :: iN .i64 (((pfN es ss ss.length)).getD 1 0) :: .agg (#[iN .i64 4, iN .i64 (dhN (pfE es ss ss.length) ((pfN es ss ss.length).getD 1 0)), .string { data := #[] }, .slice (some ⟨nq, 0, none⟩) (dhP (pfE es ss ss.length) ((pfN es ss ss.length).getD 0 0) ((pfN es ss ss.length).getD 1 0)).length (dhP (pfE es ss ss.length) ((pfN es ss ss.length).getD 0 0) ((pfN es ss ss.length).getD 1 0)).length]) :: .agg (#[iN .i64 4, iN .i64 (dhN (pfE es ss ss.length) ((pfN es ss ss.length).getD 1 0)), .string { data := #[] }, .slice (some ⟨nq, 0, none⟩) (dhP (pfE es ss ss.length) ((pfN es ss ss.length).getD 0 0) ((pfN es ss ss.length).getD 1 0)).length (dhP (pfE es ss ss.length) ((pfN es ss ss.length).getD 0 0) ((pfN es ss ss.length).getD 1 0)).length]) :: recV (recOf 4 (dhN (pfE es ss ss.length) ((pfN es ss ss.length).getD 1 0)) { data := #[] } (dhP (pfE es ss ss.length) ((pfN es ss ss.length).getD 0 0) ((pfN es ss ss.length).getD 1 0))) :: .tuple #[iN .i64 0, .bool false] :: pt t.q :: pt t.q :: .pointer (some ⟨t.q, 3, none⟩) :: .map (some t.mm) :: .agg (#[iN .i64 4, iN .i64 (dhN (pfE es ss ss.length) ((pfN es ss ss.length).getD 1 0)), .string { data := #[] }, .string (laid (dhP (pfE es ss ss.length) ((pfN es ss ss.length).getD 0 0) ((pfN es ss ss.length).getD 1 0)))]) :: .tuple #[iN .i64 0, .bool false] :: iN .i64 0 :: .bool false :: List.replicate 18 un).toArray, []⟩ (HA (zb w0 M t (pfE es ss ss.length)) ((q27, 276, #[iN .i64 4, iN .i64 (dhN (pfE es ss ss.length) ((pfN es ss ss.length).getD 1 0)), .string { data := #[] }, .string (laid (dhP (pfE es ss ss.length) ((pfN es ss ss.length).getD 0 0) ((pfN es ss ss.length).getD 1 0)))]) :: (nq, 3, intc ((dhP (pfE es ss ss.length) ((pfN es ss ss.length).getD 0 0) ((pfN es ss ss.length).getD 1 0)))) :: (q16, 190, #[iN .i64 4, iN .i64 (dhN (pfE es ss ss.length) ((pfN es ss ss.length).getD 1 0)), .string { data := #[] }, .slice (some ⟨nq, 0, none⟩) (dhP (pfE es ss ss.length) ((pfN es ss ss.length).getD 0 0) ((pfN es ss ss.length).getD 1 0)).length (dhP (pfE es ss ss.length) ((pfN es ss ss.length).getD 0 0) ((pfN es ss ss.length).getD 1 0)).length]) :: (nb, 3, intc ((pfN es ss ss.length))) :: (t.q, 145, tcell t (nms (pfE es ss ss.length)) v) :: (Lr ++ (PB (pfE es ss ss.length) ++ L)))) [.pointer (some ⟨t.q, 0, none⟩), .pointer (some ⟨t.q, 0, none⟩), .pointer (some ⟨t.q, 3, none⟩), .map (some t.mm), .agg (#[iN .i64 4, iN .i64 (dhN (pfE es ss ss.length) ((pfN es ss ss.length).getD 1 0)), .string { data := #[] }, .string (laid (dhP (pfE es ss ss.length) ((pfN es ss ss.length).getD 0 0) ((pfN es ss ss.length).getD 1 0)))]), .tuple #[iN .i64 0, .bool false], .tuple #[iN .i64 0, .bool false], iN .i64 0, .bool false, iN .i64 0, .bool false] ky ky ky ky (fun _ _ _ h => h) h31.drew ?_ ?_
    · refine AllSure.cons (OpSure.take (v := .pointer (some ⟨t.q, 0, none⟩)) ky ky (fun _ _ => ky)) ?_
      refine AllSure.cons (OpSure.take (v := .pointer (some ⟨t.q, 0, none⟩)) ky ky (fun _ _ => ky)) ?_
      refine AllSure.cons (OpSure.take (v := .pointer (some ⟨t.q, 3, none⟩)) ky ky (fun _ _ => ky)) ?_
      refine AllSure.cons (OpSure.take (v := .map (some t.mm)) ky ky (fun w' h' => run_load1 (fun w => Tryz.isAgg143 w) ky (((h'.get 4 rfl).cell 3).trans rfl))) ?_
      refine AllSure.cons (OpSure.take (v := .agg (#[iN .i64 4, iN .i64 (dhN (pfE es ss ss.length) ((pfN es ss ss.length).getD 1 0)), .string { data := #[] }, .string (laid (dhP (pfE es ss ss.length) ((pfN es ss ss.length).getD 0 0) ((pfN es ss ss.length).getD 1 0)))])) ky ky (fun _ h => run_load_blk ky (h.get 0 rfl) Tryz.underlying276 rfl ky)) ?_
      refine AllSure.cons (OpSure.take (v := .tuple #[iN .i64 0, .bool false]) ky ky (fun w' h' => run_lk72 (s := recOf 4 (dhN (pfE es ss ss.length) ((pfN es ss ss.length).getD 1 0)) { data := #[] } (dhP (pfE es ss ss.length) ((pfN es ss ss.length).getD 0 0) ((pfN es ss ss.length).getD 1 0))) ky ky h'.mapM none hl)) ?_
      refine AllSure.cons (OpSure.take (v := .tuple #[iN .i64 0, .bool false]) ky ky (fun _ _ => ky)) ?_
      refine AllSure.cons (OpSure.take (v := iN .i64 0) ky ky (fun _ _ => ky)) ?_
      refine AllSure.cons (OpSure.take (v := .bool false) ky ky (fun _ _ => ky)) ?_
      refine AllSure.cons (OpSure.take (v := iN .i64 0) ky ky (fun _ _ => ky)) ?_
      refine AllSure.cons (OpSure.take (v := .bool false) ky ky (fun _ _ => ky)) ?_
      exact AllSure.nil
    intro w32 h33
    refine then_at rfl (wp_seq (wl_region ?_))
    refine zv (.bool false) ?_
    refine wl_nil (then_at rfl ?_)
    refine wp_cond_false ky ?_
    refine wp_skip (then_at rfl (wp_seq (wl_region ?_)))
    refine zv (.pointer (some ⟨t.q, 0, none⟩)) ?_
    refine wl_load h33 2 rfl ky ky Tryz.underlying190 rfl ky ?_
    refine zv (.iface 190 (.agg (#[iN .i64 4, iN .i64 (dhN (pfE es ss ss.length) ((pfN es ss ss.length).getD 1 0)), .string { data := #[] }, .slice (some ⟨nq, 0, none⟩) (dhP (pfE es ss ss.length) ((pfN es ss ss.length).getD 0 0) ((pfN es ss ss.length).getD 1 0)).length (dhP (pfE es ss ss.length) ((pfN es ss ss.length).getD 0 0) ((pfN es ss ss.length).getD 1 0)).length]))) ?_
    have hA0 : HA (zb w0 M t (pfE es ss ss.length)) ((t.q, 145, tcell t (nms (pfE es ss ss.length)) v) :: (Lr ++ ([(q27, 276, #[iN .i64 4, iN .i64 (dhN (pfE es ss ss.length) ((pfN es ss ss.length).getD 1 0)), .string { data := #[] }, .string (laid (dhP (pfE es ss ss.length) ((pfN es ss ss.length).getD 0 0) ((pfN es ss ss.length).getD 1 0)))]), (nq, 3, intc ((dhP (pfE es ss ss.length) ((pfN es ss ss.length).getD 0 0) ((pfN es ss ss.length).getD 1 0)))), (q16, 190, #[iN .i64 4, iN .i64 (dhN (pfE es ss ss.length) ((pfN es ss ss.length).getD 1 0)), .string { data := #[] }, .slice (some ⟨nq, 0, none⟩) (dhP (pfE es ss ss.length) ((pfN es ss ss.length).getD 0 0) ((pfN es ss ss.length).getD 1 0)).length (dhP (pfE es ss ss.length) ((pfN es ss ss.length).getD 0 0) ((pfN es ss ss.length).getD 1 0)).length]), (nb, 3, intc ((pfN es ss ss.length)))] ++ (PB (pfE es ss ss.length) ++ L)))) w32 := HA.mv [(q27, 276, #[iN .i64 4, iN .i64 (dhN (pfE es ss ss.length) ((pfN es ss ss.length).getD 1 0)), .string { data := #[] }, .string (laid (dhP (pfE es ss ss.length) ((pfN es ss ss.length).getD 0 0) ((pfN es ss ss.length).getD 1 0)))]), (nq, 3, intc ((dhP (pfE es ss ss.length) ((pfN es ss ss.length).getD 0 0) ((pfN es ss ss.length).getD 1 0)))), (q16, 190, #[iN .i64 4, iN .i64 (dhN (pfE es ss ss.length) ((pfN es ss ss.length).getD 1 0)), .string { data := #[] }, .slice (some ⟨nq, 0, none⟩) (dhP (pfE es ss ss.length) ((pfN es ss ss.length).getD 0 0) ((pfN es ss ss.length).getD 1 0)).length (dhP (pfE es ss ss.length) ((pfN es ss ss.length).getD 0 0) ((pfN es ss ss.length).getD 1 0)).length]), (nb, 3, intc ((pfN es ss ss.length)))] ((t.q, 145, tcell t (nms (pfE es ss ss.length)) v) :: Lr) (PB (pfE es ss ss.length) ++ L) h33
    refine wl_callx ky enter365 #[.pointer (some ⟨t.q, 0, none⟩), .iface 190 (.agg (#[iN .i64 4, iN .i64 (dhN (pfE es ss ss.length) ((pfN es ss ss.length).getD 1 0)), .string { data := #[] }, .slice (some ⟨nq, 0, none⟩) (dhP (pfE es ss ss.length) ((pfN es ss ss.length).getD 0 0) ((pfN es ss ss.length).getD 1 0)).length (dhP (pfE es ss ss.length) ((pfN es ss ss.length).getD 0 0) ((pfN es ss ss.length).getD 1 0)).length]))] ky (add_any hR hA0 (by omega) (.iface 190 (.agg (#[iN .i64 4, iN .i64 (dhN (pfE es ss ss.length) ((pfN es ss ss.length).getD 1 0)), .string { data := #[] }, .slice (some ⟨nq, 0, none⟩) (dhP (pfE es ss ss.length) ((pfN es ss ss.length).getD 0 0) ((pfN es ss ss.length).getD 1 0)).length (dhP (pfE es ss ss.length) ((pfN es ss ss.length).getD 0 0) ((pfN es ss ss.length).getD 1 0)).length]))) rfl) ?_
    rintro _ w34 ⟨v1, Lr1, rfl, hR1, hA1⟩
    refine ⟨_, rfl, ?_⟩
    have hev : .iface 190 (.agg (#[iN .i64 4, iN .i64 (dhN (pfE es ss ss.length) ((pfN es ss ss.length).getD 1 0)), .string { data := #[] }, .slice (some ⟨nq, 0, none⟩) (dhP (pfE es ss ss.length) ((pfN es ss ss.length).getD 0 0) ((pfN es ss ss.length).getD 1 0)).length (dhP (pfE es ss ss.length) ((pfN es ss ss.length).getD 0 0) ((pfN es ss ss.length).getD 1 0)).length])) = ev (.mk 4 (dhN (pfE es ss ss.length) ((pfN es ss ss.length).getD 1 0)) { data := #[] } (dhP (pfE es ss ss.length) ((pfN es ss ss.length).getD 0 0) ((pfN es ss ss.length).getD 1 0)) nq) := rfl
    rw [hev] at hR1
    have hA2 := HA.mv ((t.q, 145, tcell t (nms (pfE es ss ss.length)) v1) :: Lr1) [(q27, 276, #[iN .i64 4, iN .i64 (dhN (pfE es ss ss.length) ((pfN es ss ss.length).getD 1 0)), .string { data := #[] }, .string (laid (dhP (pfE es ss ss.length) ((pfN es ss ss.length).getD 0 0) ((pfN es ss ss.length).getD 1 0)))]), (nq, 3, intc ((dhP (pfE es ss ss.length) ((pfN es ss ss.length).getD 0 0) ((pfN es ss ss.length).getD 1 0)))), (q16, 190, #[iN .i64 4, iN .i64 (dhN (pfE es ss ss.length) ((pfN es ss ss.length).getD 1 0)), .string { data := #[] }, .slice (some ⟨nq, 0, none⟩) (dhP (pfE es ss ss.length) ((pfN es ss ss.length).getD 0 0) ((pfN es ss ss.length).getD 1 0)).length (dhP (pfE es ss ss.length) ((pfN es ss ss.length).getD 0 0) ((pfN es ss ss.length).getD 1 0)).length]), (nb, 3, intc ((pfN es ss ss.length)))] (PB (pfE es ss ss.length) ++ L) hA1
    have h35 : HA (zb w0 M t (pfE es ss ss.length)) ((q27, 276, #[iN .i64 4, iN .i64 (dhN (pfE es ss ss.length) ((pfN es ss ss.length).getD 1 0)), .string { data := #[] }, .string (laid (dhP (pfE es ss ss.length) ((pfN es ss ss.length).getD 0 0) ((pfN es ss ss.length).getD 1 0)))]) :: (nq, 3, intc ((dhP (pfE es ss ss.length) ((pfN es ss ss.length).getD 0 0) ((pfN es ss ss.length).getD 1 0)))) :: (q16, 190, #[iN .i64 4, iN .i64 (dhN (pfE es ss ss.length) ((pfN es ss ss.length).getD 1 0)), .string { data := #[] }, .slice (some ⟨nq, 0, none⟩) (dhP (pfE es ss ss.length) ((pfN es ss ss.length).getD 0 0) ((pfN es ss ss.length).getD 1 0)).length (dhP (pfE es ss ss.length) ((pfN es ss ss.length).getD 0 0) ((pfN es ss ss.length).getD 1 0)).length]) :: (nb, 3, intc ((pfN es ss ss.length))) :: (t.q, 145, tcell t (nms (pfE es ss ss.length)) v1) :: (Lr1 ++ (PB (pfE es ss ss.length) ++ L))) w34 := hA2
    refine zv (.tuple #[iN .i64 ((pfE es ss ss.length).length), .bool true]) ?_
    refine zv (iN .i64 ((pfE es ss ss.length).length)) ?_
    refine zv (.bool true) ?_
    refine zv (iN .i64 ((pfE es ss ss.length).length)) ?_
    refine zv (.bool true) ?_
    refine wl_nil (then_at rfl (wp_seq (wp_seq (wl_region ?_))))
    refine zv (.bool true) ?_
    refine wl_nil (then_at rfl ?_)
    refine wp_cond_true ky ?_
    refine wp_region_ghost (fun g : Nat → Nat => (⟨(pt t.q :: iN .i64 4 :: .string label :: .slice o ss.length c :: un :: un :: un :: un :: u4 8 :: u4 9 :: .slice (some ⟨nb, 0, none⟩) ss.length ss.length :: un :: u4 12 :: u4 13 :: u4 14 :: pt q16 :: pt q27 :: iN .i64 0 :: .bool false :: iN .i64 ((pfE es ss ss.length).length) :: .bool true :: .slice o ss.length c :: iN .i64 ss.length :: .slice (some ⟨nb, 0, none⟩) 0 ss.length :: .slice o ss.length c :: iN .i64 ss.length :: iN .i64 ss.length :: .bool false :: u4 28 :: u4 29 :: u4 30 :: u4 31 :: u4 32 :: u4 33 :: u4 34 :: u4 35 :: u4 36 :: u4 37 :: u4 38 :: u4 39 :: u4 40 :: u4 41 :: u4 42 :: iN .i64 4 :: .string label :: .string label :: .slice (some ⟨nb, 0, none⟩) ss.length ss.length :: .agg #[iN .i64 4, iN .i64 0, .string label, .slice (some ⟨nb, 0, none⟩) ss.length ss.length] :: iN .i64 4 :: .bool true :: pt t.q :: .slice (some ⟨nb, 0, none⟩) ss.length ss.length :: pt nb :: iN .i64 (((pfN es ss ss.length)).getD 0 0) :: .slice (some ⟨nb, 0, none⟩) ss.length ss.length :: .pointer (some ⟨nb, 1, none⟩) :: iN .i64 (((pfN es ss ss.length)).getD 1 0) :: .agg (#[iN .i64 4, iN .i64 (dhN (pfE es ss ss.length) ((pfN es ss ss.length).getD 1 0)), .string { data := #[] }, .slice (some ⟨nq, 0, none⟩) (dhP (pfE es ss ss.length) ((pfN es ss ss.length).getD 0 0) ((pfN es ss ss.length).getD 1 0)).length (dhP (pfE es ss ss.length) ((pfN es ss ss.length).getD 0 0) ((pfN es ss ss.length).getD 1 0)).length]) :: .agg (#[iN .i64 4, iN .i64 (dhN (pfE es ss ss.length) ((pfN es ss ss.length).getD 1 0)), .string { data := #[] }, .slice (some ⟨nq, 0, none⟩) (dhP (pfE es ss ss.length) ((pfN es ss ss.length).getD 0 0) ((pfN es ss ss.length).getD 1 0)).length (dhP (pfE es ss ss.length) ((pfN es ss ss.length).getD 0 0) ((pfN es ss ss.length).getD 1 0)).length]) :: recV (recOf 4 (dhN (pfE es ss ss.length) ((pfN es ss ss.length).getD 1 0)) { data := #[] } (dhP (pfE es ss ss.length) ((pfN es ss ss.length).getD 0 0) ((pfN es ss ss.length).getD 1 0))) :: .tuple #[iN .i64 0, .bool false] :: pt t.q :: pt t.q :: .pointer (some ⟨t.q, 3, none⟩) :: .map (some t.mm) :: .agg (#[iN .i64 4, iN .i64 (dhN (pfE es ss ss.length) ((pfN es ss ss.length).getD 1 0)), .string { data := #[] }, .string (laid (dhP (pfE es ss ss.length) ((pfN es ss ss.length).getD 0 0) ((pfN es ss ss.length).getD 1 0)))]) :: .tuple #[iN .i64 0, .bool false] :: iN .i64 0 :: .bool false :: .bool false :: un :: .tuple #[iN .i64 ((pfE es ss ss.length).length), .bool true] :: pt t.q :: .agg (#[iN .i64 4, iN .i64 (dhN (pfE es ss ss.length) ((pfN es ss ss.length).getD 1 0)), .string { data := #[] }, .slice (some ⟨nq, 0, none⟩) (dhP (pfE es ss ss.length) ((pfN es ss ss.length).getD 0 0) ((pfN es ss ss.length).getD 1 0)).length (dhP (pfE es ss ss.length) ((pfN es ss ss.length).getD 0 0) ((pfN es ss ss.length).getD 1 0)).length]) :: .iface 190 (.agg (#[iN .i64 4, iN .i64 (dhN (pfE es ss ss.length) ((pfN es ss ss.length).getD 1 0)), .string { data := #[] }, .slice (some ⟨nq, 0, none⟩) (dhP (pfE es ss ss.length) ((pfN es ss ss.length).getD 0 0) ((pfN es ss ss.length).getD 1 0)).length (dhP (pfE es ss ss.length) ((pfN es ss ss.length).getD 0 0) ((pfN es ss ss.length).getD 1 0)).length])) :: .tuple #[iN .i64 ((pfE es ss ss.length).length), .bool true] :: iN .i64 ((pfE es ss ss.length).length) :: .bool true :: .bool true :: pt t.q :: pt t.q :: .pointer (some ⟨t.q, 3, none⟩) :: .map (some t.mm) :: .agg (#[iN .i64 4, iN .i64 (dhN (pfE es ss ss.length) ((pfN es ss ss.length).getD 1 0)), .string { data := #[] }, .string (laid (dhP (pfE es ss ss.length) ((pfN es ss ss.length).getD 0 0) ((pfN es ss ss.length).getD 1 0)))]) :: iN .i64 ((pfE es ss ss.length).length) :: List.replicate 2 un).toArray, []⟩ : Act)) (G1 (HA ⟨w0, M⟩ ((q27, 276, #[iN .i64 4, iN .i64 (dhN (pfE es ss ss.length) ((pfN es ss ss.length).getD 1 0)), .string { data := #[] }, .string (laid (dhP (pfE es ss ss.length) ((pfN es ss ss.length).getD 0 0) ((pfN es ss ss.length).getD 1 0)))]) :: (nq, 3, intc ((dhP (pfE es ss ss.length) ((pfN es ss ss.length).getD 0 0) ((pfN es ss ss.length).getD 1 0)))) :: (q16, 190, #[iN .i64 4, iN .i64 (dhN (pfE es ss ss.length) ((pfN es ss ss.length).getD 1 0)), .string { data := #[] }, .slice (some ⟨nq, 0, none⟩) (dhP (pfE es ss ss.length) ((pfN es ss ss.length).getD 0 0) ((pfN es ss ss.length).getD 1 0)).length (dhP (pfE es ss ss.length) ((pfN es ss ss.length).getD 0 0) ((pfN es ss ss.length).getD 1 0)).length]) :: (nb, 3, intc ((pfN es ss ss.length))) :: (t.q, 145, tcell t (nms (pfE es ss ss.length)) v1) :: (Lr1 ++ (PB (pfE es ss ss.length) ++ L)))) (HA (zb w0 M t (pfE es ss ss.length)) ((q27, 276, #[iN .i64 4, iN .i64 (dhN (pfE es ss ss.length) ((pfN es ss ss.length).getD 1 0)), .string { data := #[] }, .string (laid (dhP (pfE es ss ss.length) ((pfN es ss ss.length).getD 0 0) ((pfN es ss ss.length).getD 1 0)))]) :: (nq, 3, intc ((dhP (pfE es ss ss.length) ((pfN es ss ss.length).getD 0 0) ((pfN es ss ss.length).getD 1 0)))) :: (q16, 190, #[iN .i64 4, iN .i64 (dhN (pfE es ss ss.length) ((pfN es ss ss.length).getD 1 0)), .string { data := #[] }, .slice (some ⟨nq, 0, none⟩) (dhP (pfE es ss ss.length) ((pfN es ss ss.length).getD 0 0) ((pfN es ss ss.length).getD 1 0)).length (dhP (pfE es ss ss.length) ((pfN es ss ss.length).getD 0 0) ((pfN es ss ss.length).getD 1 0)).length]) :: (nb, 3, intc ((pfN es ss ss.length))) :: (t.q, 145, tcell t (nms (pfE es ss ss.length)) v1) :: (Lr1 ++ (PB (pfE es ss ss.length) ++ L)))) (fun _ => HA (zb w0 M t ((pfE es ss ss.length) ++ [.mk 4 (dhN (pfE es ss ss.length) ((pfN es ss ss.length).getD 1 0)) { data := #[] } (dhP (pfE es ss ss.length) ((pfN es ss ss.length).getD 0 0) ((pfN es ss ss.length).getD 1 0)) nq])) ((q27, 276, #[iN .i64 4, iN .i64 (dhN (pfE es ss ss.length) ((pfN es ss ss.length).getD 1 0)), .string { data := #[] }, .string (laid (dhP (pfE es ss ss.length) ((pfN es ss ss.length).getD 0 0) ((pfN es ss ss.length).getD 1 0)))]) :: (nq, 3, intc ((dhP (pfE es ss ss.length) ((pfN es ss ss.length).getD 0 0) ((pfN es ss ss.length).getD 1 0)))) :: (q16, 190, #[iN .i64 4, iN .i64 (dhN (pfE es ss ss.length) ((pfN es ss ss.length).getD 1 0)), .string { data := #[] }, .slice (some ⟨nq, 0, none⟩) (dhP (pfE es ss ss.length) ((pfN es ss ss.length).getD 0 0) ((pfN es ss ss.length).getD 1 0)).length (dhP (pfE es ss ss.length) ((pfN es ss ss.length).getD 0 0) ((pfN es ss ss.length).getD 1 0)).length]) :: (nb, 3, intc ((pfN es ss ss.length))) :: (t.q, 145, tcell t (nms (pfE es ss ss.length)) v1) :: (Lr1 ++ (PB (pfE es ss ss.length) ++ L)))) 6) [.pointer (some ⟨t.q, 0, none⟩), .pointer (some ⟨t.q, 0, none⟩), .pointer (some ⟨t.q, 3, none⟩), .map (some t.mm), .agg (#[iN .i64 4, iN .i64 (dhN (pfE es ss ss.length) ((pfN es ss ss.length).getD 1 0)), .string { data := #[] }, .string (laid (dhP (pfE es ss ss.length) ((pfN es ss ss.length).getD 0 0) ((pfN es ss ss.length).getD 1 0)))]), iN .i64 ((pfE es ss ss.length).length), undef] ky ky ky ky (fun _ _ _ _ h => h) (fun d hd => G1.start (HA.forget h35.drew) h35.drew (hd 6 (by decide))) ?_ ?_
    · refine AllGhost.cons (g1_read (v := fun g => .pointer (some ⟨t.q, 0, none⟩)) (by decide) (fun _ => by kernel_rfl) (fun _ => by kernel_rfl) (fun g _ _ => ky)) ?_
      refine AllGhost.cons (g1_read (v := fun g => .pointer (some ⟨t.q, 0, none⟩)) (by decide) (fun _ => by kernel_rfl) (fun _ => by kernel_rfl) (fun g _ _ => ky)) ?_
      refine AllGhost.cons (g1_read (v := fun g => .pointer (some ⟨t.q, 3, none⟩)) (by decide) (fun _ => by kernel_rfl) (fun _ => by kernel_rfl) (fun g _ _ => ky)) ?_
      refine AllGhost.cons (g1_read (v := fun g => .map (some t.mm)) (by decide) (fun _ => by kernel_rfl) (fun _ => by kernel_rfl) (fun g w' h' => run_load1 (fun w => Tryz.isAgg143 w) ky (((h'.get 4 rfl).cell 3).trans rfl))) ?_
      refine AllGhost.cons (g1_read (v := fun g => .agg (#[iN .i64 4, iN .i64 (dhN (pfE es ss ss.length) ((pfN es ss ss.length).getD 1 0)), .string { data := #[] }, .string (laid (dhP (pfE es ss ss.length) ((pfN es ss ss.length).getD 0 0) ((pfN es ss ss.length).getD 1 0)))])) (by decide) (fun _ => by kernel_rfl) (fun _ => by kernel_rfl) (fun g w' h' => run_load_blk ky (h'.get 0 rfl) Tryz.underlying276 rfl ky)) ?_
      refine AllGhost.cons (g1_read (v := fun g => iN .i64 ((pfE es ss ss.length).length)) (by decide) (fun _ => by kernel_rfl) (fun _ => by kernel_rfl) (fun g _ _ => ky)) ?_
      refine AllGhost.cons (g1_acts (fun _ => by kernel_rfl) (fun _ => by kernel_rfl) (fun g w' _ h' => ⟨World.setMap w' t.mm (entA (recK (mks (pfE es ss ss.length) 0 ++ [(recOf 4 (dhN (pfE es ss ss.length) ((pfN es ss ss.length).getD 1 0)) { data := #[] } (dhP (pfE es ss ss.length) ((pfN es ss ss.length).getD 0 0) ((pfN es ss ss.length).getD 1 0)), (pfE es ss ss.length).length)]))) ((mks (pfE es ss ss.length) 0).length + 1), run_up72 (s := recOf 4 (dhN (pfE es ss ss.length) ((pfN es ss ss.length).getD 1 0)) { data := #[] } (dhP (pfE es ss ss.length) ((pfN es ss ss.length).getD 0 0) ((pfN es ss ss.length).getD 1 0))) (n := (pfE es ss ss.length).length) (l := mks (pfE es ss ss.length) 0) (r := t.mm) ky ky ky (HA.mapM h') hl, HA.forget (HA.upM (recOf 4 (dhN (pfE es ss ss.length) ((pfN es ss ss.length).getD 1 0)) { data := #[] } (dhP (pfE es ss ss.length) ((pfN es ss ss.length).getD 0 0) ((pfN es ss ss.length).getD 1 0))) (pfE es ss ss.length).length h'), fun _ => by rw [zb_mk']; exact HA.upM (recOf 4 (dhN (pfE es ss ss.length) ((pfN es ss ss.length).getD 1 0)) { data := #[] } (dhP (pfE es ss ss.length) ((pfN es ss ss.length).getD 0 0) ((pfN es ss ss.length).getD 1 0))) (pfE es ss ss.length).length h'⟩)) ?_
      exact AllGhost.nil
    intro g w36 gg37
    have h38 := gg37.held
    rw [if_pos rfl] at h38
    clear gg37
    generalize g 6 = n39 at h38 ⊢
    clear g
    refine then_at rfl (wp_seq (wl_region ?_))
    refine zv (iN .i64 ((pfE es ss ss.length).length)) ?_
    refine zv (.bool true) ?_
    refine zv (iN .i64 ((pfE es ss ss.length).length)) ?_
    refine zv (.bool true) ?_
    refine wl_nil (then_at rfl ?_)
    refine wp_ret ?_
    repeat first | refine then_ret ?_ | refine block_ret ?_
    exact bodyPost_ret (v := .tuple #[iN .i64 (pfE es ss ss.length).length, .bool true]) ky rfl (.inr ⟨hl0, nq, rfl, TH.mk hR1 (HA.perm (h38.sub (List.Sublist.cons _ (List.Sublist.cons_cons _ (List.Sublist.cons _ (List.Sublist.cons _ (List.Sublist.refl _)))))) (perm_up _ _ _ _ _).symm)⟩)
theorem join_any {w0 w : World} {M : ML} {t : Tb} {es : List Ent} {L : BL} (H : TH w0 M t es L w) (hwf : Wf es) (k : Nat) (label : ByteArray) (hlab : label.size ≤ 281474976710656) (ss : List ByteArray) (o : Option Addr) (c : Nat) (hp : ss = [] ∨ ∃ pq cs, o = some ⟨pq, 0, none⟩ ∧ PreS cs ss ∧ (pq, 9, cs) ∈ L) (hss : ∀ i, (ss.getD i ByteArray.empty).size ≤ 281474976710656) (hsl : ss.length ≤ 100) (hf : es.length < 58000) (h2 : k = 4 → ss.length = 2) :
    Calls Tryz.prog 372 #[pt t.q, iN .i64 k, .string label, .slice o ss.length c] w fun e w' =>
      (∃ x, lkR (mks (pfE es ss ss.length) 0) (recOf k (joinN (pfE es ss ss.length) k (pfN es ss ss.length)) (joinS k label) (joinP (pfE es ss ss.length) k (pfN es ss ss.length))) = some x ∧ e = .returned (.tuple #[iN .i64 x, .bool true]) ∧ TH w0 M t (pfE es ss ss.length) L w') ∨
      (lkR (mks (pfE es ss ss.length) 0) (recOf k (joinN (pfE es ss ss.length) k (pfN es ss ss.length)) (joinS k label) (joinP (pfE es ss ss.length) k (pfN es ss ss.length))) = none ∧ ∃ b, e = .returned (.tuple #[iN .i64 (pfE es ss ss.length).length, .bool true]) ∧ TH w0 M t (pfE es ss ss.length ++ [.mk k (joinN (pfE es ss ss.length) k (pfN es ss ss.length)) (joinS k label) (joinP (pfE es ss ss.length) k (pfN es ss ss.length)) b]) L w') := by
  by_cases hk : k = 4
  · subst hk
    cases hl : lkR (mks (pfE es ss ss.length) 0) (recOf 4 (joinN (pfE es ss ss.length) 4 (pfN es ss ss.length)) (joinS 4 label) (joinP (pfE es ss ss.length) 4 (pfN es ss ss.length))) with
    | some x => simpa [hl] using join_c H hwf label hlab ss o c hp hss hsl hf (h2 rfl) hl
    | none => simpa [hl] using join_d H hwf label hlab ss o c hp hss hsl hf (h2 rfl) hl
  · cases hl : lkR (mks (pfE es ss ss.length) 0) (recOf k (joinN (pfE es ss ss.length) k (pfN es ss ss.length)) (joinS k label) (joinP (pfE es ss ss.length) k (pfN es ss ss.length))) with
    | some x => simpa [hl] using join_a H hwf k label hlab ss o c hp hss hsl hf hk hl
    | none => simpa [hl] using join_b H hwf k label hlab ss o c hp hss hsl hf hk hl
end Go.Proofs.YtoogiblkommdfaaGreat
