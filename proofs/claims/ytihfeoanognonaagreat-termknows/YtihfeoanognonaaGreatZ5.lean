/-
 The reference's Known.
-/
import Derived.Test.YtihfeoanognonaaGreatG7
namespace Go.Proofs.YtihfeoanognonaaGreat
set_option linter.unusedVariables false
set_option maxRecDepth 100000
set_option maxHeartbeats 2000000
open Go.RowKit
theorem kB_up {K : List Bool} {y x : Nat} (h : kB K x = true) : kB (K.set y true) x = true := by
 by_cases hy : y < K.length
 ·rw [kB_set K y x hy, h]; rfl
 ·rw [List.set_eq_of_length_le (by omega)]; exact h
theorem kB_self {K : List Bool} {y : Nat} (hy : y < K.length) : kB (K.set y true) y = true := by
 rw [kB_set K y y hy]; simp
theorem done_set {K : List Bool} {l : List Nat} {k : Nat} (h : ∀ j, j < k → kB K (l.getD j 0) = true) (hk : l.getD k 0 < K.length) : ∀ j, j < k + 1 → kB (K.set (l.getD k 0) true) (l.getD j 0) = true := fun j hj => by
 rcases Nat.lt_succ_iff_lt_or_eq.1 hj with h1 | h1
 ·exact kB_up (h j h1)
 ·rw [h1]; exact kB_self hk
theorem all_gD {K : List Bool} {l : List Nat} (h : ∀ j, j < l.length → kB K (l.getD j 0) = true) : ∀ y ∈ l, kB K y = true := fun y hy => by
 obtain ⟨j, hj, rfl⟩ := List.mem_iff_getElem.1 hy
 have := h j hj
 rwa [List.getD_eq_getElem?_getD, List.getElem?_eq_getElem hj] at this
theorem pre_next {es : List Ent} {ss : List ByteArray} {K : List Bool} {i : Nat} (h : ∀ j, j < i → ∀ y ∈ wth es.length (ss.getD j ByteArray.empty), kB K y = true) (hd : ∀ j, j < (wth es.length (ss.getD i ByteArray.empty)).length → kB K ((wth es.length (ss.getD i ByteArray.empty)).getD j 0) = true) : ∀ j, j < i + 1 → ∀ y ∈ wth es.length (ss.getD j ByteArray.empty), kB K y = true := fun j hj => by
 rcases Nat.lt_succ_iff_lt_or_eq.1 hj with h1 | h1
 ·exact h j h1
 ·rw [h1]; exact all_gD hd
theorem pre_seen {es : List Ent} {ss : List ByteArray} {K : List Bool} (h : ∀ j, j < ss.length → ∀ y ∈ wth es.length (ss.getD j ByteArray.empty), kB K y = true) : ∀ y, Sn es ss y → kB K y = true := fun y hy => by
 obtain ⟨s, hs, hy⟩ := hy
 obtain ⟨j, hj, rfl⟩ := List.mem_iff_getElem.1 hs
 refine h j hj y ?_
 rwa [List.getD_eq_getElem?_getD, List.getElem?_eq_getElem hj]
theorem CK.at' {m : Nat} {cu : Array Value} {K : List Bool} (h : CK m cu K) : ∀ j, j < K.length → cu[j]? = some (.bool (kB K j)) := fun j hj => h.at_ j (by rw [← h.len]; exact hj)
def Clo (es : List Ent) (K : List Bool) (j : Nat) (e : Ent) : Prop := (madeB es K e = true → kB K j = true) ∧ (kB K j = true → ∀ y ∈ outB es K e, kB K y = true)
theorem cl_no {es : List Ent} {K : List Bool} {mo : Bool} {i : Nat} {e : Ent} (h : mo = false → ∀ j e, j < i → es[j]? = some e → Clo es K j e) (he : es[i]? = some e) (h1 : kB K i = false) (h2 : madeB es K e = false) : mo = false → ∀ j e, j < i + 1 → es[j]? = some e → Clo es K j e := fun hm j e' hj he' => by
 rcases Nat.lt_succ_iff_lt_or_eq.1 hj with h3 | h3
 ·exact h hm j e' h3 he'
 ·subst h3
  rw [he] at he'; cases he'
  exact ⟨fun h => (by rw [h2] at h; cases h), fun h => (by rw [h1] at h; cases h)⟩
theorem cl_yes {es : List Ent} {K0 K1 K2 : List Bool} {mo1 mo2 : Bool} {i : Nat} {e : Ent} (hr1 : Rl K0 mo1 K1) (hr2 : Rl K0 mo2 K2) (himp : mo2 = false → mo1 = false) (h : mo1 = false → ∀ j e, j < i → es[j]? = some e → Clo es K1 j e) (he : es[i]? = some e) (hb : kB K1 i = true) (hd : ∀ j, j < (outB es K1 e).length → kB K2 ((outB es K1 e).getD j 0) = true) : mo2 = false → ∀ j e, j < i + 1 → es[j]? = some e → Clo es K2 j e := fun hm j e' hj he' => by
 have e1 := hr1.no (himp hm)
 have e2 := hr2.no hm
 have e3 : K2 = K1 := e2.trans e1.symm
 subst e3
 rcases Nat.lt_succ_iff_lt_or_eq.1 hj with h3 | h3
 ·exact h (himp hm) j e' h3 he'
 ·subst h3
  rw [he] at he'; cases he'
  exact ⟨fun _ => hb, fun _ => all_gD hd⟩
theorem outB_lt {es : List Ent} (hI : Iv es) (K : List Bool) {x : Nat} {e : Ent} (he : es[x]? = some e) : ∀ y ∈ outB es K e, y < es.length := by
 cases e with
 | nm n => intro y hy; cases hy
 | dt s => exact wth_lt _ _
 | mk k n s ps b =>
  have hlt := hI.wg.lt x k n s ps b he
  intro y hy
  simp only [outB, outM] at hy
  by_cases h6 : k = 6
  ·subst h6
   have h4 := hI.wg.four x n s ps b he
   split at hy
   ·rw [List.mem_singleton.1 hy]; exact gD_lt hlt (by omega)
   ·rw [if_neg (by decide)] at hy; cases hy
  ·rw [if_neg (fun h => h6 h.1)] at hy
   split at hy
   ·rename_i h7
    subst h7
    have h2 := hI.wg.sig x n s ps b he
    rw [List.mem_singleton.1 hy]; exact gD_lt hlt (by omega)
   ·cases hy
theorem outB_len {es : List Ent} (K : List Bool) (e : Ent) : (outB es K e).length ≤ es.length + 1 := by
 cases e with
 | nm n => exact Nat.zero_le _
 | dt s => exact Nat.le_trans (wth_len _ _) (Nat.le_succ _)
 | mk k n s ps b =>
  simp only [outB, outM]
  split
  ·simp
  ·split <;> simp
theorem rknown_pos {w : World} {es : List Ent} (hI : Iv es) (hm4 : es.length ≤ 400) (hpos : 0 < es.length) {v : Value} {RL : BL} (h : RTL v (es.map trm) RL) (hS : Stand w RL) (ss : List ByteArray) {o : Option Addr} {cs : Nat} (hp : ss = [] ∨ ∃ pq cq, o = some ⟨pq, 0, none⟩ ∧ PreS cq ss ∧ Blk w pq 9 cq) (hss : ∀ i, (ss.getD i ByteArray.empty).size ≤ 1000000) (hsl : ss.length ≤ 1000000) :
  Calls Tryz.prog 7 #[.agg #[v], .slice o ss.length cs] w fun e w' => ∃ g c cu K, e = .returned (.slice (some ⟨g, 0, none⟩) es.length c) ∧ w.heap.size ≤ g ∧ Blk w' g 4 cu ∧ CK es.length cu K ∧ (∀ x, kB K x = (knownF es ss).getD x false) ∧ Below w.heap.size w w' := by
 have H0 := HA.start w
 have hvf : ∃ p c, v = .slice p es.length c := by have hh := h.form; rw [List.length_map] at hh; exact hh
 go_enter Tryz.func7, Tryz.ntmps7
 refine zsr ?_
 refine wl_make (c := #[v]) H0 27 ?_
 intro q1 w2 (h3 : HA (bs w) [(q1, 27, #[v])] w2)
 refine zwv (.slice none 0 0) ?_
 refine znt ?_
 refine zsr ?_
 refine zwv (.slice none 0 0) ?_
 refine znt ?_
 refine wp_seq ?_
 refine zsr ?_
 refine zwv (iN .i64 0) ?_
 refine znt ?_
 refine wp_block ?_
 refine wp_count (fun i A w' => ∃ u4 : Nat → Value, A = ⟨(.agg #[v] :: .slice o ss.length cs :: pt q1 :: un :: .slice none 0 0 :: u4 5 :: iN .i64 i :: un :: un :: un :: un :: un :: un :: un :: u4 14 :: u4 15 :: u4 16 :: u4 17 :: u4 18 :: u4 19 :: u4 20 :: u4 21 :: u4 22 :: u4 23 :: List.replicate 88 un).toArray, []⟩ ∧ ∃ Lb, Row 4 1 (u4 5) i (List.replicate i (.bool false)) Lb ∧ HA (bs w) ((q1, 27, #[v]) :: Lb) w') es.length ?_ ?_ ?_
 ·exact ⟨lku (fun _ => undef) [(5, .slice none 0 0)], by kernel_rfl, ⟨[], by exact Row.nil 4 1, h3⟩⟩
 ·rintro i hk _ w5 ⟨u4, rfl, ⟨Lb, hR, hA⟩⟩
  refine wp_seq ?_
  refine zsr ?_
  refine zwv (iN .i64 i) ?_
  refine zwv (.pointer (some ⟨q1, 0, none⟩)) ?_
  refine zwu (v := v) (run_load1 Tryz.isAgg25 (((hA.get 0 rfl).cell 0).trans rfl)) ?_
  refine zwu (run_len_of hvf (by kernel_rfl)) ?_
  refine zwu (run_lss (k := .i64) (a := i) (b := es.length) true (decide_eq_true (by omega))) ?_
  refine znt ?_
  refine zct ?_
  refine wp_skip ?_
  refine then_at rfl ?_
  refine wp_seq ?_
  refine wp_block ?_
  refine wl_region ?_
  refine zwv (u4 5) ?_
  refine wl_mks (n := 1) (m := 1) (c := #[.bool false]) hA 4 ?_
  intro q6 w7 (h8 : HA (bs w) ((q6, 4, #[.bool false]) :: (q1, 27, #[v]) :: Lb) w7)
  have h9 : HA (bs w) ((q6, 4, #[.bool false]) :: (Lb ++ [(q1, 27, #[v])])) w7 := HA.perm h8 (List.Perm.cons _ (List.perm_append_comm (l₁ := ([(q1, 27, #[v])] : BL)) (l₂ := Lb)))
  refine wl_append (m := 1) (c := 1) (Lr := Lb) hR h9 _ 1 Tryz.underlying33 info4z rfl rfl (by unfold maxLen; omega) (by omega) ?_
  intro v2 w10 Lb2 hR2 h11
  have h12 : HA (bs w) ((q1, 27, #[v]) :: Lb2) w10 := HA.perm h11 (List.perm_append_comm (l₁ := Lb2) (l₂ := ([(q1, 27, #[v])] : BL)))
  have hR3 : Row 4 1 v2 (i + 1) (List.replicate (i + 1) (.bool false)) Lb2 := by rw [List.replicate_succ']; exact hR2
  refine zwv (v2) ?_
  refine wl_nil ?_
  refine block_normal ?_
  refine then_at rfl ?_
  refine wl_region ?_
  refine zwv (iN .i64 i) ?_
  refine zwu (run_add (k := .i64) (a := i) (b := 1) (by first | omega | (simp only [top]; omega))) ?_
  refine zwv (iN .i64 (i + 1)) ?_
  refine wl_nil ?_
  exact then_I ⟨lku (fun _ => undef) [(5, v2), (14, iN .i64 i), (15, .pointer (some ⟨q1, 0, none⟩)), (16, v), (17, iN .i64 es.length), (18, .bool true), (19, iN .i64 i), (20, iN .i64 (i + 1)), (21, u4 5), (22, .slice (some ⟨q6, 0, none⟩) 1 1), (23, v2)], by kernel_rfl, ⟨Lb2, by exact hR3, h12⟩⟩
 ·rintro _ w13 ⟨u4, rfl, ⟨Lb, hR, hA⟩⟩
  refine wp_seq ?_
  refine zsr ?_
  refine zwv (iN .i64 es.length) ?_
  refine zwv (.pointer (some ⟨q1, 0, none⟩)) ?_
  refine zwu (v := v) (run_load1 Tryz.isAgg25 (((hA.get 0 rfl).cell 0).trans rfl)) ?_
  refine zwu (run_len_of hvf (by kernel_rfl)) ?_
  refine zwu (run_lss (k := .i64) (a := es.length) (b := es.length) false (decide_eq_false (by omega))) ?_
  refine znt ?_
  refine zcf ?_
  refine wp_exit ?_
  repeat first | refine then_exit ?_ | refine block_exit ?_ | refine block_exit_ne (by decide) ?_
  obtain ⟨g, cg, cu0, h5, rfl, hck0⟩ := CK.start hpos hR
  rw [h5]
  have h14 : HA (bs w) [(q1, 27, #[v]), (g, 4, cu0)] w13 := hA
  refine then_at rfl ?_
  refine wp_seq ?_
  refine zsr ?_
  refine zwv (iN .i64 0) ?_
  refine znt ?_
  refine wp_block ?_
  refine wp_count (fun i A w' => ∃ u15 : Nat → Value, A = ⟨(.agg #[v] :: .slice o ss.length cs :: pt q1 :: un :: .slice none 0 0 :: .slice (some ⟨g, 0, none⟩) es.length cg :: iN .i64 es.length :: iN .i64 i :: u15 8 :: u15 9 :: un :: un :: un :: un :: iN .i64 es.length :: pt q1 :: v :: iN .i64 es.length :: .bool false :: u4 19 :: u4 20 :: u4 21 :: u4 22 :: u4 23 :: u15 24 :: u15 25 :: u15 26 :: u15 27 :: u15 28 :: u15 29 :: u15 30 :: u15 31 :: u15 32 :: u15 33 :: u15 34 :: u15 35 :: u15 36 :: u15 37 :: u15 38 :: u15 39 :: u15 40 :: u15 41 :: u15 42 :: u15 43 :: u15 44 :: u15 45 :: u15 46 :: u15 47 :: List.replicate 64 un).toArray, []⟩ ∧ ∃ K cu, CK es.length cu K ∧ Snd es ss K ∧ (∀ j, j < i → ∀ y ∈ wth es.length (ss.getD j ByteArray.empty), kB K y = true) ∧ HA (bs w) [(q1, 27, #[v]), (g, 4, cu)] w') ss.length ?_ ?_ ?_
  ·exact zex (⟨_, cu0, hck0, Snd.start es ss es.length, fun j hj => absurd hj (Nat.not_lt_zero j), h14⟩)
  ·rintro i hi _ w16 ⟨u15, rfl, ⟨K, cu, hck, hsn, hpre, hA⟩⟩
   obtain ⟨gs, cqs, hos, hcs, hbs⟩ := hp.resolve_left (fun e => by rw [e] at hi; cases hi)
   refine wp_seq ?_
   refine zsr ?_
   refine zwv (iN .i64 i) ?_
   refine zwv (.slice o ss.length cs) ?_
   refine zwv (iN .i64 ss.length) ?_
   refine zwu (run_lss (k := .i64) (a := i) (b := ss.length) true (decide_eq_true (by omega))) ?_
   refine znt ?_
   refine zct ?_
   refine wp_skip ?_
   refine then_at rfl ?_
   refine wp_seq ?_
   refine wp_block ?_
   refine wp_seq ?_
   refine wp_region_wk (HA (bs w) [(q1, 27, #[v]), (g, 4, cu)]) (fun A w' => ∃ (NB : BL) (oB : Option Addr) (cB : Nat), A = ⟨(.agg #[v] :: .slice o ss.length cs :: pt q1 :: un :: .slice none 0 0 :: .slice (some ⟨g, 0, none⟩) es.length cg :: iN .i64 es.length :: iN .i64 i :: .slice oB (wth es.length (ss.getD i ByteArray.empty)).length cB :: u15 9 :: un :: un :: un :: un :: iN .i64 es.length :: pt q1 :: v :: iN .i64 es.length :: .bool false :: u4 19 :: u4 20 :: u4 21 :: u4 22 :: u4 23 :: iN .i64 i :: .slice o ss.length cs :: iN .i64 ss.length :: .bool true :: u15 28 :: u15 29 :: .agg #[v] :: .slice o ss.length cs :: iN .i64 i :: .pointer (some ⟨gs, i, none⟩) :: .string (ss.getD i ByteArray.empty) :: .slice oB (wth es.length (ss.getD i ByteArray.empty)).length cB :: u15 36 :: u15 37 :: u15 38 :: u15 39 :: u15 40 :: u15 41 :: u15 42 :: u15 43 :: u15 44 :: u15 45 :: u15 46 :: u15 47 :: List.replicate 64 un).toArray, []⟩ ∧ RIL NB oB (wth es.length (ss.getD i ByteArray.empty)) ∧ HA (bs w) ((q1, 27, #[v]) :: (g, 4, cu) :: NB) w') 7 (by kernel_rfl) (by kernel_rfl) (by kernel_rfl) (by kernel_rfl) (by kernel_rfl) (hA.drew) ?_ ?_
   ·have h17 := hA.drew
    refine wk_val (i := 0) (.agg #[v]) rfl rfl (by kernel_rfl) (by kernel_rfl) (fun w' h' => run_load_blk (h'.get 0 rfl) Tryz.underlying27 rfl) ?_
    refine wk_val (i := 1) (.slice o ss.length cs) rfl rfl (by kernel_rfl) (by kernel_rfl) (fun _ _ => (by kernel_rfl)) ?_
    refine wk_val (i := 2) (iN .i64 i) rfl rfl (by kernel_rfl) (by kernel_rfl) (fun _ _ => (by kernel_rfl)) ?_
    refine wk_val (i := 3) (.pointer (some ⟨gs, i, none⟩)) rfl rfl (by kernel_rfl) (by kernel_rfl) (fun _ _ => (run_addr_t (g := gs) (n := ss.length) (c := cs) (i := i) hos (by kernel_rfl) (by kernel_rfl) hi)) ?_
    refine wk_val (i := 4) (.string (ss.getD i ByteArray.empty)) rfl rfl (by kernel_rfl) (by kernel_rfl) (fun w' h' => run_load1 Tryz.isAgg9 (((hbs.keep h'.old.old).cell i).trans (hcs i hi))) ?_
    refine wk_one 5 (by kernel_rfl) ?_
    refine ef_callx rfl (by kernel_rfl) h17 enter23 #[.agg #[v], .string (ss.getD i ByteArray.empty)] (by kernel_rfl) (fun w18 h19 => by have hh := rwithin_any h (hS.keep h19.old.old) (by rw [List.length_map]; omega) (ss.getD i ByteArray.empty) (hss i); rw [List.length_map] at hh; exact hh) ?_
    rintro w18 h19 _ w20 ⟨oB, cB, rfl, hriB, hbB⟩
    obtain ⟨NB, hrB, hNB⟩ := hriB.newer
    have hxh21 := HA.addL h19 hbB hNB
    have h21 : HA (bs w) ((q1, 27, #[v]) :: (g, 4, cu) :: NB) w20 := hxh21
    refine ⟨_, rfl, (HA.sub h21 (List.Sublist.cons_cons _ (List.Sublist.cons_cons _ (List.nil_sublist _)))), ?_⟩
    refine wk_val (i := 6) (.slice oB (wth es.length (ss.getD i ByteArray.empty)).length cB) rfl rfl (by kernel_rfl) (by kernel_rfl) (fun _ _ => (by kernel_rfl)) ?_
    refine wk_end fun w22 hbx hsx => ?_
    have h23 := HA.keep _ _ h21 hbx
    exact ⟨NB, oB, cB, by kernel_rfl, hrB, h23⟩
   ·rintro _ w24 ⟨NB, oB, cB, rfl, hrB, h25⟩
    refine then_at rfl ?_
    refine zsr ?_
    refine zwv (iN .i64 0) ?_
    refine znt ?_
    refine wp_block ?_
    refine wp_count (fun k A w' => ∃ u26 : Nat → Value, A = ⟨(.agg #[v] :: .slice o ss.length cs :: pt q1 :: un :: .slice none 0 0 :: .slice (some ⟨g, 0, none⟩) es.length cg :: iN .i64 es.length :: iN .i64 i :: .slice oB (wth es.length (ss.getD i ByteArray.empty)).length cB :: iN .i64 k :: un :: un :: un :: un :: iN .i64 es.length :: pt q1 :: v :: iN .i64 es.length :: .bool false :: u4 19 :: u4 20 :: u4 21 :: u4 22 :: u4 23 :: iN .i64 i :: .slice o ss.length cs :: iN .i64 ss.length :: .bool true :: u15 28 :: u15 29 :: .agg #[v] :: .slice o ss.length cs :: iN .i64 i :: .pointer (some ⟨gs, i, none⟩) :: .string (ss.getD i ByteArray.empty) :: .slice oB (wth es.length (ss.getD i ByteArray.empty)).length cB :: u26 36 :: u26 37 :: u26 38 :: u26 39 :: u26 40 :: u26 41 :: u26 42 :: u26 43 :: u26 44 :: u26 45 :: u26 46 :: u26 47 :: List.replicate 64 un).toArray, []⟩ ∧ ∃ K cu, CK es.length cu K ∧ Snd es ss K ∧ (∀ j, j < i → ∀ y ∈ wth es.length (ss.getD j ByteArray.empty), kB K y = true) ∧ (∀ j, j < k → kB K ((wth es.length (ss.getD i ByteArray.empty)).getD j 0) = true) ∧ HA (bs w) ((q1, 27, #[v]) :: (g, 4, cu) :: NB) w') ((wth es.length (ss.getD i ByteArray.empty)).length) ?_ ?_ ?_
    ·exact zex (⟨K, cu, hck, hsn, hpre, fun j hj => absurd hj (Nat.not_lt_zero j), h25⟩)
    ·rintro k hj _ w27 ⟨u26, rfl, ⟨K, cu, hck, hsn, hpre, hdone, hA⟩⟩
     have hwl := wth_len es.length (ss.getD i ByteArray.empty)
     obtain ⟨gl, cql, hol, hgl, hcl3⟩ := hrB.resolve_left (fun e => by rw [e] at hj; cases hj)
     have hlt := wth_lt es.length (ss.getD i ByteArray.empty) _ (gD_mem hj)
     have hyK : (wth es.length (ss.getD i ByteArray.empty)).getD k 0 < K.length := by rw [hck.len]; exact hlt
     refine wp_seq ?_
     refine zsr ?_
     refine zwv (iN .i64 k) ?_
     refine zwv (.slice oB (wth es.length (ss.getD i ByteArray.empty)).length cB) ?_
     refine zwv (iN .i64 ((wth es.length (ss.getD i ByteArray.empty)).length)) ?_
     refine zwu (run_lss (k := .i64) (a := k) (b := (wth es.length (ss.getD i ByteArray.empty)).length) true (decide_eq_true (by omega))) ?_
     refine znt ?_
     refine zct ?_
     refine wp_skip ?_
     refine then_at rfl ?_
     refine wp_seq ?_
     refine wp_block ?_
     refine wl_region ?_
     refine zwv (.slice (some ⟨g, 0, none⟩) es.length cg) ?_
     refine zwv (.slice oB (wth es.length (ss.getD i ByteArray.empty)).length cB) ?_
     refine zwv (iN .i64 k) ?_
     refine zwu (v := .pointer (some ⟨gl, k, none⟩)) (run_addr_i (g := gl) (n := (wth es.length (ss.getD i ByteArray.empty)).length) (c := cB) (i := k) hol hj) ?_
     refine zwu (v := iN .i64 ((wth es.length (ss.getD i ByteArray.empty)).getD k 0)) (run_load1 Tryz.isAgg3 (((hA.blk (gl, 3, cql) (by simp [hgl])).cell k).trans (hcl3 _ hj))) ?_
     refine zwu (v := .pointer (some ⟨g, (wth es.length (ss.getD i ByteArray.empty)).getD k 0, none⟩)) (run_addr_slice (q := g) (n := es.length) (m := cg) (a := (wth es.length (ss.getD i ByteArray.empty)).getD k 0) Tryz.underlying33 Tryz.sizeOf4 hlt) ?_
     refine wl_putv (v := .bool true) hA 1 rfl ((wth es.length (ss.getD i ByteArray.empty)).getD k 0) (Nat.lt_of_lt_of_le hlt hck.big) Tryz.sizeOf4 ?_
     intro w28 (h29 : HA (bs w) ((q1, 27, #[v]) :: (g, 4, cu.setIfInBounds ((wth es.length (ss.getD i ByteArray.empty)).getD k 0) (.bool true)) :: NB) w28)
     refine wl_nil ?_
     refine block_normal ?_
     refine then_at rfl ?_
     refine wl_region ?_
     refine zwv (iN .i64 k) ?_
     refine zwu (run_add (k := .i64) (a := k) (b := 1) (by first | omega | (simp only [top]; omega))) ?_
     refine zwv (iN .i64 (k + 1)) ?_
     refine wl_nil ?_
     exact then_I (zex (⟨_, _, hck.set hlt, hsn.set hyK (.seen ⟨_, ss_mem hi, gD_mem hj⟩), fun j hj2 y hy => kB_up (hpre j hj2 y hy), done_set hdone hyK, h29⟩))
    ·rintro _ w30 ⟨u26, rfl, ⟨K, cu, hck, hsn, hpre, hdone, hA⟩⟩
     have hwl := wth_len es.length (ss.getD i ByteArray.empty)
     refine wp_seq ?_
     refine zsr ?_
     refine zwv (iN .i64 ((wth es.length (ss.getD i ByteArray.empty)).length)) ?_
     refine zwv (.slice oB (wth es.length (ss.getD i ByteArray.empty)).length cB) ?_
     refine zwv (iN .i64 ((wth es.length (ss.getD i ByteArray.empty)).length)) ?_
     refine zwu (run_lss (k := .i64) (a := (wth es.length (ss.getD i ByteArray.empty)).length) (b := (wth es.length (ss.getD i ByteArray.empty)).length) false (decide_eq_false (by omega))) ?_
     refine znt ?_
     refine zcf ?_
     refine wp_exit ?_
     repeat first | refine then_exit ?_ | refine block_exit ?_ | refine block_exit_ne (by decide) ?_
     have h31 : HA (bs w) [(q1, 27, #[v]), (g, 4, cu)] w30 := HA.sub hA (List.Sublist.cons_cons _ (List.Sublist.cons_cons _ (List.nil_sublist _)))
     refine block_normal ?_
     refine then_at rfl ?_
     refine wl_region ?_
     refine zwv (iN .i64 i) ?_
     refine zwu (run_add (k := .i64) (a := i) (b := 1) (by first | omega | (simp only [top]; omega))) ?_
     refine zwv (iN .i64 (i + 1)) ?_
     refine wl_nil ?_
     exact then_I (zex (⟨K, cu, hck, hsn, pre_next hpre hdone, h31⟩))
  ·rintro _ w32 ⟨u15, rfl, ⟨K, cu, hck, hsn, hpre, hA⟩⟩
   refine wp_seq ?_
   refine zsr ?_
   refine zwv (iN .i64 ss.length) ?_
   refine zwv (.slice o ss.length cs) ?_
   refine zwv (iN .i64 ss.length) ?_
   refine zwu (run_lss (k := .i64) (a := ss.length) (b := ss.length) false (decide_eq_false (by omega))) ?_
   refine znt ?_
   refine zcf ?_
   refine wp_exit ?_
   repeat first | refine then_exit ?_ | refine block_exit ?_ | refine block_exit_ne (by decide) ?_
   have hseen := pre_seen hpre
   refine then_at rfl ?_
   refine wp_block ?_
   refine wp_while (fun mq A w' => ∃ (K : List Bool) (cu : Array Value) (u33 : Nat → Value), mq = cntU K ∧ A = ⟨(.agg #[v] :: .slice o ss.length cs :: pt q1 :: un :: u33 4 :: .slice (some ⟨g, 0, none⟩) es.length cg :: iN .i64 es.length :: iN .i64 ss.length :: u15 8 :: u15 9 :: u33 10 :: u33 11 :: u33 12 :: u33 13 :: iN .i64 es.length :: pt q1 :: v :: iN .i64 es.length :: .bool false :: u4 19 :: u4 20 :: u4 21 :: u4 22 :: u4 23 :: iN .i64 ss.length :: .slice o ss.length cs :: iN .i64 ss.length :: .bool false :: u15 28 :: u15 29 :: u15 30 :: u15 31 :: u15 32 :: u15 33 :: u15 34 :: u15 35 :: u15 36 :: u15 37 :: u15 38 :: u15 39 :: u15 40 :: u15 41 :: u15 42 :: u15 43 :: u15 44 :: u15 45 :: u15 46 :: u15 47 :: u33 48 :: u33 49 :: u33 50 :: u33 51 :: u33 52 :: u33 53 :: u33 54 :: u33 55 :: u33 56 :: u33 57 :: u33 58 :: u33 59 :: u33 60 :: u33 61 :: u33 62 :: u33 63 :: u33 64 :: u33 65 :: u33 66 :: u33 67 :: u33 68 :: u33 69 :: u33 70 :: u33 71 :: u33 72 :: u33 73 :: u33 74 :: u33 75 :: u33 76 :: u33 77 :: u33 78 :: u33 79 :: u33 80 :: u33 81 :: u33 82 :: u33 83 :: u33 84 :: u33 85 :: u33 86 :: u33 87 :: u33 88 :: u33 89 :: u33 90 :: u33 91 :: u33 92 :: u33 93 :: u33 94 :: u33 95 :: u33 96 :: u33 97 :: u33 98 :: u33 99 :: u33 100 :: u33 101 :: u33 102 :: u33 103 :: u33 104 :: u33 105 :: u33 106 :: u33 107 :: u33 108 :: u33 109 :: u33 110 :: u33 111 :: List.replicate 0 un).toArray, []⟩ ∧ CK es.length cu K ∧ Snd es ss K ∧ (∀ y, Sn es ss y → kB K y = true) ∧ HA (bs w) [(q1, 27, #[v]), (g, 4, cu)] w') (cntU K) ?_ ?_
   ·exact ⟨K, cu, lku (fun _ => undef) [(4, .slice none 0 0)], rfl, by kernel_rfl, hck, hsn, hseen, hA⟩
   rintro _ _ w34 ⟨K0, cuz, u33, rfl, rfl, hck, hsn, hseen, hA⟩
   refine wp_block ?_
   refine zsr ?_
   refine zwv (.bool false) ?_
   refine znt ?_
   refine wp_seq ?_
   refine zsr ?_
   refine zwv (iN .i64 0) ?_
   refine znt ?_
   refine wp_block ?_
   refine wp_count (fun i A w' => ∃ u35 : Nat → Value, A = ⟨(.agg #[v] :: .slice o ss.length cs :: pt q1 :: un :: u33 4 :: .slice (some ⟨g, 0, none⟩) es.length cg :: iN .i64 es.length :: iN .i64 ss.length :: u15 8 :: u15 9 :: u35 10 :: iN .i64 i :: u35 12 :: u35 13 :: iN .i64 es.length :: pt q1 :: v :: iN .i64 es.length :: .bool false :: u4 19 :: u4 20 :: u4 21 :: u4 22 :: u4 23 :: iN .i64 ss.length :: .slice o ss.length cs :: iN .i64 ss.length :: .bool false :: u15 28 :: u15 29 :: u15 30 :: u15 31 :: u15 32 :: u15 33 :: u15 34 :: u15 35 :: u15 36 :: u15 37 :: u15 38 :: u15 39 :: u15 40 :: u15 41 :: u15 42 :: u15 43 :: u15 44 :: u15 45 :: u15 46 :: u15 47 :: u35 48 :: u35 49 :: u35 50 :: u35 51 :: u35 52 :: u35 53 :: u35 54 :: u35 55 :: u35 56 :: u35 57 :: u35 58 :: u35 59 :: u35 60 :: u35 61 :: u35 62 :: u35 63 :: u35 64 :: u35 65 :: u35 66 :: u35 67 :: u35 68 :: u35 69 :: u35 70 :: u35 71 :: u35 72 :: u35 73 :: u35 74 :: u35 75 :: u35 76 :: u35 77 :: u35 78 :: u35 79 :: u35 80 :: u35 81 :: u35 82 :: u35 83 :: u35 84 :: u35 85 :: u35 86 :: u35 87 :: u35 88 :: u35 89 :: u35 90 :: u35 91 :: u35 92 :: u35 93 :: u35 94 :: u35 95 :: u35 96 :: u35 97 :: u35 98 :: u35 99 :: u35 100 :: u35 101 :: u35 102 :: u35 103 :: u35 104 :: u35 105 :: u35 106 :: u35 107 :: u35 108 :: u33 109 :: u33 110 :: u33 111 :: List.replicate 0 un).toArray, []⟩ ∧ ∃ mo K cu, u35 10 = .bool mo ∧ Rl K0 mo K ∧ CK es.length cu K ∧ Snd es ss K ∧ (∀ y, Sn es ss y → kB K y = true) ∧ (mo = false → ∀ j e, j < i → es[j]? = some e → Clo es K j e) ∧ HA (bs w) [(q1, 27, #[v]), (g, 4, cu)] w') es.length ?_ ?_ ?_
   ·exact zex (⟨false, K0, cuz, (by kernel_rfl), Rl.refl K0, hck, hsn, hseen, fun _ j e hj => absurd hj (Nat.not_lt_zero j), hA⟩)
   ·rintro i hi _ w36 ⟨u35, rfl, ⟨mo, K, cu, h10, hrl, hck, hsn, hseen, hcl, hA⟩⟩
    rw [h10]
    have hxl : i < (es.map trm).length := by rw [List.length_map]; exact hi
    obtain ⟨gt, tc, curt, oq, cq, hve, hgt, hcq, hrq⟩ := h.at hxl
    obtain ⟨e, he⟩ : ∃ e, es[i]? = some e := ⟨_, List.getElem?_eq_getElem hi⟩
    have hqe : (es.map trm)[i] = trm e := by rw [List.getElem_map]; exact congrArg trm (List.getElem?_eq_some_iff.1 he).2
    rw [hqe] at hcq hrq
    refine wp_seq ?_
    refine zsr ?_
    refine zwv (iN .i64 i) ?_
    refine zwv (.pointer (some ⟨q1, 0, none⟩)) ?_
    refine zwu (v := v) (run_load1 Tryz.isAgg25 (((hA.get 0 rfl).cell 0).trans rfl)) ?_
    refine zwu (run_len_of hvf (by kernel_rfl)) ?_
    refine zwu (run_lss (k := .i64) (a := i) (b := es.length) true (decide_eq_true (by omega))) ?_
    refine znt ?_
    refine zct ?_
    refine wp_skip ?_
    refine then_at rfl ?_
    refine wp_seq ?_
    refine wp_block ?_
    refine wp_seq ?_
    refine wp_seq ?_
    rcases hb1 : kB K i with _ | _
    ·rcases hb2 : madeB es K e with _ | _
     ·refine wp_region_wk (HA (bs w) [(q1, 27, #[v]), (g, 4, cu)]) (fun A w' => A = ⟨(.agg #[v] :: .slice o ss.length cs :: pt q1 :: un :: u33 4 :: .slice (some ⟨g, 0, none⟩) es.length cg :: iN .i64 es.length :: iN .i64 ss.length :: u15 8 :: u15 9 :: .bool mo :: iN .i64 i :: u35 12 :: u35 13 :: iN .i64 es.length :: pt q1 :: v :: iN .i64 es.length :: .bool false :: u4 19 :: u4 20 :: u4 21 :: u4 22 :: u4 23 :: iN .i64 ss.length :: .slice o ss.length cs :: iN .i64 ss.length :: .bool false :: u15 28 :: u15 29 :: u15 30 :: u15 31 :: u15 32 :: u15 33 :: u15 34 :: u15 35 :: u15 36 :: u15 37 :: u15 38 :: u15 39 :: u15 40 :: u15 41 :: u15 42 :: u15 43 :: u15 44 :: u15 45 :: u15 46 :: u15 47 :: iN .i64 i :: pt q1 :: v :: iN .i64 es.length :: .bool true :: u35 53 :: u35 54 :: .slice (some ⟨g, 0, none⟩) es.length cg :: iN .i64 i :: .pointer (some ⟨g, i, none⟩) :: .bool false :: .bool true :: .bool true :: .agg #[v] :: .slice (some ⟨g, 0, none⟩) es.length cg :: pt q1 :: v :: iN .i64 i :: .pointer (some ⟨gt, 4 * i, none⟩) :: .agg (tmc (trm e).k (trm e).n (trm e).s oq (trm e).ps.length cq) :: .bool false :: .bool false :: u35 70 :: u35 71 :: u35 72 :: u35 73 :: u35 74 :: u35 75 :: u35 76 :: u35 77 :: u35 78 :: u35 79 :: u35 80 :: u35 81 :: u35 82 :: u35 83 :: u35 84 :: u35 85 :: u35 86 :: u35 87 :: u35 88 :: u35 89 :: u35 90 :: u35 91 :: u35 92 :: u35 93 :: u35 94 :: u35 95 :: u35 96 :: u35 97 :: u35 98 :: u35 99 :: u35 100 :: u35 101 :: u35 102 :: u35 103 :: u35 104 :: u35 105 :: u35 106 :: u35 107 :: u35 108 :: u33 109 :: u33 110 :: u33 111 :: List.replicate 0 un).toArray, []⟩ ∧ HA (bs w) [(q1, 27, #[v]), (g, 4, cu)] w') 15 (by kernel_rfl) (by kernel_rfl) (by kernel_rfl) (by kernel_rfl) (by kernel_rfl) (hA.drew) ?_ ?_
      ·have h37 := hA.drew
       refine wk_val (i := 0) (.slice (some ⟨g, 0, none⟩) es.length cg) rfl rfl (by kernel_rfl) (by kernel_rfl) (fun _ _ => (by kernel_rfl)) ?_
       refine wk_val (i := 1) (iN .i64 i) rfl rfl (by kernel_rfl) (by kernel_rfl) (fun _ _ => (by kernel_rfl)) ?_
       refine wk_val (i := 2) (.pointer (some ⟨g, i, none⟩)) rfl rfl (by kernel_rfl) (by kernel_rfl) (fun _ _ => (run_addr_slice (q := g) (n := es.length) (m := cg) (a := i) Tryz.underlying33 Tryz.sizeOf4 hi)) ?_
       refine wk_val (i := 3) (.bool false) rfl rfl (by kernel_rfl) (by kernel_rfl) (fun w' h' => run_load1 Tryz.isAgg4 (((h'.get 1 rfl).cell i).trans ((hck.at_ i hi).trans (by rw [hb1])))) ?_
       refine wk_val (i := 4) (.bool true) rfl rfl (by kernel_rfl) (by kernel_rfl) (fun _ _ => (by kernel_rfl)) ?_
       refine wk_val (i := 5) (.bool true) rfl rfl (by kernel_rfl) (by kernel_rfl) (fun _ _ => (by kernel_rfl)) ?_
       refine wk_val (i := 6) (.agg #[v]) rfl rfl (by kernel_rfl) (by kernel_rfl) (fun w' h' => run_load_blk (h'.get 0 rfl) Tryz.underlying27 rfl) ?_
       refine wk_val (i := 7) (.slice (some ⟨g, 0, none⟩) es.length cg) rfl rfl (by kernel_rfl) (by kernel_rfl) (fun _ _ => (by kernel_rfl)) ?_
       refine wk_val (i := 8) (.pointer (some ⟨q1, 0, none⟩)) rfl rfl (by kernel_rfl) (by kernel_rfl) (fun _ _ => (by kernel_rfl)) ?_
       refine wk_val (i := 9) (v) rfl rfl (by kernel_rfl) (by kernel_rfl) (fun w' h' => run_load1 Tryz.isAgg25 (((h'.get 0 rfl).cell 0).trans rfl)) ?_
       refine wk_val (i := 10) (iN .i64 i) rfl rfl (by kernel_rfl) (by kernel_rfl) (fun _ _ => (by kernel_rfl)) ?_
       refine wk_val (i := 11) (.pointer (some ⟨gt, 4 * i, none⟩)) rfl rfl (by kernel_rfl) (by kernel_rfl) (fun _ _ => (run_addr24 (q := gt) (n := (es.map trm).length) (m := tc) (a := i) (hx := ((by kernel_rfl : _ = v).trans hve)) hxl)) ?_
       refine wk_val (i := 12) (.agg (tmc (trm e).k (trm e).n (trm e).s oq (trm e).ps.length cq)) rfl rfl (by kernel_rfl) (by kernel_rfl) (fun w' h' => run_part ((hS.keep h'.old.old) _ hgt) hcq Tryz.underlying74 rfl) ?_
       refine wk_call (i := 13) (.bool false) HA.keep rfl rfl (by kernel_rfl) (by kernel_rfl) enter24 #[.agg #[v], .slice (some ⟨g, 0, none⟩) es.length cg, .agg (tmc (trm e).k (trm e).n (trm e).s oq (trm e).ps.length cq)] (by kernel_rfl) (fun w' h' => by have hh := rmade_any (c := cg) (c2 := cq) hI (by omega) h (hS.keep h'.old.old) hck.len (h'.get 1 rfl) hck.at' he (hrq.ri (hS.keep h'.old.old)); rw [hb2, hck.len] at hh; exact hh) ?_
       refine wk_val (i := 14) (.bool false) rfl rfl (by kernel_rfl) (by kernel_rfl) (fun _ _ => (by kernel_rfl)) ?_
       refine wk_end fun w38 hbx hsx => ?_
       have h39 := HA.keep _ _ h37 hbx
       exact ⟨by kernel_rfl, h39⟩
      ·rintro _ w40 ⟨rfl, h41⟩
       refine then_at rfl ?_
       refine zcf ?_
       refine wp_skip ?_
       refine then_at rfl ?_
       refine wp_seq ?_
       refine zsr ?_
       refine zwv (.slice (some ⟨g, 0, none⟩) es.length cg) ?_
       refine zwv (iN .i64 i) ?_
       refine zwu (v := .pointer (some ⟨g, i, none⟩)) (run_addr_slice (q := g) (n := es.length) (m := cg) (a := i) Tryz.underlying33 Tryz.sizeOf4 hi) ?_
       refine zwu (v := .bool false) (run_load1 Tryz.isAgg4 (((h41.get 1 rfl).cell i).trans ((hck.at_ i hi).trans (by rw [hb1])))) ?_
       refine zwv (.bool true) ?_
       refine znt ?_
       refine zct ?_
       refine wp_exit ?_
       repeat first | refine then_exit ?_ | refine block_exit ?_ | refine block_exit_ne (by decide) ?_
       refine then_at rfl ?_
       refine wl_region ?_
       refine zwv (iN .i64 i) ?_
       refine zwu (run_add (k := .i64) (a := i) (b := 1) (by first | omega | (simp only [top]; omega))) ?_
       refine zwv (iN .i64 (i + 1)) ?_
       refine wl_nil ?_
       exact then_I (zex (⟨mo, K, cu, (by kernel_rfl), hrl, hck, hsn, hseen, cl_no hcl he hb1 hb2, h41⟩))
     ·refine wp_region_wk (HA (bs w) [(q1, 27, #[v]), (g, 4, cu)]) (fun A w' => A = ⟨(.agg #[v] :: .slice o ss.length cs :: pt q1 :: un :: u33 4 :: .slice (some ⟨g, 0, none⟩) es.length cg :: iN .i64 es.length :: iN .i64 ss.length :: u15 8 :: u15 9 :: .bool mo :: iN .i64 i :: u35 12 :: u35 13 :: iN .i64 es.length :: pt q1 :: v :: iN .i64 es.length :: .bool false :: u4 19 :: u4 20 :: u4 21 :: u4 22 :: u4 23 :: iN .i64 ss.length :: .slice o ss.length cs :: iN .i64 ss.length :: .bool false :: u15 28 :: u15 29 :: u15 30 :: u15 31 :: u15 32 :: u15 33 :: u15 34 :: u15 35 :: u15 36 :: u15 37 :: u15 38 :: u15 39 :: u15 40 :: u15 41 :: u15 42 :: u15 43 :: u15 44 :: u15 45 :: u15 46 :: u15 47 :: iN .i64 i :: pt q1 :: v :: iN .i64 es.length :: .bool true :: u35 53 :: u35 54 :: .slice (some ⟨g, 0, none⟩) es.length cg :: iN .i64 i :: .pointer (some ⟨g, i, none⟩) :: .bool false :: .bool true :: .bool true :: .agg #[v] :: .slice (some ⟨g, 0, none⟩) es.length cg :: pt q1 :: v :: iN .i64 i :: .pointer (some ⟨gt, 4 * i, none⟩) :: .agg (tmc (trm e).k (trm e).n (trm e).s oq (trm e).ps.length cq) :: .bool true :: .bool true :: u35 70 :: u35 71 :: u35 72 :: u35 73 :: u35 74 :: u35 75 :: u35 76 :: u35 77 :: u35 78 :: u35 79 :: u35 80 :: u35 81 :: u35 82 :: u35 83 :: u35 84 :: u35 85 :: u35 86 :: u35 87 :: u35 88 :: u35 89 :: u35 90 :: u35 91 :: u35 92 :: u35 93 :: u35 94 :: u35 95 :: u35 96 :: u35 97 :: u35 98 :: u35 99 :: u35 100 :: u35 101 :: u35 102 :: u35 103 :: u35 104 :: u35 105 :: u35 106 :: u35 107 :: u35 108 :: u33 109 :: u33 110 :: u33 111 :: List.replicate 0 un).toArray, []⟩ ∧ HA (bs w) [(q1, 27, #[v]), (g, 4, cu)] w') 15 (by kernel_rfl) (by kernel_rfl) (by kernel_rfl) (by kernel_rfl) (by kernel_rfl) (hA.drew) ?_ ?_
      ·have h42 := hA.drew
       refine wk_val (i := 0) (.slice (some ⟨g, 0, none⟩) es.length cg) rfl rfl (by kernel_rfl) (by kernel_rfl) (fun _ _ => (by kernel_rfl)) ?_
       refine wk_val (i := 1) (iN .i64 i) rfl rfl (by kernel_rfl) (by kernel_rfl) (fun _ _ => (by kernel_rfl)) ?_
       refine wk_val (i := 2) (.pointer (some ⟨g, i, none⟩)) rfl rfl (by kernel_rfl) (by kernel_rfl) (fun _ _ => (run_addr_slice (q := g) (n := es.length) (m := cg) (a := i) Tryz.underlying33 Tryz.sizeOf4 hi)) ?_
       refine wk_val (i := 3) (.bool false) rfl rfl (by kernel_rfl) (by kernel_rfl) (fun w' h' => run_load1 Tryz.isAgg4 (((h'.get 1 rfl).cell i).trans ((hck.at_ i hi).trans (by rw [hb1])))) ?_
       refine wk_val (i := 4) (.bool true) rfl rfl (by kernel_rfl) (by kernel_rfl) (fun _ _ => (by kernel_rfl)) ?_
       refine wk_val (i := 5) (.bool true) rfl rfl (by kernel_rfl) (by kernel_rfl) (fun _ _ => (by kernel_rfl)) ?_
       refine wk_val (i := 6) (.agg #[v]) rfl rfl (by kernel_rfl) (by kernel_rfl) (fun w' h' => run_load_blk (h'.get 0 rfl) Tryz.underlying27 rfl) ?_
       refine wk_val (i := 7) (.slice (some ⟨g, 0, none⟩) es.length cg) rfl rfl (by kernel_rfl) (by kernel_rfl) (fun _ _ => (by kernel_rfl)) ?_
       refine wk_val (i := 8) (.pointer (some ⟨q1, 0, none⟩)) rfl rfl (by kernel_rfl) (by kernel_rfl) (fun _ _ => (by kernel_rfl)) ?_
       refine wk_val (i := 9) (v) rfl rfl (by kernel_rfl) (by kernel_rfl) (fun w' h' => run_load1 Tryz.isAgg25 (((h'.get 0 rfl).cell 0).trans rfl)) ?_
       refine wk_val (i := 10) (iN .i64 i) rfl rfl (by kernel_rfl) (by kernel_rfl) (fun _ _ => (by kernel_rfl)) ?_
       refine wk_val (i := 11) (.pointer (some ⟨gt, 4 * i, none⟩)) rfl rfl (by kernel_rfl) (by kernel_rfl) (fun _ _ => (run_addr24 (q := gt) (n := (es.map trm).length) (m := tc) (a := i) (hx := ((by kernel_rfl : _ = v).trans hve)) hxl)) ?_
       refine wk_val (i := 12) (.agg (tmc (trm e).k (trm e).n (trm e).s oq (trm e).ps.length cq)) rfl rfl (by kernel_rfl) (by kernel_rfl) (fun w' h' => run_part ((hS.keep h'.old.old) _ hgt) hcq Tryz.underlying74 rfl) ?_
       refine wk_call (i := 13) (.bool true) HA.keep rfl rfl (by kernel_rfl) (by kernel_rfl) enter24 #[.agg #[v], .slice (some ⟨g, 0, none⟩) es.length cg, .agg (tmc (trm e).k (trm e).n (trm e).s oq (trm e).ps.length cq)] (by kernel_rfl) (fun w' h' => by have hh := rmade_any (c := cg) (c2 := cq) hI (by omega) h (hS.keep h'.old.old) hck.len (h'.get 1 rfl) hck.at' he (hrq.ri (hS.keep h'.old.old)); rw [hb2, hck.len] at hh; exact hh) ?_
       refine wk_val (i := 14) (.bool true) rfl rfl (by kernel_rfl) (by kernel_rfl) (fun _ _ => (by kernel_rfl)) ?_
       refine wk_end fun w43 hbx hsx => ?_
       have h44 := HA.keep _ _ h42 hbx
       exact ⟨by kernel_rfl, h44⟩
      ·rintro _ w45 ⟨rfl, h46⟩
       refine then_at rfl ?_
       refine zct ?_
       refine zsr ?_
       refine zwv (.slice (some ⟨g, 0, none⟩) es.length cg) ?_
       refine zwv (iN .i64 i) ?_
       refine zwu (v := .pointer (some ⟨g, i, none⟩)) (run_addr_slice (q := g) (n := es.length) (m := cg) (a := i) Tryz.underlying33 Tryz.sizeOf4 hi) ?_
       refine wl_putv (v := .bool true) h46 1 rfl i (Nat.lt_of_lt_of_le hi hck.big) Tryz.sizeOf4 ?_
       intro w47 (h48 : HA (bs w) [(q1, 27, #[v]), (g, 4, cu.setIfInBounds i (.bool true))] w47)
       refine znt ?_
       refine wl_region ?_
       refine zwv (.bool true) ?_
       refine wl_nil ?_
       have hyK : i < K.length := by rw [hck.len]; exact hi
       have hrl1 := hrl.set' hyK hb1
       have hsn1 := hsn.set hyK (madeD hI.wg hsn he hb2)
       have hck1 := hck.set hi
       have hseen1 : ∀ y, Sn es ss y → kB (K.set i true) y = true := fun y hy => kB_up (hseen y hy)
       have hb11 := kB_self hyK
       have hcl1 : true = false → ∀ j e, j < i → es[j]? = some e → Clo es (K.set i true) j e := fun e => by cases e
       refine then_at rfl ?_
       refine wp_seq ?_
       refine zsr ?_
       refine zwv (.slice (some ⟨g, 0, none⟩) es.length cg) ?_
       refine zwv (iN .i64 i) ?_
       refine zwu (v := .pointer (some ⟨g, i, none⟩)) (run_addr_slice (q := g) (n := es.length) (m := cg) (a := i) Tryz.underlying33 Tryz.sizeOf4 hi) ?_
       refine zwu (v := .bool true) (run_load1 Tryz.isAgg4 (((h48.get 1 rfl).cell i).trans ((hck1.at_ i hi).trans (by rw [hb11])))) ?_
       refine zwv (.bool false) ?_
       refine znt ?_
       refine zcf ?_
       refine wp_skip ?_
       refine then_at rfl ?_
       refine wp_seq ?_
       refine wp_region_wk (HA (bs w) [(q1, 27, #[v]), (g, 4, cu.setIfInBounds i (.bool true))]) (fun A w' => ∃ (NB : BL) (oB : Option Addr) (cB : Nat), A = ⟨(.agg #[v] :: .slice o ss.length cs :: pt q1 :: un :: u33 4 :: .slice (some ⟨g, 0, none⟩) es.length cg :: iN .i64 es.length :: iN .i64 ss.length :: u15 8 :: u15 9 :: .bool true :: iN .i64 i :: .slice oB (outB es (K.set i true) e).length cB :: u35 13 :: iN .i64 es.length :: pt q1 :: v :: iN .i64 es.length :: .bool false :: u4 19 :: u4 20 :: u4 21 :: u4 22 :: u4 23 :: iN .i64 ss.length :: .slice o ss.length cs :: iN .i64 ss.length :: .bool false :: u15 28 :: u15 29 :: u15 30 :: u15 31 :: u15 32 :: u15 33 :: u15 34 :: u15 35 :: u15 36 :: u15 37 :: u15 38 :: u15 39 :: u15 40 :: u15 41 :: u15 42 :: u15 43 :: u15 44 :: u15 45 :: u15 46 :: u15 47 :: iN .i64 i :: pt q1 :: v :: iN .i64 es.length :: .bool true :: u35 53 :: u35 54 :: .slice (some ⟨g, 0, none⟩) es.length cg :: iN .i64 i :: .pointer (some ⟨g, i, none⟩) :: .bool false :: .bool true :: .bool true :: .agg #[v] :: .slice (some ⟨g, 0, none⟩) es.length cg :: pt q1 :: v :: iN .i64 i :: .pointer (some ⟨gt, 4 * i, none⟩) :: .agg (tmc (trm e).k (trm e).n (trm e).s oq (trm e).ps.length cq) :: .bool true :: .bool true :: .slice (some ⟨g, 0, none⟩) es.length cg :: iN .i64 i :: .pointer (some ⟨g, i, none⟩) :: .slice (some ⟨g, 0, none⟩) es.length cg :: iN .i64 i :: .pointer (some ⟨g, i, none⟩) :: .bool true :: .bool false :: .agg #[v] :: .slice (some ⟨g, 0, none⟩) es.length cg :: pt q1 :: v :: iN .i64 i :: .pointer (some ⟨gt, 4 * i, none⟩) :: .agg (tmc (trm e).k (trm e).n (trm e).s oq (trm e).ps.length cq) :: .slice oB (outB es (K.set i true) e).length cB :: u35 86 :: u35 87 :: u35 88 :: u35 89 :: u35 90 :: u35 91 :: u35 92 :: u35 93 :: u35 94 :: u35 95 :: u35 96 :: u35 97 :: u35 98 :: u35 99 :: u35 100 :: u35 101 :: u35 102 :: u35 103 :: u35 104 :: u35 105 :: u35 106 :: u35 107 :: u35 108 :: u33 109 :: u33 110 :: u33 111 :: List.replicate 0 un).toArray, []⟩ ∧ RIL NB oB (outB es (K.set i true) e) ∧ HA (bs w) ((q1, 27, #[v]) :: (g, 4, cu.setIfInBounds i (.bool true)) :: NB) w') 9 (by kernel_rfl) (by kernel_rfl) (by kernel_rfl) (by kernel_rfl) (by kernel_rfl) (h48.drew) ?_ ?_
       ·have h49 := h48.drew
        refine wk_val (i := 0) (.agg #[v]) rfl rfl (by kernel_rfl) (by kernel_rfl) (fun w' h' => run_load_blk (h'.get 0 rfl) Tryz.underlying27 rfl) ?_
        refine wk_val (i := 1) (.slice (some ⟨g, 0, none⟩) es.length cg) rfl rfl (by kernel_rfl) (by kernel_rfl) (fun _ _ => (by kernel_rfl)) ?_
        refine wk_val (i := 2) (.pointer (some ⟨q1, 0, none⟩)) rfl rfl (by kernel_rfl) (by kernel_rfl) (fun _ _ => (by kernel_rfl)) ?_
        refine wk_val (i := 3) (v) rfl rfl (by kernel_rfl) (by kernel_rfl) (fun w' h' => run_load1 Tryz.isAgg25 (((h'.get 0 rfl).cell 0).trans rfl)) ?_
        refine wk_val (i := 4) (iN .i64 i) rfl rfl (by kernel_rfl) (by kernel_rfl) (fun _ _ => (by kernel_rfl)) ?_
        refine wk_val (i := 5) (.pointer (some ⟨gt, 4 * i, none⟩)) rfl rfl (by kernel_rfl) (by kernel_rfl) (fun _ _ => (run_addr24 (q := gt) (n := (es.map trm).length) (m := tc) (a := i) (hx := ((by kernel_rfl : _ = v).trans hve)) hxl)) ?_
        refine wk_val (i := 6) (.agg (tmc (trm e).k (trm e).n (trm e).s oq (trm e).ps.length cq)) rfl rfl (by kernel_rfl) (by kernel_rfl) (fun w' h' => run_part ((hS.keep h'.old.old) _ hgt) hcq Tryz.underlying74 rfl) ?_
        refine wk_one 7 (by kernel_rfl) ?_
        refine ef_callx rfl (by kernel_rfl) h49 enter25 #[.agg #[v], .slice (some ⟨g, 0, none⟩) es.length cg, .agg (tmc (trm e).k (trm e).n (trm e).s oq (trm e).ps.length cq)] (by kernel_rfl) (fun w50 h51 => by have hh := out_any (c := cg) (c2 := cq) hI h (hS.keep h51.old.old) hck1.len (h51.get 1 rfl) hck1.at' he (hrq.ri (hS.keep h51.old.old)); rw [hck1.len] at hh; exact hh) ?_
        rintro w50 h51 _ w52 ⟨oB, cB, rfl, hriB, hbB⟩
        obtain ⟨NB, hrB, hNB⟩ := hriB.newer
        have hxh53 := HA.addL h51 hbB hNB
        have h53 : HA (bs w) ((q1, 27, #[v]) :: (g, 4, cu.setIfInBounds i (.bool true)) :: NB) w52 := hxh53
        refine ⟨_, rfl, (HA.sub h53 (List.Sublist.cons_cons _ (List.Sublist.cons_cons _ (List.nil_sublist _)))), ?_⟩
        refine wk_val (i := 8) (.slice oB (outB es (K.set i true) e).length cB) rfl rfl (by kernel_rfl) (by kernel_rfl) (fun _ _ => (by kernel_rfl)) ?_
        refine wk_end fun w54 hbx hsx => ?_
        have h55 := HA.keep _ _ h53 hbx
        exact ⟨NB, oB, cB, by kernel_rfl, hrB, h55⟩
       ·rintro _ w56 ⟨NB, oB, cB, rfl, hrB, h57⟩
        refine then_at rfl ?_
        refine zsr ?_
        refine zwv (iN .i64 0) ?_
        refine znt ?_
        have hob := outB_lt hI (K.set i true) he
        have hol0 := outB_len (es := es) (K.set i true) e
        refine wp_block ?_
        refine wp_count (fun k A w' => ∃ u58 : Nat → Value, A = ⟨(.agg #[v] :: .slice o ss.length cs :: pt q1 :: un :: u33 4 :: .slice (some ⟨g, 0, none⟩) es.length cg :: iN .i64 es.length :: iN .i64 ss.length :: u15 8 :: u15 9 :: u58 10 :: iN .i64 i :: .slice oB (outB es (K.set i true) e).length cB :: iN .i64 k :: iN .i64 es.length :: pt q1 :: v :: iN .i64 es.length :: .bool false :: u4 19 :: u4 20 :: u4 21 :: u4 22 :: u4 23 :: iN .i64 ss.length :: .slice o ss.length cs :: iN .i64 ss.length :: .bool false :: u15 28 :: u15 29 :: u15 30 :: u15 31 :: u15 32 :: u15 33 :: u15 34 :: u15 35 :: u15 36 :: u15 37 :: u15 38 :: u15 39 :: u15 40 :: u15 41 :: u15 42 :: u15 43 :: u15 44 :: u15 45 :: u15 46 :: u15 47 :: iN .i64 i :: pt q1 :: v :: iN .i64 es.length :: .bool true :: u35 53 :: u35 54 :: .slice (some ⟨g, 0, none⟩) es.length cg :: iN .i64 i :: .pointer (some ⟨g, i, none⟩) :: .bool false :: .bool true :: .bool true :: .agg #[v] :: .slice (some ⟨g, 0, none⟩) es.length cg :: pt q1 :: v :: iN .i64 i :: .pointer (some ⟨gt, 4 * i, none⟩) :: .agg (tmc (trm e).k (trm e).n (trm e).s oq (trm e).ps.length cq) :: .bool true :: .bool true :: .slice (some ⟨g, 0, none⟩) es.length cg :: iN .i64 i :: .pointer (some ⟨g, i, none⟩) :: .slice (some ⟨g, 0, none⟩) es.length cg :: iN .i64 i :: .pointer (some ⟨g, i, none⟩) :: .bool true :: .bool false :: .agg #[v] :: .slice (some ⟨g, 0, none⟩) es.length cg :: pt q1 :: v :: iN .i64 i :: .pointer (some ⟨gt, 4 * i, none⟩) :: .agg (tmc (trm e).k (trm e).n (trm e).s oq (trm e).ps.length cq) :: .slice oB (outB es (K.set i true) e).length cB :: u58 86 :: u58 87 :: u58 88 :: u58 89 :: u58 90 :: u58 91 :: u58 92 :: u58 93 :: u58 94 :: u58 95 :: u58 96 :: u58 97 :: u58 98 :: u58 99 :: u58 100 :: u58 101 :: u58 102 :: u58 103 :: u58 104 :: u58 105 :: u58 106 :: u58 107 :: u58 108 :: u33 109 :: u33 110 :: u33 111 :: List.replicate 0 un).toArray, []⟩ ∧ ∃ mo2 K2 cu2, u58 10 = .bool mo2 ∧ Rl K0 mo2 K2 ∧ CK es.length cu2 K2 ∧ Snd es ss K2 ∧ (∀ y, Sn es ss y → kB K2 y = true) ∧ (mo2 = false → true = false) ∧ (∀ j, j < k → kB K2 ((outB es (K.set i true) e).getD j 0) = true) ∧ HA (bs w) ((q1, 27, #[v]) :: (g, 4, cu2) :: NB) w') ((outB es (K.set i true) e).length) ?_ ?_ ?_
        ·exact zex (⟨true, K.set i true, cu.setIfInBounds i (.bool true), (by kernel_rfl), hrl1, hck1, hsn1, hseen1, fun h => h, fun j hj => absurd hj (Nat.not_lt_zero j), h57⟩)
        ·rintro k hj _ w59 ⟨u58, rfl, ⟨mo2, K2, cu2, h102, hrl2, hck2, hsn2, hseen2, himp, hdone, hA⟩⟩
         rw [h102]
         obtain ⟨gl, cql, hol, hgl, hcl3⟩ := hrB.resolve_left (fun e => by rw [e] at hj; cases hj)
         have hlt := hob _ (gD_mem hj)
         have hyK : (outB es (K.set i true) e).getD k 0 < K2.length := by rw [hck2.len]; exact hlt
         refine wp_seq ?_
         refine zsr ?_
         refine zwv (iN .i64 k) ?_
         refine zwv (.slice oB (outB es (K.set i true) e).length cB) ?_
         refine zwv (iN .i64 ((outB es (K.set i true) e).length)) ?_
         refine zwu (run_lss (k := .i64) (a := k) (b := (outB es (K.set i true) e).length) true (decide_eq_true (by omega))) ?_
         refine znt ?_
         refine zct ?_
         refine wp_skip ?_
         refine then_at rfl ?_
         refine wp_seq ?_
         refine wp_block ?_
         refine wp_seq ?_
         rcases mo2 with _ | _
         ·rcases hb3 : kB K2 ((outB es (K.set i true) e).getD k 0) with _ | _
          ·refine wl_region ?_
           refine zwv (.bool false) ?_
           refine zwv (.bool false) ?_
           refine zwv (.slice (some ⟨g, 0, none⟩) es.length cg) ?_
           refine zwv (.slice oB (outB es (K.set i true) e).length cB) ?_
           refine zwv (iN .i64 k) ?_
           refine zwu (v := .pointer (some ⟨gl, k, none⟩)) (run_addr_i (g := gl) (n := (outB es (K.set i true) e).length) (c := cB) (i := k) hol hj) ?_
           refine zwu (v := iN .i64 ((outB es (K.set i true) e).getD k 0)) (run_load1 Tryz.isAgg3 (((hA.blk (gl, 3, cql) (by simp [hgl])).cell k).trans (hcl3 _ hj))) ?_
           refine zwu (v := .pointer (some ⟨g, (outB es (K.set i true) e).getD k 0, none⟩)) (run_addr_slice (q := g) (n := es.length) (m := cg) (a := (outB es (K.set i true) e).getD k 0) Tryz.underlying33 Tryz.sizeOf4 hlt) ?_
           refine zwu (v := .bool false) (run_load1 Tryz.isAgg4 (((hA.get 1 rfl).cell ((outB es (K.set i true) e).getD k 0)).trans ((hck2.at_ _ hlt).trans (by rw [hb3])))) ?_
           refine zwv (.bool true) ?_
           refine zwv (.bool true) ?_
           refine zwv (.bool true) ?_
           refine znt ?_
           refine wl_region ?_
           refine zwv (.slice (some ⟨g, 0, none⟩) es.length cg) ?_
           refine zwv (.slice oB (outB es (K.set i true) e).length cB) ?_
           refine zwv (iN .i64 k) ?_
           refine zwu (v := .pointer (some ⟨gl, k, none⟩)) (run_addr_i (g := gl) (n := (outB es (K.set i true) e).length) (c := cB) (i := k) hol hj) ?_
           refine zwu (v := iN .i64 ((outB es (K.set i true) e).getD k 0)) (run_load1 Tryz.isAgg3 (((hA.blk (gl, 3, cql) (by simp [hgl])).cell k).trans (hcl3 _ hj))) ?_
           refine zwu (v := .pointer (some ⟨g, (outB es (K.set i true) e).getD k 0, none⟩)) (run_addr_slice (q := g) (n := es.length) (m := cg) (a := (outB es (K.set i true) e).getD k 0) Tryz.underlying33 Tryz.sizeOf4 hlt) ?_
           refine wl_putv (v := .bool true) hA 1 rfl ((outB es (K.set i true) e).getD k 0) (Nat.lt_of_lt_of_le hlt hck2.big) Tryz.sizeOf4 ?_
           intro w60 (h61 : HA (bs w) ((q1, 27, #[v]) :: (g, 4, cu2.setIfInBounds ((outB es (K.set i true) e).getD k 0) (.bool true)) :: NB) w60)
           refine wl_nil ?_
           refine block_normal ?_
           refine then_at rfl ?_
           refine wl_region ?_
           refine zwv (iN .i64 k) ?_
           refine zwu (run_add (k := .i64) (a := k) (b := 1) (by first | omega | (simp only [top]; omega))) ?_
           refine zwv (iN .i64 (k + 1)) ?_
           refine wl_nil ?_
           exact then_I (zex (⟨true, _, _, (by kernel_rfl), (hrl2.set' hyK hb3), hck2.set hlt, hsn2.set hyK (outD hsn1 he hb11 (gD_mem hj)), fun y hy => kB_up (hseen2 y hy), (fun e => by cases e), done_set hdone hyK, h61⟩))
          ·refine wl_region ?_
           refine zwv (.bool false) ?_
           refine zwv (.bool false) ?_
           refine zwv (.slice (some ⟨g, 0, none⟩) es.length cg) ?_
           refine zwv (.slice oB (outB es (K.set i true) e).length cB) ?_
           refine zwv (iN .i64 k) ?_
           refine zwu (v := .pointer (some ⟨gl, k, none⟩)) (run_addr_i (g := gl) (n := (outB es (K.set i true) e).length) (c := cB) (i := k) hol hj) ?_
           refine zwu (v := iN .i64 ((outB es (K.set i true) e).getD k 0)) (run_load1 Tryz.isAgg3 (((hA.blk (gl, 3, cql) (by simp [hgl])).cell k).trans (hcl3 _ hj))) ?_
           refine zwu (v := .pointer (some ⟨g, (outB es (K.set i true) e).getD k 0, none⟩)) (run_addr_slice (q := g) (n := es.length) (m := cg) (a := (outB es (K.set i true) e).getD k 0) Tryz.underlying33 Tryz.sizeOf4 hlt) ?_
           refine zwu (v := .bool true) (run_load1 Tryz.isAgg4 (((hA.get 1 rfl).cell ((outB es (K.set i true) e).getD k 0)).trans ((hck2.at_ _ hlt).trans (by rw [hb3])))) ?_
           refine zwv (.bool false) ?_
           refine zwv (.bool false) ?_
           refine zwv (.bool false) ?_
           refine zna ⟨(.agg #[v] :: .slice o ss.length cs :: pt q1 :: un :: u33 4 :: .slice (some ⟨g, 0, none⟩) es.length cg :: iN .i64 es.length :: iN .i64 ss.length :: u15 8 :: u15 9 :: .bool false :: iN .i64 i :: .slice oB (outB es (K.set i true) e).length cB :: iN .i64 k :: iN .i64 es.length :: pt q1 :: v :: iN .i64 es.length :: .bool false :: u4 19 :: u4 20 :: u4 21 :: u4 22 :: u4 23 :: iN .i64 ss.length :: .slice o ss.length cs :: iN .i64 ss.length :: .bool false :: u15 28 :: u15 29 :: u15 30 :: u15 31 :: u15 32 :: u15 33 :: u15 34 :: u15 35 :: u15 36 :: u15 37 :: u15 38 :: u15 39 :: u15 40 :: u15 41 :: u15 42 :: u15 43 :: u15 44 :: u15 45 :: u15 46 :: u15 47 :: iN .i64 i :: pt q1 :: v :: iN .i64 es.length :: .bool true :: u35 53 :: u35 54 :: .slice (some ⟨g, 0, none⟩) es.length cg :: iN .i64 i :: .pointer (some ⟨g, i, none⟩) :: .bool false :: .bool true :: .bool true :: .agg #[v] :: .slice (some ⟨g, 0, none⟩) es.length cg :: pt q1 :: v :: iN .i64 i :: .pointer (some ⟨gt, 4 * i, none⟩) :: .agg (tmc (trm e).k (trm e).n (trm e).s oq (trm e).ps.length cq) :: .bool true :: .bool true :: .slice (some ⟨g, 0, none⟩) es.length cg :: iN .i64 i :: .pointer (some ⟨g, i, none⟩) :: .slice (some ⟨g, 0, none⟩) es.length cg :: iN .i64 i :: .pointer (some ⟨g, i, none⟩) :: .bool true :: .bool false :: .agg #[v] :: .slice (some ⟨g, 0, none⟩) es.length cg :: pt q1 :: v :: iN .i64 i :: .pointer (some ⟨gt, 4 * i, none⟩) :: .agg (tmc (trm e).k (trm e).n (trm e).s oq (trm e).ps.length cq) :: .slice oB (outB es (K.set i true) e).length cB :: iN .i64 k :: .slice oB (outB es (K.set i true) e).length cB :: iN .i64 ((outB es (K.set i true) e).length) :: .bool true :: u58 90 :: u58 91 :: .bool false :: .bool false :: .slice (some ⟨g, 0, none⟩) es.length cg :: .slice oB (outB es (K.set i true) e).length cB :: iN .i64 k :: .pointer (some ⟨gl, k, none⟩) :: iN .i64 ((outB es (K.set i true) e).getD k 0) :: .pointer (some ⟨g, (outB es (K.set i true) e).getD k 0, none⟩) :: .bool true :: .bool false :: .bool false :: u58 103 :: u58 104 :: u58 105 :: u58 106 :: u58 107 :: u58 108 :: u33 109 :: u33 110 :: u33 111 :: List.replicate 0 un).toArray, []⟩ ?_
           refine wl_region ?_
           refine zwv (.slice (some ⟨g, 0, none⟩) es.length cg) ?_
           refine zwv (.slice oB (outB es (K.set i true) e).length cB) ?_
           refine zwv (iN .i64 k) ?_
           refine zwu (v := .pointer (some ⟨gl, k, none⟩)) (run_addr_i (g := gl) (n := (outB es (K.set i true) e).length) (c := cB) (i := k) hol hj) ?_
           refine zwu (v := iN .i64 ((outB es (K.set i true) e).getD k 0)) (run_load1 Tryz.isAgg3 (((hA.blk (gl, 3, cql) (by simp [hgl])).cell k).trans (hcl3 _ hj))) ?_
           refine zwu (v := .pointer (some ⟨g, (outB es (K.set i true) e).getD k 0, none⟩)) (run_addr_slice (q := g) (n := es.length) (m := cg) (a := (outB es (K.set i true) e).getD k 0) Tryz.underlying33 Tryz.sizeOf4 hlt) ?_
           refine wl_putv (v := .bool true) hA 1 rfl ((outB es (K.set i true) e).getD k 0) (Nat.lt_of_lt_of_le hlt hck2.big) Tryz.sizeOf4 ?_
           intro w62 (h63 : HA (bs w) ((q1, 27, #[v]) :: (g, 4, cu2.setIfInBounds ((outB es (K.set i true) e).getD k 0) (.bool true)) :: NB) w62)
           refine wl_nil ?_
           refine block_normal ?_
           refine then_at rfl ?_
           refine wl_region ?_
           refine zwv (iN .i64 k) ?_
           refine zwu (run_add (k := .i64) (a := k) (b := 1) (by first | omega | (simp only [top]; omega))) ?_
           refine zwv (iN .i64 (k + 1)) ?_
           refine wl_nil ?_
           exact then_I (zex (⟨false, _, _, (by kernel_rfl), (by have hh := hrl2.set hyK; rw [hb3] at hh; exact hh), hck2.set hlt, hsn2.set hyK (outD hsn1 he hb11 (gD_mem hj)), fun y hy => kB_up (hseen2 y hy), himp, done_set hdone hyK, h63⟩))
         ·refine wl_region ?_
          refine zwv (.bool true) ?_
          refine zwv (.bool true) ?_
          refine wl_skip ?_
          refine wl_skip ?_
          refine wl_skip ?_
          refine wl_skip ?_
          refine wl_skip ?_
          refine wl_skip ?_
          refine wl_skip ?_
          refine wl_skip ?_
          refine zwv (.bool true) ?_
          refine zwv (.bool true) ?_
          refine znt ?_
          refine wl_region ?_
          refine zwv (.slice (some ⟨g, 0, none⟩) es.length cg) ?_
          refine zwv (.slice oB (outB es (K.set i true) e).length cB) ?_
          refine zwv (iN .i64 k) ?_
          refine zwu (v := .pointer (some ⟨gl, k, none⟩)) (run_addr_i (g := gl) (n := (outB es (K.set i true) e).length) (c := cB) (i := k) hol hj) ?_
          refine zwu (v := iN .i64 ((outB es (K.set i true) e).getD k 0)) (run_load1 Tryz.isAgg3 (((hA.blk (gl, 3, cql) (by simp [hgl])).cell k).trans (hcl3 _ hj))) ?_
          refine zwu (v := .pointer (some ⟨g, (outB es (K.set i true) e).getD k 0, none⟩)) (run_addr_slice (q := g) (n := es.length) (m := cg) (a := (outB es (K.set i true) e).getD k 0) Tryz.underlying33 Tryz.sizeOf4 hlt) ?_
          refine wl_putv (v := .bool true) hA 1 rfl ((outB es (K.set i true) e).getD k 0) (Nat.lt_of_lt_of_le hlt hck2.big) Tryz.sizeOf4 ?_
          intro w64 (h65 : HA (bs w) ((q1, 27, #[v]) :: (g, 4, cu2.setIfInBounds ((outB es (K.set i true) e).getD k 0) (.bool true)) :: NB) w64)
          refine wl_nil ?_
          refine block_normal ?_
          refine then_at rfl ?_
          refine wl_region ?_
          refine zwv (iN .i64 k) ?_
          refine zwu (run_add (k := .i64) (a := k) (b := 1) (by first | omega | (simp only [top]; omega))) ?_
          refine zwv (iN .i64 (k + 1)) ?_
          refine wl_nil ?_
          exact then_I ⟨lku (fun _ => undef) [(10, .bool true), (86, iN .i64 k), (87, .slice oB (outB es (K.set i true) e).length cB), (88, iN .i64 ((outB es (K.set i true) e).length)), (89, .bool true), (90, iN .i64 k), (91, iN .i64 (k + 1)), (92, .bool true), (93, .bool true), (102, .bool true), (103, .slice (some ⟨g, 0, none⟩) es.length cg), (104, .slice oB (outB es (K.set i true) e).length cB), (105, iN .i64 k), (106, .pointer (some ⟨gl, k, none⟩)), (107, iN .i64 ((outB es (K.set i true) e).getD k 0)), (108, .pointer (some ⟨g, (outB es (K.set i true) e).getD k 0, none⟩))], by kernel_rfl, ⟨true, _, _, (by kernel_rfl), (by exact hrl2.set hyK), hck2.set hlt, hsn2.set hyK (outD hsn1 he hb11 (gD_mem hj)), fun y hy => kB_up (hseen2 y hy), (fun e => by cases e), done_set hdone hyK, h65⟩⟩
        ·rintro _ w66 ⟨u58, rfl, ⟨mo2, K2, cu2, h102, hrl2, hck2, hsn2, hseen2, himp, hdone, hA⟩⟩
         rw [h102]
         refine wp_seq ?_
         refine zsr ?_
         refine zwv (iN .i64 ((outB es (K.set i true) e).length)) ?_
         refine zwv (.slice oB (outB es (K.set i true) e).length cB) ?_
         refine zwv (iN .i64 ((outB es (K.set i true) e).length)) ?_
         refine zwu (run_lss (k := .i64) (a := (outB es (K.set i true) e).length) (b := (outB es (K.set i true) e).length) false (decide_eq_false (by omega))) ?_
         refine zna ⟨(.agg #[v] :: .slice o ss.length cs :: pt q1 :: un :: u33 4 :: .slice (some ⟨g, 0, none⟩) es.length cg :: iN .i64 es.length :: iN .i64 ss.length :: u15 8 :: u15 9 :: .bool mo2 :: iN .i64 i :: .slice oB (outB es (K.set i true) e).length cB :: iN .i64 ((outB es (K.set i true) e).length) :: iN .i64 es.length :: pt q1 :: v :: iN .i64 es.length :: .bool false :: u4 19 :: u4 20 :: u4 21 :: u4 22 :: u4 23 :: iN .i64 ss.length :: .slice o ss.length cs :: iN .i64 ss.length :: .bool false :: u15 28 :: u15 29 :: u15 30 :: u15 31 :: u15 32 :: u15 33 :: u15 34 :: u15 35 :: u15 36 :: u15 37 :: u15 38 :: u15 39 :: u15 40 :: u15 41 :: u15 42 :: u15 43 :: u15 44 :: u15 45 :: u15 46 :: u15 47 :: iN .i64 i :: pt q1 :: v :: iN .i64 es.length :: .bool true :: u35 53 :: u35 54 :: .slice (some ⟨g, 0, none⟩) es.length cg :: iN .i64 i :: .pointer (some ⟨g, i, none⟩) :: .bool false :: .bool true :: .bool true :: .agg #[v] :: .slice (some ⟨g, 0, none⟩) es.length cg :: pt q1 :: v :: iN .i64 i :: .pointer (some ⟨gt, 4 * i, none⟩) :: .agg (tmc (trm e).k (trm e).n (trm e).s oq (trm e).ps.length cq) :: .bool true :: .bool true :: .slice (some ⟨g, 0, none⟩) es.length cg :: iN .i64 i :: .pointer (some ⟨g, i, none⟩) :: .slice (some ⟨g, 0, none⟩) es.length cg :: iN .i64 i :: .pointer (some ⟨g, i, none⟩) :: .bool true :: .bool false :: .agg #[v] :: .slice (some ⟨g, 0, none⟩) es.length cg :: pt q1 :: v :: iN .i64 i :: .pointer (some ⟨gt, 4 * i, none⟩) :: .agg (tmc (trm e).k (trm e).n (trm e).s oq (trm e).ps.length cq) :: .slice oB (outB es (K.set i true) e).length cB :: iN .i64 ((outB es (K.set i true) e).length) :: .slice oB (outB es (K.set i true) e).length cB :: iN .i64 ((outB es (K.set i true) e).length) :: .bool false :: u58 90 :: u58 91 :: u58 92 :: u58 93 :: u58 94 :: u58 95 :: u58 96 :: u58 97 :: u58 98 :: u58 99 :: u58 100 :: u58 101 :: u58 102 :: u58 103 :: u58 104 :: u58 105 :: u58 106 :: u58 107 :: u58 108 :: u33 109 :: u33 110 :: u33 111 :: List.replicate 0 un).toArray, []⟩ ?_
         refine zcf ?_
         refine wp_exit ?_
         repeat first | refine then_exit ?_ | refine block_exit ?_ | refine block_exit_ne (by decide) ?_
         have h67 : HA (bs w) [(q1, 27, #[v]), (g, 4, cu2)] w66 := HA.sub hA (List.Sublist.cons_cons _ (List.Sublist.cons_cons _ (List.nil_sublist _)))
         refine block_normal ?_
         refine then_at rfl ?_
         refine wl_region ?_
         refine zwv (iN .i64 i) ?_
         refine zwu (run_add (k := .i64) (a := i) (b := 1) (by first | omega | (simp only [top]; omega))) ?_
         refine zwv (iN .i64 (i + 1)) ?_
         refine wl_nil ?_
         exact then_I (zex (⟨mo2, K2, cu2, (by kernel_rfl), hrl2, hck2, hsn2, hseen2, cl_yes hrl1 hrl2 himp hcl1 he hb11 hdone, h67⟩))
    ·refine wp_region_wk (HA (bs w) [(q1, 27, #[v]), (g, 4, cu)]) (fun A w' => A = ⟨(.agg #[v] :: .slice o ss.length cs :: pt q1 :: un :: u33 4 :: .slice (some ⟨g, 0, none⟩) es.length cg :: iN .i64 es.length :: iN .i64 ss.length :: u15 8 :: u15 9 :: .bool mo :: iN .i64 i :: u35 12 :: u35 13 :: iN .i64 es.length :: pt q1 :: v :: iN .i64 es.length :: .bool false :: u4 19 :: u4 20 :: u4 21 :: u4 22 :: u4 23 :: iN .i64 ss.length :: .slice o ss.length cs :: iN .i64 ss.length :: .bool false :: u15 28 :: u15 29 :: u15 30 :: u15 31 :: u15 32 :: u15 33 :: u15 34 :: u15 35 :: u15 36 :: u15 37 :: u15 38 :: u15 39 :: u15 40 :: u15 41 :: u15 42 :: u15 43 :: u15 44 :: u15 45 :: u15 46 :: u15 47 :: iN .i64 i :: pt q1 :: v :: iN .i64 es.length :: .bool true :: u35 53 :: u35 54 :: .slice (some ⟨g, 0, none⟩) es.length cg :: iN .i64 i :: .pointer (some ⟨g, i, none⟩) :: .bool true :: .bool false :: .bool false :: un :: un :: un :: un :: un :: un :: un :: un :: .bool false :: u35 70 :: u35 71 :: u35 72 :: u35 73 :: u35 74 :: u35 75 :: u35 76 :: u35 77 :: u35 78 :: u35 79 :: u35 80 :: u35 81 :: u35 82 :: u35 83 :: u35 84 :: u35 85 :: u35 86 :: u35 87 :: u35 88 :: u35 89 :: u35 90 :: u35 91 :: u35 92 :: u35 93 :: u35 94 :: u35 95 :: u35 96 :: u35 97 :: u35 98 :: u35 99 :: u35 100 :: u35 101 :: u35 102 :: u35 103 :: u35 104 :: u35 105 :: u35 106 :: u35 107 :: u35 108 :: u33 109 :: u33 110 :: u33 111 :: List.replicate 0 un).toArray, []⟩ ∧ HA (bs w) [(q1, 27, #[v]), (g, 4, cu)] w') 15 (by kernel_rfl) (by kernel_rfl) (by kernel_rfl) (by kernel_rfl) (by kernel_rfl) (hA.drew) ?_ ?_
     ·have h68 := hA.drew
      refine wk_val (i := 0) (.slice (some ⟨g, 0, none⟩) es.length cg) rfl rfl (by kernel_rfl) (by kernel_rfl) (fun _ _ => (by kernel_rfl)) ?_
      refine wk_val (i := 1) (iN .i64 i) rfl rfl (by kernel_rfl) (by kernel_rfl) (fun _ _ => (by kernel_rfl)) ?_
      refine wk_val (i := 2) (.pointer (some ⟨g, i, none⟩)) rfl rfl (by kernel_rfl) (by kernel_rfl) (fun _ _ => (run_addr_slice (q := g) (n := es.length) (m := cg) (a := i) Tryz.underlying33 Tryz.sizeOf4 hi)) ?_
      refine wk_val (i := 3) (.bool true) rfl rfl (by kernel_rfl) (by kernel_rfl) (fun w' h' => run_load1 Tryz.isAgg4 (((h'.get 1 rfl).cell i).trans ((hck.at_ i hi).trans (by rw [hb1])))) ?_
      refine wk_val (i := 4) (.bool false) rfl rfl (by kernel_rfl) (by kernel_rfl) (fun _ _ => (by kernel_rfl)) ?_
      refine wk_val (i := 5) (.bool false) rfl rfl (by kernel_rfl) (by kernel_rfl) (fun _ _ => (by kernel_rfl)) ?_
      refine wk_skip (i := 6) rfl rfl (by kernel_rfl) (by kernel_rfl) ?_
      refine wk_skip (i := 7) rfl rfl (by kernel_rfl) (by kernel_rfl) ?_
      refine wk_skip (i := 8) rfl rfl (by kernel_rfl) (by kernel_rfl) ?_
      refine wk_skip (i := 9) rfl rfl (by kernel_rfl) (by kernel_rfl) ?_
      refine wk_skip (i := 10) rfl rfl (by kernel_rfl) (by kernel_rfl) ?_
      refine wk_skip (i := 11) rfl rfl (by kernel_rfl) (by kernel_rfl) ?_
      refine wk_skip (i := 12) rfl rfl (by kernel_rfl) (by kernel_rfl) ?_
      refine wk_skip (i := 13) rfl rfl (by kernel_rfl) (by kernel_rfl) ?_
      refine wk_val (i := 14) (.bool false) rfl rfl (by kernel_rfl) (by kernel_rfl) (fun _ _ => (by kernel_rfl)) ?_
      refine wk_end fun w69 hbx hsx => ?_
      have h70 := HA.keep _ _ h68 hbx
      exact ⟨by kernel_rfl, h70⟩
     ·rintro _ w71 ⟨rfl, h72⟩
      refine then_at rfl ?_
      refine zcf ?_
      refine wp_skip ?_
      refine then_at rfl ?_
      refine wp_seq ?_
      refine zsr ?_
      refine zwv (.slice (some ⟨g, 0, none⟩) es.length cg) ?_
      refine zwv (iN .i64 i) ?_
      refine zwu (v := .pointer (some ⟨g, i, none⟩)) (run_addr_slice (q := g) (n := es.length) (m := cg) (a := i) Tryz.underlying33 Tryz.sizeOf4 hi) ?_
      refine zwu (v := .bool true) (run_load1 Tryz.isAgg4 (((h72.get 1 rfl).cell i).trans ((hck.at_ i hi).trans (by rw [hb1])))) ?_
      refine zwv (.bool false) ?_
      refine znt ?_
      refine zcf ?_
      refine wp_skip ?_
      refine then_at rfl ?_
      refine wp_seq ?_
      refine wp_region_wk (HA (bs w) [(q1, 27, #[v]), (g, 4, cu)]) (fun A w' => ∃ (NB : BL) (oB : Option Addr) (cB : Nat), A = ⟨(.agg #[v] :: .slice o ss.length cs :: pt q1 :: un :: u33 4 :: .slice (some ⟨g, 0, none⟩) es.length cg :: iN .i64 es.length :: iN .i64 ss.length :: u15 8 :: u15 9 :: .bool mo :: iN .i64 i :: .slice oB (outB es K e).length cB :: u35 13 :: iN .i64 es.length :: pt q1 :: v :: iN .i64 es.length :: .bool false :: u4 19 :: u4 20 :: u4 21 :: u4 22 :: u4 23 :: iN .i64 ss.length :: .slice o ss.length cs :: iN .i64 ss.length :: .bool false :: u15 28 :: u15 29 :: u15 30 :: u15 31 :: u15 32 :: u15 33 :: u15 34 :: u15 35 :: u15 36 :: u15 37 :: u15 38 :: u15 39 :: u15 40 :: u15 41 :: u15 42 :: u15 43 :: u15 44 :: u15 45 :: u15 46 :: u15 47 :: iN .i64 i :: pt q1 :: v :: iN .i64 es.length :: .bool true :: u35 53 :: u35 54 :: .slice (some ⟨g, 0, none⟩) es.length cg :: iN .i64 i :: .pointer (some ⟨g, i, none⟩) :: .bool true :: .bool false :: .bool false :: un :: un :: un :: un :: un :: un :: un :: un :: .bool false :: u35 70 :: u35 71 :: u35 72 :: .slice (some ⟨g, 0, none⟩) es.length cg :: iN .i64 i :: .pointer (some ⟨g, i, none⟩) :: .bool true :: .bool false :: .agg #[v] :: .slice (some ⟨g, 0, none⟩) es.length cg :: pt q1 :: v :: iN .i64 i :: .pointer (some ⟨gt, 4 * i, none⟩) :: .agg (tmc (trm e).k (trm e).n (trm e).s oq (trm e).ps.length cq) :: .slice oB (outB es K e).length cB :: u35 86 :: u35 87 :: u35 88 :: u35 89 :: u35 90 :: u35 91 :: u35 92 :: u35 93 :: u35 94 :: u35 95 :: u35 96 :: u35 97 :: u35 98 :: u35 99 :: u35 100 :: u35 101 :: u35 102 :: u35 103 :: u35 104 :: u35 105 :: u35 106 :: u35 107 :: u35 108 :: u33 109 :: u33 110 :: u33 111 :: List.replicate 0 un).toArray, []⟩ ∧ RIL NB oB (outB es K e) ∧ HA (bs w) ((q1, 27, #[v]) :: (g, 4, cu) :: NB) w') 9 (by kernel_rfl) (by kernel_rfl) (by kernel_rfl) (by kernel_rfl) (by kernel_rfl) (h72.drew) ?_ ?_
      ·have h73 := h72.drew
       refine wk_val (i := 0) (.agg #[v]) rfl rfl (by kernel_rfl) (by kernel_rfl) (fun w' h' => run_load_blk (h'.get 0 rfl) Tryz.underlying27 rfl) ?_
       refine wk_val (i := 1) (.slice (some ⟨g, 0, none⟩) es.length cg) rfl rfl (by kernel_rfl) (by kernel_rfl) (fun _ _ => (by kernel_rfl)) ?_
       refine wk_val (i := 2) (.pointer (some ⟨q1, 0, none⟩)) rfl rfl (by kernel_rfl) (by kernel_rfl) (fun _ _ => (by kernel_rfl)) ?_
       refine wk_val (i := 3) (v) rfl rfl (by kernel_rfl) (by kernel_rfl) (fun w' h' => run_load1 Tryz.isAgg25 (((h'.get 0 rfl).cell 0).trans rfl)) ?_
       refine wk_val (i := 4) (iN .i64 i) rfl rfl (by kernel_rfl) (by kernel_rfl) (fun _ _ => (by kernel_rfl)) ?_
       refine wk_val (i := 5) (.pointer (some ⟨gt, 4 * i, none⟩)) rfl rfl (by kernel_rfl) (by kernel_rfl) (fun _ _ => (run_addr24 (q := gt) (n := (es.map trm).length) (m := tc) (a := i) (hx := ((by kernel_rfl : _ = v).trans hve)) hxl)) ?_
       refine wk_val (i := 6) (.agg (tmc (trm e).k (trm e).n (trm e).s oq (trm e).ps.length cq)) rfl rfl (by kernel_rfl) (by kernel_rfl) (fun w' h' => run_part ((hS.keep h'.old.old) _ hgt) hcq Tryz.underlying74 rfl) ?_
       refine wk_one 7 (by kernel_rfl) ?_
       refine ef_callx rfl (by kernel_rfl) h73 enter25 #[.agg #[v], .slice (some ⟨g, 0, none⟩) es.length cg, .agg (tmc (trm e).k (trm e).n (trm e).s oq (trm e).ps.length cq)] (by kernel_rfl) (fun w74 h75 => by have hh := out_any (c := cg) (c2 := cq) hI h (hS.keep h75.old.old) hck.len (h75.get 1 rfl) hck.at' he (hrq.ri (hS.keep h75.old.old)); rw [hck.len] at hh; exact hh) ?_
       rintro w74 h75 _ w76 ⟨oB, cB, rfl, hriB, hbB⟩
       obtain ⟨NB, hrB, hNB⟩ := hriB.newer
       have hxh77 := HA.addL h75 hbB hNB
       have h77 : HA (bs w) ((q1, 27, #[v]) :: (g, 4, cu) :: NB) w76 := hxh77
       refine ⟨_, rfl, (HA.sub h77 (List.Sublist.cons_cons _ (List.Sublist.cons_cons _ (List.nil_sublist _)))), ?_⟩
       refine wk_val (i := 8) (.slice oB (outB es K e).length cB) rfl rfl (by kernel_rfl) (by kernel_rfl) (fun _ _ => (by kernel_rfl)) ?_
       refine wk_end fun w78 hbx hsx => ?_
       have h79 := HA.keep _ _ h77 hbx
       exact ⟨NB, oB, cB, by kernel_rfl, hrB, h79⟩
      ·rintro _ w80 ⟨NB, oB, cB, rfl, hrB, h81⟩
       refine then_at rfl ?_
       refine zsr ?_
       refine zwv (iN .i64 0) ?_
       refine znt ?_
       have hob := outB_lt hI K he
       have hol0 := outB_len (es := es) K e
       refine wp_block ?_
       refine wp_count (fun k A w' => ∃ u82 : Nat → Value, A = ⟨(.agg #[v] :: .slice o ss.length cs :: pt q1 :: un :: u33 4 :: .slice (some ⟨g, 0, none⟩) es.length cg :: iN .i64 es.length :: iN .i64 ss.length :: u15 8 :: u15 9 :: u82 10 :: iN .i64 i :: .slice oB (outB es K e).length cB :: iN .i64 k :: iN .i64 es.length :: pt q1 :: v :: iN .i64 es.length :: .bool false :: u4 19 :: u4 20 :: u4 21 :: u4 22 :: u4 23 :: iN .i64 ss.length :: .slice o ss.length cs :: iN .i64 ss.length :: .bool false :: u15 28 :: u15 29 :: u15 30 :: u15 31 :: u15 32 :: u15 33 :: u15 34 :: u15 35 :: u15 36 :: u15 37 :: u15 38 :: u15 39 :: u15 40 :: u15 41 :: u15 42 :: u15 43 :: u15 44 :: u15 45 :: u15 46 :: u15 47 :: iN .i64 i :: pt q1 :: v :: iN .i64 es.length :: .bool true :: u35 53 :: u35 54 :: .slice (some ⟨g, 0, none⟩) es.length cg :: iN .i64 i :: .pointer (some ⟨g, i, none⟩) :: .bool true :: .bool false :: .bool false :: un :: un :: un :: un :: un :: un :: un :: un :: .bool false :: u35 70 :: u35 71 :: u35 72 :: .slice (some ⟨g, 0, none⟩) es.length cg :: iN .i64 i :: .pointer (some ⟨g, i, none⟩) :: .bool true :: .bool false :: .agg #[v] :: .slice (some ⟨g, 0, none⟩) es.length cg :: pt q1 :: v :: iN .i64 i :: .pointer (some ⟨gt, 4 * i, none⟩) :: .agg (tmc (trm e).k (trm e).n (trm e).s oq (trm e).ps.length cq) :: .slice oB (outB es K e).length cB :: u82 86 :: u82 87 :: u82 88 :: u82 89 :: u82 90 :: u82 91 :: u82 92 :: u82 93 :: u82 94 :: u82 95 :: u82 96 :: u82 97 :: u82 98 :: u82 99 :: u82 100 :: u82 101 :: u82 102 :: u82 103 :: u82 104 :: u82 105 :: u82 106 :: u82 107 :: u82 108 :: u33 109 :: u33 110 :: u33 111 :: List.replicate 0 un).toArray, []⟩ ∧ ∃ mo2 K2 cu2, u82 10 = .bool mo2 ∧ Rl K0 mo2 K2 ∧ CK es.length cu2 K2 ∧ Snd es ss K2 ∧ (∀ y, Sn es ss y → kB K2 y = true) ∧ (mo2 = false → mo = false) ∧ (∀ j, j < k → kB K2 ((outB es K e).getD j 0) = true) ∧ HA (bs w) ((q1, 27, #[v]) :: (g, 4, cu2) :: NB) w') ((outB es K e).length) ?_ ?_ ?_
       ·exact zex (⟨mo, K, cu, (by kernel_rfl), hrl, hck, hsn, hseen, fun h => h, fun j hj => absurd hj (Nat.not_lt_zero j), h81⟩)
       ·rintro k hj _ w83 ⟨u82, rfl, ⟨mo2, K2, cu2, h102, hrl2, hck2, hsn2, hseen2, himp, hdone, hA⟩⟩
        rw [h102]
        obtain ⟨gl, cql, hol, hgl, hcl3⟩ := hrB.resolve_left (fun e => by rw [e] at hj; cases hj)
        have hlt := hob _ (gD_mem hj)
        have hyK : (outB es K e).getD k 0 < K2.length := by rw [hck2.len]; exact hlt
        refine wp_seq ?_
        refine zsr ?_
        refine zwv (iN .i64 k) ?_
        refine zwv (.slice oB (outB es K e).length cB) ?_
        refine zwv (iN .i64 ((outB es K e).length)) ?_
        refine zwu (run_lss (k := .i64) (a := k) (b := (outB es K e).length) true (decide_eq_true (by omega))) ?_
        refine znt ?_
        refine zct ?_
        refine wp_skip ?_
        refine then_at rfl ?_
        refine wp_seq ?_
        refine wp_block ?_
        refine wp_seq ?_
        rcases mo2 with _ | _
        ·rcases hb3 : kB K2 ((outB es K e).getD k 0) with _ | _
         ·refine wl_region ?_
          refine zwv (.bool false) ?_
          refine zwv (.bool false) ?_
          refine zwv (.slice (some ⟨g, 0, none⟩) es.length cg) ?_
          refine zwv (.slice oB (outB es K e).length cB) ?_
          refine zwv (iN .i64 k) ?_
          refine zwu (v := .pointer (some ⟨gl, k, none⟩)) (run_addr_i (g := gl) (n := (outB es K e).length) (c := cB) (i := k) hol hj) ?_
          refine zwu (v := iN .i64 ((outB es K e).getD k 0)) (run_load1 Tryz.isAgg3 (((hA.blk (gl, 3, cql) (by simp [hgl])).cell k).trans (hcl3 _ hj))) ?_
          refine zwu (v := .pointer (some ⟨g, (outB es K e).getD k 0, none⟩)) (run_addr_slice (q := g) (n := es.length) (m := cg) (a := (outB es K e).getD k 0) Tryz.underlying33 Tryz.sizeOf4 hlt) ?_
          refine zwu (v := .bool false) (run_load1 Tryz.isAgg4 (((hA.get 1 rfl).cell ((outB es K e).getD k 0)).trans ((hck2.at_ _ hlt).trans (by rw [hb3])))) ?_
          refine zwv (.bool true) ?_
          refine zwv (.bool true) ?_
          refine zwv (.bool true) ?_
          refine znt ?_
          refine wl_region ?_
          refine zwv (.slice (some ⟨g, 0, none⟩) es.length cg) ?_
          refine zwv (.slice oB (outB es K e).length cB) ?_
          refine zwv (iN .i64 k) ?_
          refine zwu (v := .pointer (some ⟨gl, k, none⟩)) (run_addr_i (g := gl) (n := (outB es K e).length) (c := cB) (i := k) hol hj) ?_
          refine zwu (v := iN .i64 ((outB es K e).getD k 0)) (run_load1 Tryz.isAgg3 (((hA.blk (gl, 3, cql) (by simp [hgl])).cell k).trans (hcl3 _ hj))) ?_
          refine zwu (v := .pointer (some ⟨g, (outB es K e).getD k 0, none⟩)) (run_addr_slice (q := g) (n := es.length) (m := cg) (a := (outB es K e).getD k 0) Tryz.underlying33 Tryz.sizeOf4 hlt) ?_
          refine wl_putv (v := .bool true) hA 1 rfl ((outB es K e).getD k 0) (Nat.lt_of_lt_of_le hlt hck2.big) Tryz.sizeOf4 ?_
          intro w84 (h85 : HA (bs w) ((q1, 27, #[v]) :: (g, 4, cu2.setIfInBounds ((outB es K e).getD k 0) (.bool true)) :: NB) w84)
          refine wl_nil ?_
          refine block_normal ?_
          refine then_at rfl ?_
          refine wl_region ?_
          refine zwv (iN .i64 k) ?_
          refine zwu (run_add (k := .i64) (a := k) (b := 1) (by first | omega | (simp only [top]; omega))) ?_
          refine zwv (iN .i64 (k + 1)) ?_
          refine wl_nil ?_
          exact then_I (zex (⟨true, _, _, (by kernel_rfl), (hrl2.set' hyK hb3), hck2.set hlt, hsn2.set hyK (outD hsn he hb1 (gD_mem hj)), fun y hy => kB_up (hseen2 y hy), (fun e => by cases e), done_set hdone hyK, h85⟩))
         ·refine wl_region ?_
          refine zwv (.bool false) ?_
          refine zwv (.bool false) ?_
          refine zwv (.slice (some ⟨g, 0, none⟩) es.length cg) ?_
          refine zwv (.slice oB (outB es K e).length cB) ?_
          refine zwv (iN .i64 k) ?_
          refine zwu (v := .pointer (some ⟨gl, k, none⟩)) (run_addr_i (g := gl) (n := (outB es K e).length) (c := cB) (i := k) hol hj) ?_
          refine zwu (v := iN .i64 ((outB es K e).getD k 0)) (run_load1 Tryz.isAgg3 (((hA.blk (gl, 3, cql) (by simp [hgl])).cell k).trans (hcl3 _ hj))) ?_
          refine zwu (v := .pointer (some ⟨g, (outB es K e).getD k 0, none⟩)) (run_addr_slice (q := g) (n := es.length) (m := cg) (a := (outB es K e).getD k 0) Tryz.underlying33 Tryz.sizeOf4 hlt) ?_
          refine zwu (v := .bool true) (run_load1 Tryz.isAgg4 (((hA.get 1 rfl).cell ((outB es K e).getD k 0)).trans ((hck2.at_ _ hlt).trans (by rw [hb3])))) ?_
          refine zwv (.bool false) ?_
          refine zwv (.bool false) ?_
          refine zwv (.bool false) ?_
          refine zna ⟨(.agg #[v] :: .slice o ss.length cs :: pt q1 :: un :: u33 4 :: .slice (some ⟨g, 0, none⟩) es.length cg :: iN .i64 es.length :: iN .i64 ss.length :: u15 8 :: u15 9 :: .bool false :: iN .i64 i :: .slice oB (outB es K e).length cB :: iN .i64 k :: iN .i64 es.length :: pt q1 :: v :: iN .i64 es.length :: .bool false :: u4 19 :: u4 20 :: u4 21 :: u4 22 :: u4 23 :: iN .i64 ss.length :: .slice o ss.length cs :: iN .i64 ss.length :: .bool false :: u15 28 :: u15 29 :: u15 30 :: u15 31 :: u15 32 :: u15 33 :: u15 34 :: u15 35 :: u15 36 :: u15 37 :: u15 38 :: u15 39 :: u15 40 :: u15 41 :: u15 42 :: u15 43 :: u15 44 :: u15 45 :: u15 46 :: u15 47 :: iN .i64 i :: pt q1 :: v :: iN .i64 es.length :: .bool true :: u35 53 :: u35 54 :: .slice (some ⟨g, 0, none⟩) es.length cg :: iN .i64 i :: .pointer (some ⟨g, i, none⟩) :: .bool true :: .bool false :: .bool false :: un :: un :: un :: un :: un :: un :: un :: un :: .bool false :: u35 70 :: u35 71 :: u35 72 :: .slice (some ⟨g, 0, none⟩) es.length cg :: iN .i64 i :: .pointer (some ⟨g, i, none⟩) :: .bool true :: .bool false :: .agg #[v] :: .slice (some ⟨g, 0, none⟩) es.length cg :: pt q1 :: v :: iN .i64 i :: .pointer (some ⟨gt, 4 * i, none⟩) :: .agg (tmc (trm e).k (trm e).n (trm e).s oq (trm e).ps.length cq) :: .slice oB (outB es K e).length cB :: iN .i64 k :: .slice oB (outB es K e).length cB :: iN .i64 ((outB es K e).length) :: .bool true :: u82 90 :: u82 91 :: .bool false :: .bool false :: .slice (some ⟨g, 0, none⟩) es.length cg :: .slice oB (outB es K e).length cB :: iN .i64 k :: .pointer (some ⟨gl, k, none⟩) :: iN .i64 ((outB es K e).getD k 0) :: .pointer (some ⟨g, (outB es K e).getD k 0, none⟩) :: .bool true :: .bool false :: .bool false :: u82 103 :: u82 104 :: u82 105 :: u82 106 :: u82 107 :: u82 108 :: u33 109 :: u33 110 :: u33 111 :: List.replicate 0 un).toArray, []⟩ ?_
          refine wl_region ?_
          refine zwv (.slice (some ⟨g, 0, none⟩) es.length cg) ?_
          refine zwv (.slice oB (outB es K e).length cB) ?_
          refine zwv (iN .i64 k) ?_
          refine zwu (v := .pointer (some ⟨gl, k, none⟩)) (run_addr_i (g := gl) (n := (outB es K e).length) (c := cB) (i := k) hol hj) ?_
          refine zwu (v := iN .i64 ((outB es K e).getD k 0)) (run_load1 Tryz.isAgg3 (((hA.blk (gl, 3, cql) (by simp [hgl])).cell k).trans (hcl3 _ hj))) ?_
          refine zwu (v := .pointer (some ⟨g, (outB es K e).getD k 0, none⟩)) (run_addr_slice (q := g) (n := es.length) (m := cg) (a := (outB es K e).getD k 0) Tryz.underlying33 Tryz.sizeOf4 hlt) ?_
          refine wl_putv (v := .bool true) hA 1 rfl ((outB es K e).getD k 0) (Nat.lt_of_lt_of_le hlt hck2.big) Tryz.sizeOf4 ?_
          intro w86 (h87 : HA (bs w) ((q1, 27, #[v]) :: (g, 4, cu2.setIfInBounds ((outB es K e).getD k 0) (.bool true)) :: NB) w86)
          refine wl_nil ?_
          refine block_normal ?_
          refine then_at rfl ?_
          refine wl_region ?_
          refine zwv (iN .i64 k) ?_
          refine zwu (run_add (k := .i64) (a := k) (b := 1) (by first | omega | (simp only [top]; omega))) ?_
          refine zwv (iN .i64 (k + 1)) ?_
          refine wl_nil ?_
          exact then_I (zex (⟨false, _, _, (by kernel_rfl), (by have hh := hrl2.set hyK; rw [hb3] at hh; exact hh), hck2.set hlt, hsn2.set hyK (outD hsn he hb1 (gD_mem hj)), fun y hy => kB_up (hseen2 y hy), himp, done_set hdone hyK, h87⟩))
        ·refine wl_region ?_
         refine zwv (.bool true) ?_
         refine zwv (.bool true) ?_
         refine wl_skip ?_
         refine wl_skip ?_
         refine wl_skip ?_
         refine wl_skip ?_
         refine wl_skip ?_
         refine wl_skip ?_
         refine wl_skip ?_
         refine wl_skip ?_
         refine zwv (.bool true) ?_
         refine zwv (.bool true) ?_
         refine znt ?_
         refine wl_region ?_
         refine zwv (.slice (some ⟨g, 0, none⟩) es.length cg) ?_
         refine zwv (.slice oB (outB es K e).length cB) ?_
         refine zwv (iN .i64 k) ?_
         refine zwu (v := .pointer (some ⟨gl, k, none⟩)) (run_addr_i (g := gl) (n := (outB es K e).length) (c := cB) (i := k) hol hj) ?_
         refine zwu (v := iN .i64 ((outB es K e).getD k 0)) (run_load1 Tryz.isAgg3 (((hA.blk (gl, 3, cql) (by simp [hgl])).cell k).trans (hcl3 _ hj))) ?_
         refine zwu (v := .pointer (some ⟨g, (outB es K e).getD k 0, none⟩)) (run_addr_slice (q := g) (n := es.length) (m := cg) (a := (outB es K e).getD k 0) Tryz.underlying33 Tryz.sizeOf4 hlt) ?_
         refine wl_putv (v := .bool true) hA 1 rfl ((outB es K e).getD k 0) (Nat.lt_of_lt_of_le hlt hck2.big) Tryz.sizeOf4 ?_
         intro w88 (h89 : HA (bs w) ((q1, 27, #[v]) :: (g, 4, cu2.setIfInBounds ((outB es K e).getD k 0) (.bool true)) :: NB) w88)
         refine wl_nil ?_
         refine block_normal ?_
         refine then_at rfl ?_
         refine wl_region ?_
         refine zwv (iN .i64 k) ?_
         refine zwu (run_add (k := .i64) (a := k) (b := 1) (by first | omega | (simp only [top]; omega))) ?_
         refine zwv (iN .i64 (k + 1)) ?_
         refine wl_nil ?_
         exact then_I ⟨lku (fun _ => undef) [(10, .bool true), (86, iN .i64 k), (87, .slice oB (outB es K e).length cB), (88, iN .i64 ((outB es K e).length)), (89, .bool true), (90, iN .i64 k), (91, iN .i64 (k + 1)), (92, .bool true), (93, .bool true), (102, .bool true), (103, .slice (some ⟨g, 0, none⟩) es.length cg), (104, .slice oB (outB es K e).length cB), (105, iN .i64 k), (106, .pointer (some ⟨gl, k, none⟩)), (107, iN .i64 ((outB es K e).getD k 0)), (108, .pointer (some ⟨g, (outB es K e).getD k 0, none⟩))], by kernel_rfl, ⟨true, _, _, (by kernel_rfl), (by exact hrl2.set hyK), hck2.set hlt, hsn2.set hyK (outD hsn he hb1 (gD_mem hj)), fun y hy => kB_up (hseen2 y hy), (fun e => by cases e), done_set hdone hyK, h89⟩⟩
       ·rintro _ w90 ⟨u82, rfl, ⟨mo2, K2, cu2, h102, hrl2, hck2, hsn2, hseen2, himp, hdone, hA⟩⟩
        rw [h102]
        refine wp_seq ?_
        refine zsr ?_
        refine zwv (iN .i64 ((outB es K e).length)) ?_
        refine zwv (.slice oB (outB es K e).length cB) ?_
        refine zwv (iN .i64 ((outB es K e).length)) ?_
        refine zwu (run_lss (k := .i64) (a := (outB es K e).length) (b := (outB es K e).length) false (decide_eq_false (by omega))) ?_
        refine zna ⟨(.agg #[v] :: .slice o ss.length cs :: pt q1 :: un :: u33 4 :: .slice (some ⟨g, 0, none⟩) es.length cg :: iN .i64 es.length :: iN .i64 ss.length :: u15 8 :: u15 9 :: .bool mo2 :: iN .i64 i :: .slice oB (outB es K e).length cB :: iN .i64 ((outB es K e).length) :: iN .i64 es.length :: pt q1 :: v :: iN .i64 es.length :: .bool false :: u4 19 :: u4 20 :: u4 21 :: u4 22 :: u4 23 :: iN .i64 ss.length :: .slice o ss.length cs :: iN .i64 ss.length :: .bool false :: u15 28 :: u15 29 :: u15 30 :: u15 31 :: u15 32 :: u15 33 :: u15 34 :: u15 35 :: u15 36 :: u15 37 :: u15 38 :: u15 39 :: u15 40 :: u15 41 :: u15 42 :: u15 43 :: u15 44 :: u15 45 :: u15 46 :: u15 47 :: iN .i64 i :: pt q1 :: v :: iN .i64 es.length :: .bool true :: u35 53 :: u35 54 :: .slice (some ⟨g, 0, none⟩) es.length cg :: iN .i64 i :: .pointer (some ⟨g, i, none⟩) :: .bool true :: .bool false :: .bool false :: un :: un :: un :: un :: un :: un :: un :: un :: .bool false :: u35 70 :: u35 71 :: u35 72 :: .slice (some ⟨g, 0, none⟩) es.length cg :: iN .i64 i :: .pointer (some ⟨g, i, none⟩) :: .bool true :: .bool false :: .agg #[v] :: .slice (some ⟨g, 0, none⟩) es.length cg :: pt q1 :: v :: iN .i64 i :: .pointer (some ⟨gt, 4 * i, none⟩) :: .agg (tmc (trm e).k (trm e).n (trm e).s oq (trm e).ps.length cq) :: .slice oB (outB es K e).length cB :: iN .i64 ((outB es K e).length) :: .slice oB (outB es K e).length cB :: iN .i64 ((outB es K e).length) :: .bool false :: u82 90 :: u82 91 :: u82 92 :: u82 93 :: u82 94 :: u82 95 :: u82 96 :: u82 97 :: u82 98 :: u82 99 :: u82 100 :: u82 101 :: u82 102 :: u82 103 :: u82 104 :: u82 105 :: u82 106 :: u82 107 :: u82 108 :: u33 109 :: u33 110 :: u33 111 :: List.replicate 0 un).toArray, []⟩ ?_
        refine zcf ?_
        refine wp_exit ?_
        repeat first | refine then_exit ?_ | refine block_exit ?_ | refine block_exit_ne (by decide) ?_
        have h91 : HA (bs w) [(q1, 27, #[v]), (g, 4, cu2)] w90 := HA.sub hA (List.Sublist.cons_cons _ (List.Sublist.cons_cons _ (List.nil_sublist _)))
        refine block_normal ?_
        refine then_at rfl ?_
        refine wl_region ?_
        refine zwv (iN .i64 i) ?_
        refine zwu (run_add (k := .i64) (a := i) (b := 1) (by first | omega | (simp only [top]; omega))) ?_
        refine zwv (iN .i64 (i + 1)) ?_
        refine wl_nil ?_
        exact then_I (zex (⟨mo2, K2, cu2, (by kernel_rfl), hrl2, hck2, hsn2, hseen2, cl_yes hrl hrl2 himp hcl he hb1 hdone, h91⟩))
   ·rintro _ w92 ⟨u35, rfl, ⟨mo, K, cu, h10, hrl, hck, hsn, hseen, hcl, hA⟩⟩
    rw [h10]
    refine wp_seq ?_
    refine zsr ?_
    refine zwv (iN .i64 es.length) ?_
    refine zwv (.pointer (some ⟨q1, 0, none⟩)) ?_
    refine zwu (v := v) (run_load1 Tryz.isAgg25 (((hA.get 0 rfl).cell 0).trans rfl)) ?_
    refine zwu (run_len_of hvf (by kernel_rfl)) ?_
    refine zwu (run_lss (k := .i64) (a := es.length) (b := es.length) false (decide_eq_false (by omega))) ?_
    refine znt ?_
    refine zcf ?_
    refine wp_exit ?_
    repeat first | refine then_exit ?_ | refine block_exit ?_ | refine block_exit_ne (by decide) ?_
    refine then_at rfl ?_
    refine wp_seq ?_
    rcases mo with _ | _
    ·refine wl_region ?_
     refine zwv (.bool false) ?_
     refine zwv (.bool true) ?_
     refine znt ?_
     refine zct ?_
     refine zsr ?_
     refine zwv (.slice (some ⟨g, 0, none⟩) es.length cg) ?_
     refine zwv (.slice (some ⟨g, 0, none⟩) es.length cg) ?_
     refine znt ?_
     refine wp_ret ?_
     repeat first | refine then_ret ?_ | refine block_ret ?_
     exact bodyPost_ret (v := .slice (some ⟨g, 0, none⟩) es.length cg) (by kernel_rfl) rfl ⟨g, cg, cu, K, rfl, hA.own (g, 4, cu) (by simp), hA.get 1 rfl, hck, refKnown hI.wf hI.wg hm4 hsn hseen (fun x e he => hcl rfl x e (List.getElem?_eq_some_iff.1 he).1 he), hA.old.old⟩
    ·refine wl_region ?_
     refine zwv (.bool true) ?_
     refine zwv (.bool false) ?_
     refine znt ?_
     refine zcf ?_
     refine wp_skip ?_
     refine block_normal ?_
     exact then_I ⟨cntU K, hrl.yes rfl, K, cu, lku u35 [(4, u33 4), (10, .bool true), (11, iN .i64 es.length), (48, iN .i64 es.length), (49, .pointer (some ⟨q1, 0, none⟩)), (50, v), (51, iN .i64 es.length), (52, .bool false), (109, .bool true), (110, .bool false), (111, u33 111)], rfl, by kernel_rfl, hck, hsn, hseen, hA⟩
end Go.Proofs.YtihfeoanognonaaGreat
