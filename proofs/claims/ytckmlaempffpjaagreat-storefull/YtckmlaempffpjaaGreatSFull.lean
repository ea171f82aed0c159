/-
  StoreFull.
-/
import Derived.Test.YtckmlaempffpjaaGreatSW
namespace Go.Proofs.YtckmlaempffpjaaGreat
open Go.RowKit

set_option linter.unusedVariables false in
set_option maxRecDepth 100000 in
set_option maxHeartbeats 4000000 in
theorem full_any (w : World) (rm : Nat) (hrm : rm < 65536) (xs : List Tn) (o : Option Addr) (c : Nat) (hA : TnA w o xs) (hln : xs.length ≤ 9223372036854775807) :
    Calls Tryz.prog 5 #[iN .u16 rm, .slice o xs.length c] w fun e w' => e = .returned (.bool true) ∧ Below w.heap.size w w' := by
  have H0 := HA.start w
  have hR : (rm % 4000) < 4000 := Nat.mod_lt _ (by decide)
  obtain ⟨ho1, hl0, hSt⟩ := St.new (rm % 4000) 5000 (by omega)
  go_enter Tryz.func5, Tryz.ntmps5
  refine wp_seq ?_
  refine wl_region ?_
  refine wl_val (.bool false) (by kernel_rfl) (by kernel_rfl) ?_
  refine wl_nil ?_
  refine then_at rfl ?_
  refine wp_seq ?_
  refine wp_seq ?_
  refine wl_region ?_
  refine wl_call (v := .bool true) H0 (by kernel_rfl) enter12 #[] (by kernel_rfl) (works_any w) ?_
  intro w1 h2
  refine wl_val (.bool false) (by kernel_rfl) (by kernel_rfl) ?_
  refine wl_nil ?_
  refine then_at rfl ?_
  refine wp_cond_false (by kernel_rfl) ?_
  refine wp_skip ?_
  refine then_at rfl ?_
  refine wp_seq ?_
  refine wl_region ?_
  refine wl_val (iN .u16 rm) (by kernel_rfl) (by kernel_rfl) ?_
  refine wl_val (iN .u16 (rm % 4000)) (by kernel_rfl) (run_remb (k := .u16) (a := rm) (n := 4000) (by kernel_rfl) (by kernel_rfl) (by decide)) ?_
  refine wl_val (iN .i64 (rm % 4000)) (by kernel_rfl) (run_conv .i64 Tryz.underlying50 Tryz.underlying3 (by kernel_rfl) (by simp only [top]; omega)) ?_
  refine wl_callx (by kernel_rfl) enter7 #[iN .i64 (rm % 4000)] (by kernel_rfl) (New_any (((rm % 4000) : Nat) : Int) h2) ?_
  rintro _ w3 ⟨d, rfl, hD0⟩
  refine ⟨_, rfl, ?_⟩
  have hD1 : DH w [] d ⟨[], (rm % 4000), 0, false, []⟩ [] w3 := hD0
  obtain ⟨z4, X5, hcl6, hbe7, h8⟩ := DH.front hD1
  have h9 : HA z4 ([] ++ X5) w3 := h8
  refine wl_val (.pointer (some ⟨d.q, 0, none⟩)) (by kernel_rfl) (by kernel_rfl) ?_
  refine wl_nil ?_
  refine then_at rfl ?_
  refine wp_seq ?_
  refine wl_region ?_
  refine wl_val (.pointer (some ⟨d.q, 0, none⟩)) (by kernel_rfl) (by kernel_rfl) ?_
  refine wl_callx (by kernel_rfl) enter13 #[.pointer (some ⟨d.q, 0, none⟩)] (by kernel_rfl) (Open_d (hcl6 ([]) _ h9) (DG.new (by omega)) (by decide) (by omega) (by rw [lg_new]; decide) ho1) ?_
  rintro _ w10 ⟨sq0, sr0, rfl, hO⟩
  refine ⟨_, rfl, ?_⟩
  generalize (opnS ⟨[], (rm % 4000), 0, false, []⟩).1 = S0 at hO hSt hl0
  obtain ⟨m11, X11, hc11, rs11, nx11, hrs11, hK11, hH11⟩ := SH.opn hO
  have h12 : HA ⟨w, m11 :: (sr0, .mp (eR rs11) nx11) :: []⟩ ((sq0, 73, scell d.q sr0 ((laidR S0.rows)) S0.size) :: ([] ++ X11)) w10 := hH11
  refine wl_val (.tuple #[.pointer (some ⟨sq0, 0, none⟩), iN .i64 0]) (by kernel_rfl) (by kernel_rfl) ?_
  refine wl_val (.pointer (some ⟨sq0, 0, none⟩)) (by kernel_rfl) (by kernel_rfl) ?_
  refine wl_val (iN .i64 0) (by kernel_rfl) (by kernel_rfl) ?_
  refine wl_val (.pointer (some ⟨sq0, 0, none⟩)) (by kernel_rfl) (by kernel_rfl) ?_
  refine wl_val (iN .i64 0) (by kernel_rfl) (by kernel_rfl) ?_
  refine wl_nil ?_
  refine then_at rfl ?_
  refine wp_seq ?_
  refine wl_region ?_
  refine wl_make (c := stc (List.replicate 16 eB)) h12 48 (by kernel_rfl) (by kernel_rfl) ?_
  intro q13 w14 (h15 : HA ⟨w, m11 :: (sr0, .mp (eR rs11) nx11) :: []⟩ ((q13, 48, stc (List.replicate 16 eB)) :: (sq0, 73, scell d.q sr0 ((laidR S0.rows)) S0.size) :: ([] ++ X11)) w14)
  refine wl_nil ?_
  have h16 := h15
  clear h15
  generalize q13 = q8 at h16 ⊢
  refine then_at (F := ⟨(iN .u16 rm :: .slice o xs.length c :: un :: un :: .bool false :: pt d.q :: pt sq0 :: iN .i64 0 :: pt q8 :: un :: un :: un :: un :: un :: .bool true :: .bool false :: iN .u16 rm :: iN .u16 (rm % 4000) :: iN .i64 (rm % 4000) :: pt d.q :: .tuple #[pt sq0, iN .i64 0] :: pt d.q :: .tuple #[pt sq0, iN .i64 0] :: pt sq0 :: iN .i64 0 :: List.replicate 56 un).toArray, []⟩) (by kernel_rfl) ?_
  refine wp_seq ?_
  refine wp_seq ?_
  refine wl_region ?_
  refine wl_val (iN .i64 0) (by kernel_rfl) (by kernel_rfl) ?_
  refine wl_nil ?_
  refine then_at rfl ?_
  refine wp_block ?_
  refine wp_count (fun i AQ w' => ∃ (sq sr : Nat) (S : SS) (now : List ByteArray) (u17 : Nat → Value), AQ = ⟨(iN .u16 rm :: .slice o xs.length c :: un :: un :: u17 4 :: pt d.q :: pt sq :: iN .i64 0 :: pt q8 :: iN .i64 i :: u17 10 :: u17 11 :: u17 12 :: u17 13 :: .bool true :: .bool false :: iN .u16 rm :: iN .u16 (rm % 4000) :: iN .i64 (rm % 4000) :: pt d.q :: .tuple #[pt sq0, iN .i64 0] :: pt d.q :: .tuple #[pt sq0, iN .i64 0] :: pt sq0 :: iN .i64 0 :: u17 25 :: u17 26 :: u17 27 :: u17 28 :: u17 29 :: u17 30 :: u17 31 :: u17 32 :: u17 33 :: u17 34 :: u17 35 :: u17 36 :: u17 37 :: u17 38 :: u17 39 :: u17 40 :: u17 41 :: u17 42 :: u17 43 :: u17 44 :: u17 45 :: u17 46 :: u17 47 :: u17 48 :: u17 49 :: u17 50 :: u17 51 :: u17 52 :: u17 53 :: u17 54 :: u17 55 :: u17 56 :: u17 57 :: u17 58 :: u17 59 :: u17 60 :: u17 61 :: u17 62 :: u17 63 :: u17 64 :: u17 65 :: u17 66 :: u17 67 :: u17 68 :: u17 69 :: u17 70 :: u17 71 :: u17 72 :: u17 73 :: u17 74 :: u17 75 :: u17 76 :: u17 77 :: u17 78 :: List.replicate 2 un).toArray, []⟩ ∧ St S now (rm % 4000) (5000 + 1000 * i) (4 + 20 * i) ∧ S.D.left = 0 ∧ SH w [] ⟨sq, sr, d⟩ S [(q8, 48, stc now)] w') (min xs.length 60) ?_ ?_ ?_
  · exact ⟨sq0, sr0, S0, List.replicate 16 eB, fun ii => (([(4, .bool false), (10, undef), (11, undef), (12, undef), (13, undef), (25, undef), (26, undef), (27, undef), (28, undef), (29, undef), (30, undef), (31, undef), (32, undef), (33, undef), (34, undef), (35, undef), (36, undef), (37, undef), (38, undef), (39, undef), (40, undef), (41, undef), (42, undef), (43, undef), (44, undef), (45, undef), (46, undef), (47, undef), (48, undef), (49, undef), (50, undef), (51, undef), (52, undef), (53, undef), (54, undef), (55, undef), (56, undef), (57, undef), (58, undef), (59, undef), (60, undef), (61, undef), (62, undef), (63, undef), (64, undef), (65, undef), (66, undef), (67, undef), (68, undef), (69, undef), (70, undef), (71, undef), (72, undef), (73, undef), (74, undef), (75, undef), (76, undef), (77, undef), (78, undef)] : List (Nat × Value)).find? (·.1 == ii)).elim undef (·.2), by kernel_rfl, hSt, hl0, (hc11 _ _ ((q8, 48, stc (List.replicate 16 eB)) :: []) _ ⟨_, _, hrs11, hK11, (HA.perm h16 (List.perm_middle (l₁ := ([(q8, 48, stc (List.replicate 16 eB))] : BL))))⟩)⟩
  · rintro i hi _ w18 ⟨sq, sr, S, now, u17, rfl, hSt, hl, hS⟩
    obtain ⟨m19, X19, hc19, rs19, nx19, hrs19, hK19, hH19⟩ := SH.opn hS
    have h20 : HA ⟨w, m19 :: (sr, .mp (eR rs19) nx19) :: []⟩ ((sq, 73, scell d.q sr ((laidR S.rows)) S.size) :: (q8, 48, stc now) :: ([] ++ X19)) w18 := hH19
    obtain ⟨oa, hoa, hxo, hok⟩ := hA i (by omega)
    obtain ⟨x, hxe⟩ : ∃ x, x = xs.getD i tn0 := ⟨_, rfl⟩
    rw [← hxe] at hxo hok
    have hnxl : (nextR now x i).length = 16 := (next_len now x i).trans hSt.ok.1
    refine wp_seq ?_
    refine wp_seq ?_
    refine wl_region ?_
    refine wl_val (iN .i64 i) (by kernel_rfl) (by kernel_rfl) ?_
    refine wl_val (.slice o xs.length c) (by kernel_rfl) (by kernel_rfl) ?_
    refine wl_val (iN .i64 xs.length) (by kernel_rfl) (by kernel_rfl) ?_
    refine wl_val (.bool true) (by kernel_rfl) (run_lss (k := .i64) (a := i) (b := xs.length) (by kernel_rfl) (by kernel_rfl) true (decide_eq_true (by omega))) ?_
    refine wl_val (.bool true) (by kernel_rfl) (by kernel_rfl) ?_
    refine wl_val (iN .i64 i) (by kernel_rfl) (by kernel_rfl) ?_
    refine wl_val (.bool true) (by kernel_rfl) (run_lss (k := .i64) (a := i) (b := 60) (by kernel_rfl) (by kernel_rfl) true (decide_eq_true (by omega))) ?_
    refine wl_val (.bool true) (by kernel_rfl) (by kernel_rfl) ?_
    refine wl_val (.bool true) (by kernel_rfl) (by kernel_rfl) ?_
    refine wl_val (iN .i64 0) (by kernel_rfl) (by kernel_rfl) ?_
    refine wl_val (.bool true) (by kernel_rfl) (run_eqi (k := .i64) (a := 0) (b := 0) (by kernel_rfl) (by kernel_rfl) true (by decide)) ?_
    refine wl_val (.bool true) (by kernel_rfl) (by kernel_rfl) ?_
    refine wl_nil ?_
    refine then_at rfl ?_
    refine wp_cond_true (by kernel_rfl) ?_
    refine wp_skip ?_
    refine then_at rfl ?_
    refine wp_seq ?_
    refine wp_block ?_
    refine wp_seq ?_
    refine wp_region_wx (HA ⟨w, m19 :: (sr, .mp (eR rs19) nx19) :: []⟩ ((sq, 73, scell d.q sr ((laidR S.rows)) S.size) :: (q8, 48, stc now) :: ([] ++ X19))) (fun AQ w' => ∃ (q29 : Nat) (vp : Value) (vd : Value) (Lp : BL) (Ld : BL), AQ = ⟨(iN .u16 rm :: .slice o xs.length c :: un :: un :: u17 4 :: pt d.q :: pt sq :: iN .i64 0 :: pt q8 :: iN .i64 i :: vp :: vd :: pt q29 :: u17 13 :: .bool true :: .bool false :: iN .u16 rm :: iN .u16 (rm % 4000) :: iN .i64 (rm % 4000) :: pt d.q :: .tuple #[pt sq0, iN .i64 0] :: pt d.q :: .tuple #[pt sq0, iN .i64 0] :: pt sq0 :: iN .i64 0 :: iN .i64 i :: .slice o xs.length c :: iN .i64 xs.length :: .bool true :: .bool true :: iN .i64 i :: .bool true :: .bool true :: .bool true :: iN .i64 0 :: .bool true :: .bool true :: u17 37 :: u17 38 :: .tuple #[vp, vd, .agg (stc (nextR now x i))] :: .agg (stc now) :: .slice o xs.length c :: iN .i64 i :: .pointer (some (oa.add (i * 11))) :: .agg (tnc x) :: iN .i64 i :: .tuple #[vp, vd, .agg (stc (nextR now x i))] :: vp :: vd :: .agg (stc (nextR now x i)) :: u17 50 :: u17 51 :: u17 52 :: u17 53 :: u17 54 :: u17 55 :: u17 56 :: u17 57 :: u17 58 :: u17 59 :: u17 60 :: u17 61 :: u17 62 :: u17 63 :: u17 64 :: u17 65 :: u17 66 :: u17 67 :: u17 68 :: u17 69 :: u17 70 :: u17 71 :: u17 72 :: u17 73 :: u17 74 :: u17 75 :: u17 76 :: u17 77 :: u17 78 :: List.replicate 2 un).toArray, []⟩ ∧ Row 64 2 vp (nP x) (rcl (chP x i (nP x))) Lp ∧ Row 9 1 vd (nD x) (scl (chD x (nD x))) Ld ∧ HA ⟨w, m19 :: (sr, .mp (eR rs19) nx19) :: []⟩ ((q29, 48, stc (nextR now x i)) :: (sq, 73, scell d.q sr ((laidR S.rows)) S.size) :: (q8, 48, stc now) :: ((Lp ++ Ld) ++ X19)) w') 15 (by kernel_rfl) (by kernel_rfl) (by kernel_rfl) (by kernel_rfl) (by kernel_rfl) h20.drew ?_ ?_
    · have h21 := h20.drew
      refine wx_val (i := 0) (.agg (stc now)) rfl rfl (by kernel_rfl) (by kernel_rfl) (fun w' h' => run_load_blk (by kernel_rfl) (h'.get 1 rfl) Tryz.underlying48 rfl (by rw [info48, stc_size, hSt.ok.1])) ?_
      refine wx_pure (i := 1) (.slice o xs.length c) rfl rfl (by kernel_rfl) (by kernel_rfl) (fun _ => (by kernel_rfl)) ?_
      refine wx_pure (i := 2) (iN .i64 i) rfl rfl (by kernel_rfl) (by kernel_rfl) (fun _ => (by kernel_rfl)) ?_
      refine wx_pure (i := 3) (.pointer (some (oa.add (i * 11)))) rfl rfl (by kernel_rfl) (by kernel_rfl) (fun _ => (run_addrT (o := o) (a := oa) (n := xs.length) (m := c) (i := i) hoa Tryz.underlying44 (fun w => Tryz.sizeOf52 w) (by kernel_rfl) (by kernel_rfl) (by omega))) ?_
      refine wx_val (i := 4) (.agg (tnc x)) rfl rfl (by kernel_rfl) (by kernel_rfl) (fun w' h' => run_loadT (a := oa.add (i * 11)) (c := tnc x) (by kernel_rfl) (fun j v hv => cell_old h'.old.old (hok j v hv)) Tryz.underlying52 rfl (by kernel_rfl)) ?_
      refine wx_pure (i := 5) (iN .i64 i) rfl rfl (by kernel_rfl) (by kernel_rfl) (fun _ => (by kernel_rfl)) ?_
      refine wx_two 6 11 (by kernel_rfl) ?_ ?_
      · refine ex_callx rfl (by kernel_rfl) h21 enter16 #[.agg (stc now), .agg (tnc x), iN .i64 i] (by kernel_rfl) (fun w22 h23 => change_any hSt.ok.1 hxo (by omega) w22) ?_
        rintro w22 h23 _ w24 ⟨vp, vd, Lp, Ld, rfl, hRp, hRd, hcK⟩
        have h25 : HA ⟨w, m19 :: (sr, .mp (eR rs19) nx19) :: []⟩ ((Lp ++ Ld) ++ ([(sq, 73, scell d.q sr ((laidR S.rows)) S.size), (q8, 48, stc now)] ++ ([] ++ X19))) w24 := HA.join h23 hcK
        have h26 : HA ⟨w, m19 :: (sr, .mp (eR rs19) nx19) :: []⟩ ((sq, 73, scell d.q sr ((laidR S.rows)) S.size) :: (q8, 48, stc now) :: ((Lp ++ Ld) ++ X19)) w24 := h25.perm (perm_mv (Lp ++ Ld) [(sq, 73, scell d.q sr ((laidR S.rows)) S.size), (q8, 48, stc now)] ([] ++ X19))
        refine ⟨_, rfl, _, .inr rfl, (HA.sub h26 (List.Sublist.cons_cons _ (List.Sublist.cons_cons _ (List.sublist_append_right _ _)))), ?_⟩
        refine wx_pure (i := 7) (.tuple #[vp, vd, .agg (stc (nextR now x i))]) rfl rfl (by kernel_rfl) (by kernel_rfl) (fun _ => (by kernel_rfl)) ?_
        refine wx_pure (i := 8) (vp) rfl rfl (by kernel_rfl) (by kernel_rfl) (fun _ => (by kernel_rfl)) ?_
        refine wx_pure (i := 9) (vd) rfl rfl (by kernel_rfl) (by kernel_rfl) (fun _ => (by kernel_rfl)) ?_
        refine wx_pure (i := 10) (.agg (stc (nextR now x i))) rfl rfl (by kernel_rfl) (by kernel_rfl) (fun _ => (by kernel_rfl)) ?_
        refine wx_one 11 (by kernel_rfl) ?_
        refine ex_makeS (c := stc (List.replicate 16 eB)) rfl (by kernel_rfl) h26 48 (fun _ => (by kernel_rfl)) ?_
        intro q29 w27 h28
        refine ⟨(HA.sub h28 (List.Sublist.cons _ (List.Sublist.cons_cons _ (List.Sublist.cons_cons _ (List.sublist_append_right _ _))))), ?_⟩
        refine wx_pure (i := 12) (vp) rfl rfl (by kernel_rfl) (by kernel_rfl) (fun _ => (by kernel_rfl)) ?_
        refine wx_pure (i := 13) (vd) rfl rfl (by kernel_rfl) (by kernel_rfl) (fun _ => (by kernel_rfl)) ?_
        refine wx_one 14 (by kernel_rfl) ?_
        refine ex_skipT rfl (by kernel_rfl) h28 fun w30 h31 => ⟨_, run_store_blk (c' := stc (nextR now x i)) (by kernel_rfl) (by kernel_rfl) (h31.get 0 rfl) (by rw [stc_size, stc_size, hnxl, List.length_replicate]) (by rw [info48, stc_size, hnxl]) (stc_one _), (HA.sub (h31.fill 0 rfl (c' := stc (nextR now x i)) (by rw [stc_size, stc_size, hnxl, List.length_replicate])) (List.Sublist.cons _ (List.Sublist.cons_cons _ (List.Sublist.cons_cons _ (List.sublist_append_right _ _))))), ?_⟩
        have h32 : HA ⟨w, m19 :: (sr, .mp (eR rs19) nx19) :: []⟩ ((q29, 48, stc (nextR now x i)) :: (sq, 73, scell d.q sr ((laidR S.rows)) S.size) :: (q8, 48, stc now) :: ((Lp ++ Ld) ++ X19)) _ := (h31.fill 0 rfl (c' := stc (nextR now x i)) (by rw [stc_size, stc_size, hnxl, List.length_replicate]))
        refine wx_end fun w33 hbx _ => ?_
        have h34 := HA.keep _ _ h32 hbx
        exact ⟨q29, vp, vd, Lp, Ld, by kernel_rfl, hRp, hRd, h34⟩
      · refine ex_makeS (c := stc (List.replicate 16 eB)) rfl (by kernel_rfl) h21 48 (fun _ => (by kernel_rfl)) ?_
        intro q37 w35 h36
        refine ⟨(HA.sub h36 (List.Sublist.cons _ (List.Sublist.cons_cons _ (List.Sublist.cons_cons _ (List.Sublist.refl _))))), ?_⟩
        refine wx_one 6 (by kernel_rfl) ?_
        refine ex_callx rfl (by kernel_rfl) h36 enter16 #[.agg (stc now), .agg (tnc x), iN .i64 i] (by kernel_rfl) (fun w38 h39 => change_any hSt.ok.1 hxo (by omega) w38) ?_
        rintro w38 h39 _ w40 ⟨vp, vd, Lp, Ld, rfl, hRp, hRd, hcK⟩
        have h41 : HA ⟨w, m19 :: (sr, .mp (eR rs19) nx19) :: []⟩ ((Lp ++ Ld) ++ ([(q37, 48, stc (List.replicate 16 eB)), (sq, 73, scell d.q sr ((laidR S.rows)) S.size), (q8, 48, stc now)] ++ ([] ++ X19))) w40 := HA.join h39 hcK
        have h42 : HA ⟨w, m19 :: (sr, .mp (eR rs19) nx19) :: []⟩ ((q37, 48, stc (List.replicate 16 eB)) :: (sq, 73, scell d.q sr ((laidR S.rows)) S.size) :: (q8, 48, stc now) :: ((Lp ++ Ld) ++ X19)) w40 := h41.perm (perm_mv (Lp ++ Ld) [(q37, 48, stc (List.replicate 16 eB)), (sq, 73, scell d.q sr ((laidR S.rows)) S.size), (q8, 48, stc now)] ([] ++ X19))
        refine ⟨_, rfl, _, .inr rfl, (HA.sub h42 (List.Sublist.cons _ (List.Sublist.cons_cons _ (List.Sublist.cons_cons _ (List.sublist_append_right _ _))))), ?_⟩
        refine wx_pure (i := 7) (.tuple #[vp, vd, .agg (stc (nextR now x i))]) rfl rfl (by kernel_rfl) (by kernel_rfl) (fun _ => (by kernel_rfl)) ?_
        refine wx_pure (i := 8) (vp) rfl rfl (by kernel_rfl) (by kernel_rfl) (fun _ => (by kernel_rfl)) ?_
        refine wx_pure (i := 9) (vd) rfl rfl (by kernel_rfl) (by kernel_rfl) (fun _ => (by kernel_rfl)) ?_
        refine wx_pure (i := 10) (.agg (stc (nextR now x i))) rfl rfl (by kernel_rfl) (by kernel_rfl) (fun _ => (by kernel_rfl)) ?_
        refine wx_pure (i := 12) (vp) rfl rfl (by kernel_rfl) (by kernel_rfl) (fun _ => (by kernel_rfl)) ?_
        refine wx_pure (i := 13) (vd) rfl rfl (by kernel_rfl) (by kernel_rfl) (fun _ => (by kernel_rfl)) ?_
        refine wx_one 14 (by kernel_rfl) ?_
        refine ex_skipT rfl (by kernel_rfl) h42 fun w43 h44 => ⟨_, run_store_blk (c' := stc (nextR now x i)) (by kernel_rfl) (by kernel_rfl) (h44.get 0 rfl) (by rw [stc_size, stc_size, hnxl, List.length_replicate]) (by rw [info48, stc_size, hnxl]) (stc_one _), (HA.sub (h44.fill 0 rfl (c' := stc (nextR now x i)) (by rw [stc_size, stc_size, hnxl, List.length_replicate])) (List.Sublist.cons _ (List.Sublist.cons_cons _ (List.Sublist.cons_cons _ (List.sublist_append_right _ _))))), ?_⟩
        have h45 : HA ⟨w, m19 :: (sr, .mp (eR rs19) nx19) :: []⟩ ((q37, 48, stc (nextR now x i)) :: (sq, 73, scell d.q sr ((laidR S.rows)) S.size) :: (q8, 48, stc now) :: ((Lp ++ Ld) ++ X19)) _ := (h44.fill 0 rfl (c' := stc (nextR now x i)) (by rw [stc_size, stc_size, hnxl, List.length_replicate]))
        refine wx_end fun w46 hbx _ => ?_
        have h47 := HA.keep _ _ h45 hbx
        exact ⟨q37, vp, vd, Lp, Ld, by kernel_rfl, hRp, hRd, h47⟩
    · rintro _ w48 ⟨q29, vp, vd, Lp, Ld, rfl, hRp, hRd, h49⟩
      refine then_at rfl ?_
      refine wp_seq ?_
      have htu := hSt.turn (by omega) x i
      rcases htu with htu | htu
      · exact absurd hl htu.2.1
      rcases htu with ⟨he, _, htu⟩ | ⟨he, hl2, hSt2⟩
      · refine wl_region ?_
        refine wl_val (.pointer (some ⟨sq, 0, none⟩)) (by kernel_rfl) (by kernel_rfl) ?_
        refine wl_val (vp) (by kernel_rfl) (by kernel_rfl) ?_
        refine wl_val (vd) (by kernel_rfl) (by kernel_rfl) ?_
        refine wl_callx (by kernel_rfl) enter17 #[.pointer (some ⟨sq, 0, none⟩), vp, vd] (by kernel_rfl) (by have h9 := do_S (hc19 _ _ ((q29, 48, stc (nextR now x i)) :: (q8, 48, stc now) :: (Lp ++ Ld)) _ ⟨_, _, hrs19, hK19, (HA.perm h49 (List.perm_middle (l₁ := ([(q29, 48, stc (nextR now x i))] : BL))))⟩) hSt (by omega) (by omega) (by omega) hRp hRd (fun y hy => List.mem_cons_of_mem _ (List.mem_cons_of_mem _ (List.mem_append_left _ hy))) (fun y hy => List.mem_cons_of_mem _ (List.mem_cons_of_mem _ (List.mem_append_right _ hy))); rw [he] at h9; exact h9) ?_
        rintro _ w50 ⟨rfl, hP⟩
        refine ⟨_, rfl, ?_⟩
        obtain ⟨hl2, hSt2⟩ := htu.resolve_right (fun e => e hl)
        have hl2 : (DoS S (chP x i (nP x)) (chD x (nD x))).1.D.left = 0 := by omega
        generalize (DoS S (chP x i (nP x)) (chD x (nD x))).1 = S2 at hP hSt2 hl2
        obtain ⟨m51, X51, hc51, rs51, nx51, hrs51, hK51, hH51⟩ := SH.opn hP
        have h52 : HA ⟨w, m51 :: (sr, .mp (eR rs51) nx51) :: []⟩ ((sq, 73, scell d.q sr ((laidR S2.rows)) S2.size) :: (q29, 48, stc (nextR now x i)) :: (q8, 48, stc now) :: ((Lp ++ Ld) ++ X51)) w50 := hH51
        have hop := hSt2.opn
        refine wl_val (iN .i64 7) (by kernel_rfl) (by kernel_rfl) ?_
        refine wl_nil ?_
        refine then_at rfl ?_
        refine wp_seq ?_
        refine wp_seq ?_
        refine wl_region ?_
        refine wl_val (iN .i64 7) (by kernel_rfl) (by kernel_rfl) ?_
        refine wl_val (.bool false) (by kernel_rfl) (run_eqi (k := .i64) (a := 7) (b := 0) (by kernel_rfl) (by kernel_rfl) false (by decide)) ?_
        refine wl_nil ?_
        refine then_at (F := ⟨(iN .u16 rm :: .slice o xs.length c :: un :: un :: u17 4 :: pt d.q :: pt sq :: iN .i64 0 :: pt q8 :: iN .i64 i :: vp :: vd :: pt q29 :: iN .i64 7 :: .bool true :: .bool false :: iN .u16 rm :: iN .u16 (rm % 4000) :: iN .i64 (rm % 4000) :: pt d.q :: .tuple #[pt sq0, iN .i64 0] :: pt d.q :: .tuple #[pt sq0, iN .i64 0] :: pt sq0 :: iN .i64 0 :: iN .i64 i :: .slice o xs.length c :: iN .i64 xs.length :: .bool true :: .bool true :: iN .i64 i :: .bool true :: .bool true :: .bool true :: iN .i64 0 :: .bool true :: .bool true :: u17 37 :: u17 38 :: .tuple #[vp, vd, .agg (stc (nextR now x i))] :: .agg (stc now) :: .slice o xs.length c :: iN .i64 i :: .pointer (some (oa.add (i * 11))) :: .agg (tnc x) :: iN .i64 i :: .tuple #[vp, vd, .agg (stc (nextR now x i))] :: vp :: vd :: .agg (stc (nextR now x i)) :: pt sq :: vp :: vd :: iN .i64 7 :: iN .i64 7 :: .bool false :: u17 56 :: u17 57 :: u17 58 :: u17 59 :: u17 60 :: u17 61 :: u17 62 :: u17 63 :: u17 64 :: u17 65 :: u17 66 :: u17 67 :: u17 68 :: u17 69 :: u17 70 :: u17 71 :: u17 72 :: u17 73 :: u17 74 :: u17 75 :: u17 76 :: u17 77 :: u17 78 :: List.replicate 2 un).toArray, []⟩) (by kernel_rfl) ?_
        refine wp_cond_false (by kernel_rfl) ?_
        refine wp_seq ?_
        refine wl_region ?_
        refine wl_val (iN .i64 7) (by kernel_rfl) (by kernel_rfl) ?_
        refine wl_val (.bool false) (by kernel_rfl) (run_nei (k := .i64) (a := 7) (b := 7) (by kernel_rfl) (by kernel_rfl) false (by decide)) ?_
        refine wl_nil ?_
        refine then_at rfl ?_
        refine wp_cond_false (by kernel_rfl) ?_
        refine wp_skip ?_
        refine then_at rfl ?_
        refine wp_seq ?_
        refine wp_seq ?_
        refine wl_region ?_
        refine wl_val (.pointer (some ⟨sq, 0, none⟩)) (by kernel_rfl) (by kernel_rfl) ?_
        refine wl_val (.agg (stc now)) (by kernel_rfl) (run_load_blk (by kernel_rfl) (h52.get 2 rfl) Tryz.underlying48 rfl (by rw [info48, stc_size, hSt.ok.1])) ?_
        refine wl_call (v := .bool true) h52 (by kernel_rfl) enter19 #[.pointer (some ⟨sq, 0, none⟩), .agg (stc now)] (by kernel_rfl) (says_S (hc51 _ _ ((q29, 48, stc (nextR now x i)) :: (q8, 48, stc now) :: (Lp ++ Ld)) _ ⟨_, _, hrs51, hK51, h52⟩) hSt2) ?_
        intro w53 h54
        refine wl_val (.bool false) (by kernel_rfl) (by kernel_rfl) ?_
        refine wl_nil ?_
        refine then_at rfl ?_
        refine wp_cond_false (by kernel_rfl) ?_
        refine wp_skip ?_
        refine then_at rfl ?_
        refine wp_seq ?_
        by_cases h7 : i % 7 = 0
        · refine wl_region ?_
          refine wl_val (iN .i64 i) (by kernel_rfl) (by kernel_rfl) ?_
          refine wl_val (iN .i64 (i % 7)) (by kernel_rfl) (run_remb (k := .i64) (a := i) (n := 7) (by kernel_rfl) (by kernel_rfl) (by decide)) ?_
          refine wl_val (.bool true) (by kernel_rfl) (run_eqi (k := .i64) (a := i % 7) (b := 0) (by kernel_rfl) (by kernel_rfl) true (decide_eq_true h7)) ?_
          refine wl_nil ?_
          refine then_at rfl ?_
          refine wp_cond_true (by kernel_rfl) ?_
          refine wp_seq ?_
          refine wl_region ?_
          refine wl_val (.pointer (some ⟨d.q, 0, none⟩)) (by kernel_rfl) (by kernel_rfl) ?_
          refine wl_callx (by kernel_rfl) enter13 #[.pointer (some ⟨d.q, 0, none⟩)] (by kernel_rfl) (Open_d (SH.disk (hc51 _ _ ((q29, 48, stc (nextR now x i)) :: (q8, 48, stc now) :: (Lp ++ Ld)) _ ⟨_, _, hrs51, hK51, h54⟩)) hSt2.dg (by omega) (by omega) (Nat.le_trans hSt2.lg (by omega)) hop.1) ?_
          rintro _ w55 ⟨sq3, sr3, rfl, hO3⟩
          refine ⟨_, rfl, ?_⟩
          have hSt3 : St (opnS S2.D).1 now (rm % 4000) (5000 + 1000 * (i + 1)) (4 + 20 * (i + 1)) := hop.2.2.mono (by omega) (by omega)
          have hl3 : (opnS S2.D).1.D.left = 0 := by rw [hop.2.1]; exact hl2
          generalize (opnS S2.D).1 = S3 at hO3 hSt3 hl3
          obtain ⟨m56, X56, hc56, rs56, nx56, hrs56, hK56, hH56⟩ := SH.opn hO3
          have h57 : HA ⟨w, m56 :: (sr3, .mp (eR rs56) nx56) :: []⟩ ((sq3, 73, scell d.q sr3 ((laidR S3.rows)) S3.size) :: (q29, 48, stc (nextR now x i)) :: (q8, 48, stc now) :: ((Lp ++ Ld) ++ X56)) w55 := hH56
          refine wl_val (.tuple #[.pointer (some ⟨sq3, 0, none⟩), iN .i64 0]) (by kernel_rfl) (by kernel_rfl) ?_
          refine wl_val (.pointer (some ⟨sq3, 0, none⟩)) (by kernel_rfl) (by kernel_rfl) ?_
          refine wl_val (iN .i64 0) (by kernel_rfl) (by kernel_rfl) ?_
          refine wl_val (.pointer (some ⟨sq3, 0, none⟩)) (by kernel_rfl) (by kernel_rfl) ?_
          refine wl_val (iN .i64 0) (by kernel_rfl) (by kernel_rfl) ?_
          refine wl_nil ?_
          refine then_at (F := ⟨(iN .u16 rm :: .slice o xs.length c :: un :: un :: u17 4 :: pt d.q :: pt sq3 :: iN .i64 0 :: pt q8 :: iN .i64 i :: vp :: vd :: pt q29 :: iN .i64 7 :: .bool true :: .bool false :: iN .u16 rm :: iN .u16 (rm % 4000) :: iN .i64 (rm % 4000) :: pt d.q :: .tuple #[pt sq0, iN .i64 0] :: pt d.q :: .tuple #[pt sq0, iN .i64 0] :: pt sq0 :: iN .i64 0 :: iN .i64 i :: .slice o xs.length c :: iN .i64 xs.length :: .bool true :: .bool true :: iN .i64 i :: .bool true :: .bool true :: .bool true :: iN .i64 0 :: .bool true :: .bool true :: u17 37 :: u17 38 :: .tuple #[vp, vd, .agg (stc (nextR now x i))] :: .agg (stc now) :: .slice o xs.length c :: iN .i64 i :: .pointer (some (oa.add (i * 11))) :: .agg (tnc x) :: iN .i64 i :: .tuple #[vp, vd, .agg (stc (nextR now x i))] :: vp :: vd :: .agg (stc (nextR now x i)) :: pt sq :: vp :: vd :: iN .i64 7 :: iN .i64 7 :: .bool false :: u17 56 :: iN .i64 7 :: .bool false :: pt sq :: .agg (stc now) :: .bool true :: .bool false :: iN .i64 i :: iN .i64 (i % 7) :: .bool true :: .tuple #[pt sq3, iN .i64 0] :: pt d.q :: .tuple #[pt sq3, iN .i64 0] :: pt sq3 :: iN .i64 0 :: u17 71 :: u17 72 :: u17 73 :: u17 74 :: u17 75 :: u17 76 :: u17 77 :: u17 78 :: List.replicate 2 un).toArray, []⟩) (by kernel_rfl) ?_
          refine wp_seq ?_
          refine wl_region ?_
          refine wl_val (iN .i64 0) (by kernel_rfl) (by kernel_rfl) ?_
          refine wl_val (.bool true) (by kernel_rfl) (run_eqi (k := .i64) (a := 0) (b := 0) (by kernel_rfl) (by kernel_rfl) true (by decide)) ?_
          refine wl_val (.bool true) (by kernel_rfl) (by kernel_rfl) ?_
          refine wl_val (.pointer (some ⟨sq3, 0, none⟩)) (by kernel_rfl) (by kernel_rfl) ?_
          refine wl_val (.agg (stc now)) (by kernel_rfl) (run_load_blk (by kernel_rfl) (h57.get 2 rfl) Tryz.underlying48 rfl (by rw [info48, stc_size, hSt.ok.1])) ?_
          refine wl_call (v := .bool true) h57 (by kernel_rfl) enter19 #[.pointer (some ⟨sq3, 0, none⟩), .agg (stc now)] (by kernel_rfl) (says_S (hc56 _ _ ((q29, 48, stc (nextR now x i)) :: (q8, 48, stc now) :: (Lp ++ Ld)) _ ⟨_, _, hrs56, hK56, h57⟩) hSt3) ?_
          intro w58 h59
          refine wl_val (.bool false) (by kernel_rfl) (by kernel_rfl) ?_
          refine wl_val (.bool false) (by kernel_rfl) (by kernel_rfl) ?_
          refine wl_nil ?_
          refine then_at rfl ?_
          refine wp_cond_false (by kernel_rfl) ?_
          refine wp_skip ?_
          refine block_normal ?_
          refine then_at rfl ?_
          refine wl_region ?_
          refine wl_val (iN .i64 i) (by kernel_rfl) (by kernel_rfl) ?_
          refine wl_val (iN .i64 (i + 1)) (by kernel_rfl) (run_add (k := .i64) (a := i) (b := 1) (by kernel_rfl) (by kernel_rfl) (by first | omega | (simp only [top]; omega))) ?_
          refine wl_val (iN .i64 (i + 1)) (by kernel_rfl) (by kernel_rfl) ?_
          refine wl_nil ?_
          exact then_I ⟨sq3, sr3, S3, now, fun ii => (([(4, u17 4), (10, vp), (11, vd), (12, .pointer (some ⟨q29, 0, none⟩)), (13, iN .i64 7), (25, iN .i64 i), (26, .slice o xs.length c), (27, iN .i64 xs.length), (28, .bool true), (29, .bool true), (30, iN .i64 i), (31, .bool true), (32, .bool true), (33, .bool true), (34, iN .i64 0), (35, .bool true), (36, .bool true), (37, iN .i64 i), (38, iN .i64 (i + 1)), (39, .tuple #[vp, vd, .agg (stc (nextR now x i))]), (40, .agg (stc now)), (41, .slice o xs.length c), (42, iN .i64 i), (43, .pointer (some (oa.add (i * 11)))), (44, .agg (tnc x)), (45, iN .i64 i), (46, .tuple #[vp, vd, .agg (stc (nextR now x i))]), (47, vp), (48, vd), (49, .agg (stc (nextR now x i))), (50, .pointer (some ⟨sq, 0, none⟩)), (51, vp), (52, vd), (53, iN .i64 7), (54, iN .i64 7), (55, .bool false), (56, u17 56), (57, iN .i64 7), (58, .bool false), (59, .pointer (some ⟨sq, 0, none⟩)), (60, .agg (stc now)), (61, .bool true), (62, .bool false), (63, iN .i64 i), (64, iN .i64 (i % 7)), (65, .bool true), (66, .tuple #[.pointer (some ⟨sq3, 0, none⟩), iN .i64 0]), (67, .pointer (some ⟨d.q, 0, none⟩)), (68, .tuple #[.pointer (some ⟨sq3, 0, none⟩), iN .i64 0]), (69, .pointer (some ⟨sq3, 0, none⟩)), (70, iN .i64 0), (71, iN .i64 0), (72, .bool true), (73, .bool true), (74, .pointer (some ⟨sq3, 0, none⟩)), (75, .agg (stc now)), (76, .bool true), (77, .bool false), (78, .bool false)] : List (Nat × Value)).find? (·.1 == ii)).elim undef (·.2), by kernel_rfl, hSt3.mono (by omega) (by omega), hl3, SH.sub (hc56 _ _ ((q29, 48, stc (nextR now x i)) :: (q8, 48, stc now) :: (Lp ++ Ld)) _ ⟨_, _, hrs56, hK56, h59⟩) (List.Sublist.cons _ (List.Sublist.cons_cons _ (List.nil_sublist _)))⟩
        · refine wl_region ?_
          refine wl_val (iN .i64 i) (by kernel_rfl) (by kernel_rfl) ?_
          refine wl_val (iN .i64 (i % 7)) (by kernel_rfl) (run_remb (k := .i64) (a := i) (n := 7) (by kernel_rfl) (by kernel_rfl) (by decide)) ?_
          refine wl_val (.bool false) (by kernel_rfl) (run_eqi (k := .i64) (a := i % 7) (b := 0) (by kernel_rfl) (by kernel_rfl) false (decide_eq_false h7)) ?_
          refine wl_nil ?_
          refine then_at rfl ?_
          refine wp_cond_false (by kernel_rfl) ?_
          refine wp_skip ?_
          refine block_normal ?_
          refine then_at rfl ?_
          refine wl_region ?_
          refine wl_val (iN .i64 i) (by kernel_rfl) (by kernel_rfl) ?_
          refine wl_val (iN .i64 (i + 1)) (by kernel_rfl) (run_add (k := .i64) (a := i) (b := 1) (by kernel_rfl) (by kernel_rfl) (by first | omega | (simp only [top]; omega))) ?_
          refine wl_val (iN .i64 (i + 1)) (by kernel_rfl) (by kernel_rfl) ?_
          refine wl_nil ?_
          exact then_I ⟨sq, sr, S2, now, fun ii => (([(4, u17 4), (10, vp), (11, vd), (12, .pointer (some ⟨q29, 0, none⟩)), (13, iN .i64 7), (25, iN .i64 i), (26, .slice o xs.length c), (27, iN .i64 xs.length), (28, .bool true), (29, .bool true), (30, iN .i64 i), (31, .bool true), (32, .bool true), (33, .bool true), (34, iN .i64 0), (35, .bool true), (36, .bool true), (37, iN .i64 i), (38, iN .i64 (i + 1)), (39, .tuple #[vp, vd, .agg (stc (nextR now x i))]), (40, .agg (stc now)), (41, .slice o xs.length c), (42, iN .i64 i), (43, .pointer (some (oa.add (i * 11)))), (44, .agg (tnc x)), (45, iN .i64 i), (46, .tuple #[vp, vd, .agg (stc (nextR now x i))]), (47, vp), (48, vd), (49, .agg (stc (nextR now x i))), (50, .pointer (some ⟨sq, 0, none⟩)), (51, vp), (52, vd), (53, iN .i64 7), (54, iN .i64 7), (55, .bool false), (56, u17 56), (57, iN .i64 7), (58, .bool false), (59, .pointer (some ⟨sq, 0, none⟩)), (60, .agg (stc now)), (61, .bool true), (62, .bool false), (63, iN .i64 i), (64, iN .i64 (i % 7)), (65, .bool false), (66, u17 66), (67, u17 67), (68, u17 68), (69, u17 69), (70, u17 70), (71, u17 71), (72, u17 72), (73, u17 73), (74, u17 74), (75, u17 75), (76, u17 76), (77, u17 77), (78, u17 78)] : List (Nat × Value)).find? (·.1 == ii)).elim undef (·.2), by kernel_rfl, hSt2.mono (by omega) (by omega), hl2, SH.sub (hc51 _ _ ((q29, 48, stc (nextR now x i)) :: (q8, 48, stc now) :: (Lp ++ Ld)) _ ⟨_, _, hrs51, hK51, h54⟩) (List.Sublist.cons _ (List.Sublist.cons_cons _ (List.nil_sublist _)))⟩
      · refine wl_region ?_
        refine wl_val (.pointer (some ⟨sq, 0, none⟩)) (by kernel_rfl) (by kernel_rfl) ?_
        refine wl_val (vp) (by kernel_rfl) (by kernel_rfl) ?_
        refine wl_val (vd) (by kernel_rfl) (by kernel_rfl) ?_
        refine wl_callx (by kernel_rfl) enter17 #[.pointer (some ⟨sq, 0, none⟩), vp, vd] (by kernel_rfl) (by have h9 := do_S (hc19 _ _ ((q29, 48, stc (nextR now x i)) :: (q8, 48, stc now) :: (Lp ++ Ld)) _ ⟨_, _, hrs19, hK19, (HA.perm h49 (List.perm_middle (l₁ := ([(q29, 48, stc (nextR now x i))] : BL))))⟩) hSt (by omega) (by omega) (by omega) hRp hRd (fun y hy => List.mem_cons_of_mem _ (List.mem_cons_of_mem _ (List.mem_append_left _ hy))) (fun y hy => List.mem_cons_of_mem _ (List.mem_cons_of_mem _ (List.mem_append_right _ hy))); rw [he] at h9; exact h9) ?_
        rintro _ w60 ⟨rfl, hP⟩
        refine ⟨_, rfl, ?_⟩
        have hl2 : (DoS S (chP x i (nP x)) (chD x (nD x))).1.D.left = 0 := by omega
        generalize (DoS S (chP x i (nP x)) (chD x (nD x))).1 = S2 at hP hSt2 hl2
        obtain ⟨m61, X61, hc61, rs61, nx61, hrs61, hK61, hH61⟩ := SH.opn hP
        have h62 : HA ⟨w, m61 :: (sr, .mp (eR rs61) nx61) :: []⟩ ((sq, 73, scell d.q sr ((laidR S2.rows)) S2.size) :: (q29, 48, stc (nextR now x i)) :: (q8, 48, stc now) :: ((Lp ++ Ld) ++ X61)) w60 := hH61
        have hop := hSt2.opn
        refine wl_val (iN .i64 0) (by kernel_rfl) (by kernel_rfl) ?_
        refine wl_nil ?_
        refine then_at rfl ?_
        refine wp_seq ?_
        refine wp_seq ?_
        refine wl_region ?_
        refine wl_val (iN .i64 0) (by kernel_rfl) (by kernel_rfl) ?_
        refine wl_val (.bool true) (by kernel_rfl) (run_eqi (k := .i64) (a := 0) (b := 0) (by kernel_rfl) (by kernel_rfl) true (by decide)) ?_
        refine wl_nil ?_
        refine then_at (F := ⟨(iN .u16 rm :: .slice o xs.length c :: un :: un :: u17 4 :: pt d.q :: pt sq :: iN .i64 0 :: pt q8 :: iN .i64 i :: vp :: vd :: pt q29 :: iN .i64 0 :: .bool true :: .bool false :: iN .u16 rm :: iN .u16 (rm % 4000) :: iN .i64 (rm % 4000) :: pt d.q :: .tuple #[pt sq0, iN .i64 0] :: pt d.q :: .tuple #[pt sq0, iN .i64 0] :: pt sq0 :: iN .i64 0 :: iN .i64 i :: .slice o xs.length c :: iN .i64 xs.length :: .bool true :: .bool true :: iN .i64 i :: .bool true :: .bool true :: .bool true :: iN .i64 0 :: .bool true :: .bool true :: u17 37 :: u17 38 :: .tuple #[vp, vd, .agg (stc (nextR now x i))] :: .agg (stc now) :: .slice o xs.length c :: iN .i64 i :: .pointer (some (oa.add (i * 11))) :: .agg (tnc x) :: iN .i64 i :: .tuple #[vp, vd, .agg (stc (nextR now x i))] :: vp :: vd :: .agg (stc (nextR now x i)) :: pt sq :: vp :: vd :: iN .i64 0 :: iN .i64 0 :: .bool true :: u17 56 :: u17 57 :: u17 58 :: u17 59 :: u17 60 :: u17 61 :: u17 62 :: u17 63 :: u17 64 :: u17 65 :: u17 66 :: u17 67 :: u17 68 :: u17 69 :: u17 70 :: u17 71 :: u17 72 :: u17 73 :: u17 74 :: u17 75 :: u17 76 :: u17 77 :: u17 78 :: List.replicate 2 un).toArray, []⟩) (by kernel_rfl) ?_
        refine wp_cond_true (by kernel_rfl) ?_
        refine wl_region ?_
        refine wl_val (.agg (stc (nextR now x i))) (by kernel_rfl) (run_load_blk (by kernel_rfl) (h62.get 1 rfl) Tryz.underlying48 rfl (by rw [info48, stc_size, hnxl])) ?_
        refine wl_fill (c' := stc (nextR now x i)) h62 2 rfl (by kernel_rfl) (by kernel_rfl) (by kernel_rfl) (by rw [stc_size, stc_size, hnxl, hSt.ok.1]) (by rw [info48, stc_size, hnxl]) (stc_one _) ?_
        intro w63 (h64 : HA ⟨w, m61 :: (sr, .mp (eR rs61) nx61) :: []⟩ ((sq, 73, scell d.q sr ((laidR S2.rows)) S2.size) :: (q29, 48, stc (nextR now x i)) :: (q8, 48, stc (nextR now x i)) :: ((Lp ++ Ld) ++ X61)) w63)
        refine wl_nil ?_
        refine then_at rfl ?_
        refine wp_seq ?_
        refine wp_seq ?_
        refine wl_region ?_
        refine wl_val (.pointer (some ⟨sq, 0, none⟩)) (by kernel_rfl) (by kernel_rfl) ?_
        refine wl_val (.agg (stc (nextR now x i))) (by kernel_rfl) (run_load_blk (by kernel_rfl) (h64.get 2 rfl) Tryz.underlying48 rfl (by rw [info48, stc_size, hnxl])) ?_
        refine wl_call (v := .bool true) h64 (by kernel_rfl) enter19 #[.pointer (some ⟨sq, 0, none⟩), .agg (stc (nextR now x i))] (by kernel_rfl) (says_S (hc61 _ _ ((q29, 48, stc (nextR now x i)) :: (q8, 48, stc (nextR now x i)) :: (Lp ++ Ld)) _ ⟨_, _, hrs61, hK61, h64⟩) hSt2) ?_
        intro w65 h66
        refine wl_val (.bool false) (by kernel_rfl) (by kernel_rfl) ?_
        refine wl_nil ?_
        refine then_at rfl ?_
        refine wp_cond_false (by kernel_rfl) ?_
        refine wp_skip ?_
        refine then_at rfl ?_
        refine wp_seq ?_
        by_cases h7 : i % 7 = 0
        · refine wl_region ?_
          refine wl_val (iN .i64 i) (by kernel_rfl) (by kernel_rfl) ?_
          refine wl_val (iN .i64 (i % 7)) (by kernel_rfl) (run_remb (k := .i64) (a := i) (n := 7) (by kernel_rfl) (by kernel_rfl) (by decide)) ?_
          refine wl_val (.bool true) (by kernel_rfl) (run_eqi (k := .i64) (a := i % 7) (b := 0) (by kernel_rfl) (by kernel_rfl) true (decide_eq_true h7)) ?_
          refine wl_nil ?_
          refine then_at rfl ?_
          refine wp_cond_true (by kernel_rfl) ?_
          refine wp_seq ?_
          refine wl_region ?_
          refine wl_val (.pointer (some ⟨d.q, 0, none⟩)) (by kernel_rfl) (by kernel_rfl) ?_
          refine wl_callx (by kernel_rfl) enter13 #[.pointer (some ⟨d.q, 0, none⟩)] (by kernel_rfl) (Open_d (SH.disk (hc61 _ _ ((q29, 48, stc (nextR now x i)) :: (q8, 48, stc (nextR now x i)) :: (Lp ++ Ld)) _ ⟨_, _, hrs61, hK61, h66⟩)) hSt2.dg (by omega) (by omega) (Nat.le_trans hSt2.lg (by omega)) hop.1) ?_
          rintro _ w67 ⟨sq3, sr3, rfl, hO3⟩
          refine ⟨_, rfl, ?_⟩
          have hSt3 : St (opnS S2.D).1 (nextR now x i) (rm % 4000) (5000 + 1000 * (i + 1)) (4 + 20 * (i + 1)) := hop.2.2.mono (by omega) (by omega)
          have hl3 : (opnS S2.D).1.D.left = 0 := by rw [hop.2.1]; exact hl2
          generalize (opnS S2.D).1 = S3 at hO3 hSt3 hl3
          obtain ⟨m68, X68, hc68, rs68, nx68, hrs68, hK68, hH68⟩ := SH.opn hO3
          have h69 : HA ⟨w, m68 :: (sr3, .mp (eR rs68) nx68) :: []⟩ ((sq3, 73, scell d.q sr3 ((laidR S3.rows)) S3.size) :: (q29, 48, stc (nextR now x i)) :: (q8, 48, stc (nextR now x i)) :: ((Lp ++ Ld) ++ X68)) w67 := hH68
          refine wl_val (.tuple #[.pointer (some ⟨sq3, 0, none⟩), iN .i64 0]) (by kernel_rfl) (by kernel_rfl) ?_
          refine wl_val (.pointer (some ⟨sq3, 0, none⟩)) (by kernel_rfl) (by kernel_rfl) ?_
          refine wl_val (iN .i64 0) (by kernel_rfl) (by kernel_rfl) ?_
          refine wl_val (.pointer (some ⟨sq3, 0, none⟩)) (by kernel_rfl) (by kernel_rfl) ?_
          refine wl_val (iN .i64 0) (by kernel_rfl) (by kernel_rfl) ?_
          refine wl_nil ?_
          refine then_at rfl ?_
          refine wp_seq ?_
          refine wl_region ?_
          refine wl_val (iN .i64 0) (by kernel_rfl) (by kernel_rfl) ?_
          refine wl_val (.bool true) (by kernel_rfl) (run_eqi (k := .i64) (a := 0) (b := 0) (by kernel_rfl) (by kernel_rfl) true (by decide)) ?_
          refine wl_val (.bool true) (by kernel_rfl) (by kernel_rfl) ?_
          refine wl_val (.pointer (some ⟨sq3, 0, none⟩)) (by kernel_rfl) (by kernel_rfl) ?_
          refine wl_val (.agg (stc (nextR now x i))) (by kernel_rfl) (run_load_blk (by kernel_rfl) (h69.get 2 rfl) Tryz.underlying48 rfl (by rw [info48, stc_size, hnxl])) ?_
          refine wl_call (v := .bool true) h69 (by kernel_rfl) enter19 #[.pointer (some ⟨sq3, 0, none⟩), .agg (stc (nextR now x i))] (by kernel_rfl) (says_S (hc68 _ _ ((q29, 48, stc (nextR now x i)) :: (q8, 48, stc (nextR now x i)) :: (Lp ++ Ld)) _ ⟨_, _, hrs68, hK68, h69⟩) hSt3) ?_
          intro w70 h71
          refine wl_val (.bool false) (by kernel_rfl) (by kernel_rfl) ?_
          refine wl_val (.bool false) (by kernel_rfl) (by kernel_rfl) ?_
          refine wl_nil ?_
          refine then_at (F := ⟨(iN .u16 rm :: .slice o xs.length c :: un :: un :: u17 4 :: pt d.q :: pt sq3 :: iN .i64 0 :: pt q8 :: iN .i64 i :: vp :: vd :: pt q29 :: iN .i64 0 :: .bool true :: .bool false :: iN .u16 rm :: iN .u16 (rm % 4000) :: iN .i64 (rm % 4000) :: pt d.q :: .tuple #[pt sq0, iN .i64 0] :: pt d.q :: .tuple #[pt sq0, iN .i64 0] :: pt sq0 :: iN .i64 0 :: iN .i64 i :: .slice o xs.length c :: iN .i64 xs.length :: .bool true :: .bool true :: iN .i64 i :: .bool true :: .bool true :: .bool true :: iN .i64 0 :: .bool true :: .bool true :: u17 37 :: u17 38 :: .tuple #[vp, vd, .agg (stc (nextR now x i))] :: .agg (stc now) :: .slice o xs.length c :: iN .i64 i :: .pointer (some (oa.add (i * 11))) :: .agg (tnc x) :: iN .i64 i :: .tuple #[vp, vd, .agg (stc (nextR now x i))] :: vp :: vd :: .agg (stc (nextR now x i)) :: pt sq :: vp :: vd :: iN .i64 0 :: iN .i64 0 :: .bool true :: .agg (stc (nextR now x i)) :: u17 57 :: u17 58 :: pt sq :: .agg (stc (nextR now x i)) :: .bool true :: .bool false :: iN .i64 i :: iN .i64 (i % 7) :: .bool true :: .tuple #[pt sq3, iN .i64 0] :: pt d.q :: .tuple #[pt sq3, iN .i64 0] :: pt sq3 :: iN .i64 0 :: iN .i64 0 :: .bool true :: .bool true :: pt sq3 :: .agg (stc (nextR now x i)) :: .bool true :: .bool false :: .bool false :: List.replicate 2 un).toArray, []⟩) (by kernel_rfl) ?_
          refine wp_cond_false (by kernel_rfl) ?_
          refine wp_skip ?_
          refine block_normal ?_
          refine then_at rfl ?_
          refine wl_region ?_
          refine wl_val (iN .i64 i) (by kernel_rfl) (by kernel_rfl) ?_
          refine wl_val (iN .i64 (i + 1)) (by kernel_rfl) (run_add (k := .i64) (a := i) (b := 1) (by kernel_rfl) (by kernel_rfl) (by first | omega | (simp only [top]; omega))) ?_
          refine wl_val (iN .i64 (i + 1)) (by kernel_rfl) (by kernel_rfl) ?_
          refine wl_nil ?_
          exact then_I ⟨sq3, sr3, S3, (nextR now x i), fun ii => (([(4, u17 4), (10, vp), (11, vd), (12, .pointer (some ⟨q29, 0, none⟩)), (13, iN .i64 0), (25, iN .i64 i), (26, .slice o xs.length c), (27, iN .i64 xs.length), (28, .bool true), (29, .bool true), (30, iN .i64 i), (31, .bool true), (32, .bool true), (33, .bool true), (34, iN .i64 0), (35, .bool true), (36, .bool true), (37, iN .i64 i), (38, iN .i64 (i + 1)), (39, .tuple #[vp, vd, .agg (stc (nextR now x i))]), (40, .agg (stc now)), (41, .slice o xs.length c), (42, iN .i64 i), (43, .pointer (some (oa.add (i * 11)))), (44, .agg (tnc x)), (45, iN .i64 i), (46, .tuple #[vp, vd, .agg (stc (nextR now x i))]), (47, vp), (48, vd), (49, .agg (stc (nextR now x i))), (50, .pointer (some ⟨sq, 0, none⟩)), (51, vp), (52, vd), (53, iN .i64 0), (54, iN .i64 0), (55, .bool true), (56, .agg (stc (nextR now x i))), (57, u17 57), (58, u17 58), (59, .pointer (some ⟨sq, 0, none⟩)), (60, .agg (stc (nextR now x i))), (61, .bool true), (62, .bool false), (63, iN .i64 i), (64, iN .i64 (i % 7)), (65, .bool true), (66, .tuple #[.pointer (some ⟨sq3, 0, none⟩), iN .i64 0]), (67, .pointer (some ⟨d.q, 0, none⟩)), (68, .tuple #[.pointer (some ⟨sq3, 0, none⟩), iN .i64 0]), (69, .pointer (some ⟨sq3, 0, none⟩)), (70, iN .i64 0), (71, iN .i64 0), (72, .bool true), (73, .bool true), (74, .pointer (some ⟨sq3, 0, none⟩)), (75, .agg (stc (nextR now x i))), (76, .bool true), (77, .bool false), (78, .bool false)] : List (Nat × Value)).find? (·.1 == ii)).elim undef (·.2), by kernel_rfl, hSt3.mono (by omega) (by omega), hl3, SH.sub (hc68 _ _ ((q29, 48, stc (nextR now x i)) :: (q8, 48, stc (nextR now x i)) :: (Lp ++ Ld)) _ ⟨_, _, hrs68, hK68, h71⟩) (List.Sublist.cons _ (List.Sublist.cons_cons _ (List.nil_sublist _)))⟩
        · refine wl_region ?_
          refine wl_val (iN .i64 i) (by kernel_rfl) (by kernel_rfl) ?_
          refine wl_val (iN .i64 (i % 7)) (by kernel_rfl) (run_remb (k := .i64) (a := i) (n := 7) (by kernel_rfl) (by kernel_rfl) (by decide)) ?_
          refine wl_val (.bool false) (by kernel_rfl) (run_eqi (k := .i64) (a := i % 7) (b := 0) (by kernel_rfl) (by kernel_rfl) false (decide_eq_false h7)) ?_
          refine wl_nil ?_
          refine then_at rfl ?_
          refine wp_cond_false (by kernel_rfl) ?_
          refine wp_skip ?_
          refine block_normal ?_
          refine then_at rfl ?_
          refine wl_region ?_
          refine wl_val (iN .i64 i) (by kernel_rfl) (by kernel_rfl) ?_
          refine wl_val (iN .i64 (i + 1)) (by kernel_rfl) (run_add (k := .i64) (a := i) (b := 1) (by kernel_rfl) (by kernel_rfl) (by first | omega | (simp only [top]; omega))) ?_
          refine wl_val (iN .i64 (i + 1)) (by kernel_rfl) (by kernel_rfl) ?_
          refine wl_nil ?_
          exact then_I ⟨sq, sr, S2, (nextR now x i), fun ii => (([(4, u17 4), (10, vp), (11, vd), (12, .pointer (some ⟨q29, 0, none⟩)), (13, iN .i64 0), (25, iN .i64 i), (26, .slice o xs.length c), (27, iN .i64 xs.length), (28, .bool true), (29, .bool true), (30, iN .i64 i), (31, .bool true), (32, .bool true), (33, .bool true), (34, iN .i64 0), (35, .bool true), (36, .bool true), (37, iN .i64 i), (38, iN .i64 (i + 1)), (39, .tuple #[vp, vd, .agg (stc (nextR now x i))]), (40, .agg (stc now)), (41, .slice o xs.length c), (42, iN .i64 i), (43, .pointer (some (oa.add (i * 11)))), (44, .agg (tnc x)), (45, iN .i64 i), (46, .tuple #[vp, vd, .agg (stc (nextR now x i))]), (47, vp), (48, vd), (49, .agg (stc (nextR now x i))), (50, .pointer (some ⟨sq, 0, none⟩)), (51, vp), (52, vd), (53, iN .i64 0), (54, iN .i64 0), (55, .bool true), (56, .agg (stc (nextR now x i))), (57, u17 57), (58, u17 58), (59, .pointer (some ⟨sq, 0, none⟩)), (60, .agg (stc (nextR now x i))), (61, .bool true), (62, .bool false), (63, iN .i64 i), (64, iN .i64 (i % 7)), (65, .bool false), (66, u17 66), (67, u17 67), (68, u17 68), (69, u17 69), (70, u17 70), (71, u17 71), (72, u17 72), (73, u17 73), (74, u17 74), (75, u17 75), (76, u17 76), (77, u17 77), (78, u17 78)] : List (Nat × Value)).find? (·.1 == ii)).elim undef (·.2), by kernel_rfl, hSt2.mono (by omega) (by omega), hl2, SH.sub (hc61 _ _ ((q29, 48, stc (nextR now x i)) :: (q8, 48, stc (nextR now x i)) :: (Lp ++ Ld)) _ ⟨_, _, hrs61, hK61, h66⟩) (List.Sublist.cons _ (List.Sublist.cons_cons _ (List.nil_sublist _)))⟩
  · rintro _ w72 ⟨sq, sr, S, now, u17, rfl, hSt, hl, hS⟩
    obtain ⟨m73, X73, hc73, rs73, nx73, hrs73, hK73, hH73⟩ := SH.opn hS
    have h74 : HA ⟨w, m73 :: (sr, .mp (eR rs73) nx73) :: []⟩ ((sq, 73, scell d.q sr ((laidR S.rows)) S.size) :: (q8, 48, stc now) :: ([] ++ X73)) w72 := hH73
    refine wp_seq ?_
    refine wp_seq ?_
    by_cases hgt : 60 < xs.length
    · refine wl_region ?_
      refine wl_val (iN .i64 (min xs.length 60)) (by kernel_rfl) (by kernel_rfl) ?_
      refine wl_val (.slice o xs.length c) (by kernel_rfl) (by kernel_rfl) ?_
      refine wl_val (iN .i64 xs.length) (by kernel_rfl) (by kernel_rfl) ?_
      refine wl_val (.bool true) (by kernel_rfl) (run_lss (k := .i64) (a := min xs.length 60) (b := xs.length) (by kernel_rfl) (by kernel_rfl) true (decide_eq_true (by omega))) ?_
      refine wl_val (.bool true) (by kernel_rfl) (by kernel_rfl) ?_
      refine wl_val (iN .i64 (min xs.length 60)) (by kernel_rfl) (by kernel_rfl) ?_
      refine wl_val (.bool false) (by kernel_rfl) (run_lss (k := .i64) (a := min xs.length 60) (b := 60) (by kernel_rfl) (by kernel_rfl) false (decide_eq_false (by omega))) ?_
      refine wl_val (.bool false) (by kernel_rfl) (by kernel_rfl) ?_
      refine wl_val (.bool false) (by kernel_rfl) (by kernel_rfl) ?_
      refine wl_skip (by kernel_rfl) ?_
      refine wl_skip (by kernel_rfl) ?_
      refine wl_val (.bool false) (by kernel_rfl) (by kernel_rfl) ?_
      refine wl_nil ?_
      refine then_at rfl ?_
      refine wp_cond_false (by kernel_rfl) ?_
      refine wp_exit ?_
      repeat first | refine then_exit ?_ | refine block_exit ?_ | refine block_exit_ne (by decide) ?_
      refine then_at rfl ?_
      refine wp_seq ?_
      refine wl_region ?_
      refine wl_val (iN .i64 0) (by kernel_rfl) (by kernel_rfl) ?_
      refine wl_val (.bool true) (by kernel_rfl) (run_eqi (k := .i64) (a := 0) (b := 0) (by kernel_rfl) (by kernel_rfl) true (by decide)) ?_
      refine wl_val (.bool true) (by kernel_rfl) (by kernel_rfl) ?_
      refine wl_nil ?_
      refine then_at (F := ⟨(iN .u16 rm :: .slice o xs.length c :: un :: un :: .bool true :: pt d.q :: pt sq :: iN .i64 0 :: pt q8 :: iN .i64 (min xs.length 60) :: u17 10 :: u17 11 :: u17 12 :: u17 13 :: .bool true :: .bool false :: iN .u16 rm :: iN .u16 (rm % 4000) :: iN .i64 (rm % 4000) :: pt d.q :: .tuple #[pt sq0, iN .i64 0] :: pt d.q :: .tuple #[pt sq0, iN .i64 0] :: pt sq0 :: iN .i64 0 :: iN .i64 (min xs.length 60) :: .slice o xs.length c :: iN .i64 xs.length :: .bool true :: .bool true :: iN .i64 (min xs.length 60) :: .bool false :: .bool false :: .bool false :: un :: un :: .bool false :: u17 37 :: u17 38 :: u17 39 :: u17 40 :: u17 41 :: u17 42 :: u17 43 :: u17 44 :: u17 45 :: u17 46 :: u17 47 :: u17 48 :: u17 49 :: u17 50 :: u17 51 :: u17 52 :: u17 53 :: u17 54 :: u17 55 :: u17 56 :: u17 57 :: u17 58 :: u17 59 :: u17 60 :: u17 61 :: u17 62 :: u17 63 :: u17 64 :: u17 65 :: u17 66 :: u17 67 :: u17 68 :: u17 69 :: u17 70 :: u17 71 :: u17 72 :: u17 73 :: u17 74 :: u17 75 :: u17 76 :: u17 77 :: u17 78 :: iN .i64 0 :: .bool true :: List.replicate 0 un).toArray, []⟩) (by kernel_rfl) ?_
      refine wp_ret ?_
      repeat first | refine then_ret ?_ | refine block_ret ?_
      exact bodyPost_ret (v := .bool true) (by kernel_rfl) rfl ⟨rfl, h74.old.old⟩
    · refine wl_region ?_
      refine wl_val (iN .i64 (min xs.length 60)) (by kernel_rfl) (by kernel_rfl) ?_
      refine wl_val (.slice o xs.length c) (by kernel_rfl) (by kernel_rfl) ?_
      refine wl_val (iN .i64 xs.length) (by kernel_rfl) (by kernel_rfl) ?_
      refine wl_val (.bool false) (by kernel_rfl) (run_lss (k := .i64) (a := min xs.length 60) (b := xs.length) (by kernel_rfl) (by kernel_rfl) false (decide_eq_false (by omega))) ?_
      refine wl_val (.bool false) (by kernel_rfl) (by kernel_rfl) ?_
      refine wl_skip (by kernel_rfl) ?_
      refine wl_skip (by kernel_rfl) ?_
      refine wl_val (.bool false) (by kernel_rfl) (by kernel_rfl) ?_
      refine wl_val (.bool false) (by kernel_rfl) (by kernel_rfl) ?_
      refine wl_skip (by kernel_rfl) ?_
      refine wl_skip (by kernel_rfl) ?_
      refine wl_val (.bool false) (by kernel_rfl) (by kernel_rfl) ?_
      refine wl_nil ?_
      refine then_at rfl ?_
      refine wp_cond_false (by kernel_rfl) ?_
      refine wp_exit ?_
      repeat first | refine then_exit ?_ | refine block_exit ?_ | refine block_exit_ne (by decide) ?_
      refine then_at rfl ?_
      refine wp_seq ?_
      refine wl_region ?_
      refine wl_val (iN .i64 0) (by kernel_rfl) (by kernel_rfl) ?_
      refine wl_val (.bool true) (by kernel_rfl) (run_eqi (k := .i64) (a := 0) (b := 0) (by kernel_rfl) (by kernel_rfl) true (by decide)) ?_
      refine wl_val (.bool true) (by kernel_rfl) (by kernel_rfl) ?_
      refine wl_nil ?_
      refine then_at rfl ?_
      refine wp_ret ?_
      repeat first | refine then_ret ?_ | refine block_ret ?_
      exact bodyPost_ret (v := .bool true) (by kernel_rfl) rfl ⟨rfl, h74.old.old⟩
end Go.Proofs.YtckmlaempffpjaaGreat
