/-
 StoreKnown.
-/
import Derived.Test.YtckmlaempffpjaaGreatSPacks
namespace Go.Proofs.YtckmlaempffpjaaGreat
open Go.RowKit

theorem prod_eq {A : Type} {p : A × Nat} {n : Nat} (h : p.2 = n) : p = (p.1, n) := by
 cases p
 cases h
 rfl
theorem K1_def : K1 = (chgS K0 (kvs 64) []).1 := by unfold K1; rfl
theorem K2_def : K2 = (chgS K1 [] [bK]).1 := by unfold K2; rfl
theorem K3_def : K3 = (layS K2 { data := #[] }).1 := by unfold K3; rfl
theorem K4_def : K4 = (chgS K3 w2 []).1 := by unfold K4; rfl
theorem K6_def : K6 = (chgS K5 c3 []).1 := by unfold K6; rfl
theorem k1_do : DoS K0 (kvs 64) [] = (K1, 0) := by
 rw [do_x r_k (by rw [kvs_len]; decide) (by show 0 ≤ 1024; decide), K1_def]
 exact prod_eq k1_ok
theorem k2_do : DoS K1 [] [bK] = (K2, 0) := by
 rw [do_x r_d (by show 0 + 1 ≠ 0; decide) (by rw [k1_sz]; decide), K2_def]
 exact prod_eq k2_ok
theorem k3_pk : PackS K2 = (K3, 0) := by
 rw [pack_x k2_rw (by rw [k3_ok]; decide), K3_def]
 exact prod_eq k3_ok
theorem r_w2 : refR w2 [] = 0 := by decide +kernel
theorem r_c3 : refR c3 [] = 0 := by decide +kernel
theorem k4_do : DoS K3 w2 [] = (K4, 0) := by
 rw [do_x r_w2 (by show 2 + 0 ≠ 0; decide) (by rw [k3_sz]; decide), K4_def]
 exact prod_eq k4_ok
theorem k5_sz : K5.size = 28 := by decide +kernel
theorem k5_rw : K5.rows = w2 := by decide +kernel
theorem k6_do : DoS K5 c3 [] = (K6, 16) := by
 rw [do_x r_c3 (by show 1 + 0 ≠ 0; decide) (by rw [k5_sz]; decide), K6_def]
 exact prod_eq k6_ok
theorem rb0 : RB [] 100 := ⟨by decide, by decide, by decide⟩
theorem rb1 : RB [kv] 100 := ⟨by decide +kernel, by decide +kernel, by decide⟩
theorem rb2 : RB w2 100 := ⟨by decide +kernel, by decide +kernel, by decide⟩
theorem kv_pv {w0 : World} {L Lm : BL} {om : Option Addr} {cm : Nat} (h : Row 64 2 (.slice om 65 cm) 65 (rcl (kvs 65)) Lm) (hs : ∀ y ∈ Lm, y ∈ L) : PV w0 L om (kvs 65) := by
 have h2 : Row 64 2 (.slice om (kvs 65).length cm) (kvs 65).length (rcl (kvs 65)) Lm := by rw [kvs_len]; exact h
 exact PV.row h2 hs
theorem kv_pv4 {w0 : World} {L Lm : BL} {om : Option Addr} {cm : Nat} (h : Row 64 2 (.slice om 65 cm) 65 (rcl (kvs 65)) Lm) (hs : ∀ y ∈ Lm, y ∈ L) : PV w0 L om (kvs 64) := fun M A w H i x hi => by
 refine kv_pv h hs M A w H i x ?_
 rw [kvs_succ, List.getElem?_append_left ((List.getElem?_eq_some_iff.1 hi).1)]
 exact hi
theorem kv_cap {Lm : BL} {om : Option Addr} {cm : Nat} (h : Row 64 2 (.slice om 65 cm) 65 (rcl (kvs 65)) Lm) : 65 ≤ cm := by
 rcases h.2 with ⟨e, h0, _⟩ | ⟨g, cap, cur, e, _, h1, _⟩
 ·omega
 ·cases e; exact h1
set_option linter.unusedVariables false in
set_option maxRecDepth 100000 in
set_option maxHeartbeats 8000000 in
theorem known_any (w : World) :
  Calls Tryz.prog 6 #[] w fun e w' => e = .returned (.bool true) ∧ Below w.heap.size w w' := by
 have H0 := HA.start w
 go_enter Tryz.func6, Tryz.ntmps6
 refine wp_seq ?_
 refine wl_region ?_
 refine zwv (.bool false) ?_
 refine wl_nil ?_
 refine then_at rfl ?_
 refine wp_seq ?_
 refine wl_region ?_
 refine wl_callx (by kernel_rfl) enter7 #[iN .i64 1048576] (by kernel_rfl) (New_any 1048576 H0) ?_
 rintro _ w1 ⟨d, rfl, hD0⟩
 refine ⟨_, rfl, ?_⟩
 have hD1 : DH w [] d ⟨[], 1048576, 0, false, []⟩ [] w1 := hD0
 obtain ⟨z2, X3, hcl4, hbe5, h6⟩ := DH.front hD1
 have h7 : HA z2 ([] ++ X3) w1 := h6
 refine zwv (.pointer (some ⟨d.q, 0, none⟩)) ?_
 refine wl_nil ?_
 refine then_at rfl ?_
 refine wp_seq ?_
 refine wl_region ?_
 refine zwv (.pointer (some ⟨d.q, 0, none⟩)) ?_
 refine wl_callx (by kernel_rfl) enter13 #[.pointer (some ⟨d.q, 0, none⟩)] (by kernel_rfl) (Open_d (hcl4 ([]) _ h7) (DG.new (by decide)) (by decide) (by decide) (by rw [lg_new]; decide) (opn_new 1048576 0).1) ?_
 rintro _ w8 ⟨sq, sr, rfl, hO⟩
 refine ⟨_, rfl, ?_⟩
 rw [k0_opn] at hO
 have hg0 : DG K0.D 1048576 4 := by have h9 := (DG.new (n := 1048576) (by decide)).opnS; rw [k0_opn] at h9; exact h9
 obtain ⟨S0, e0⟩ : ∃ X, X = K0 := ⟨_, rfl⟩
 have hO2 : SH w [] ⟨sq, sr, d⟩ S0 [] w8 := by rw [e0]; exact hO
 have hg0 : DG S0.D 1048576 4 := by rw [e0]; exact hg0
 obtain ⟨m9, X9, hc9, rs9, nx9, hrs9, hK9, hH9⟩ := SH.opn hO2
 have h10 : HA ⟨w, m9 :: (sr, .mp (eR rs9) nx9) :: []⟩ ((sq, 73, scell d.q sr ((laidR S0.rows)) S0.size) :: ([] ++ X9)) w8 := hH9
 refine zwv (.tuple #[.pointer (some ⟨sq, 0, none⟩), iN .i64 0]) ?_
 refine zwv (.pointer (some ⟨sq, 0, none⟩)) ?_
 refine zwv (iN .i64 0) ?_
 refine zwv (.pointer (some ⟨sq, 0, none⟩)) ?_
 refine zwv (iN .i64 0) ?_
 refine wl_nil ?_
 refine then_at rfl ?_
 refine wp_seq ?_
 refine wl_region ?_
 refine wl_mks (n := 65) (m := 65) (c := bc (zN 65)) h10 5 (by kernel_rfl) (run_mk (k := .i64) (m := 65) (c := 65) (by kernel_rfl) (by kernel_rfl) (Nat.le_refl _) (by decide)) ?_
 intro q11 w12 (h13 : HA ⟨w, m9 :: (sr, .mp (eR rs9) nx9) :: []⟩ ((q11, 5, bc (zN 65)) :: (sq, 73, scell d.q sr ((laidR S0.rows)) S0.size) :: ([] ++ X9)) w12)
 refine zwx (.string (zB 65)) (((run_textg (m := 65) (c := 65) (l := zN 65) (by kernel_rfl) (h13.get 0 rfl) (by rw [zN_len]; exact Nat.le_refl _)).trans (by rw [zcv (zN_len 65)]; rfl))) ?_
 refine zwv (.string (zB 65)) ?_
 refine wl_nil ?_
 refine then_at rfl ?_
 refine wp_seq ?_
 refine wl_region ?_
 refine zwv (.pointer (some ⟨sq, 0, none⟩)) ?_
 refine wl_call (v := rwv ⟨{ data := #[] }, bX⟩) h13 (by kernel_rfl) enter21 #[.string ({ data := #[] }), .string bX] (by kernel_rfl) (row_any _ _ w12) ?_
 intro w14 h15
 refine wl_mks (n := 1) (m := 1) (c := #[.string ({ data := #[] }), .string bX]) h15 64 (by kernel_rfl) (by kernel_rfl) ?_
 intro q16 w17 (h18 : HA ⟨w, m9 :: (sr, .mp (eR rs9) nx9) :: []⟩ ((q16, 64, #[.string ({ data := #[] }), .string bX]) :: (q11, 5, bc (zN 65)) :: (sq, 73, scell d.q sr ((laidR S0.rows)) S0.size) :: ([] ++ X9)) w17)
 refine wl_callx (by kernel_rfl) enter17 #[.pointer (some ⟨sq, 0, none⟩), .slice (some ⟨q16, 0, none⟩) 1 1, .slice none 0 0] (by kernel_rfl) (by have h9 := Do_any (hc9 _ _ ((q16, 64, #[.string ({ data := #[] }), .string bX]) :: (q11, 5, bc (zN 65)) :: []) _ ⟨_, _, hrs9, hK9, (HA.perm h18 (List.perm_middle (l₁ := ([(q16, 64, #[.string ({ data := #[] }), .string bX]), (q11, 5, bc (zN 65))] : BL))))⟩) hg0 (by decide) (by rw [e0]; exact rb0 : RB S0.rows 100) (by decide) (by decide) (po := (some ⟨q16, 0, none⟩)) (pc := 1) (do_ := none) (dc := 0) (ps := [⟨{ data := #[] }, bX⟩]) (ds := []) (PV.blk (ps := [⟨{ data := #[] }, bX⟩]) (List.mem_of_getElem? (i := 0) rfl)) (DV.nil none) (by decide) (by decide) (by show S0.size ≤ 1000000000000; rw [e0]; exact (by decide)); rw [do_no r_a (by decide)] at h9; exact h9) ?_
 rintro _ w19 ⟨rfl, hP0⟩
 refine ⟨_, rfl, ?_⟩
 obtain ⟨m20, X20, hc20, rs20, nx20, hrs20, hK20, hH20⟩ := SH.opn hP0
 have h21 : HA ⟨w, m20 :: (sr, .mp (eR rs20) nx20) :: []⟩ ((sq, 73, scell d.q sr ((laidR S0.rows)) S0.size) :: (q16, 64, #[.string ({ data := #[] }), .string bX]) :: (q11, 5, bc (zN 65)) :: ([] ++ X20)) w19 := hH20
 refine zwv (iN .i64 2) ?_
 refine wl_nil ?_
 refine then_at rfl ?_
 refine wp_seq ?_
 refine wl_region ?_
 refine zwv (.pointer (some ⟨sq, 0, none⟩)) ?_
 refine zwv (.string (zB 65)) ?_
 refine wl_call (v := rwv ⟨zB 65, bX⟩) h21 (by kernel_rfl) enter21 #[.string (zB 65), .string bX] (by kernel_rfl) (row_any _ _ w19) ?_
 intro w22 h23
 refine wl_mks (n := 1) (m := 1) (c := #[.string (zB 65), .string bX]) h23 64 (by kernel_rfl) (by kernel_rfl) ?_
 intro q24 w25 (h26 : HA ⟨w, m20 :: (sr, .mp (eR rs20) nx20) :: []⟩ ((q24, 64, #[.string (zB 65), .string bX]) :: (sq, 73, scell d.q sr ((laidR S0.rows)) S0.size) :: (q16, 64, #[.string ({ data := #[] }), .string bX]) :: (q11, 5, bc (zN 65)) :: ([] ++ X20)) w25)
 refine wl_callx (by kernel_rfl) enter17 #[.pointer (some ⟨sq, 0, none⟩), .slice (some ⟨q24, 0, none⟩) 1 1, .slice none 0 0] (by kernel_rfl) (by have h9 := Do_any (hc20 _ _ ((q24, 64, #[.string (zB 65), .string bX]) :: (q16, 64, #[.string ({ data := #[] }), .string bX]) :: (q11, 5, bc (zN 65)) :: []) _ ⟨_, _, hrs20, hK20, (HA.perm h26 (List.perm_middle (l₁ := ([(q24, 64, #[.string (zB 65), .string bX])] : BL))))⟩) hg0 (by decide) (by rw [e0]; exact rb0 : RB S0.rows 100) (by decide) (by decide) (po := (some ⟨q24, 0, none⟩)) (pc := 1) (do_ := none) (dc := 0) (ps := [⟨zB 65, bX⟩]) (ds := []) (PV.blk (ps := [⟨zB 65, bX⟩]) (List.mem_of_getElem? (i := 0) rfl)) (DV.nil none) (by show 1 ≤ 1000000000; decide) (by decide) (by show S0.size ≤ 1000000000000; rw [e0]; exact (by decide)); rw [do_no r_b (by decide)] at h9; exact h9) ?_
 rintro _ w27 ⟨rfl, hP1⟩
 refine ⟨_, rfl, ?_⟩
 obtain ⟨m28, X28, hc28, rs28, nx28, hrs28, hK28, hH28⟩ := SH.opn hP1
 have h29 : HA ⟨w, m28 :: (sr, .mp (eR rs28) nx28) :: []⟩ ((sq, 73, scell d.q sr ((laidR S0.rows)) S0.size) :: (q24, 64, #[.string (zB 65), .string bX]) :: (q16, 64, #[.string ({ data := #[] }), .string bX]) :: (q11, 5, bc (zN 65)) :: ([] ++ X28)) w27 := hH28
 refine zwv (iN .i64 3) ?_
 refine wl_nil ?_
 refine then_at rfl ?_
 refine wp_seq ?_
 refine wl_region ?_
 refine zwv (.pointer (some ⟨sq, 0, none⟩)) ?_
 refine wl_callx (by kernel_rfl) enter17 #[.pointer (some ⟨sq, 0, none⟩), .slice none 0 0, .slice none 0 0] (by kernel_rfl) (by have h9 := Do_any (hc28 _ _ ((q24, 64, #[.string (zB 65), .string bX]) :: (q16, 64, #[.string ({ data := #[] }), .string bX]) :: (q11, 5, bc (zN 65)) :: []) _ ⟨_, _, hrs28, hK28, h29⟩) hg0 (by decide) (by rw [e0]; exact rb0 : RB S0.rows 100) (by decide) (by decide) (po := none) (pc := 0) (do_ := none) (dc := 0) (ps := []) (ds := []) (PV.nil none) (DV.nil none) (by decide) (by decide) (by show S0.size ≤ 1000000000000; rw [e0]; exact (by decide)); rw [do_none] at h9; exact h9) ?_
 rintro _ w30 ⟨rfl, hP2⟩
 refine ⟨_, rfl, ?_⟩
 obtain ⟨m31, X31, hc31, rs31, nx31, hrs31, hK31, hH31⟩ := SH.opn hP2
 have h32 : HA ⟨w, m31 :: (sr, .mp (eR rs31) nx31) :: []⟩ ((sq, 73, scell d.q sr ((laidR S0.rows)) S0.size) :: (q24, 64, #[.string (zB 65), .string bX]) :: (q16, 64, #[.string ({ data := #[] }), .string bX]) :: (q11, 5, bc (zN 65)) :: ([] ++ X31)) w30 := hH31
 refine zwv (iN .i64 0) ?_
 refine wl_nil ?_
 refine then_at rfl ?_
 refine wp_seq ?_
 refine wl_region ?_
 refine zwv (.pointer (some ⟨sq, 0, none⟩)) ?_
 refine wl_mks (n := 1) (m := 1) (c := #[.string ({ data := #[] })]) h32 9 (by kernel_rfl) (by kernel_rfl) ?_
 intro q33 w34 (h35 : HA ⟨w, m31 :: (sr, .mp (eR rs31) nx31) :: []⟩ ((q33, 9, #[.string ({ data := #[] })]) :: (sq, 73, scell d.q sr ((laidR S0.rows)) S0.size) :: (q24, 64, #[.string (zB 65), .string bX]) :: (q16, 64, #[.string ({ data := #[] }), .string bX]) :: (q11, 5, bc (zN 65)) :: ([] ++ X31)) w34)
 refine wl_callx (by kernel_rfl) enter17 #[.pointer (some ⟨sq, 0, none⟩), .slice none 0 0, .slice (some ⟨q33, 0, none⟩) 1 1] (by kernel_rfl) (by have h9 := Do_any (hc31 _ _ ((q33, 9, #[.string ({ data := #[] })]) :: (q24, 64, #[.string (zB 65), .string bX]) :: (q16, 64, #[.string ({ data := #[] }), .string bX]) :: (q11, 5, bc (zN 65)) :: []) _ ⟨_, _, hrs31, hK31, (HA.perm h35 (List.perm_middle (l₁ := ([(q33, 9, #[.string ({ data := #[] })])] : BL))))⟩) hg0 (by decide) (by rw [e0]; exact rb0 : RB S0.rows 100) (by decide) (by decide) (po := none) (pc := 0) (do_ := (some ⟨q33, 0, none⟩)) (dc := 1) (ps := []) (ds := [{ data := #[] }]) (PV.nil none) (DV.blk (ds := [{ data := #[] }]) (List.mem_of_getElem? (i := 0) rfl)) (by decide) (by decide) (by show S0.size ≤ 1000000000000; rw [e0]; exact (by decide)); rw [do_no r_e (by decide)] at h9; exact h9) ?_
 rintro _ w36 ⟨rfl, hP3⟩
 refine ⟨_, rfl, ?_⟩
 obtain ⟨m37, X37, hc37, rs37, nx37, hrs37, hK37, hH37⟩ := SH.opn hP3
 have h38 : HA ⟨w, m37 :: (sr, .mp (eR rs37) nx37) :: []⟩ ((sq, 73, scell d.q sr ((laidR S0.rows)) S0.size) :: (q33, 9, #[.string ({ data := #[] })]) :: (q24, 64, #[.string (zB 65), .string bX]) :: (q16, 64, #[.string ({ data := #[] }), .string bX]) :: (q11, 5, bc (zN 65)) :: ([] ++ X37)) w36 := hH37
 refine zwv (iN .i64 2) ?_
 refine wl_nil ?_
 refine then_at rfl ?_
 refine wp_seq ?_
 refine wl_region ?_
 refine zwv (.pointer (some ⟨sq, 0, none⟩)) ?_
 refine zwv (.string (zB 65)) ?_
 refine wl_mks (n := 1) (m := 1) (c := #[.string (zB 65)]) h38 9 (by kernel_rfl) (by kernel_rfl) ?_
 intro q39 w40 (h41 : HA ⟨w, m37 :: (sr, .mp (eR rs37) nx37) :: []⟩ ((q39, 9, #[.string (zB 65)]) :: (sq, 73, scell d.q sr ((laidR S0.rows)) S0.size) :: (q33, 9, #[.string ({ data := #[] })]) :: (q24, 64, #[.string (zB 65), .string bX]) :: (q16, 64, #[.string ({ data := #[] }), .string bX]) :: (q11, 5, bc (zN 65)) :: ([] ++ X37)) w40)
 refine wl_callx (by kernel_rfl) enter17 #[.pointer (some ⟨sq, 0, none⟩), .slice none 0 0, .slice (some ⟨q39, 0, none⟩) 1 1] (by kernel_rfl) (by have h9 := Do_any (hc37 _ _ ((q39, 9, #[.string (zB 65)]) :: (q33, 9, #[.string ({ data := #[] })]) :: (q24, 64, #[.string (zB 65), .string bX]) :: (q16, 64, #[.string ({ data := #[] }), .string bX]) :: (q11, 5, bc (zN 65)) :: []) _ ⟨_, _, hrs37, hK37, (HA.perm h41 (List.perm_middle (l₁ := ([(q39, 9, #[.string (zB 65)])] : BL))))⟩) hg0 (by decide) (by rw [e0]; exact rb0 : RB S0.rows 100) (by decide) (by decide) (po := none) (pc := 0) (do_ := (some ⟨q39, 0, none⟩)) (dc := 1) (ps := []) (ds := [zB 65]) (PV.nil none) (DV.blk (ds := [zB 65]) (List.mem_of_getElem? (i := 0) rfl)) (by decide) (by show 1 ≤ 1000000000; decide) (by show S0.size ≤ 1000000000000; rw [e0]; exact (by decide)); rw [do_no r_f (by decide)] at h9; exact h9) ?_
 rintro _ w42 ⟨rfl, hP4⟩
 refine ⟨_, rfl, ?_⟩
 obtain ⟨m43, X43, hc43, rs43, nx43, hrs43, hK43, hH43⟩ := SH.opn hP4
 have h44 : HA ⟨w, m43 :: (sr, .mp (eR rs43) nx43) :: []⟩ ((sq, 73, scell d.q sr ((laidR S0.rows)) S0.size) :: (q39, 9, #[.string (zB 65)]) :: (q33, 9, #[.string ({ data := #[] })]) :: (q24, 64, #[.string (zB 65), .string bX]) :: (q16, 64, #[.string ({ data := #[] }), .string bX]) :: (q11, 5, bc (zN 65)) :: ([] ++ X43)) w42 := hH43
 refine zwv (iN .i64 3) ?_
 refine wl_nil ?_
 refine then_at rfl ?_
 refine wp_seq ?_
 refine wl_region ?_
 refine zwv (.pointer (some ⟨sq, 0, none⟩)) ?_
 refine wl_mks (n := 262145) (m := 262145) (c := bc (zN 262145)) h44 5 (by kernel_rfl) (run_mk (k := .i64) (m := 262145) (c := 262145) (by kernel_rfl) (by kernel_rfl) (Nat.le_refl _) (by decide)) ?_
 intro q45 w46 (h47 : HA ⟨w, m43 :: (sr, .mp (eR rs43) nx43) :: []⟩ ((q45, 5, bc (zN 262145)) :: (sq, 73, scell d.q sr ((laidR S0.rows)) S0.size) :: (q39, 9, #[.string (zB 65)]) :: (q33, 9, #[.string ({ data := #[] })]) :: (q24, 64, #[.string (zB 65), .string bX]) :: (q16, 64, #[.string ({ data := #[] }), .string bX]) :: (q11, 5, bc (zN 65)) :: ([] ++ X43)) w46)
 refine zwx (.string (zB 262145)) (((run_textg (m := 262145) (c := 262145) (l := zN 262145) (by kernel_rfl) (h47.get 0 rfl) (by rw [zN_len]; exact Nat.le_refl _)).trans (by rw [zcv (zN_len 262145)]; rfl))) ?_
 refine wl_call (v := rwv ⟨bK, zB 262145⟩) h47 (by kernel_rfl) enter21 #[.string bK, .string (zB 262145)] (by kernel_rfl) (row_any _ _ w46) ?_
 intro w48 h49
 refine wl_mks (n := 1) (m := 1) (c := #[.string bK, .string (zB 262145)]) h49 64 (by kernel_rfl) (by kernel_rfl) ?_
 intro q50 w51 (h52 : HA ⟨w, m43 :: (sr, .mp (eR rs43) nx43) :: []⟩ ((q50, 64, #[.string bK, .string (zB 262145)]) :: (q45, 5, bc (zN 262145)) :: (sq, 73, scell d.q sr ((laidR S0.rows)) S0.size) :: (q39, 9, #[.string (zB 65)]) :: (q33, 9, #[.string ({ data := #[] })]) :: (q24, 64, #[.string (zB 65), .string bX]) :: (q16, 64, #[.string ({ data := #[] }), .string bX]) :: (q11, 5, bc (zN 65)) :: ([] ++ X43)) w51)
 refine wl_callx (by kernel_rfl) enter17 #[.pointer (some ⟨sq, 0, none⟩), .slice (some ⟨q50, 0, none⟩) 1 1, .slice none 0 0] (by kernel_rfl) (by have h9 := Do_any (hc43 _ _ ((q50, 64, #[.string bK, .string (zB 262145)]) :: (q45, 5, bc (zN 262145)) :: (q39, 9, #[.string (zB 65)]) :: (q33, 9, #[.string ({ data := #[] })]) :: (q24, 64, #[.string (zB 65), .string bX]) :: (q16, 64, #[.string ({ data := #[] }), .string bX]) :: (q11, 5, bc (zN 65)) :: []) _ ⟨_, _, hrs43, hK43, (HA.perm h52 (List.perm_middle (l₁ := ([(q50, 64, #[.string bK, .string (zB 262145)]), (q45, 5, bc (zN 262145))] : BL))))⟩) hg0 (by decide) (by rw [e0]; exact rb0 : RB S0.rows 100) (by decide) (by decide) (po := (some ⟨q50, 0, none⟩)) (pc := 1) (do_ := none) (dc := 0) (ps := [⟨bK, zB 262145⟩]) (ds := []) (PV.blk (ps := [⟨bK, zB 262145⟩]) (List.mem_of_getElem? (i := 0) rfl)) (DV.nil none) (by show 1 ≤ 1000000000; decide) (by decide) (by show S0.size ≤ 1000000000000; rw [e0]; exact (by decide)); rw [do_no r_g (by decide)] at h9; exact h9) ?_
 rintro _ w53 ⟨rfl, hP5⟩
 refine ⟨_, rfl, ?_⟩
 obtain ⟨m54, X54, hc54, rs54, nx54, hrs54, hK54, hH54⟩ := SH.opn hP5
 have h55 : HA ⟨w, m54 :: (sr, .mp (eR rs54) nx54) :: []⟩ ((sq, 73, scell d.q sr ((laidR S0.rows)) S0.size) :: (q50, 64, #[.string bK, .string (zB 262145)]) :: (q45, 5, bc (zN 262145)) :: (q39, 9, #[.string (zB 65)]) :: (q33, 9, #[.string ({ data := #[] })]) :: (q24, 64, #[.string (zB 65), .string bX]) :: (q16, 64, #[.string ({ data := #[] }), .string bX]) :: (q11, 5, bc (zN 65)) :: ([] ++ X54)) w53 := hH54
 refine zwv (iN .i64 3) ?_
 refine wl_nil ?_
 refine then_at rfl ?_
 refine wp_seq ?_
 refine wl_region ?_
 refine zwv (.pointer (some ⟨sq, 0, none⟩)) ?_
 refine wl_mks (n := 65) (m := 65) (c := (rcl rzs).toArray) h55 64 (by kernel_rfl) (by kernel_rfl) ?_
 intro q56 w57 (h58 : HA ⟨w, m54 :: (sr, .mp (eR rs54) nx54) :: []⟩ ((q56, 64, (rcl rzs).toArray) :: (sq, 73, scell d.q sr ((laidR S0.rows)) S0.size) :: (q50, 64, #[.string bK, .string (zB 262145)]) :: (q45, 5, bc (zN 262145)) :: (q39, 9, #[.string (zB 65)]) :: (q33, 9, #[.string ({ data := #[] })]) :: (q24, 64, #[.string (zB 65), .string bX]) :: (q16, 64, #[.string ({ data := #[] }), .string bX]) :: (q11, 5, bc (zN 65)) :: ([] ++ X54)) w57)
 refine wl_callx (by kernel_rfl) enter17 #[.pointer (some ⟨sq, 0, none⟩), .slice (some ⟨q56, 0, none⟩) 65 65, .slice none 0 0] (by kernel_rfl) (by have h9 := Do_any (hc54 _ _ ((q56, 64, (rcl rzs).toArray) :: (q50, 64, #[.string bK, .string (zB 262145)]) :: (q45, 5, bc (zN 262145)) :: (q39, 9, #[.string (zB 65)]) :: (q33, 9, #[.string ({ data := #[] })]) :: (q24, 64, #[.string (zB 65), .string bX]) :: (q16, 64, #[.string ({ data := #[] }), .string bX]) :: (q11, 5, bc (zN 65)) :: []) _ ⟨_, _, hrs54, hK54, (HA.perm h58 (List.perm_middle (l₁ := ([(q56, 64, (rcl rzs).toArray)] : BL))))⟩) hg0 (by decide) (by rw [e0]; exact rb0 : RB S0.rows 100) (by decide) (by decide) (po := (some ⟨q56, 0, none⟩)) (pc := 65) (do_ := none) (dc := 0) (ps := rzs) (ds := []) (PV.blk (ps := rzs) (List.mem_of_getElem? (i := 0) rfl)) (DV.nil none) (by decide) (by decide) (by show S0.size ≤ 1000000000000; rw [e0]; exact (by decide)); rw [do_no r_h (by decide)] at h9; exact h9) ?_
 rintro _ w59 ⟨rfl, hP6⟩
 refine ⟨_, rfl, ?_⟩
 obtain ⟨m60, X60, hc60, rs60, nx60, hrs60, hK60, hH60⟩ := SH.opn hP6
 have h61 : HA ⟨w, m60 :: (sr, .mp (eR rs60) nx60) :: []⟩ ((sq, 73, scell d.q sr ((laidR S0.rows)) S0.size) :: (q56, 64, (rcl rzs).toArray) :: (q50, 64, #[.string bK, .string (zB 262145)]) :: (q45, 5, bc (zN 262145)) :: (q39, 9, #[.string (zB 65)]) :: (q33, 9, #[.string ({ data := #[] })]) :: (q24, 64, #[.string (zB 65), .string bX]) :: (q16, 64, #[.string ({ data := #[] }), .string bX]) :: (q11, 5, bc (zN 65)) :: ([] ++ X60)) w59 := hH60
 refine zwv (iN .i64 2) ?_
 refine wl_nil ?_
 refine then_at rfl ?_
 refine wp_seq ?_
 refine wl_region ?_
 refine zwv (.slice none 0 0) ?_
 refine wl_nil ?_
 refine then_at rfl ?_
 refine wp_seq ?_
 refine wp_seq ?_
 refine wl_region ?_
 refine zwv (iN .i64 0) ?_
 refine wl_nil ?_
 refine then_at rfl ?_
 refine wp_block ?_
 refine wp_count (fun k A w' => ∃ u62 : Nat → Value, A = ⟨(.bool false :: pt d.q :: pt sq :: iN .i64 0 :: .string (zB 65) :: iN .i64 2 :: iN .i64 3 :: iN .i64 0 :: iN .i64 2 :: iN .i64 3 :: iN .i64 3 :: iN .i64 2 :: u62 12 :: iN .i64 k :: un :: un :: un :: un :: un :: un :: un :: un :: un :: un :: un :: un :: un :: un :: un :: pt d.q :: .tuple #[pt sq, iN .i64 0] :: pt d.q :: .tuple #[pt sq, iN .i64 0] :: pt sq :: iN .i64 0 :: .slice (some ⟨q11, 0, none⟩) 65 65 :: .string (zB 65) :: pt sq :: rwv ⟨{ data := #[] }, bX⟩ :: .slice (some ⟨q16, 0, none⟩) 1 1 :: iN .i64 2 :: pt sq :: .string (zB 65) :: rwv ⟨zB 65, bX⟩ :: .slice (some ⟨q24, 0, none⟩) 1 1 :: iN .i64 3 :: pt sq :: iN .i64 0 :: pt sq :: .slice (some ⟨q33, 0, none⟩) 1 1 :: iN .i64 2 :: pt sq :: .string (zB 65) :: .slice (some ⟨q39, 0, none⟩) 1 1 :: iN .i64 3 :: pt sq :: .slice (some ⟨q45, 0, none⟩) 262145 262145 :: .string (zB 262145) :: rwv ⟨bK, zB 262145⟩ :: .slice (some ⟨q50, 0, none⟩) 1 1 :: iN .i64 3 :: pt sq :: .slice (some ⟨q56, 0, none⟩) 65 65 :: iN .i64 2 :: u62 64 :: u62 65 :: u62 66 :: u62 67 :: u62 68 :: u62 69 :: u62 70 :: u62 71 :: List.replicate 148 un).toArray, []⟩ ∧ ∃ vm Lm, Row 64 2 vm k (rcl (kvs k)) Lm ∧ u62 12 = vm ∧ HA ⟨w, m60 :: (sr, .mp (eR rs60) nx60) :: []⟩ ([(sq, 73, scell d.q sr ((laidR S0.rows)) S0.size), (q56, 64, (rcl rzs).toArray), (q50, 64, #[.string bK, .string (zB 262145)]), (q45, 5, bc (zN 262145)), (q39, 9, #[.string (zB 65)]), (q33, 9, #[.string ({ data := #[] })]), (q24, 64, #[.string (zB 65), .string bX]), (q16, 64, #[.string ({ data := #[] }), .string bX]), (q11, 5, bc (zN 65))] ++ (Lm ++ X60)) w') 65 ?_ ?_ ?_
 ·exact ⟨fun ii => (([(12, .slice none 0 0), (64, undef), (65, undef), (66, undef), (67, undef), (68, undef), (69, undef), (70, undef), (71, undef)] : List (Nat × Value)).find? (·.1 == ii)).elim undef (·.2), by kernel_rfl, _, [], Row.nil 64 2, rfl, h61⟩
 ·rintro k hk _ w63 ⟨u62, rfl, vm, Lm, hRm, rfl, hLm⟩
  refine wp_seq ?_
  refine wp_seq ?_
  refine wl_region ?_
  refine zwv (iN .i64 k) ?_
  refine zwx (.bool true) (run_lss (k := .i64) (a := k) (b := 65) (by kernel_rfl) (by kernel_rfl) true (decide_eq_true (by omega))) ?_
  refine wl_nil ?_
  refine then_at rfl ?_
  refine wp_cond_true (by kernel_rfl) ?_
  refine wp_skip ?_
  refine then_at rfl ?_
  refine wp_seq ?_
  refine wp_block ?_
  refine wl_region ?_
  refine zwv (u62 12) ?_
  refine wl_call (v := rwv ⟨bK, bV⟩) hLm (by kernel_rfl) enter21 #[.string bK, .string bV] (by kernel_rfl) (row_any _ _ w63) ?_
  intro w64 h65
  refine wl_mks (n := 1) (m := 1) (c := #[.string bK, .string bV]) h65 64 (by kernel_rfl) (by kernel_rfl) ?_
  intro q66 w67 (h68 : HA ⟨w, m60 :: (sr, .mp (eR rs60) nx60) :: []⟩ ((q66, 64, #[.string bK, .string bV]) :: (sq, 73, scell d.q sr ((laidR S0.rows)) S0.size) :: (q56, 64, (rcl rzs).toArray) :: (q50, 64, #[.string bK, .string (zB 262145)]) :: (q45, 5, bc (zN 262145)) :: (q39, 9, #[.string (zB 65)]) :: (q33, 9, #[.string ({ data := #[] })]) :: (q24, 64, #[.string (zB 65), .string bX]) :: (q16, 64, #[.string ({ data := #[] }), .string bX]) :: (q11, 5, bc (zN 65)) :: (Lm ++ X60)) w67)
  have h69 := h68.perm (List.Perm.cons _ (perm_mv [(sq, 73, scell d.q sr ((laidR S0.rows)) S0.size), (q56, 64, (rcl rzs).toArray), (q50, 64, #[.string bK, .string (zB 262145)]), (q45, 5, bc (zN 262145)), (q39, 9, #[.string (zB 65)]), (q33, 9, #[.string ({ data := #[] })]), (q24, 64, #[.string (zB 65), .string bX]), (q16, 64, #[.string ({ data := #[] }), .string bX]), (q11, 5, bc (zN 65))] Lm X60))
  refine wl_append (Lr := Lm) (L := [(sq, 73, scell d.q sr ((laidR S0.rows)) S0.size), (q56, 64, (rcl rzs).toArray), (q50, 64, #[.string bK, .string (zB 262145)]), (q45, 5, bc (zN 262145)), (q39, 9, #[.string (zB 65)]), (q33, 9, #[.string ({ data := #[] })]), (q24, 64, #[.string (zB 65), .string bX]), (q16, 64, #[.string ({ data := #[] }), .string bX]), (q11, 5, bc (zN 65))] ++ X60) (m := 1) (c := 1) hRm h69 (by decide) (.agg #[.string { data := #[] }, .string { data := #[] }]) 32 Tryz.underlying30 info64 rfl (by decide) (by kernel_rfl) (by kernel_rfl) (by kernel_rfl) rfl (by kernel_rfl) (by unfold maxLen; omega) (by omega) (by decide) ?_
  intro v3 w70 L3 hR3 h71
  have h72 : HA ⟨w, m60 :: (sr, .mp (eR rs60) nx60) :: []⟩ ((sq, 73, scell d.q sr ((laidR S0.rows)) S0.size) :: (q56, 64, (rcl rzs).toArray) :: (q50, 64, #[.string bK, .string (zB 262145)]) :: (q45, 5, bc (zN 262145)) :: (q39, 9, #[.string (zB 65)]) :: (q33, 9, #[.string ({ data := #[] })]) :: (q24, 64, #[.string (zB 65), .string bX]) :: (q16, 64, #[.string ({ data := #[] }), .string bX]) :: (q11, 5, bc (zN 65)) :: (L3 ++ X60)) w70 := h71.perm (perm_mv [(sq, 73, scell d.q sr ((laidR S0.rows)) S0.size), (q56, 64, (rcl rzs).toArray), (q50, 64, #[.string bK, .string (zB 262145)]), (q45, 5, bc (zN 262145)), (q39, 9, #[.string (zB 65)]), (q33, 9, #[.string ({ data := #[] })]), (q24, 64, #[.string (zB 65), .string bX]), (q16, 64, #[.string ({ data := #[] }), .string bX]), (q11, 5, bc (zN 65))] L3 X60).symm
  refine zwv (v3) ?_
  refine wl_nil ?_
  refine block_normal ?_
  refine then_at rfl ?_
  refine wl_region ?_
  refine zwv (iN .i64 k) ?_
  refine zwx (iN .i64 (k + 1)) (run_add (k := .i64) (a := k) (b := 1) (by kernel_rfl) (by kernel_rfl) (by first | omega | (simp only [top]; omega))) ?_
  refine zwv (iN .i64 (k + 1)) ?_
  refine wl_nil ?_
  exact then_I ⟨fun ii => (([(12, v3), (64, iN .i64 k), (65, .bool true), (66, iN .i64 k), (67, iN .i64 (k + 1)), (68, u62 12), (69, rwv ⟨bK, bV⟩), (70, .slice (some ⟨q66, 0, none⟩) 1 1), (71, v3)] : List (Nat × Value)).find? (·.1 == ii)).elim undef (·.2), by kernel_rfl, _, L3, (by have h9 := hR3; rw [kvs_succ, rcl_snoc]; exact h9), rfl, h72⟩
 ·rintro _ w73 ⟨u62, rfl, vm, Lm, hRm, rfl, hLm⟩
  refine wp_seq ?_
  refine wp_seq ?_
  refine wl_region ?_
  refine zwv (iN .i64 65) ?_
  refine zwx (.bool false) (run_lss (k := .i64) (a := 65) (b := 65) (by kernel_rfl) (by kernel_rfl) false (by decide)) ?_
  refine wl_nil ?_
  refine then_at rfl ?_
  refine wp_cond_false (by kernel_rfl) ?_
  refine wp_exit ?_
  repeat first | refine then_exit ?_ | refine block_exit ?_ | refine block_exit_ne (by decide) ?_
  refine then_at rfl ?_
  refine wp_seq ?_
  obtain ⟨om, cm, hvm⟩ := hRm.form
  rw [hvm] at hRm ⊢
  have hcm := kv_cap hRm
  refine wl_region ?_
  refine zwv (.pointer (some ⟨sq, 0, none⟩)) ?_
  refine zwv (.slice om 65 cm) ?_
  refine wl_callx (by kernel_rfl) enter17 #[.pointer (some ⟨sq, 0, none⟩), .slice om 65 cm, .slice none 0 0] (by kernel_rfl) (by have h9 := Do_any (hc60 _ _ ((q56, 64, (rcl rzs).toArray) :: (q50, 64, #[.string bK, .string (zB 262145)]) :: (q45, 5, bc (zN 262145)) :: (q39, 9, #[.string (zB 65)]) :: (q33, 9, #[.string ({ data := #[] })]) :: (q24, 64, #[.string (zB 65), .string bX]) :: (q16, 64, #[.string ({ data := #[] }), .string bX]) :: (q11, 5, bc (zN 65)) :: Lm) _ ⟨_, _, hrs60, hK60, hLm⟩) hg0 (by decide) (by rw [e0]; exact rb0 : RB S0.rows 100) (by decide) (by decide) (po := om) (pc := cm) (do_ := none) (dc := 0) (ps := kvs 65) (ds := []) (kv_pv hRm (fun y hy => List.mem_cons_of_mem _ (List.mem_cons_of_mem _ (List.mem_cons_of_mem _ (List.mem_cons_of_mem _ (List.mem_cons_of_mem _ (List.mem_cons_of_mem _ (List.mem_cons_of_mem _ (List.mem_cons_of_mem _ (hy)))))))))) (DV.nil none) (by rw [kvs_len]; decide) (by decide) (by show S0.size ≤ 1000000000000; rw [e0]; exact (by decide)); rw [do_no r_i (by decide)] at h9; exact h9) ?_
  rintro _ w74 ⟨rfl, hP7⟩
  refine ⟨_, rfl, ?_⟩
  obtain ⟨m75, X75, hc75, rs75, nx75, hrs75, hK75, hH75⟩ := SH.opn hP7
  have h76 : HA ⟨w, m75 :: (sr, .mp (eR rs75) nx75) :: []⟩ ((sq, 73, scell d.q sr ((laidR S0.rows)) S0.size) :: (q56, 64, (rcl rzs).toArray) :: (q50, 64, #[.string bK, .string (zB 262145)]) :: (q45, 5, bc (zN 262145)) :: (q39, 9, #[.string (zB 65)]) :: (q33, 9, #[.string ({ data := #[] })]) :: (q24, 64, #[.string (zB 65), .string bX]) :: (q16, 64, #[.string ({ data := #[] }), .string bX]) :: (q11, 5, bc (zN 65)) :: (Lm ++ X75)) w74 := hH75
  refine zwv (iN .i64 3) ?_
  refine wl_nil ?_
  refine then_at rfl ?_
  refine wp_seq ?_
  refine wl_region ?_
  refine zwv (.pointer (some ⟨sq, 0, none⟩)) ?_
  refine zwv (.slice om 65 cm) ?_
  refine zwx (.slice om 64 cm) (run_sl30 (a := om) (n := 65) (cap := cm) (m := 64) (by kernel_rfl) (by kernel_rfl) (by omega)) ?_
  refine wl_callx (by kernel_rfl) enter17 #[.pointer (some ⟨sq, 0, none⟩), .slice om 64 cm, .slice none 0 0] (by kernel_rfl) (by have h9 := Do_any (hc75 _ _ ((q56, 64, (rcl rzs).toArray) :: (q50, 64, #[.string bK, .string (zB 262145)]) :: (q45, 5, bc (zN 262145)) :: (q39, 9, #[.string (zB 65)]) :: (q33, 9, #[.string ({ data := #[] })]) :: (q24, 64, #[.string (zB 65), .string bX]) :: (q16, 64, #[.string ({ data := #[] }), .string bX]) :: (q11, 5, bc (zN 65)) :: Lm) _ ⟨_, _, hrs75, hK75, h76⟩) hg0 (by decide) (by rw [e0]; exact rb0 : RB S0.rows 100) (by decide) (by decide) (po := om) (pc := cm) (do_ := none) (dc := 0) (ps := kvs 64) (ds := []) (kv_pv4 hRm (fun y hy => List.mem_cons_of_mem _ (List.mem_cons_of_mem _ (List.mem_cons_of_mem _ (List.mem_cons_of_mem _ (List.mem_cons_of_mem _ (List.mem_cons_of_mem _ (List.mem_cons_of_mem _ (List.mem_cons_of_mem _ (hy)))))))))) (DV.nil none) (by rw [kvs_len]; decide) (by decide) (by show S0.size ≤ 1000000000000; rw [e0]; exact (by decide)); rw [e0, k1_do] at h9; exact h9) ?_
  rintro _ w77 ⟨rfl, hP8⟩
  refine ⟨_, rfl, ?_⟩
  have hg_8 := hg0.doS (kvs 64) []
  rw [e0, k1_do] at hg_8
  obtain ⟨S78, eS78⟩ : ∃ X, X = K1 := ⟨_, rfl⟩
  rw [← eS78] at hP8
  obtain ⟨m79, X79, hc79, rs79, nx79, hrs79, hK79, hH79⟩ := SH.opn hP8
  have h80 : HA ⟨w, m79 :: (sr, .mp (eR rs79) nx79) :: []⟩ ((sq, 73, scell d.q sr ((laidR S78.rows)) S78.size) :: (q56, 64, (rcl rzs).toArray) :: (q50, 64, #[.string bK, .string (zB 262145)]) :: (q45, 5, bc (zN 262145)) :: (q39, 9, #[.string (zB 65)]) :: (q33, 9, #[.string ({ data := #[] })]) :: (q24, 64, #[.string (zB 65), .string bX]) :: (q16, 64, #[.string ({ data := #[] }), .string bX]) :: (q11, 5, bc (zN 65)) :: (Lm ++ X79)) w77 := hH79
  rw [show (K1, 0).1 = K1 from rfl, ← eS78] at hg_8
  refine zwv (iN .i64 0) ?_
  refine wl_nil ?_
  refine then_at rfl ?_
  refine wp_seq ?_
  refine wl_region ?_
  refine zwv (.pointer (some ⟨sq, 0, none⟩)) ?_
  refine wl_mks (n := 1) (m := 1) (c := #[.string bK]) h80 9 (by kernel_rfl) (by kernel_rfl) ?_
  intro q81 w82 (h83 : HA ⟨w, m79 :: (sr, .mp (eR rs79) nx79) :: []⟩ ((q81, 9, #[.string bK]) :: (sq, 73, scell d.q sr ((laidR S78.rows)) S78.size) :: (q56, 64, (rcl rzs).toArray) :: (q50, 64, #[.string bK, .string (zB 262145)]) :: (q45, 5, bc (zN 262145)) :: (q39, 9, #[.string (zB 65)]) :: (q33, 9, #[.string ({ data := #[] })]) :: (q24, 64, #[.string (zB 65), .string bX]) :: (q16, 64, #[.string ({ data := #[] }), .string bX]) :: (q11, 5, bc (zN 65)) :: (Lm ++ X79)) w82)
  refine wl_callx (by kernel_rfl) enter17 #[.pointer (some ⟨sq, 0, none⟩), .slice none 0 0, .slice (some ⟨q81, 0, none⟩) 1 1] (by kernel_rfl) (by have h9 := Do_any (hc79 _ _ ((q81, 9, #[.string bK]) :: (q56, 64, (rcl rzs).toArray) :: (q50, 64, #[.string bK, .string (zB 262145)]) :: (q45, 5, bc (zN 262145)) :: (q39, 9, #[.string (zB 65)]) :: (q33, 9, #[.string ({ data := #[] })]) :: (q24, 64, #[.string (zB 65), .string bX]) :: (q16, 64, #[.string ({ data := #[] }), .string bX]) :: (q11, 5, bc (zN 65)) :: Lm) _ ⟨_, _, hrs79, hK79, (HA.perm h83 (List.perm_middle (l₁ := ([(q81, 9, #[.string bK])] : BL))))⟩) hg_8 (by decide) (by rw [eS78, k1_rw]; exact rb1 : RB S78.rows 100) (by decide) (by decide) (po := none) (pc := 0) (do_ := (some ⟨q81, 0, none⟩)) (dc := 1) (ps := []) (ds := [bK]) (PV.nil none) (DV.blk (ds := [bK]) (List.mem_of_getElem? (i := 0) rfl)) (by decide) (by decide) (by show S78.size ≤ 1000000000000; rw [eS78]; exact (by rw [k1_sz]; decide)); rw [eS78, k2_do] at h9; exact h9) ?_
  rintro _ w84 ⟨rfl, hP9⟩
  refine ⟨_, rfl, ?_⟩
  have hg_9 := hg_8.doS ([]) [bK]
  rw [eS78, k2_do] at hg_9
  obtain ⟨S85, eS85⟩ : ∃ X, X = K2 := ⟨_, rfl⟩
  rw [← eS85] at hP9
  obtain ⟨m86, X86, hc86, rs86, nx86, hrs86, hK86, hH86⟩ := SH.opn hP9
  have h87 : HA ⟨w, m86 :: (sr, .mp (eR rs86) nx86) :: []⟩ ((sq, 73, scell d.q sr ((laidR S85.rows)) S85.size) :: (q81, 9, #[.string bK]) :: (q56, 64, (rcl rzs).toArray) :: (q50, 64, #[.string bK, .string (zB 262145)]) :: (q45, 5, bc (zN 262145)) :: (q39, 9, #[.string (zB 65)]) :: (q33, 9, #[.string ({ data := #[] })]) :: (q24, 64, #[.string (zB 65), .string bX]) :: (q16, 64, #[.string ({ data := #[] }), .string bX]) :: (q11, 5, bc (zN 65)) :: (Lm ++ X86)) w84 := hH86
  rw [show (K2, 0).1 = K2 from rfl, ← eS85] at hg_9
  refine wl_nil ?_
  refine then_at rfl ?_
  refine wp_seq ?_
  refine wl_region ?_
  refine zwv (.pointer (some ⟨sq, 0, none⟩)) ?_
  refine wl_callx (by kernel_rfl) enter15 #[.pointer (some ⟨sq, 0, none⟩)] (by kernel_rfl) (by have h9 := Pack_any (hc86 _ _ ((q81, 9, #[.string bK]) :: (q56, 64, (rcl rzs).toArray) :: (q50, 64, #[.string bK, .string (zB 262145)]) :: (q45, 5, bc (zN 262145)) :: (q39, 9, #[.string (zB 65)]) :: (q33, 9, #[.string ({ data := #[] })]) :: (q24, 64, #[.string (zB 65), .string bX]) :: (q16, 64, #[.string ({ data := #[] }), .string bX]) :: (q11, 5, bc (zN 65)) :: Lm) _ ⟨_, _, hrs86, hK86, h87⟩) hg_9 (by decide) (by rw [eS85, k2_rw]; exact rb0 : RB S85.rows 100) (by decide) (by decide); rw [eS85, k3_pk] at h9; exact h9) ?_
  rintro _ w88 ⟨rfl, hPp⟩
  refine ⟨_, rfl, ?_⟩
  have hgp := hg_9.packS
  rw [eS85, k3_pk] at hgp
  obtain ⟨S89, eS89⟩ : ∃ X, X = K3 := ⟨_, rfl⟩
  rw [← eS89] at hPp
  obtain ⟨m90, X90, hc90, rs90, nx90, hrs90, hK90, hH90⟩ := SH.opn hPp
  have h91 : HA ⟨w, m90 :: (sr, .mp (eR rs90) nx90) :: []⟩ ((sq, 73, scell d.q sr ((laidR S89.rows)) S89.size) :: (q81, 9, #[.string bK]) :: (q56, 64, (rcl rzs).toArray) :: (q50, 64, #[.string bK, .string (zB 262145)]) :: (q45, 5, bc (zN 262145)) :: (q39, 9, #[.string (zB 65)]) :: (q33, 9, #[.string ({ data := #[] })]) :: (q24, 64, #[.string (zB 65), .string bX]) :: (q16, 64, #[.string ({ data := #[] }), .string bX]) :: (q11, 5, bc (zN 65)) :: (Lm ++ X90)) w88 := hH90
  rw [show (K3, 0).1 = K3 from rfl, ← eS89] at hgp
  refine zwv (iN .i64 0) ?_
  refine wl_nil ?_
  refine then_at rfl ?_
  refine wp_seq ?_
  refine wl_region ?_
  refine zwv (.pointer (some ⟨sq, 0, none⟩)) ?_
  refine wl_call (v := rwv ⟨{ data := #[97] }, { data := #[49] }⟩) h91 (by kernel_rfl) enter21 #[.string ({ data := #[97] }), .string ({ data := #[49] })] (by kernel_rfl) (row_any _ _ w88) ?_
  intro w92 h93
  refine wl_call (v := rwv ⟨{ data := #[98] }, { data := #[50] }⟩) h93 (by kernel_rfl) enter21 #[.string ({ data := #[98] }), .string ({ data := #[50] })] (by kernel_rfl) (row_any _ _ w92) ?_
  intro w94 h95
  refine wl_mks (n := 2) (m := 2) (c := #[.string ({ data := #[97] }), .string ({ data := #[49] }), .string ({ data := #[98] }), .string ({ data := #[50] })]) h95 64 (by kernel_rfl) (by kernel_rfl) ?_
  intro q96 w97 (h98 : HA ⟨w, m90 :: (sr, .mp (eR rs90) nx90) :: []⟩ ((q96, 64, #[.string ({ data := #[97] }), .string ({ data := #[49] }), .string ({ data := #[98] }), .string ({ data := #[50] })]) :: (sq, 73, scell d.q sr ((laidR S89.rows)) S89.size) :: (q81, 9, #[.string bK]) :: (q56, 64, (rcl rzs).toArray) :: (q50, 64, #[.string bK, .string (zB 262145)]) :: (q45, 5, bc (zN 262145)) :: (q39, 9, #[.string (zB 65)]) :: (q33, 9, #[.string ({ data := #[] })]) :: (q24, 64, #[.string (zB 65), .string bX]) :: (q16, 64, #[.string ({ data := #[] }), .string bX]) :: (q11, 5, bc (zN 65)) :: (Lm ++ X90)) w97)
  refine wl_callx (by kernel_rfl) enter17 #[.pointer (some ⟨sq, 0, none⟩), .slice (some ⟨q96, 0, none⟩) 2 2, .slice none 0 0] (by kernel_rfl) (by have h9 := Do_any (hc90 _ _ ((q96, 64, #[.string ({ data := #[97] }), .string ({ data := #[49] }), .string ({ data := #[98] }), .string ({ data := #[50] })]) :: (q81, 9, #[.string bK]) :: (q56, 64, (rcl rzs).toArray) :: (q50, 64, #[.string bK, .string (zB 262145)]) :: (q45, 5, bc (zN 262145)) :: (q39, 9, #[.string (zB 65)]) :: (q33, 9, #[.string ({ data := #[] })]) :: (q24, 64, #[.string (zB 65), .string bX]) :: (q16, 64, #[.string ({ data := #[] }), .string bX]) :: (q11, 5, bc (zN 65)) :: Lm) _ ⟨_, _, hrs90, hK90, (HA.perm h98 (List.perm_middle (l₁ := ([(q96, 64, #[.string ({ data := #[97] }), .string ({ data := #[49] }), .string ({ data := #[98] }), .string ({ data := #[50] })])] : BL))))⟩) hgp (by decide) (by rw [eS89, k3_rw]; exact rb0 : RB S89.rows 100) (by decide) (by decide) (po := (some ⟨q96, 0, none⟩)) (pc := 2) (do_ := none) (dc := 0) (ps := w2) (ds := []) (PV.blk (ps := w2) (List.mem_of_getElem? (i := 0) rfl)) (DV.nil none) (by decide) (by decide) (by show S89.size ≤ 1000000000000; rw [eS89]; exact (by rw [k3_sz]; decide)); rw [eS89, k4_do] at h9; exact h9) ?_
  rintro _ w99 ⟨rfl, hP10⟩
  refine ⟨_, rfl, ?_⟩
  have hg_10 := hgp.doS (w2) []
  rw [eS89, k4_do] at hg_10
  obtain ⟨S100, eS100⟩ : ∃ X, X = K4 := ⟨_, rfl⟩
  rw [← eS100] at hP10
  obtain ⟨m101, X101, hc101, rs101, nx101, hrs101, hK101, hH101⟩ := SH.opn hP10
  have h102 : HA ⟨w, m101 :: (sr, .mp (eR rs101) nx101) :: []⟩ ((sq, 73, scell d.q sr ((laidR S100.rows)) S100.size) :: (q96, 64, #[.string ({ data := #[97] }), .string ({ data := #[49] }), .string ({ data := #[98] }), .string ({ data := #[50] })]) :: (q81, 9, #[.string bK]) :: (q56, 64, (rcl rzs).toArray) :: (q50, 64, #[.string bK, .string (zB 262145)]) :: (q45, 5, bc (zN 262145)) :: (q39, 9, #[.string (zB 65)]) :: (q33, 9, #[.string ({ data := #[] })]) :: (q24, 64, #[.string (zB 65), .string bX]) :: (q16, 64, #[.string ({ data := #[] }), .string bX]) :: (q11, 5, bc (zN 65)) :: (Lm ++ X101)) w99 := hH101
  rw [show (K4, 0).1 = K4 from rfl, ← eS100] at hg_10
  refine wl_nil ?_
  refine then_at rfl ?_
  refine wp_seq ?_
  refine wl_region ?_
  refine zwv (.pointer (some ⟨d.q, 0, none⟩)) ?_
  refine wl_call (v := .tuple #[.string txt28, iN .i64 0]) h102 (by kernel_rfl) enter22 #[.pointer (some ⟨d.q, 0, none⟩), .string nS] (by kernel_rfl) (by have h9 := read_S (hc101 _ _ ((q96, 64, #[.string ({ data := #[97] }), .string ({ data := #[49] }), .string ({ data := #[98] }), .string ({ data := #[50] })]) :: (q81, 9, #[.string bK]) :: (q56, 64, (rcl rzs).toArray) :: (q50, 64, #[.string bK, .string (zB 262145)]) :: (q45, 5, bc (zN 262145)) :: (q39, 9, #[.string (zB 65)]) :: (q33, 9, #[.string ({ data := #[] })]) :: (q24, 64, #[.string (zB 65), .string bX]) :: (q16, 64, #[.string ({ data := #[] }), .string bX]) :: (q11, 5, bc (zN 65)) :: Lm) _ ⟨_, _, hrs101, hK101, h102⟩) nS; rw [eS100, k4_rd] at h9; exact h9) ?_
  intro w103 h104
  refine zwv (.tuple #[.string txt28, iN .i64 0]) ?_
  refine zwv (.string txt28) ?_
  refine zwv (iN .i64 0) ?_
  refine zwv (.string txt28) ?_
  refine zwv (iN .i64 0) ?_
  refine wl_nil ?_
  refine then_at rfl ?_
  refine wp_seq ?_
  refine wp_seq ?_
  refine wl_region ?_
  refine zwv (.string txt28) ?_
  refine zwx (.bool false) (run_nes (s := txt28) (t := { data := #[0, 0, 0, 24, 0, 2, 0, 0, 0, 1, 97, 0, 0, 0, 1, 49, 0, 0, 0, 1, 98, 0, 0, 0, 1, 50, 0, 0] }) (by kernel_rfl) (by kernel_rfl) false (decide_eq_true rfl)) ?_
  refine wl_nil ?_
  refine then_at rfl ?_
  refine wp_cond_false (by kernel_rfl) ?_
  refine wp_skip ?_
  refine then_at rfl ?_
  refine wp_seq ?_
  refine wl_region ?_
  refine zwv (.pointer (some ⟨d.q, 0, none⟩)) ?_
  refine wl_callx (by kernel_rfl) enter14 #[.pointer (some ⟨d.q, 0, none⟩), iN .i64 2] (by kernel_rfl) (by have h9 := arm_S (hc101 _ _ ((q96, 64, #[.string ({ data := #[97] }), .string ({ data := #[49] }), .string ({ data := #[98] }), .string ({ data := #[50] })]) :: (q81, 9, #[.string bK]) :: (q56, 64, (rcl rzs).toArray) :: (q50, 64, #[.string bK, .string (zB 262145)]) :: (q45, 5, bc (zN 262145)) :: (q39, 9, #[.string (zB 65)]) :: (q33, 9, #[.string ({ data := #[] })]) :: (q24, 64, #[.string (zB 65), .string bX]) :: (q16, 64, #[.string ({ data := #[] }), .string bX]) :: (q11, 5, bc (zN 65)) :: Lm) _ ⟨_, _, hrs101, hK101, h104⟩) 2; rw [eS100, k5_ok] at h9; exact (show Calls Tryz.prog 14 _ _ (fun e w' => e = .returned (iN .i64 0) ∧ SH w [] ⟨sq, sr, d⟩ K5 _ w') from h9)) ?_
  rintro _ w105 ⟨rfl, hAr⟩
  refine ⟨_, rfl, ?_⟩
  have hga := hg_10.arm (z := 2) (by decide)
  rw [eS100] at hga
  replace hga : DG K5.D _ _ := hga
  obtain ⟨S106, eS106⟩ : ∃ X, X = K5 := ⟨_, rfl⟩
  rw [← eS106] at hAr
  obtain ⟨m107, X107, hc107, rs107, nx107, hrs107, hK107, hH107⟩ := SH.opn hAr
  have h108 : HA ⟨w, m107 :: (sr, .mp (eR rs107) nx107) :: []⟩ ((sq, 73, scell d.q sr ((laidR S106.rows)) S106.size) :: (q96, 64, #[.string ({ data := #[97] }), .string ({ data := #[49] }), .string ({ data := #[98] }), .string ({ data := #[50] })]) :: (q81, 9, #[.string bK]) :: (q56, 64, (rcl rzs).toArray) :: (q50, 64, #[.string bK, .string (zB 262145)]) :: (q45, 5, bc (zN 262145)) :: (q39, 9, #[.string (zB 65)]) :: (q33, 9, #[.string ({ data := #[] })]) :: (q24, 64, #[.string (zB 65), .string bX]) :: (q16, 64, #[.string ({ data := #[] }), .string bX]) :: (q11, 5, bc (zN 65)) :: (Lm ++ X107)) w105 := hH107
  rw [← eS106] at hga
  refine wl_nil ?_
  refine then_at rfl ?_
  refine wp_seq ?_
  refine wl_region ?_
  refine zwv (.pointer (some ⟨sq, 0, none⟩)) ?_
  refine wl_call (v := rwv ⟨{ data := #[99] }, { data := #[51] }⟩) h108 (by kernel_rfl) enter21 #[.string ({ data := #[99] }), .string ({ data := #[51] })] (by kernel_rfl) (row_any _ _ w105) ?_
  intro w109 h110
  refine wl_mks (n := 1) (m := 1) (c := #[.string ({ data := #[99] }), .string ({ data := #[51] })]) h110 64 (by kernel_rfl) (by kernel_rfl) ?_
  intro q111 w112 (h113 : HA ⟨w, m107 :: (sr, .mp (eR rs107) nx107) :: []⟩ ((q111, 64, #[.string ({ data := #[99] }), .string ({ data := #[51] })]) :: (sq, 73, scell d.q sr ((laidR S106.rows)) S106.size) :: (q96, 64, #[.string ({ data := #[97] }), .string ({ data := #[49] }), .string ({ data := #[98] }), .string ({ data := #[50] })]) :: (q81, 9, #[.string bK]) :: (q56, 64, (rcl rzs).toArray) :: (q50, 64, #[.string bK, .string (zB 262145)]) :: (q45, 5, bc (zN 262145)) :: (q39, 9, #[.string (zB 65)]) :: (q33, 9, #[.string ({ data := #[] })]) :: (q24, 64, #[.string (zB 65), .string bX]) :: (q16, 64, #[.string ({ data := #[] }), .string bX]) :: (q11, 5, bc (zN 65)) :: (Lm ++ X107)) w112)
  refine wl_callx (by kernel_rfl) enter17 #[.pointer (some ⟨sq, 0, none⟩), .slice (some ⟨q111, 0, none⟩) 1 1, .slice none 0 0] (by kernel_rfl) (by have h9 := Do_any (hc107 _ _ ((q111, 64, #[.string ({ data := #[99] }), .string ({ data := #[51] })]) :: (q96, 64, #[.string ({ data := #[97] }), .string ({ data := #[49] }), .string ({ data := #[98] }), .string ({ data := #[50] })]) :: (q81, 9, #[.string bK]) :: (q56, 64, (rcl rzs).toArray) :: (q50, 64, #[.string bK, .string (zB 262145)]) :: (q45, 5, bc (zN 262145)) :: (q39, 9, #[.string (zB 65)]) :: (q33, 9, #[.string ({ data := #[] })]) :: (q24, 64, #[.string (zB 65), .string bX]) :: (q16, 64, #[.string ({ data := #[] }), .string bX]) :: (q11, 5, bc (zN 65)) :: Lm) _ ⟨_, _, hrs107, hK107, (HA.perm h113 (List.perm_middle (l₁ := ([(q111, 64, #[.string ({ data := #[99] }), .string ({ data := #[51] })])] : BL))))⟩) hga (by decide) (by rw [eS106, k5_rw]; exact rb2 : RB S106.rows 100) (by decide) (by decide) (po := (some ⟨q111, 0, none⟩)) (pc := 1) (do_ := none) (dc := 0) (ps := c3) (ds := []) (PV.blk (ps := c3) (List.mem_of_getElem? (i := 0) rfl)) (DV.nil none) (by decide) (by decide) (by show S106.size ≤ 1000000000000; rw [eS106]; exact (by rw [k5_sz]; decide)); rw [eS106, k6_do] at h9; exact h9) ?_
  rintro _ w114 ⟨rfl, hP11⟩
  refine ⟨_, rfl, ?_⟩
  have hg_11 := hga.doS (c3) []
  rw [eS106, k6_do] at hg_11
  obtain ⟨S115, eS115⟩ : ∃ X, X = K6 := ⟨_, rfl⟩
  rw [← eS115] at hP11
  obtain ⟨m116, X116, hc116, rs116, nx116, hrs116, hK116, hH116⟩ := SH.opn hP11
  have h117 : HA ⟨w, m116 :: (sr, .mp (eR rs116) nx116) :: []⟩ ((sq, 73, scell d.q sr ((laidR S115.rows)) S115.size) :: (q111, 64, #[.string ({ data := #[99] }), .string ({ data := #[51] })]) :: (q96, 64, #[.string ({ data := #[97] }), .string ({ data := #[49] }), .string ({ data := #[98] }), .string ({ data := #[50] })]) :: (q81, 9, #[.string bK]) :: (q56, 64, (rcl rzs).toArray) :: (q50, 64, #[.string bK, .string (zB 262145)]) :: (q45, 5, bc (zN 262145)) :: (q39, 9, #[.string (zB 65)]) :: (q33, 9, #[.string ({ data := #[] })]) :: (q24, 64, #[.string (zB 65), .string bX]) :: (q16, 64, #[.string ({ data := #[] }), .string bX]) :: (q11, 5, bc (zN 65)) :: (Lm ++ X116)) w114 := hH116
  rw [show (K6, 16).1 = K6 from rfl, ← eS115] at hg_11
  refine zwv (iN .i64 16) ?_
  refine wl_nil ?_
  refine then_at rfl ?_
  refine wp_seq ?_
  refine wl_region ?_
  refine zwv (.pointer (some ⟨d.q, 0, none⟩)) ?_
  refine wl_mks (n := 1) (m := 1) (c := #[iN .i64 7]) h117 3 (by kernel_rfl) (by kernel_rfl) ?_
  intro q118 w119 (h120 : HA ⟨w, m116 :: (sr, .mp (eR rs116) nx116) :: []⟩ ((q118, 3, #[iN .i64 7]) :: (sq, 73, scell d.q sr ((laidR S115.rows)) S115.size) :: (q111, 64, #[.string ({ data := #[99] }), .string ({ data := #[51] })]) :: (q96, 64, #[.string ({ data := #[97] }), .string ({ data := #[49] }), .string ({ data := #[98] }), .string ({ data := #[50] })]) :: (q81, 9, #[.string bK]) :: (q56, 64, (rcl rzs).toArray) :: (q50, 64, #[.string bK, .string (zB 262145)]) :: (q45, 5, bc (zN 262145)) :: (q39, 9, #[.string (zB 65)]) :: (q33, 9, #[.string ({ data := #[] })]) :: (q24, 64, #[.string (zB 65), .string bX]) :: (q16, 64, #[.string ({ data := #[] }), .string bX]) :: (q11, 5, bc (zN 65)) :: (Lm ++ X116)) w119)
  refine wl_callx (by kernel_rfl) enter20 #[.pointer (some ⟨d.q, 0, none⟩), .slice (some ⟨q118, 0, none⟩) 1 1] (by kernel_rfl) (by have h9 := Wake_any (o := some ⟨q118, 0, none⟩) (c := 1) (ks := [7]) (SH.disk (hc116 _ _ ((q118, 3, #[iN .i64 7]) :: (q111, 64, #[.string ({ data := #[99] }), .string ({ data := #[51] })]) :: (q96, 64, #[.string ({ data := #[97] }), .string ({ data := #[49] }), .string ({ data := #[98] }), .string ({ data := #[50] })]) :: (q81, 9, #[.string bK]) :: (q56, 64, (rcl rzs).toArray) :: (q50, 64, #[.string bK, .string (zB 262145)]) :: (q45, 5, bc (zN 262145)) :: (q39, 9, #[.string (zB 65)]) :: (q33, 9, #[.string ({ data := #[] })]) :: (q24, 64, #[.string (zB 65), .string bX]) :: (q16, 64, #[.string ({ data := #[] }), .string bX]) :: (q11, 5, bc (zN 65)) :: Lm) _ ⟨_, _, hrs116, hK116, (HA.perm h120 (List.perm_middle (l₁ := ([(q118, 3, #[iN .i64 7])] : BL))))⟩)) (KV.own (ks := [7]) (cu := #[iN .i64 7]) (List.mem_of_getElem? (i := 0) rfl) (fun j hj => by match j, hj with | 0, _ => rfl)) (by decide) hg_11.db (by decide) (by decide); rw [show ((⟨S115.D, S115.rows, S115.size⟩ : SS).D) = S115.D from rfl, eS115, k7_d] at h9; exact h9) ?_
  rintro _ w121 ⟨rfl, hWk⟩
  refine ⟨_, rfl, ?_⟩
  have hg7 := hg_11.wake [7]
  rw [eS115, k7_d] at hg7
  obtain ⟨D7x, eD7⟩ : ∃ X, X = D7 := ⟨_, rfl⟩
  rw [← eD7] at hWk hg7
  obtain ⟨z122, X123, hcl124, hbe125, h126⟩ := DH.front hWk
  have h127 : HA z122 ((q118, 3, #[iN .i64 7]) :: (q111, 64, #[.string ({ data := #[99] }), .string ({ data := #[51] })]) :: (q96, 64, #[.string ({ data := #[97] }), .string ({ data := #[49] }), .string ({ data := #[98] }), .string ({ data := #[50] })]) :: (q81, 9, #[.string bK]) :: (q56, 64, (rcl rzs).toArray) :: (q50, 64, #[.string bK, .string (zB 262145)]) :: (q45, 5, bc (zN 262145)) :: (q39, 9, #[.string (zB 65)]) :: (q33, 9, #[.string ({ data := #[] })]) :: (q24, 64, #[.string (zB 65), .string bX]) :: (q16, 64, #[.string ({ data := #[] }), .string bX]) :: (q11, 5, bc (zN 65)) :: (Lm ++ X123)) w121 := h126
  refine wl_nil ?_
  refine then_at rfl ?_
  refine wp_seq ?_
  refine wl_region ?_
  refine zwv (.pointer (some ⟨d.q, 0, none⟩)) ?_
  refine wl_callx (by kernel_rfl) enter13 #[.pointer (some ⟨d.q, 0, none⟩)] (by kernel_rfl) (Open_d (hcl124 ((q118, 3, #[iN .i64 7]) :: (q111, 64, #[.string ({ data := #[99] }), .string ({ data := #[51] })]) :: (q96, 64, #[.string ({ data := #[97] }), .string ({ data := #[49] }), .string ({ data := #[98] }), .string ({ data := #[50] })]) :: (q81, 9, #[.string bK]) :: (q56, 64, (rcl rzs).toArray) :: (q50, 64, #[.string bK, .string (zB 262145)]) :: (q45, 5, bc (zN 262145)) :: (q39, 9, #[.string (zB 65)]) :: (q33, 9, #[.string ({ data := #[] })]) :: (q24, 64, #[.string (zB 65), .string bX]) :: (q16, 64, #[.string ({ data := #[] }), .string bX]) :: (q11, 5, bc (zN 65)) :: Lm) _ h127) hg7 (by decide) (by decide) (by rw [eD7, k8_lg]; decide) (by rw [eD7]; exact k8_ok)) ?_
  rintro _ w128 ⟨sq8, sr8, rfl, hO8⟩
  refine ⟨_, rfl, ?_⟩
  have hg8 := hg7.opnS
  rw [eD7] at hO8 hg8
  obtain ⟨S8, e8⟩ : ∃ X, X = K8 := ⟨_, rfl⟩
  replace hO8 : SH w [] ⟨sq8, sr8, d⟩ K8 _ _ := hO8
  replace hg8 : DG K8.D _ _ := hg8
  rw [← e8] at hO8 hg8
  obtain ⟨m129, X129, hc129, rs129, nx129, hrs129, hK129, hH129⟩ := SH.opn hO8
  have h130 : HA ⟨w, m129 :: (sr8, .mp (eR rs129) nx129) :: []⟩ ((sq8, 73, scell d.q sr8 ((laidR S8.rows)) S8.size) :: (q118, 3, #[iN .i64 7]) :: (q111, 64, #[.string ({ data := #[99] }), .string ({ data := #[51] })]) :: (q96, 64, #[.string ({ data := #[97] }), .string ({ data := #[49] }), .string ({ data := #[98] }), .string ({ data := #[50] })]) :: (q81, 9, #[.string bK]) :: (q56, 64, (rcl rzs).toArray) :: (q50, 64, #[.string bK, .string (zB 262145)]) :: (q45, 5, bc (zN 262145)) :: (q39, 9, #[.string (zB 65)]) :: (q33, 9, #[.string ({ data := #[] })]) :: (q24, 64, #[.string (zB 65), .string bX]) :: (q16, 64, #[.string ({ data := #[] }), .string bX]) :: (q11, 5, bc (zN 65)) :: (Lm ++ X129)) w128 := hH129
  refine zwv (.tuple #[.pointer (some ⟨sq8, 0, none⟩), iN .i64 0]) ?_
  refine zwv (.pointer (some ⟨sq8, 0, none⟩)) ?_
  refine zwv (iN .i64 0) ?_
  refine zwv (.pointer (some ⟨sq8, 0, none⟩)) ?_
  refine zwv (iN .i64 0) ?_
  refine wl_nil ?_
  refine then_at (F := ⟨(.bool false :: pt d.q :: pt sq8 :: iN .i64 0 :: .string (zB 65) :: iN .i64 2 :: iN .i64 3 :: iN .i64 0 :: iN .i64 2 :: iN .i64 3 :: iN .i64 3 :: iN .i64 2 :: .slice om 65 cm :: iN .i64 65 :: iN .i64 3 :: iN .i64 0 :: iN .i64 0 :: .string txt28 :: iN .i64 0 :: iN .i64 16 :: iN .i64 0 :: un :: un :: un :: un :: un :: un :: un :: un :: pt d.q :: .tuple #[pt sq, iN .i64 0] :: pt d.q :: .tuple #[pt sq, iN .i64 0] :: pt sq :: iN .i64 0 :: .slice (some ⟨q11, 0, none⟩) 65 65 :: .string (zB 65) :: pt sq :: rwv ⟨{ data := #[] }, bX⟩ :: .slice (some ⟨q16, 0, none⟩) 1 1 :: iN .i64 2 :: pt sq :: .string (zB 65) :: rwv ⟨zB 65, bX⟩ :: .slice (some ⟨q24, 0, none⟩) 1 1 :: iN .i64 3 :: pt sq :: iN .i64 0 :: pt sq :: .slice (some ⟨q33, 0, none⟩) 1 1 :: iN .i64 2 :: pt sq :: .string (zB 65) :: .slice (some ⟨q39, 0, none⟩) 1 1 :: iN .i64 3 :: pt sq :: .slice (some ⟨q45, 0, none⟩) 262145 262145 :: .string (zB 262145) :: rwv ⟨bK, zB 262145⟩ :: .slice (some ⟨q50, 0, none⟩) 1 1 :: iN .i64 3 :: pt sq :: .slice (some ⟨q56, 0, none⟩) 65 65 :: iN .i64 2 :: iN .i64 65 :: .bool false :: u62 66 :: u62 67 :: u62 68 :: u62 69 :: u62 70 :: u62 71 :: pt sq :: .slice om 65 cm :: iN .i64 3 :: pt sq :: .slice om 65 cm :: .slice om 64 cm :: iN .i64 0 :: pt sq :: .slice (some ⟨q81, 0, none⟩) 1 1 :: iN .i64 0 :: pt sq :: iN .i64 0 :: pt sq :: rwv ⟨{ data := #[97] }, { data := #[49] }⟩ :: rwv ⟨{ data := #[98] }, { data := #[50] }⟩ :: .slice (some ⟨q96, 0, none⟩) 2 2 :: iN .i64 0 :: .tuple #[.string txt28, iN .i64 0] :: pt d.q :: .tuple #[.string txt28, iN .i64 0] :: .string txt28 :: iN .i64 0 :: .string txt28 :: .bool false :: pt d.q :: iN .i64 0 :: pt sq :: rwv ⟨{ data := #[99] }, { data := #[51] }⟩ :: .slice (some ⟨q111, 0, none⟩) 1 1 :: iN .i64 16 :: pt d.q :: .slice (some ⟨q118, 0, none⟩) 1 1 :: iN .i64 0 :: .tuple #[pt sq8, iN .i64 0] :: pt d.q :: .tuple #[pt sq8, iN .i64 0] :: pt sq8 :: iN .i64 0 :: List.replicate 110 un).toArray, []⟩) (by kernel_rfl) ?_
  refine wp_seq ?_
  refine wl_region ?_
  refine zwv (.pointer (some ⟨sq8, 0, none⟩)) ?_
  refine wl_call (v := .tuple #[.string ({ data := #[] }), .bool false]) h130 (by kernel_rfl) enter23 #[.pointer (some ⟨sq8, 0, none⟩), .string ({ data := #[99] })] (by kernel_rfl) (by have h9 := get_S (hc129 _ _ ((q118, 3, #[iN .i64 7]) :: (q111, 64, #[.string ({ data := #[99] }), .string ({ data := #[51] })]) :: (q96, 64, #[.string ({ data := #[97] }), .string ({ data := #[49] }), .string ({ data := #[98] }), .string ({ data := #[50] })]) :: (q81, 9, #[.string bK]) :: (q56, 64, (rcl rzs).toArray) :: (q50, 64, #[.string bK, .string (zB 262145)]) :: (q45, 5, bc (zN 262145)) :: (q39, 9, #[.string (zB 65)]) :: (q33, 9, #[.string ({ data := #[] })]) :: (q24, 64, #[.string (zB 65), .string bX]) :: (q16, 64, #[.string ({ data := #[] }), .string bX]) :: (q11, 5, bc (zN 65)) :: Lm) _ ⟨_, _, hrs129, hK129, h130⟩) (by rw [e8, k8_rw]; exact rb2 : RB S8.rows 100) { data := #[99] }; rw [show ((⟨S8.D, S8.rows, S8.size⟩ : SS).rows) = S8.rows from rfl, e8, k8_rw, k8_get] at h9; exact h9) ?_
  intro w131 h132
  refine zwv (.tuple #[.string ({ data := #[] }), .bool false]) ?_
  refine zwv (.string ({ data := #[] })) ?_
  refine zwv (.bool false) ?_
  refine zwv (.string ({ data := #[] })) ?_
  refine zwv (.bool false) ?_
  refine wl_nil ?_
  refine then_at rfl ?_
  refine wp_seq ?_
  refine wl_region ?_
  refine zwv (.pointer (some ⟨d.q, 0, none⟩)) ?_
  refine wl_callx (by kernel_rfl) enter24 #[.pointer (some ⟨d.q, 0, none⟩), .string nS, .string ({ data := #[0, 0, 0, 4, 0, 0, 0, 0] })] (by kernel_rfl) (by have h9 := app_S (hc129 _ _ ((q118, 3, #[iN .i64 7]) :: (q111, 64, #[.string ({ data := #[99] }), .string ({ data := #[51] })]) :: (q96, 64, #[.string ({ data := #[97] }), .string ({ data := #[49] }), .string ({ data := #[98] }), .string ({ data := #[50] })]) :: (q81, 9, #[.string bK]) :: (q56, 64, (rcl rzs).toArray) :: (q50, 64, #[.string bK, .string (zB 262145)]) :: (q45, 5, bc (zN 262145)) :: (q39, 9, #[.string (zB 65)]) :: (q33, 9, #[.string ({ data := #[] })]) :: (q24, 64, #[.string (zB 65), .string bX]) :: (q16, 64, #[.string ({ data := #[] }), .string bX]) :: (q11, 5, bc (zN 65)) :: Lm) _ ⟨_, _, hrs129, hK129, h132⟩) hg8 (by decide) nS b8 (by decide); rw [show ((⟨S8.D, S8.rows, S8.size⟩ : SS).D) = S8.D from rfl, e8, k9_ok] at h9; exact h9) ?_
  rintro _ w133 ⟨rfl, hAp⟩
  refine ⟨_, rfl, ?_⟩
  have hg9 := hg8.app nS b8
  rw [e8] at hg9
  obtain ⟨S9, e9⟩ : ∃ X : SS, X.D = D9 ∧ X.rows = K8.rows ∧ X = ⟨D9, K8.rows, K8.size⟩ := ⟨⟨D9, K8.rows, K8.size⟩, rfl, rfl, rfl⟩
  obtain ⟨e9, e9r, e9s⟩ := e9
  replace hAp : SH w [] ⟨sq8, sr8, d⟩ (⟨D9, K8.rows, K8.size⟩ : SS) _ _ := hAp
  rw [← e9s] at hAp
  replace hg9 : DG D9 _ _ := hg9
  rw [← e9] at hg9
  obtain ⟨m134, X134, hc134, rs134, nx134, hrs134, hK134, hH134⟩ := SH.opn hAp
  have h135 : HA ⟨w, m134 :: (sr8, .mp (eR rs134) nx134) :: []⟩ ((sq8, 73, scell d.q sr8 ((laidR S9.rows)) S9.size) :: (q118, 3, #[iN .i64 7]) :: (q111, 64, #[.string ({ data := #[99] }), .string ({ data := #[51] })]) :: (q96, 64, #[.string ({ data := #[97] }), .string ({ data := #[49] }), .string ({ data := #[98] }), .string ({ data := #[50] })]) :: (q81, 9, #[.string bK]) :: (q56, 64, (rcl rzs).toArray) :: (q50, 64, #[.string bK, .string (zB 262145)]) :: (q45, 5, bc (zN 262145)) :: (q39, 9, #[.string (zB 65)]) :: (q33, 9, #[.string ({ data := #[] })]) :: (q24, 64, #[.string (zB 65), .string bX]) :: (q16, 64, #[.string ({ data := #[] }), .string bX]) :: (q11, 5, bc (zN 65)) :: (Lm ++ X134)) w133 := hH134
  refine wl_nil ?_
  refine then_at rfl ?_
  refine wp_seq ?_
  refine wl_region ?_
  refine zwv (.pointer (some ⟨d.q, 0, none⟩)) ?_
  refine wl_callx (by kernel_rfl) enter13 #[.pointer (some ⟨d.q, 0, none⟩)] (by kernel_rfl) (opn_S (hc134 _ _ ((q118, 3, #[iN .i64 7]) :: (q111, 64, #[.string ({ data := #[99] }), .string ({ data := #[51] })]) :: (q96, 64, #[.string ({ data := #[97] }), .string ({ data := #[49] }), .string ({ data := #[98] }), .string ({ data := #[50] })]) :: (q81, 9, #[.string bK]) :: (q56, 64, (rcl rzs).toArray) :: (q50, 64, #[.string bK, .string (zB 262145)]) :: (q45, 5, bc (zN 262145)) :: (q39, 9, #[.string (zB 65)]) :: (q33, 9, #[.string ({ data := #[] })]) :: (q24, 64, #[.string (zB 65), .string bX]) :: (q16, 64, #[.string ({ data := #[] }), .string bX]) :: (q11, 5, bc (zN 65)) :: Lm) _ ⟨_, _, hrs134, hK134, h135⟩) hg9 (by decide) (by decide) (by rw [e9, k10_lg]; all_goals decide) (by rw [e9]; all_goals exact k10_ok) (by decide)) ?_
  rintro _ w136 ⟨rfl, hO10⟩
  refine ⟨_, rfl, ?_⟩
  generalize (opnS S9.D).1.D = D10 at hO10
  obtain ⟨m137, X137, hc137, rs137, nx137, hrs137, hK137, hH137⟩ := SH.opn hO10
  have h138 : HA ⟨w, m137 :: (sr8, .mp (eR rs137) nx137) :: []⟩ ((sq8, 73, scell d.q sr8 ((laidR ((⟨D10, S9.rows, S9.size⟩ : SS)).rows)) (((⟨D10, S9.rows, S9.size⟩ : SS)).size)) :: (q118, 3, #[iN .i64 7]) :: (q111, 64, #[.string ({ data := #[99] }), .string ({ data := #[51] })]) :: (q96, 64, #[.string ({ data := #[97] }), .string ({ data := #[49] }), .string ({ data := #[98] }), .string ({ data := #[50] })]) :: (q81, 9, #[.string bK]) :: (q56, 64, (rcl rzs).toArray) :: (q50, 64, #[.string bK, .string (zB 262145)]) :: (q45, 5, bc (zN 262145)) :: (q39, 9, #[.string (zB 65)]) :: (q33, 9, #[.string ({ data := #[] })]) :: (q24, 64, #[.string (zB 65), .string bX]) :: (q16, 64, #[.string ({ data := #[] }), .string bX]) :: (q11, 5, bc (zN 65)) :: (Lm ++ X137)) w136 := hH137
  refine zwv (.tuple #[.pointer none, iN .i64 4]) ?_
  refine zwv (.pointer none) ?_
  refine zwv (iN .i64 4) ?_
  refine zwv (.pointer none) ?_
  refine zwv (iN .i64 4) ?_
  refine wl_nil ?_
  refine then_at rfl ?_
  refine wp_seq ?_
  refine wl_region ?_
  refine wl_call (v := .tuple #[.pointer none, iN .i64 1]) h138 (by kernel_rfl) enter13 #[.pointer none] (by kernel_rfl) (Open_nil w136) ?_
  intro w139 h140
  refine zwv (.tuple #[.pointer none, iN .i64 1]) ?_
  refine zwv (.pointer none) ?_
  refine zwv (iN .i64 1) ?_
  refine zwv (.pointer none) ?_
  refine zwv (iN .i64 1) ?_
  refine wl_nil ?_
  refine then_at rfl ?_
  refine wp_seq ?_
  refine wl_region ?_
  refine zwv (.pointer none) ?_
  refine wl_nil ?_
  refine then_at rfl ?_
  refine wp_seq ?_
  refine wl_region ?_
  refine zwv (.agg #[.pointer none, .map none, iN .i64 0, iN .i64 0]) ?_
  refine wl_make (c := #[.pointer none, .map none, iN .i64 0, iN .i64 0]) h140 73 (by kernel_rfl) (by kernel_rfl) ?_
  intro q141 w142 (h143 : HA ⟨w, m137 :: (sr8, .mp (eR rs137) nx137) :: []⟩ ((q141, 73, #[.pointer none, .map none, iN .i64 0, iN .i64 0]) :: (sq8, 73, scell d.q sr8 ((laidR ((⟨D10, S9.rows, S9.size⟩ : SS)).rows)) (((⟨D10, S9.rows, S9.size⟩ : SS)).size)) :: (q118, 3, #[iN .i64 7]) :: (q111, 64, #[.string ({ data := #[99] }), .string ({ data := #[51] })]) :: (q96, 64, #[.string ({ data := #[97] }), .string ({ data := #[49] }), .string ({ data := #[98] }), .string ({ data := #[50] })]) :: (q81, 9, #[.string bK]) :: (q56, 64, (rcl rzs).toArray) :: (q50, 64, #[.string bK, .string (zB 262145)]) :: (q45, 5, bc (zN 262145)) :: (q39, 9, #[.string (zB 65)]) :: (q33, 9, #[.string ({ data := #[] })]) :: (q24, 64, #[.string (zB 65), .string bX]) :: (q16, 64, #[.string ({ data := #[] }), .string bX]) :: (q11, 5, bc (zN 65)) :: (Lm ++ X137)) w142)
  refine zwv (.pointer (some ⟨q141, 0, none⟩)) ?_
  refine wl_nil ?_
  refine then_at rfl ?_
  refine wp_seq ?_
  refine wl_region ?_
  refine zwv (.bool true) ?_
  refine wl_call (v := .bool true) h143 (by kernel_rfl) enter12 #[] (by kernel_rfl) (works_any w142) ?_
  intro w144 h145
  refine zwv (.bool true) ?_
  refine zwv (.bool true) ?_
  refine wl_call (v := .bool true) h145 (by kernel_rfl) enter25 #[] (by kernel_rfl) (packs_any w144) ?_
  intro w146 h147
  refine zwv (.bool true) ?_
  refine zwv (.bool true) ?_
  refine zwv (iN .i64 2) ?_
  refine zwx (.bool true) (run_eqi (k := .i64) (a := 2) (b := 2) (by kernel_rfl) (by kernel_rfl) true (by decide)) ?_
  refine zwv (.bool true) ?_
  refine zwv (.bool true) ?_
  refine zwv (iN .i64 3) ?_
  refine zwx (.bool true) (run_eqi (k := .i64) (a := 3) (b := 3) (by kernel_rfl) (by kernel_rfl) true (by decide)) ?_
  refine zwv (.bool true) ?_
  refine zwv (.bool true) ?_
  refine zwv (iN .i64 0) ?_
  refine zwx (.bool true) (run_eqi (k := .i64) (a := 0) (b := 0) (by kernel_rfl) (by kernel_rfl) true (by decide)) ?_
  refine zwv (.bool true) ?_
  refine zwv (.bool true) ?_
  refine zwv (iN .i64 2) ?_
  refine zwx (.bool true) (run_eqi (k := .i64) (a := 2) (b := 2) (by kernel_rfl) (by kernel_rfl) true (by decide)) ?_
  refine zwv (.bool true) ?_
  refine zwv (.bool true) ?_
  refine zwv (iN .i64 3) ?_
  refine zwx (.bool true) (run_eqi (k := .i64) (a := 3) (b := 3) (by kernel_rfl) (by kernel_rfl) true (by decide)) ?_
  refine zwv (.bool true) ?_
  refine zwv (.bool true) ?_
  refine zwv (iN .i64 3) ?_
  refine zwx (.bool true) (run_eqi (k := .i64) (a := 3) (b := 3) (by kernel_rfl) (by kernel_rfl) true (by decide)) ?_
  refine zwv (.bool true) ?_
  refine zwv (.bool true) ?_
  refine zwv (iN .i64 2) ?_
  refine zwx (.bool true) (run_eqi (k := .i64) (a := 2) (b := 2) (by kernel_rfl) (by kernel_rfl) true (by decide)) ?_
  refine zwv (.bool true) ?_
  refine zwv (.bool true) ?_
  refine zwv (iN .i64 3) ?_
  refine zwx (.bool true) (run_eqi (k := .i64) (a := 3) (b := 3) (by kernel_rfl) (by kernel_rfl) true (by decide)) ?_
  refine zwv (.bool true) ?_
  refine zwv (.bool true) ?_
  refine zwv (iN .i64 0) ?_
  refine zwx (.bool true) (run_eqi (k := .i64) (a := 0) (b := 0) (by kernel_rfl) (by kernel_rfl) true (by decide)) ?_
  refine zwv (.bool true) ?_
  refine zwv (.bool true) ?_
  refine zwv (iN .i64 0) ?_
  refine zwx (.bool true) (run_eqi (k := .i64) (a := 0) (b := 0) (by kernel_rfl) (by kernel_rfl) true (by decide)) ?_
  refine zwv (.bool true) ?_
  refine zwv (.bool true) ?_
  refine zwv (iN .i64 16) ?_
  refine zwx (.bool true) (run_eqi (k := .i64) (a := 16) (b := 16) (by kernel_rfl) (by kernel_rfl) true (by decide)) ?_
  refine zwv (.bool true) ?_
  refine zwv (.bool true) ?_
  refine zwv (iN .i64 0) ?_
  refine zwx (.bool true) (run_eqi (k := .i64) (a := 0) (b := 0) (by kernel_rfl) (by kernel_rfl) true (by decide)) ?_
  refine zwv (.bool true) ?_
  refine zwv (.bool true) ?_
  refine zwv (.bool false) ?_
  refine zwv (.bool true) ?_
  refine zwv (.bool true) ?_
  refine zwv (.bool true) ?_
  refine zwv (.pointer (some ⟨sq8, 0, none⟩)) ?_
  refine wl_call (v := iN .i64 2) h147 (by kernel_rfl) enter26 #[.pointer (some ⟨sq8, 0, none⟩)] (by kernel_rfl) (by have h9 := len_S (hc137 _ _ ((q141, 73, #[.pointer none, .map none, iN .i64 0, iN .i64 0]) :: (q118, 3, #[iN .i64 7]) :: (q111, 64, #[.string ({ data := #[99] }), .string ({ data := #[51] })]) :: (q96, 64, #[.string ({ data := #[97] }), .string ({ data := #[49] }), .string ({ data := #[98] }), .string ({ data := #[50] })]) :: (q81, 9, #[.string bK]) :: (q56, 64, (rcl rzs).toArray) :: (q50, 64, #[.string bK, .string (zB 262145)]) :: (q45, 5, bc (zN 262145)) :: (q39, 9, #[.string (zB 65)]) :: (q33, 9, #[.string ({ data := #[] })]) :: (q24, 64, #[.string (zB 65), .string bX]) :: (q16, 64, #[.string ({ data := #[] }), .string bX]) :: (q11, 5, bc (zN 65)) :: Lm) _ ⟨_, _, hrs137, hK137, (HA.perm h147 (List.perm_middle (l₁ := ([(q141, 73, #[.pointer none, .map none, iN .i64 0, iN .i64 0])] : BL))))⟩); rw [show ((⟨D10, S9.rows, S9.size⟩ : SS).rows) = S9.rows from rfl, e9r, k8_rw] at h9; exact h9) ?_
  intro w148 h149
  refine zwx (.bool true) (run_eqi (k := .i64) (a := 2) (b := 2) (by kernel_rfl) (by kernel_rfl) true (by decide)) ?_
  refine zwv (.bool true) ?_
  refine zwv (.bool true) ?_
  refine zwv (iN .i64 4) ?_
  refine zwx (.bool true) (run_eqi (k := .i64) (a := 4) (b := 4) (by kernel_rfl) (by kernel_rfl) true (by decide)) ?_
  refine zwv (.bool true) ?_
  refine zwv (.bool true) ?_
  refine zwv (iN .i64 1) ?_
  refine zwx (.bool true) (run_eqi (k := .i64) (a := 1) (b := 1) (by kernel_rfl) (by kernel_rfl) true (by decide)) ?_
  refine zwv (.bool true) ?_
  refine zwv (.bool true) ?_
  refine zwv (.pointer none) ?_
  refine wl_call (v := iN .i64 1) h149 (by kernel_rfl) enter17 #[.pointer none, .slice none 0 0, .slice none 0 0] (by kernel_rfl) (Do_nil w148) ?_
  intro w150 h151
  refine zwx (.bool true) (run_eqi (k := .i64) (a := 1) (b := 1) (by kernel_rfl) (by kernel_rfl) true (by decide)) ?_
  refine zwv (.bool true) ?_
  refine zwv (.bool true) ?_
  refine zwv (.pointer (some ⟨q141, 0, none⟩)) ?_
  refine wl_call (v := iN .i64 1) h151 (by kernel_rfl) enter15 #[.pointer (some ⟨q141, 0, none⟩)] (by kernel_rfl) (Pack_zero (h151.get 0 rfl)) ?_
  intro w152 h153
  refine zwx (.bool true) (run_eqi (k := .i64) (a := 1) (b := 1) (by kernel_rfl) (by kernel_rfl) true (by decide)) ?_
  refine zwv (.bool true) ?_
  refine zwv (.bool true) ?_
  refine zwv (.pointer none) ?_
  refine wl_call (v := iN .i64 0) h153 (by kernel_rfl) enter26 #[.pointer none] (by kernel_rfl) (Len_nil w152) ?_
  intro w154 h155
  refine zwx (.bool true) (run_eqi (k := .i64) (a := 0) (b := 0) (by kernel_rfl) (by kernel_rfl) true (by decide)) ?_
  refine zwv (.bool true) ?_
  refine zwv (.bool true) ?_
  refine zwv (.pointer (some ⟨q141, 0, none⟩)) ?_
  refine wl_call (v := .slice none 0 0) h155 (by kernel_rfl) enter27 #[.pointer (some ⟨q141, 0, none⟩), .string ({ data := #[] })] (by kernel_rfl) (List_zero (h155.get 0 rfl) _) ?_
  intro w156 h157
  refine zwv (iN .i64 0) ?_
  refine zwx (.bool true) (run_eqi (k := .i64) (a := 0) (b := 0) (by kernel_rfl) (by kernel_rfl) true (by decide)) ?_
  refine zwv (.bool true) ?_
  refine zwv (.bool true) ?_
  refine wl_nil ?_
  refine then_at rfl ?_
  refine wp_ret ?_
  repeat first | refine then_ret ?_ | refine block_ret ?_
  exact bodyPost_ret (v := .bool true) (by kernel_rfl) rfl ⟨rfl, h157.old.old⟩
end Go.Proofs.YtckmlaempffpjaaGreat
