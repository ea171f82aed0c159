/-
  DiskPlays.
-/
import Derived.Test.YtjedhnjjgmbcbaaRY
namespace Go.Proofs.Ytjedhnjjgmbcbaa
open Go.RowKit

set_option linter.unusedVariables false in
set_option maxRecDepth 100000 in
set_option maxHeartbeats 2000000 in
theorem cutP_any (s : ByteArray) (n : Nat) (hs : s.size ≤ 9223372036854775807) (w : World) :
    Calls Try.prog 9 #[.string s, iN .i64 n] w fun e w' => e = .returned (.string (s.extract 0 (min s.size n))) ∧ Below w.heap.size w w' := by
  have H0 := HA.start w
  go_enter Try.func9, Try.ntmps9
  refine wp_seq ?_
  refine wl_region ?_
  refine wl_val (.string ({ data := #[] })) (by kernel_rfl) (by kernel_rfl) ?_
  refine wl_nil ?_
  refine then_at rfl ?_
  refine wp_seq ?_
  refine wl_region ?_
  refine wl_val (.string s) (by kernel_rfl) (by kernel_rfl) ?_
  refine wl_val (.string s) (by kernel_rfl) (by kernel_rfl) ?_
  refine wl_val (iN .i64 s.size) (by kernel_rfl) (run_len (s := s) (by kernel_rfl)) ?_
  refine wl_val (iN .i64 n) (by kernel_rfl) (by kernel_rfl) ?_
  refine wl_val (iN .i64 (min s.size n)) (by kernel_rfl) (run_min (i := s.size) (j := n) (by kernel_rfl) (by kernel_rfl)) ?_
  refine wl_val (.string (s.extract 0 (min s.size n))) (by kernel_rfl) (run_cut_hi (s := s) (b := min s.size n) (by kernel_rfl) (by kernel_rfl) (by omega)) ?_
  refine wl_val (.string (s.extract 0 (min s.size n))) (by kernel_rfl) (by kernel_rfl) ?_
  refine wl_nil ?_
  refine then_at rfl ?_
  refine wp_ret ?_
  repeat first | refine then_ret ?_ | refine block_ret ?_
  exact bodyPost_ret (v := .string (s.extract 0 (min s.size n))) (by kernel_rfl) rfl ⟨rfl, H0.old.old⟩
set_option linter.unusedVariables false in
set_option maxRecDepth 100000 in
set_option maxHeartbeats 2000000 in
theorem plays_any (w : World) (z : Int) (hz : -9223372036854775808 ≤ z ∧ z ≤ 9223372036854775807) (al : List Dd) (o : Option Addr) (c : Nat) (hA : DoA w o al) (hln : al.length ≤ 9223372036854775807) (p : ByteArray) (hpl : p.size ≤ 9223372036854775807) :
    Calls Try.prog 3 #[.int .i64 z, .slice o al.length c, .string p] w fun e w' => e = .returned (.bool true) ∧ Below w.heap.size w w' := by
  have H0 := HA.start w
  obtain ⟨rm, hrm⟩ : ∃ rm, rm = z.toNat := ⟨_, rfl⟩
  obtain ⟨N, hNe⟩ : ∃ N : BL, N = [] := ⟨_, rfl⟩
  obtain ⟨pp, hpp⟩ : ∃ s, s = p.extract 0 (min p.size 10) := ⟨_, rfl⟩
  go_enter Try.func3, Try.ntmps3
  refine wp_seq ?_
  refine wl_region ?_
  refine wl_val (.bool false) (by kernel_rfl) (by kernel_rfl) ?_
  refine wl_nil ?_
  refine then_at rfl ?_
  refine wp_seq ?_
  refine wl_region ?_
  refine wl_val (.int .i64 z) (by kernel_rfl) (by kernel_rfl) ?_
  refine wl_callx (by kernel_rfl) enter7 #[.int .i64 z] (by kernel_rfl) (New_rm (L := N) (w0 := w) (M := []) hrm (by rw [hNe]; exact H0)) ?_
  rintro _ w1 ⟨d, rfl, hD0⟩
  refine ⟨_, rfl, ?_⟩
  have hdb0 : DB ⟨[], rm, 0, false, []⟩ 0 0 := new_DB (by omega)
  have hD0 : DH _ _ d (⟨[], rm, 0, false, []⟩) _ _ := hD0
  obtain ⟨z2, X3, hcl4, hbe5, h6⟩ := DH.front hD0
  have h7 : HA z2 ((N ++ X3)) w1 := h6
  refine wl_val (.int .i64 z) (by kernel_rfl) (by kernel_rfl) ?_
  refine wl_call (v := .agg #[iN .i64 rm, .slice none 0 0, .bool false, iN .i64 0, .slice none 0 0]) h7 (by kernel_rfl) enter8 #[.int .i64 z] (by kernel_rfl) (by rw [hrm]; exact rnew_any z) ?_
  intro w8 h9
  refine wl_make (c := #[iN .i64 0, .slice none 0 0, .bool false, iN .i64 0, .slice none 0 0]) h9 28 (by kernel_rfl) (by kernel_rfl) ?_
  intro q10 w11 (h12 : HA z2 ((q10, 28, #[iN .i64 0, .slice none 0 0, .bool false, iN .i64 0, .slice none 0 0]) :: (N ++ X3)) w11)
  refine wl_val (.pointer (some ⟨d.q, 0, none⟩)) (by kernel_rfl) (by kernel_rfl) ?_
  refine wl_fill (c' := #[iN .i64 rm, .slice none 0 0, .bool false, iN .i64 0, .slice none 0 0]) h12 0 rfl (by kernel_rfl) (by kernel_rfl) (by kernel_rfl) rfl (by kernel_rfl) (by kernel_rfl) ?_
  intro w13 (h14 : HA z2 ((q10, 28, #[iN .i64 rm, .slice none 0 0, .bool false, iN .i64 0, .slice none 0 0]) :: (N ++ X3)) w13)
  refine wl_nil ?_
  refine then_at rfl ?_
  refine wp_seq ?_
  refine wp_seq ?_
  refine wl_region ?_
  refine wl_val (.pointer (some ⟨d.q, 0, none⟩)) (by kernel_rfl) (by kernel_rfl) ?_
  refine wl_val (.bool false) (by kernel_rfl) (by kernel_rfl) ?_
  refine wl_nil ?_
  refine then_at rfl ?_
  refine wp_cond_false (by kernel_rfl) ?_
  refine wp_skip ?_
  refine then_at rfl ?_
  refine wp_seq ?_
  refine wp_seq ?_
  refine wl_region ?_
  refine wl_val (iN .i64 0) (by kernel_rfl) (by kernel_rfl) ?_
  refine wl_nil ?_
  refine then_at rfl ?_
  refine wp_block ?_
  refine wp_count (fun i A w' => ∃ u15 : Nat → Value, A = ⟨(.int .i64 z :: .slice o al.length c :: .string p :: un :: un :: un :: u15 6 :: pt d.q :: pt q10 :: iN .i64 i :: u15 10 :: u15 11 :: u15 12 :: u15 13 :: u15 14 :: u15 15 :: u15 16 :: u15 17 :: u15 18 :: u15 19 :: u15 20 :: .int .i64 z :: pt d.q :: .int .i64 z :: .agg #[iN .i64 rm, .slice none 0 0, .bool false, iN .i64 0, .slice none 0 0] :: pt d.q :: .bool false :: u15 27 :: u15 28 :: u15 29 :: u15 30 :: u15 31 :: u15 32 :: u15 33 :: u15 34 :: u15 35 :: u15 36 :: u15 37 :: u15 38 :: u15 39 :: u15 40 :: u15 41 :: u15 42 :: u15 43 :: u15 44 :: u15 45 :: u15 46 :: u15 47 :: u15 48 :: u15 49 :: u15 50 :: u15 51 :: u15 52 :: u15 53 :: u15 54 :: u15 55 :: u15 56 :: u15 57 :: u15 58 :: u15 59 :: u15 60 :: u15 61 :: u15 62 :: u15 63 :: u15 64 :: u15 65 :: u15 66 :: u15 67 :: u15 68 :: u15 69 :: u15 70 :: u15 71 :: u15 72 :: u15 73 :: u15 74 :: u15 75 :: u15 76 :: u15 77 :: u15 78 :: u15 79 :: u15 80 :: u15 81 :: u15 82 :: u15 83 :: u15 84 :: u15 85 :: u15 86 :: u15 87 :: u15 88 :: u15 89 :: u15 90 :: u15 91 :: u15 92 :: u15 93 :: u15 94 :: u15 95 :: u15 96 :: u15 97 :: u15 98 :: u15 99 :: u15 100 :: u15 101 :: u15 102 :: u15 103 :: u15 104 :: u15 105 :: u15 106 :: u15 107 :: u15 108 :: u15 109 :: u15 110 :: u15 111 :: u15 112 :: u15 113 :: u15 114 :: u15 115 :: u15 116 :: u15 117 :: u15 118 :: u15 119 :: u15 120 :: u15 121 :: u15 122 :: u15 123 :: u15 124 :: u15 125 :: u15 126 :: u15 127 :: u15 128 :: u15 129 :: u15 130 :: u15 131 :: u15 132 :: u15 133 :: u15 134 :: u15 135 :: u15 136 :: u15 137 :: u15 138 :: u15 139 :: u15 140 :: u15 141 :: u15 142 :: u15 143 :: u15 144 :: u15 145 :: u15 146 :: u15 147 :: u15 148 :: u15 149 :: u15 150 :: u15 151 :: u15 152 :: u15 153 :: u15 154 :: u15 155 :: u15 156 :: u15 157 :: u15 158 :: u15 159 :: u15 160 :: u15 161 :: u15 162 :: u15 163 :: u15 164 :: u15 165 :: u15 166 :: u15 167 :: u15 168 :: u15 169 :: u15 170 :: u15 171 :: u15 172 :: u15 173 :: u15 174 :: u15 175 :: u15 176 :: List.replicate 1 un).toArray, []⟩ ∧ ∃ D N pf nf cf dn lf pz nz cz, RD (.agg #[iN .i64 rm, .slice pf nf cf, .bool dn, iN .i64 lf, .slice pz nz cz]) D rm N ∧ DB D (300 * i) i ∧ DH w [] d D ((q10, 28, #[iN .i64 rm, .slice pf nf cf, .bool dn, iN .i64 lf, .slice pz nz cz]) :: N) w') (min al.length 60) ?_ ?_ ?_
  · exact ⟨fun ii => (([(6, .bool false), (10, undef), (11, undef), (12, undef), (13, undef), (14, undef), (15, undef), (16, undef), (17, undef), (18, undef), (19, undef), (20, undef), (27, undef), (28, undef), (29, undef), (30, undef), (31, undef), (32, undef), (33, undef), (34, undef), (35, undef), (36, undef), (37, undef), (38, undef), (39, undef), (40, undef), (41, undef), (42, undef), (43, undef), (44, undef), (45, undef), (46, undef), (47, undef), (48, undef), (49, undef), (50, undef), (51, undef), (52, undef), (53, undef), (54, undef), (55, undef), (56, undef), (57, undef), (58, undef), (59, undef), (60, undef), (61, undef), (62, undef), (63, undef), (64, undef), (65, undef), (66, undef), (67, undef), (68, undef), (69, undef), (70, undef), (71, undef), (72, undef), (73, undef), (74, undef), (75, undef), (76, undef), (77, undef), (78, undef), (79, undef), (80, undef), (81, undef), (82, undef), (83, undef), (84, undef), (85, undef), (86, undef), (87, undef), (88, undef), (89, undef), (90, undef), (91, undef), (92, undef), (93, undef), (94, undef), (95, undef), (96, undef), (97, undef), (98, undef), (99, undef), (100, undef), (101, undef), (102, undef), (103, undef), (104, undef), (105, undef), (106, undef), (107, undef), (108, undef), (109, undef), (110, undef), (111, undef), (112, undef), (113, undef), (114, undef), (115, undef), (116, undef), (117, undef), (118, undef), (119, undef), (120, undef), (121, undef), (122, undef), (123, undef), (124, undef), (125, undef), (126, undef), (127, undef), (128, undef), (129, undef), (130, undef), (131, undef), (132, undef), (133, undef), (134, undef), (135, undef), (136, undef), (137, undef), (138, undef), (139, undef), (140, undef), (141, undef), (142, undef), (143, undef), (144, undef), (145, undef), (146, undef), (147, undef), (148, undef), (149, undef), (150, undef), (151, undef), (152, undef), (153, undef), (154, undef), (155, undef), (156, undef), (157, undef), (158, undef), (159, undef), (160, undef), (161, undef), (162, undef), (163, undef), (164, undef), (165, undef), (166, undef), (167, undef), (168, undef), (169, undef), (170, undef), (171, undef), (172, undef), (173, undef), (174, undef), (175, undef), (176, undef)] : List (Nat × Value)).find? (·.1 == ii)).elim undef (·.2), by kernel_rfl, _, N, none, 0, 0, false, 0, none, 0, 0, ⟨[], false, 0, [], none, 0, none, 0, rfl, Tw.start rm, .inl ⟨rfl, rfl⟩, .inl ⟨rfl, rfl⟩⟩, hdb0, (hcl4 ((q10, 28, #[iN .i64 rm, .slice none 0 0, .bool false, iN .i64 0, .slice none 0 0]) :: N) _ h14)⟩
  · rintro i hi _ w16 ⟨u15, rfl, D, N, pf, nf, cf, dn, lf, pz, nz, cz, hr, hdb, hLp⟩
    have hLp : DH _ _ d (D) _ _ := hLp
    obtain ⟨z17, X18, hcl19, hbe20, h21⟩ := DH.front hLp
    have h22 : HA z17 ((q10, 28, #[iN .i64 rm, .slice pf nf cf, .bool dn, iN .i64 lf, .slice pz nz cz]) :: (N ++ X18)) w16 := h21
    obtain ⟨oa, hoa, hok⟩ := hA i (by omega)
    obtain ⟨⟨wh, nm0, sd0, nn, ko, kc, ks⟩, hxe⟩ : ∃ x, x = al.getD i dd0 := ⟨_, rfl⟩
    rw [← hxe] at hok
    have hk2 : ks.length ≤ kc := hok.k2
    have hn1 : nn ≤ 9223372036854775807 := hok.n1
    have hsyn := DH.syn hLp
    obtain ⟨nm, hnm⟩ : ∃ s, s = nm0.extract 0 (min nm0.size 70) := ⟨_, rfl⟩
    obtain ⟨sd, hsd⟩ : ∃ s, s = sd0.extract 0 (min sd0.size 300) := ⟨_, rfl⟩
    have hsl : sd.size ≤ 300 := by rw [hsd, extract_size _ _ (by omega)]; omega
    refine wp_seq ?_
    refine wp_seq ?_
    refine wl_region ?_
    refine wl_val (iN .i64 i) (by kernel_rfl) (by kernel_rfl) ?_
    refine wl_val (.slice o al.length c) (by kernel_rfl) (by kernel_rfl) ?_
    refine wl_val (iN .i64 al.length) (by kernel_rfl) (by kernel_rfl) ?_
    refine wl_val (.bool true) (by kernel_rfl) (run_lss (k := .i64) (a := i) (b := al.length) (by kernel_rfl) (by kernel_rfl) true (decide_eq_true (by omega))) ?_
    refine wl_val (.bool true) (by kernel_rfl) (by kernel_rfl) ?_
    refine wl_val (iN .i64 i) (by kernel_rfl) (by kernel_rfl) ?_
    refine wl_val (.bool true) (by kernel_rfl) (run_lss (k := .i64) (a := i) (b := 60) (by kernel_rfl) (by kernel_rfl) true (decide_eq_true (by omega))) ?_
    refine wl_val (.bool true) (by kernel_rfl) (by kernel_rfl) ?_
    refine wl_nil ?_
    refine then_at (F := ⟨(.int .i64 z :: .slice o al.length c :: .string p :: un :: un :: un :: u15 6 :: pt d.q :: pt q10 :: iN .i64 i :: u15 10 :: u15 11 :: u15 12 :: u15 13 :: u15 14 :: u15 15 :: u15 16 :: u15 17 :: u15 18 :: u15 19 :: u15 20 :: .int .i64 z :: pt d.q :: .int .i64 z :: .agg #[iN .i64 rm, .slice none 0 0, .bool false, iN .i64 0, .slice none 0 0] :: pt d.q :: .bool false :: iN .i64 i :: .slice o al.length c :: iN .i64 al.length :: .bool true :: .bool true :: iN .i64 i :: .bool true :: .bool true :: u15 35 :: u15 36 :: u15 37 :: u15 38 :: u15 39 :: u15 40 :: u15 41 :: u15 42 :: u15 43 :: u15 44 :: u15 45 :: u15 46 :: u15 47 :: u15 48 :: u15 49 :: u15 50 :: u15 51 :: u15 52 :: u15 53 :: u15 54 :: u15 55 :: u15 56 :: u15 57 :: u15 58 :: u15 59 :: u15 60 :: u15 61 :: u15 62 :: u15 63 :: u15 64 :: u15 65 :: u15 66 :: u15 67 :: u15 68 :: u15 69 :: u15 70 :: u15 71 :: u15 72 :: u15 73 :: u15 74 :: u15 75 :: u15 76 :: u15 77 :: u15 78 :: u15 79 :: u15 80 :: u15 81 :: u15 82 :: u15 83 :: u15 84 :: u15 85 :: u15 86 :: u15 87 :: u15 88 :: u15 89 :: u15 90 :: u15 91 :: u15 92 :: u15 93 :: u15 94 :: u15 95 :: u15 96 :: u15 97 :: u15 98 :: u15 99 :: u15 100 :: u15 101 :: u15 102 :: u15 103 :: u15 104 :: u15 105 :: u15 106 :: u15 107 :: u15 108 :: u15 109 :: u15 110 :: u15 111 :: u15 112 :: u15 113 :: u15 114 :: u15 115 :: u15 116 :: u15 117 :: u15 118 :: u15 119 :: u15 120 :: u15 121 :: u15 122 :: u15 123 :: u15 124 :: u15 125 :: u15 126 :: u15 127 :: u15 128 :: u15 129 :: u15 130 :: u15 131 :: u15 132 :: u15 133 :: u15 134 :: u15 135 :: u15 136 :: u15 137 :: u15 138 :: u15 139 :: u15 140 :: u15 141 :: u15 142 :: u15 143 :: u15 144 :: u15 145 :: u15 146 :: u15 147 :: u15 148 :: u15 149 :: u15 150 :: u15 151 :: u15 152 :: u15 153 :: u15 154 :: u15 155 :: u15 156 :: u15 157 :: u15 158 :: u15 159 :: u15 160 :: u15 161 :: u15 162 :: u15 163 :: u15 164 :: u15 165 :: u15 166 :: u15 167 :: u15 168 :: u15 169 :: u15 170 :: u15 171 :: u15 172 :: u15 173 :: u15 174 :: u15 175 :: u15 176 :: List.replicate 1 un).toArray, []⟩) (by kernel_rfl) ?_
    refine wp_cond_true (by kernel_rfl) ?_
    refine wp_skip ?_
    refine then_at rfl ?_
    refine wp_seq ?_
    refine wp_block ?_
    refine wp_seq ?_
    refine wl_region ?_
    refine wl_val (.slice o al.length c) (by kernel_rfl) (by kernel_rfl) ?_
    refine wl_val (iN .i64 i) (by kernel_rfl) (by kernel_rfl) ?_
    refine wl_val (.pointer (some (oa.add (i * 5)))) (by kernel_rfl) (run_addro (a := oa) (n := al.length) (m := c) (i := i) hoa (by kernel_rfl) (by kernel_rfl) (by omega)) ?_
    refine wl_val (.agg #[.int .i64 wh, .string nm0, .string sd0, .int .i64 nn, .slice ko ks.length kc]) (by kernel_rfl) (run_loadg (a := oa.add (i * 5)) (c := #[.int .i64 wh, .string nm0, .string sd0, .int .i64 nn, .slice ko ks.length kc]) (by kernel_rfl) (fun j v hv => cell_old (hbe20 _ _ h22) (hok.cell j v hv)) Try.underlying31 rfl (by kernel_rfl)) ?_
    refine wl_make (c := #[iN .i64 0, .string ({ data := #[] }), .string ({ data := #[] }), iN .i64 0, .slice none 0 0]) h22 31 (by kernel_rfl) (by kernel_rfl) ?_
    intro q23 w24 (h25 : HA z17 ((q23, 31, #[iN .i64 0, .string ({ data := #[] }), .string ({ data := #[] }), iN .i64 0, .slice none 0 0]) :: (q10, 28, #[iN .i64 rm, .slice pf nf cf, .bool dn, iN .i64 lf, .slice pz nz cz]) :: (N ++ X18)) w24)
    refine wl_fill (c' := #[.int .i64 wh, .string nm0, .string sd0, .int .i64 nn, .slice ko ks.length kc]) h25 0 rfl (by kernel_rfl) (by kernel_rfl) (by kernel_rfl) rfl (by kernel_rfl) (by kernel_rfl) ?_
    intro w26 (h27 : HA z17 ((q23, 31, #[.int .i64 wh, .string nm0, .string sd0, .int .i64 nn, .slice ko ks.length kc]) :: (q10, 28, #[iN .i64 rm, .slice pf nf cf, .bool dn, iN .i64 lf, .slice pz nz cz]) :: (N ++ X18)) w26)
    refine wl_nil ?_
    refine then_at rfl ?_
    refine wp_seq ?_
    refine wp_region_sure ⟨(.int .i64 z :: .slice o al.length c :: .string p :: un :: un :: un :: u15 6 :: pt d.q :: pt q10 :: iN .i64 i :: pt q23 :: .string nm :: .string sd :: u15 13 :: u15 14 :: u15 15 :: u15 16 :: u15 17 :: u15 18 :: u15 19 :: u15 20 :: .int .i64 z :: pt d.q :: .int .i64 z :: .agg #[iN .i64 rm, .slice none 0 0, .bool false, iN .i64 0, .slice none 0 0] :: pt d.q :: .bool false :: iN .i64 i :: .slice o al.length c :: iN .i64 al.length :: .bool true :: .bool true :: iN .i64 i :: .bool true :: .bool true :: u15 35 :: u15 36 :: .slice o al.length c :: iN .i64 i :: .pointer (some (oa.add (i * 5))) :: .agg #[.int .i64 wh, .string nm0, .string sd0, .int .i64 nn, .slice ko ks.length kc] :: .pointer (some ⟨q23, 1, none⟩) :: .string nm0 :: .string nm :: .pointer (some ⟨q23, 2, none⟩) :: .string sd0 :: .string sd :: u15 47 :: u15 48 :: u15 49 :: u15 50 :: u15 51 :: u15 52 :: u15 53 :: u15 54 :: u15 55 :: u15 56 :: u15 57 :: u15 58 :: u15 59 :: u15 60 :: u15 61 :: u15 62 :: u15 63 :: u15 64 :: u15 65 :: u15 66 :: u15 67 :: u15 68 :: u15 69 :: u15 70 :: u15 71 :: u15 72 :: u15 73 :: u15 74 :: u15 75 :: u15 76 :: u15 77 :: u15 78 :: u15 79 :: u15 80 :: u15 81 :: u15 82 :: u15 83 :: u15 84 :: u15 85 :: u15 86 :: u15 87 :: u15 88 :: u15 89 :: u15 90 :: u15 91 :: u15 92 :: u15 93 :: u15 94 :: u15 95 :: u15 96 :: u15 97 :: u15 98 :: u15 99 :: u15 100 :: u15 101 :: u15 102 :: u15 103 :: u15 104 :: u15 105 :: u15 106 :: u15 107 :: u15 108 :: u15 109 :: u15 110 :: u15 111 :: u15 112 :: u15 113 :: u15 114 :: u15 115 :: u15 116 :: u15 117 :: u15 118 :: u15 119 :: u15 120 :: u15 121 :: u15 122 :: u15 123 :: u15 124 :: u15 125 :: u15 126 :: u15 127 :: u15 128 :: u15 129 :: u15 130 :: u15 131 :: u15 132 :: u15 133 :: u15 134 :: u15 135 :: u15 136 :: u15 137 :: u15 138 :: u15 139 :: u15 140 :: u15 141 :: u15 142 :: u15 143 :: u15 144 :: u15 145 :: u15 146 :: u15 147 :: u15 148 :: u15 149 :: u15 150 :: u15 151 :: u15 152 :: u15 153 :: u15 154 :: u15 155 :: u15 156 :: u15 157 :: u15 158 :: u15 159 :: u15 160 :: u15 161 :: u15 162 :: u15 163 :: u15 164 :: u15 165 :: u15 166 :: u15 167 :: u15 168 :: u15 169 :: u15 170 :: u15 171 :: u15 172 :: u15 173 :: u15 174 :: u15 175 :: u15 176 :: List.replicate 1 un).toArray, []⟩ (HA z17 ((q23, 31, #[.int .i64 wh, .string nm0, .string sd0, .int .i64 nn, .slice ko ks.length kc]) :: (q10, 28, #[iN .i64 rm, .slice pf nf cf, .bool dn, iN .i64 lf, .slice pz nz cz]) :: (N ++ X18))) [.pointer (some ⟨q23, 1, none⟩), .string nm0, .string nm, .pointer (some ⟨q23, 2, none⟩), .string sd0, .string sd, .string nm, .string sd] (by kernel_rfl) (by kernel_rfl) (by kernel_rfl) (by kernel_rfl) (fun _ _ _ h => h) h27.drew ?_ ?_
    · refine AllSure.cons (OpSure.take (v := .pointer (some ⟨q23, 1, none⟩)) (by kernel_rfl) (by kernel_rfl) (fun _ _ => (by kernel_rfl))) ?_
      refine AllSure.cons (OpSure.take (v := .string nm0) (by kernel_rfl) (by kernel_rfl) (fun w' h' => run_load1 (fun w => Try.isAgg9 w) (by kernel_rfl) (((h'.get 0 rfl).cell 1).trans rfl))) ?_
      refine AllSure.cons (sure_call (v := .string nm) (by kernel_rfl) (by kernel_rfl) enter9 HA.keep #[.string nm0, iN .i64 70] (by kernel_rfl) (fun w' h' => by rw [hnm]; exact cutP_any _ 70 hok.l1 w')) ?_
      refine AllSure.cons (OpSure.take (v := .pointer (some ⟨q23, 2, none⟩)) (by kernel_rfl) (by kernel_rfl) (fun _ _ => (by kernel_rfl))) ?_
      refine AllSure.cons (OpSure.take (v := .string sd0) (by kernel_rfl) (by kernel_rfl) (fun w' h' => run_load1 (fun w => Try.isAgg9 w) (by kernel_rfl) (((h'.get 0 rfl).cell 2).trans rfl))) ?_
      refine AllSure.cons (sure_call (v := .string sd) (by kernel_rfl) (by kernel_rfl) enter9 HA.keep #[.string sd0, iN .i64 300] (by kernel_rfl) (fun w' h' => by rw [hsd]; exact cutP_any _ 300 hok.l2 w')) ?_
      refine AllSure.cons (OpSure.take (v := .string nm) (by kernel_rfl) (by kernel_rfl) (fun _ _ => (by kernel_rfl))) ?_
      refine AllSure.cons (OpSure.take (v := .string sd) (by kernel_rfl) (by kernel_rfl) (fun _ _ => (by kernel_rfl))) ?_
      exact AllSure.nil
    intro w28 h29
    refine then_at rfl ?_
    refine wp_seq ?_
    refine wl_region ?_
    refine wl_val (iN .i64 0) (by kernel_rfl) (by kernel_rfl) ?_
    refine wl_val (iN .i64 0) (by kernel_rfl) (by kernel_rfl) ?_
    refine wl_nil ?_
    refine then_at rfl ?_
    refine wp_seq ?_
    refine wp_seq ?_
    refine wl_region ?_
    refine wl_val (.pointer (some ⟨q23, 0, none⟩)) (by kernel_rfl) (by kernel_rfl) ?_
    refine wl_val (.int .i64 wh) (by kernel_rfl) (run_load1 (fun w => Try.isAgg3 w) (by kernel_rfl) (((h29.get 0 rfl).cell 0).trans rfl)) ?_
    refine wl_nil ?_
    refine then_at rfl ?_
    refine wp_block ?_
    refine wp_seq ?_
    rcases wh_cases wh with hwh | hwh | hwh | hwh | hwh | hwh | hwh | hwh
    · refine wl_region ?_
      refine wl_val (.bool true) (by kernel_rfl) (run_eqz (k := .i64) (a := wh) (b := 0) (by kernel_rfl) (by kernel_rfl) true (decide_eq_true (by omega))) ?_
      refine wl_val (.bool true) (by kernel_rfl) (by kernel_rfl) ?_
      refine wl_nil ?_
      refine then_at (F := ⟨(.int .i64 z :: .slice o al.length c :: .string p :: un :: un :: un :: u15 6 :: pt d.q :: pt q10 :: iN .i64 i :: pt q23 :: .string nm :: .string sd :: iN .i64 0 :: iN .i64 0 :: u15 15 :: u15 16 :: u15 17 :: u15 18 :: u15 19 :: u15 20 :: .int .i64 z :: pt d.q :: .int .i64 z :: .agg #[iN .i64 rm, .slice none 0 0, .bool false, iN .i64 0, .slice none 0 0] :: pt d.q :: .bool false :: iN .i64 i :: .slice o al.length c :: iN .i64 al.length :: .bool true :: .bool true :: iN .i64 i :: .bool true :: .bool true :: u15 35 :: u15 36 :: .slice o al.length c :: iN .i64 i :: .pointer (some (oa.add (i * 5))) :: .agg #[.int .i64 wh, .string nm0, .string sd0, .int .i64 nn, .slice ko ks.length kc] :: .pointer (some ⟨q23, 1, none⟩) :: .string nm0 :: .string nm :: .pointer (some ⟨q23, 2, none⟩) :: .string sd0 :: .string sd :: pt q23 :: .int .i64 wh :: u15 49 :: u15 50 :: u15 51 :: u15 52 :: u15 53 :: u15 54 :: u15 55 :: u15 56 :: u15 57 :: u15 58 :: u15 59 :: u15 60 :: u15 61 :: u15 62 :: u15 63 :: u15 64 :: u15 65 :: u15 66 :: u15 67 :: u15 68 :: .bool true :: .bool true :: u15 71 :: u15 72 :: u15 73 :: u15 74 :: u15 75 :: u15 76 :: u15 77 :: u15 78 :: u15 79 :: u15 80 :: u15 81 :: u15 82 :: u15 83 :: u15 84 :: u15 85 :: u15 86 :: u15 87 :: u15 88 :: u15 89 :: u15 90 :: u15 91 :: u15 92 :: u15 93 :: u15 94 :: u15 95 :: u15 96 :: u15 97 :: u15 98 :: u15 99 :: u15 100 :: u15 101 :: u15 102 :: u15 103 :: u15 104 :: u15 105 :: u15 106 :: u15 107 :: u15 108 :: u15 109 :: u15 110 :: u15 111 :: u15 112 :: u15 113 :: u15 114 :: u15 115 :: u15 116 :: u15 117 :: u15 118 :: u15 119 :: u15 120 :: u15 121 :: u15 122 :: u15 123 :: u15 124 :: u15 125 :: u15 126 :: u15 127 :: u15 128 :: u15 129 :: u15 130 :: u15 131 :: u15 132 :: u15 133 :: u15 134 :: u15 135 :: u15 136 :: u15 137 :: u15 138 :: u15 139 :: u15 140 :: u15 141 :: u15 142 :: u15 143 :: u15 144 :: u15 145 :: u15 146 :: u15 147 :: u15 148 :: u15 149 :: u15 150 :: u15 151 :: u15 152 :: u15 153 :: u15 154 :: u15 155 :: u15 156 :: u15 157 :: u15 158 :: u15 159 :: u15 160 :: u15 161 :: u15 162 :: u15 163 :: u15 164 :: u15 165 :: u15 166 :: u15 167 :: u15 168 :: u15 169 :: u15 170 :: u15 171 :: u15 172 :: u15 173 :: u15 174 :: u15 175 :: u15 176 :: List.replicate 1 un).toArray, []⟩) (by kernel_rfl) ?_
      refine wp_cond_true (by kernel_rfl) ?_
      refine wp_seq ?_
      refine wl_region ?_
      refine wl_val (.pointer (some ⟨d.q, 0, none⟩)) (by kernel_rfl) (by kernel_rfl) ?_
      refine wl_val (.string nm) (by kernel_rfl) (by kernel_rfl) ?_
      refine wl_val (.string sd) (by kernel_rfl) (by kernel_rfl) ?_
      refine wl_callx (by kernel_rfl) enter10 #[.pointer (some ⟨d.q, 0, none⟩), .string nm, .string sd] (by kernel_rfl) (Append_any (hcl19 ((q23, 31, #[.int .i64 wh, .string nm0, .string sd0, .int .i64 nn, .slice ko ks.length kc]) :: (q10, 28, #[iN .i64 rm, .slice pf nf cf, .bool dn, iN .i64 lf, .slice pz nz cz]) :: N) _ h29) nm sd hdb (by omega) (by omega)) ?_
      rintro _ w30 ⟨rfl, hDp⟩
      refine ⟨_, rfl, ?_⟩
      have hdbn := Append_DB hdb nm sd
      have hDp : DH _ _ d ((AppendD D nm sd).1) _ _ := hDp
      obtain ⟨z31, X32, hcl33, hbe34, h35⟩ := DH.front hDp
      have h36 : HA z31 ((q23, 31, #[.int .i64 wh, .string nm0, .string sd0, .int .i64 nn, .slice ko ks.length kc]) :: (q10, 28, #[iN .i64 rm, .slice pf nf cf, .bool dn, iN .i64 lf, .slice pz nz cz]) :: (N ++ X32)) w30 := h35
      refine wl_val (iN .i64 ((AppendD D nm sd).2)) (by kernel_rfl) (by kernel_rfl) ?_
      refine wl_nil ?_
      refine then_at rfl ?_
      refine wl_region ?_
      refine wl_load h36 1 rfl (by kernel_rfl) (by kernel_rfl) Try.underlying28 rfl (by kernel_rfl) ?_
      refine wl_val (.string nm) (by kernel_rfl) (by kernel_rfl) ?_
      refine wl_val (.string sd) (by kernel_rfl) (by kernel_rfl) ?_
      refine wl_callx (by kernel_rfl) enter11 #[.agg (#[iN .i64 rm, .slice pf nf cf, .bool dn, iN .i64 lf, .slice pz nz cz]), .string nm, .string sd] (by kernel_rfl) (rAppend hr (fun y hy => h36.blk y (List.mem_cons_of_mem _ (List.mem_cons_of_mem _ (List.mem_append_left _ hy)))) hdb (by omega) (by omega) nm sd (by omega)) ?_
      rintro _ w37 ⟨v1, N1, rfl, hRn, hNn1, hbn1⟩
      refine ⟨_, rfl, ?_⟩
      have h38 : HA z31 ((q23, 31, #[.int .i64 wh, .string nm0, .string sd0, .int .i64 nn, .slice ko ks.length kc]) :: (q10, 28, #[iN .i64 rm, .slice pf nf cf, .bool dn, iN .i64 lf, .slice pz nz cz]) :: ((N1 ++ N) ++ X32)) w37 := HA.perm (HA.addL h36 hbn1 hNn1) (perm_ref [(q23, 31, #[.int .i64 wh, .string nm0, .string sd0, .int .i64 nn, .slice ko ks.length kc]), (q10, 28, #[iN .i64 rm, .slice pf nf cf, .bool dn, iN .i64 lf, .slice pz nz cz])] N X32 N1)
      obtain ⟨pf39, nf39, cf39, dn39, lf39, pz39, nz39, cz39, rfl⟩ := RD.form hRn
      refine wl_val (.tuple #[.agg #[iN .i64 rm, .slice pf39 nf39 cf39, .bool dn39, iN .i64 lf39, .slice pz39 nz39 cz39], iN .i64 ((AppendD D nm sd).2)]) (by kernel_rfl) (by kernel_rfl) ?_
      refine wl_val (.agg #[iN .i64 rm, .slice pf39 nf39 cf39, .bool dn39, iN .i64 lf39, .slice pz39 nz39 cz39]) (by kernel_rfl) (by kernel_rfl) ?_
      refine wl_val (iN .i64 ((AppendD D nm sd).2)) (by kernel_rfl) (by kernel_rfl) ?_
      refine wl_fill (c' := #[iN .i64 rm, .slice pf39 nf39 cf39, .bool dn39, iN .i64 lf39, .slice pz39 nz39 cz39]) h38 1 rfl (by kernel_rfl) (by kernel_rfl) (by kernel_rfl) rfl (by kernel_rfl) (by kernel_rfl) ?_
      intro w40 (h41 : HA z31 ((q23, 31, #[.int .i64 wh, .string nm0, .string sd0, .int .i64 nn, .slice ko ks.length kc]) :: (q10, 28, #[iN .i64 rm, .slice pf39 nf39 cf39, .bool dn39, iN .i64 lf39, .slice pz39 nz39 cz39]) :: ((N1 ++ N) ++ X32)) w40)
      refine wl_val (iN .i64 ((AppendD D nm sd).2)) (by kernel_rfl) (by kernel_rfl) ?_
      refine wl_nil ?_
      refine block_normal ?_
      refine then_at rfl ?_
      refine wp_seq ?_
      refine wp_region_sure ⟨(.int .i64 z :: .slice o al.length c :: .string p :: un :: un :: un :: u15 6 :: pt d.q :: pt q10 :: iN .i64 i :: pt q23 :: .string nm :: .string sd :: iN .i64 ((AppendD D nm sd).2) :: iN .i64 ((AppendD D nm sd).2) :: u15 15 :: u15 16 :: u15 17 :: u15 18 :: u15 19 :: u15 20 :: .int .i64 z :: pt d.q :: .int .i64 z :: .agg #[iN .i64 rm, .slice none 0 0, .bool false, iN .i64 0, .slice none 0 0] :: pt d.q :: .bool false :: iN .i64 i :: .slice o al.length c :: iN .i64 al.length :: .bool true :: .bool true :: iN .i64 i :: .bool true :: .bool true :: u15 35 :: u15 36 :: .slice o al.length c :: iN .i64 i :: .pointer (some (oa.add (i * 5))) :: .agg #[.int .i64 wh, .string nm0, .string sd0, .int .i64 nn, .slice ko ks.length kc] :: .pointer (some ⟨q23, 1, none⟩) :: .string nm0 :: .string nm :: .pointer (some ⟨q23, 2, none⟩) :: .string sd0 :: .string sd :: pt q23 :: .int .i64 wh :: u15 49 :: u15 50 :: u15 51 :: u15 52 :: u15 53 :: u15 54 :: u15 55 :: u15 56 :: u15 57 :: u15 58 :: u15 59 :: u15 60 :: u15 61 :: u15 62 :: u15 63 :: u15 64 :: u15 65 :: u15 66 :: u15 67 :: u15 68 :: .bool true :: .bool true :: pt d.q :: .string nm :: .string sd :: iN .i64 ((AppendD D nm sd).2) :: .tuple #[.agg #[iN .i64 rm, .slice pf39 nf39 cf39, .bool dn39, iN .i64 lf39, .slice pz39 nz39 cz39], iN .i64 ((AppendD D nm sd).2)] :: .agg (#[iN .i64 rm, .slice pf nf cf, .bool dn, iN .i64 lf, .slice pz nz cz]) :: .string nm :: .string sd :: .tuple #[.agg #[iN .i64 rm, .slice pf39 nf39 cf39, .bool dn39, iN .i64 lf39, .slice pz39 nz39 cz39], iN .i64 ((AppendD D nm sd).2)] :: .agg #[iN .i64 rm, .slice pf39 nf39 cf39, .bool dn39, iN .i64 lf39, .slice pz39 nz39 cz39] :: iN .i64 ((AppendD D nm sd).2) :: u15 82 :: u15 83 :: u15 84 :: u15 85 :: u15 86 :: u15 87 :: u15 88 :: u15 89 :: u15 90 :: u15 91 :: u15 92 :: u15 93 :: u15 94 :: u15 95 :: u15 96 :: u15 97 :: u15 98 :: u15 99 :: u15 100 :: u15 101 :: u15 102 :: u15 103 :: u15 104 :: u15 105 :: u15 106 :: u15 107 :: u15 108 :: u15 109 :: u15 110 :: u15 111 :: u15 112 :: u15 113 :: u15 114 :: u15 115 :: u15 116 :: u15 117 :: u15 118 :: u15 119 :: u15 120 :: u15 121 :: u15 122 :: u15 123 :: u15 124 :: u15 125 :: u15 126 :: u15 127 :: u15 128 :: u15 129 :: u15 130 :: u15 131 :: u15 132 :: u15 133 :: u15 134 :: u15 135 :: u15 136 :: u15 137 :: u15 138 :: u15 139 :: u15 140 :: u15 141 :: u15 142 :: u15 143 :: u15 144 :: u15 145 :: u15 146 :: u15 147 :: u15 148 :: u15 149 :: u15 150 :: u15 151 :: u15 152 :: u15 153 :: u15 154 :: u15 155 :: u15 156 :: u15 157 :: u15 158 :: u15 159 :: u15 160 :: u15 161 :: u15 162 :: u15 163 :: u15 164 :: u15 165 :: iN .i64 ((AppendD D nm sd).2) :: iN .i64 ((AppendD D nm sd).2) :: .bool false :: .bool false :: pt d.q :: .agg (#[iN .i64 rm, .slice pf39 nf39 cf39, .bool dn39, iN .i64 lf39, .slice pz39 nz39 cz39]) :: .string p :: .string pp :: .bool true :: .bool false :: .bool false :: List.replicate 1 un).toArray, []⟩ (HA z31 ((q23, 31, #[.int .i64 wh, .string nm0, .string sd0, .int .i64 nn, .slice ko ks.length kc]) :: (q10, 28, #[iN .i64 rm, .slice pf39 nf39 cf39, .bool dn39, iN .i64 lf39, .slice pz39 nz39 cz39]) :: ((N1 ++ N) ++ X32))) [iN .i64 ((AppendD D nm sd).2), iN .i64 ((AppendD D nm sd).2), .bool false, .bool false, .pointer (some ⟨d.q, 0, none⟩), .agg (#[iN .i64 rm, .slice pf39 nf39 cf39, .bool dn39, iN .i64 lf39, .slice pz39 nz39 cz39]), .string p, .string pp, .bool true, .bool false, .bool false] (by kernel_rfl) (by kernel_rfl) (by kernel_rfl) (by kernel_rfl) (fun _ _ _ h => h) h41.drew ?_ ?_
      · refine AllSure.cons (OpSure.take (v := iN .i64 ((AppendD D nm sd).2)) (by kernel_rfl) (by kernel_rfl) (fun _ _ => (by kernel_rfl))) ?_
        refine AllSure.cons (OpSure.take (v := iN .i64 ((AppendD D nm sd).2)) (by kernel_rfl) (by kernel_rfl) (fun _ _ => (by kernel_rfl))) ?_
        refine AllSure.cons (OpSure.take (v := .bool false) (by kernel_rfl) (by kernel_rfl) (fun _ _ => (run_nei (k := .i64) (a := (AppendD D nm sd).2) (b := (AppendD D nm sd).2) (by kernel_rfl) (by kernel_rfl) false (decide_eq_false (fun h => h rfl))))) ?_
        refine AllSure.cons (OpSure.take (v := .bool false) (by kernel_rfl) (by kernel_rfl) (fun _ _ => (by kernel_rfl))) ?_
        refine AllSure.cons (OpSure.take (v := .pointer (some ⟨d.q, 0, none⟩)) (by kernel_rfl) (by kernel_rfl) (fun _ _ => (by kernel_rfl))) ?_
        refine AllSure.cons (OpSure.take (v := .agg (#[iN .i64 rm, .slice pf39 nf39 cf39, .bool dn39, iN .i64 lf39, .slice pz39 nz39 cz39])) (by kernel_rfl) (by kernel_rfl) (fun _ h => run_load_blk (by kernel_rfl) (h.get 1 rfl) Try.underlying28 rfl (by kernel_rfl))) ?_
        refine AllSure.cons (OpSure.take (v := .string p) (by kernel_rfl) (by kernel_rfl) (fun _ _ => (by kernel_rfl))) ?_
        refine AllSure.cons (sure_call (v := .string pp) (by kernel_rfl) (by kernel_rfl) enter9 HA.keep #[.string p, iN .i64 10] (by kernel_rfl) (fun w' h' => by rw [hpp]; exact cutP_any p 10 hpl w')) ?_
        refine AllSure.cons (sure_call (v := .bool true) (by kernel_rfl) (by kernel_rfl) enter25 HA.keep #[.pointer (some ⟨d.q, 0, none⟩), .agg (#[iN .i64 rm, .slice pf39 nf39 cf39, .bool dn39, iN .i64 lf39, .slice pz39 nz39 cz39]), .string pp] (by kernel_rfl) (fun w' h' => same_ok (hcl33 ((q23, 31, #[.int .i64 wh, .string nm0, .string sd0, .int .i64 nn, .slice ko ks.length kc]) :: (q10, 28, #[iN .i64 rm, .slice pf39 nf39 cf39, .bool dn39, iN .i64 lf39, .slice pz39 nz39 cz39]) :: (N1 ++ N)) _ h') hRn (fun y hy => h'.blk y (List.mem_cons_of_mem _ (List.mem_cons_of_mem _ (List.mem_append_left _ hy)))) hdbn (by omega) (by omega) pp)) ?_
        refine AllSure.cons (OpSure.take (v := .bool false) (by kernel_rfl) (by kernel_rfl) (fun _ _ => (by kernel_rfl))) ?_
        refine AllSure.cons (OpSure.take (v := .bool false) (by kernel_rfl) (by kernel_rfl) (fun _ _ => (by kernel_rfl))) ?_
        exact AllSure.nil
      intro w42 h43
      refine then_at rfl ?_
      refine wp_cond_false (by kernel_rfl) ?_
      refine wp_skip ?_
      refine block_normal ?_
      refine then_at rfl ?_
      refine wl_region ?_
      refine wl_val (iN .i64 i) (by kernel_rfl) (by kernel_rfl) ?_
      refine wl_val (iN .i64 (i + 1)) (by kernel_rfl) (run_add (k := .i64) (a := i) (b := 1) (by kernel_rfl) (by kernel_rfl) (by first | omega | (simp only [top]; omega))) ?_
      refine wl_val (iN .i64 (i + 1)) (by kernel_rfl) (by kernel_rfl) ?_
      refine wl_nil ?_
      exact then_I ⟨fun ii => (([(6, u15 6), (10, .pointer (some ⟨q23, 0, none⟩)), (11, .string nm), (12, .string sd), (13, iN .i64 ((AppendD D nm sd).2)), (14, iN .i64 ((AppendD D nm sd).2)), (15, u15 15), (16, u15 16), (17, u15 17), (18, u15 18), (19, u15 19), (20, u15 20), (27, iN .i64 i), (28, .slice o al.length c), (29, iN .i64 al.length), (30, .bool true), (31, .bool true), (32, iN .i64 i), (33, .bool true), (34, .bool true), (35, iN .i64 i), (36, iN .i64 (i + 1)), (37, .slice o al.length c), (38, iN .i64 i), (39, .pointer (some (oa.add (i * 5)))), (40, .agg #[.int .i64 wh, .string nm0, .string sd0, .int .i64 nn, .slice ko ks.length kc]), (41, .pointer (some ⟨q23, 1, none⟩)), (42, .string nm0), (43, .string nm), (44, .pointer (some ⟨q23, 2, none⟩)), (45, .string sd0), (46, .string sd), (47, .pointer (some ⟨q23, 0, none⟩)), (48, .int .i64 wh), (49, u15 49), (50, u15 50), (51, u15 51), (52, u15 52), (53, u15 53), (54, u15 54), (55, u15 55), (56, u15 56), (57, u15 57), (58, u15 58), (59, u15 59), (60, u15 60), (61, u15 61), (62, u15 62), (63, u15 63), (64, u15 64), (65, u15 65), (66, u15 66), (67, u15 67), (68, u15 68), (69, .bool true), (70, .bool true), (71, .pointer (some ⟨d.q, 0, none⟩)), (72, .string nm), (73, .string sd), (74, iN .i64 ((AppendD D nm sd).2)), (75, .tuple #[.agg #[iN .i64 rm, .slice pf39 nf39 cf39, .bool dn39, iN .i64 lf39, .slice pz39 nz39 cz39], iN .i64 ((AppendD D nm sd).2)]), (76, .agg (#[iN .i64 rm, .slice pf nf cf, .bool dn, iN .i64 lf, .slice pz nz cz])), (77, .string nm), (78, .string sd), (79, .tuple #[.agg #[iN .i64 rm, .slice pf39 nf39 cf39, .bool dn39, iN .i64 lf39, .slice pz39 nz39 cz39], iN .i64 ((AppendD D nm sd).2)]), (80, .agg #[iN .i64 rm, .slice pf39 nf39 cf39, .bool dn39, iN .i64 lf39, .slice pz39 nz39 cz39]), (81, iN .i64 ((AppendD D nm sd).2)), (82, u15 82), (83, u15 83), (84, u15 84), (85, u15 85), (86, u15 86), (87, u15 87), (88, u15 88), (89, u15 89), (90, u15 90), (91, u15 91), (92, u15 92), (93, u15 93), (94, u15 94), (95, u15 95), (96, u15 96), (97, u15 97), (98, u15 98), (99, u15 99), (100, u15 100), (101, u15 101), (102, u15 102), (103, u15 103), (104, u15 104), (105, u15 105), (106, u15 106), (107, u15 107), (108, u15 108), (109, u15 109), (110, u15 110), (111, u15 111), (112, u15 112), (113, u15 113), (114, u15 114), (115, u15 115), (116, u15 116), (117, u15 117), (118, u15 118), (119, u15 119), (120, u15 120), (121, u15 121), (122, u15 122), (123, u15 123), (124, u15 124), (125, u15 125), (126, u15 126), (127, u15 127), (128, u15 128), (129, u15 129), (130, u15 130), (131, u15 131), (132, u15 132), (133, u15 133), (134, u15 134), (135, u15 135), (136, u15 136), (137, u15 137), (138, u15 138), (139, u15 139), (140, u15 140), (141, u15 141), (142, u15 142), (143, u15 143), (144, u15 144), (145, u15 145), (146, u15 146), (147, u15 147), (148, u15 148), (149, u15 149), (150, u15 150), (151, u15 151), (152, u15 152), (153, u15 153), (154, u15 154), (155, u15 155), (156, u15 156), (157, u15 157), (158, u15 158), (159, u15 159), (160, u15 160), (161, u15 161), (162, u15 162), (163, u15 163), (164, u15 164), (165, u15 165), (166, iN .i64 ((AppendD D nm sd).2)), (167, iN .i64 ((AppendD D nm sd).2)), (168, .bool false), (169, .bool false), (170, .pointer (some ⟨d.q, 0, none⟩)), (171, .agg (#[iN .i64 rm, .slice pf39 nf39 cf39, .bool dn39, iN .i64 lf39, .slice pz39 nz39 cz39])), (172, .string p), (173, .string pp), (174, .bool true), (175, .bool false), (176, .bool false)] : List (Nat × Value)).find? (·.1 == ii)).elim undef (·.2), by kernel_rfl, (AppendD D nm sd).1, (N1 ++ N), _, _, _, _, _, _, _, _, hRn, hdbn.mono (by omega) (by omega), (hcl33 ((q10, 28, #[iN .i64 rm, .slice pf39 nf39 cf39, .bool dn39, iN .i64 lf39, .slice pz39 nz39 cz39]) :: (N1 ++ N)) _ (h43.sub (List.Sublist.cons _ (List.Sublist.refl _))))⟩
    · refine wl_region ?_
      refine wl_val (.bool false) (by kernel_rfl) (run_eqz (k := .i64) (a := wh) (b := 0) (by kernel_rfl) (by kernel_rfl) false (decide_eq_false (by omega))) ?_
      refine wl_val (.bool false) (by kernel_rfl) (by kernel_rfl) ?_
      refine wl_nil ?_
      refine then_at rfl ?_
      refine wp_cond_false (by kernel_rfl) ?_
      refine wp_seq ?_
      refine wl_region ?_
      refine wl_val (.bool true) (by kernel_rfl) (run_eqz (k := .i64) (a := wh) (b := 1) (by kernel_rfl) (by kernel_rfl) true (decide_eq_true (by omega))) ?_
      refine wl_val (.bool true) (by kernel_rfl) (by kernel_rfl) ?_
      refine wl_nil ?_
      refine then_at (F := ⟨(.int .i64 z :: .slice o al.length c :: .string p :: un :: un :: un :: u15 6 :: pt d.q :: pt q10 :: iN .i64 i :: pt q23 :: .string nm :: .string sd :: iN .i64 0 :: iN .i64 0 :: u15 15 :: u15 16 :: u15 17 :: u15 18 :: u15 19 :: u15 20 :: .int .i64 z :: pt d.q :: .int .i64 z :: .agg #[iN .i64 rm, .slice none 0 0, .bool false, iN .i64 0, .slice none 0 0] :: pt d.q :: .bool false :: iN .i64 i :: .slice o al.length c :: iN .i64 al.length :: .bool true :: .bool true :: iN .i64 i :: .bool true :: .bool true :: u15 35 :: u15 36 :: .slice o al.length c :: iN .i64 i :: .pointer (some (oa.add (i * 5))) :: .agg #[.int .i64 wh, .string nm0, .string sd0, .int .i64 nn, .slice ko ks.length kc] :: .pointer (some ⟨q23, 1, none⟩) :: .string nm0 :: .string nm :: .pointer (some ⟨q23, 2, none⟩) :: .string sd0 :: .string sd :: pt q23 :: .int .i64 wh :: u15 49 :: u15 50 :: u15 51 :: u15 52 :: u15 53 :: u15 54 :: u15 55 :: u15 56 :: u15 57 :: u15 58 :: u15 59 :: u15 60 :: u15 61 :: u15 62 :: u15 63 :: u15 64 :: u15 65 :: u15 66 :: u15 67 :: u15 68 :: .bool false :: .bool false :: u15 71 :: u15 72 :: u15 73 :: u15 74 :: u15 75 :: u15 76 :: u15 77 :: u15 78 :: u15 79 :: u15 80 :: u15 81 :: .bool true :: .bool true :: u15 84 :: u15 85 :: u15 86 :: u15 87 :: u15 88 :: u15 89 :: u15 90 :: u15 91 :: u15 92 :: u15 93 :: u15 94 :: u15 95 :: u15 96 :: u15 97 :: u15 98 :: u15 99 :: u15 100 :: u15 101 :: u15 102 :: u15 103 :: u15 104 :: u15 105 :: u15 106 :: u15 107 :: u15 108 :: u15 109 :: u15 110 :: u15 111 :: u15 112 :: u15 113 :: u15 114 :: u15 115 :: u15 116 :: u15 117 :: u15 118 :: u15 119 :: u15 120 :: u15 121 :: u15 122 :: u15 123 :: u15 124 :: u15 125 :: u15 126 :: u15 127 :: u15 128 :: u15 129 :: u15 130 :: u15 131 :: u15 132 :: u15 133 :: u15 134 :: u15 135 :: u15 136 :: u15 137 :: u15 138 :: u15 139 :: u15 140 :: u15 141 :: u15 142 :: u15 143 :: u15 144 :: u15 145 :: u15 146 :: u15 147 :: u15 148 :: u15 149 :: u15 150 :: u15 151 :: u15 152 :: u15 153 :: u15 154 :: u15 155 :: u15 156 :: u15 157 :: u15 158 :: u15 159 :: u15 160 :: u15 161 :: u15 162 :: u15 163 :: u15 164 :: u15 165 :: u15 166 :: u15 167 :: u15 168 :: u15 169 :: u15 170 :: u15 171 :: u15 172 :: u15 173 :: u15 174 :: u15 175 :: u15 176 :: List.replicate 1 un).toArray, []⟩) (by kernel_rfl) ?_
      refine wp_cond_true (by kernel_rfl) ?_
      refine wp_seq ?_
      refine wl_region ?_
      refine wl_val (.pointer (some ⟨d.q, 0, none⟩)) (by kernel_rfl) (by kernel_rfl) ?_
      refine wl_val (.string nm) (by kernel_rfl) (by kernel_rfl) ?_
      refine wl_callx (by kernel_rfl) enter12 #[.pointer (some ⟨d.q, 0, none⟩), .string nm] (by kernel_rfl) (Sync_any (hcl19 ((q23, 31, #[.int .i64 wh, .string nm0, .string sd0, .int .i64 nn, .slice ko ks.length kc]) :: (q10, 28, #[iN .i64 rm, .slice pf nf cf, .bool dn, iN .i64 lf, .slice pz nz cz]) :: N) _ h29) nm hdb (by omega)) ?_
      rintro _ w44 ⟨rfl, hDp⟩
      refine ⟨_, rfl, ?_⟩
      have hdbn := Sync_DB hdb nm
      have hDp : DH _ _ d ((SyncD D nm).1) _ _ := hDp
      obtain ⟨z45, X46, hcl47, hbe48, h49⟩ := DH.front hDp
      have h50 : HA z45 ((q23, 31, #[.int .i64 wh, .string nm0, .string sd0, .int .i64 nn, .slice ko ks.length kc]) :: (q10, 28, #[iN .i64 rm, .slice pf nf cf, .bool dn, iN .i64 lf, .slice pz nz cz]) :: (N ++ X46)) w44 := h49
      refine wl_val (iN .i64 ((SyncD D nm).2)) (by kernel_rfl) (by kernel_rfl) ?_
      refine wl_nil ?_
      refine then_at rfl ?_
      refine wl_region ?_
      refine wl_load h50 1 rfl (by kernel_rfl) (by kernel_rfl) Try.underlying28 rfl (by kernel_rfl) ?_
      refine wl_val (.string nm) (by kernel_rfl) (by kernel_rfl) ?_
      refine wl_callx (by kernel_rfl) enter13 #[.agg (#[iN .i64 rm, .slice pf nf cf, .bool dn, iN .i64 lf, .slice pz nz cz]), .string nm] (by kernel_rfl) (rSync hr (fun y hy => h50.blk y (List.mem_cons_of_mem _ (List.mem_cons_of_mem _ (List.mem_append_left _ hy)))) hdb (by omega) (by omega) nm) ?_
      rintro _ w51 ⟨v1, N1, rfl, hRn, hNn1, hbn1⟩
      refine ⟨_, rfl, ?_⟩
      have h52 : HA z45 ((q23, 31, #[.int .i64 wh, .string nm0, .string sd0, .int .i64 nn, .slice ko ks.length kc]) :: (q10, 28, #[iN .i64 rm, .slice pf nf cf, .bool dn, iN .i64 lf, .slice pz nz cz]) :: ((N1 ++ N) ++ X46)) w51 := HA.perm (HA.addL h50 hbn1 hNn1) (perm_ref [(q23, 31, #[.int .i64 wh, .string nm0, .string sd0, .int .i64 nn, .slice ko ks.length kc]), (q10, 28, #[iN .i64 rm, .slice pf nf cf, .bool dn, iN .i64 lf, .slice pz nz cz])] N X46 N1)
      obtain ⟨pf53, nf53, cf53, dn53, lf53, pz53, nz53, cz53, rfl⟩ := RD.form hRn
      refine wl_val (.tuple #[.agg #[iN .i64 rm, .slice pf53 nf53 cf53, .bool dn53, iN .i64 lf53, .slice pz53 nz53 cz53], iN .i64 ((SyncD D nm).2)]) (by kernel_rfl) (by kernel_rfl) ?_
      refine wl_val (.agg #[iN .i64 rm, .slice pf53 nf53 cf53, .bool dn53, iN .i64 lf53, .slice pz53 nz53 cz53]) (by kernel_rfl) (by kernel_rfl) ?_
      refine wl_val (iN .i64 ((SyncD D nm).2)) (by kernel_rfl) (by kernel_rfl) ?_
      refine wl_fill (c' := #[iN .i64 rm, .slice pf53 nf53 cf53, .bool dn53, iN .i64 lf53, .slice pz53 nz53 cz53]) h52 1 rfl (by kernel_rfl) (by kernel_rfl) (by kernel_rfl) rfl (by kernel_rfl) (by kernel_rfl) ?_
      intro w54 (h55 : HA z45 ((q23, 31, #[.int .i64 wh, .string nm0, .string sd0, .int .i64 nn, .slice ko ks.length kc]) :: (q10, 28, #[iN .i64 rm, .slice pf53 nf53 cf53, .bool dn53, iN .i64 lf53, .slice pz53 nz53 cz53]) :: ((N1 ++ N) ++ X46)) w54)
      refine wl_val (iN .i64 ((SyncD D nm).2)) (by kernel_rfl) (by kernel_rfl) ?_
      refine wl_nil ?_
      refine block_normal ?_
      refine then_at rfl ?_
      refine wp_seq ?_
      refine wp_region_sure ⟨(.int .i64 z :: .slice o al.length c :: .string p :: un :: un :: un :: u15 6 :: pt d.q :: pt q10 :: iN .i64 i :: pt q23 :: .string nm :: .string sd :: iN .i64 ((SyncD D nm).2) :: iN .i64 ((SyncD D nm).2) :: u15 15 :: u15 16 :: u15 17 :: u15 18 :: u15 19 :: u15 20 :: .int .i64 z :: pt d.q :: .int .i64 z :: .agg #[iN .i64 rm, .slice none 0 0, .bool false, iN .i64 0, .slice none 0 0] :: pt d.q :: .bool false :: iN .i64 i :: .slice o al.length c :: iN .i64 al.length :: .bool true :: .bool true :: iN .i64 i :: .bool true :: .bool true :: u15 35 :: u15 36 :: .slice o al.length c :: iN .i64 i :: .pointer (some (oa.add (i * 5))) :: .agg #[.int .i64 wh, .string nm0, .string sd0, .int .i64 nn, .slice ko ks.length kc] :: .pointer (some ⟨q23, 1, none⟩) :: .string nm0 :: .string nm :: .pointer (some ⟨q23, 2, none⟩) :: .string sd0 :: .string sd :: pt q23 :: .int .i64 wh :: u15 49 :: u15 50 :: u15 51 :: u15 52 :: u15 53 :: u15 54 :: u15 55 :: u15 56 :: u15 57 :: u15 58 :: u15 59 :: u15 60 :: u15 61 :: u15 62 :: u15 63 :: u15 64 :: u15 65 :: u15 66 :: u15 67 :: u15 68 :: .bool false :: .bool false :: u15 71 :: u15 72 :: u15 73 :: u15 74 :: u15 75 :: u15 76 :: u15 77 :: u15 78 :: u15 79 :: u15 80 :: u15 81 :: .bool true :: .bool true :: pt d.q :: .string nm :: iN .i64 ((SyncD D nm).2) :: .tuple #[.agg #[iN .i64 rm, .slice pf53 nf53 cf53, .bool dn53, iN .i64 lf53, .slice pz53 nz53 cz53], iN .i64 ((SyncD D nm).2)] :: .agg (#[iN .i64 rm, .slice pf nf cf, .bool dn, iN .i64 lf, .slice pz nz cz]) :: .string nm :: .tuple #[.agg #[iN .i64 rm, .slice pf53 nf53 cf53, .bool dn53, iN .i64 lf53, .slice pz53 nz53 cz53], iN .i64 ((SyncD D nm).2)] :: .agg #[iN .i64 rm, .slice pf53 nf53 cf53, .bool dn53, iN .i64 lf53, .slice pz53 nz53 cz53] :: iN .i64 ((SyncD D nm).2) :: u15 93 :: u15 94 :: u15 95 :: u15 96 :: u15 97 :: u15 98 :: u15 99 :: u15 100 :: u15 101 :: u15 102 :: u15 103 :: u15 104 :: u15 105 :: u15 106 :: u15 107 :: u15 108 :: u15 109 :: u15 110 :: u15 111 :: u15 112 :: u15 113 :: u15 114 :: u15 115 :: u15 116 :: u15 117 :: u15 118 :: u15 119 :: u15 120 :: u15 121 :: u15 122 :: u15 123 :: u15 124 :: u15 125 :: u15 126 :: u15 127 :: u15 128 :: u15 129 :: u15 130 :: u15 131 :: u15 132 :: u15 133 :: u15 134 :: u15 135 :: u15 136 :: u15 137 :: u15 138 :: u15 139 :: u15 140 :: u15 141 :: u15 142 :: u15 143 :: u15 144 :: u15 145 :: u15 146 :: u15 147 :: u15 148 :: u15 149 :: u15 150 :: u15 151 :: u15 152 :: u15 153 :: u15 154 :: u15 155 :: u15 156 :: u15 157 :: u15 158 :: u15 159 :: u15 160 :: u15 161 :: u15 162 :: u15 163 :: u15 164 :: u15 165 :: iN .i64 ((SyncD D nm).2) :: iN .i64 ((SyncD D nm).2) :: .bool false :: .bool false :: pt d.q :: .agg (#[iN .i64 rm, .slice pf53 nf53 cf53, .bool dn53, iN .i64 lf53, .slice pz53 nz53 cz53]) :: .string p :: .string pp :: .bool true :: .bool false :: .bool false :: List.replicate 1 un).toArray, []⟩ (HA z45 ((q23, 31, #[.int .i64 wh, .string nm0, .string sd0, .int .i64 nn, .slice ko ks.length kc]) :: (q10, 28, #[iN .i64 rm, .slice pf53 nf53 cf53, .bool dn53, iN .i64 lf53, .slice pz53 nz53 cz53]) :: ((N1 ++ N) ++ X46))) [iN .i64 ((SyncD D nm).2), iN .i64 ((SyncD D nm).2), .bool false, .bool false, .pointer (some ⟨d.q, 0, none⟩), .agg (#[iN .i64 rm, .slice pf53 nf53 cf53, .bool dn53, iN .i64 lf53, .slice pz53 nz53 cz53]), .string p, .string pp, .bool true, .bool false, .bool false] (by kernel_rfl) (by kernel_rfl) (by kernel_rfl) (by kernel_rfl) (fun _ _ _ h => h) h55.drew ?_ ?_
      · refine AllSure.cons (OpSure.take (v := iN .i64 ((SyncD D nm).2)) (by kernel_rfl) (by kernel_rfl) (fun _ _ => (by kernel_rfl))) ?_
        refine AllSure.cons (OpSure.take (v := iN .i64 ((SyncD D nm).2)) (by kernel_rfl) (by kernel_rfl) (fun _ _ => (by kernel_rfl))) ?_
        refine AllSure.cons (OpSure.take (v := .bool false) (by kernel_rfl) (by kernel_rfl) (fun _ _ => (run_nei (k := .i64) (a := (SyncD D nm).2) (b := (SyncD D nm).2) (by kernel_rfl) (by kernel_rfl) false (decide_eq_false (fun h => h rfl))))) ?_
        refine AllSure.cons (OpSure.take (v := .bool false) (by kernel_rfl) (by kernel_rfl) (fun _ _ => (by kernel_rfl))) ?_
        refine AllSure.cons (OpSure.take (v := .pointer (some ⟨d.q, 0, none⟩)) (by kernel_rfl) (by kernel_rfl) (fun _ _ => (by kernel_rfl))) ?_
        refine AllSure.cons (OpSure.take (v := .agg (#[iN .i64 rm, .slice pf53 nf53 cf53, .bool dn53, iN .i64 lf53, .slice pz53 nz53 cz53])) (by kernel_rfl) (by kernel_rfl) (fun _ h => run_load_blk (by kernel_rfl) (h.get 1 rfl) Try.underlying28 rfl (by kernel_rfl))) ?_
        refine AllSure.cons (OpSure.take (v := .string p) (by kernel_rfl) (by kernel_rfl) (fun _ _ => (by kernel_rfl))) ?_
        refine AllSure.cons (sure_call (v := .string pp) (by kernel_rfl) (by kernel_rfl) enter9 HA.keep #[.string p, iN .i64 10] (by kernel_rfl) (fun w' h' => by rw [hpp]; exact cutP_any p 10 hpl w')) ?_
        refine AllSure.cons (sure_call (v := .bool true) (by kernel_rfl) (by kernel_rfl) enter25 HA.keep #[.pointer (some ⟨d.q, 0, none⟩), .agg (#[iN .i64 rm, .slice pf53 nf53 cf53, .bool dn53, iN .i64 lf53, .slice pz53 nz53 cz53]), .string pp] (by kernel_rfl) (fun w' h' => same_ok (hcl47 ((q23, 31, #[.int .i64 wh, .string nm0, .string sd0, .int .i64 nn, .slice ko ks.length kc]) :: (q10, 28, #[iN .i64 rm, .slice pf53 nf53 cf53, .bool dn53, iN .i64 lf53, .slice pz53 nz53 cz53]) :: (N1 ++ N)) _ h') hRn (fun y hy => h'.blk y (List.mem_cons_of_mem _ (List.mem_cons_of_mem _ (List.mem_append_left _ hy)))) hdbn (by omega) (by omega) pp)) ?_
        refine AllSure.cons (OpSure.take (v := .bool false) (by kernel_rfl) (by kernel_rfl) (fun _ _ => (by kernel_rfl))) ?_
        refine AllSure.cons (OpSure.take (v := .bool false) (by kernel_rfl) (by kernel_rfl) (fun _ _ => (by kernel_rfl))) ?_
        exact AllSure.nil
      intro w56 h57
      refine then_at rfl ?_
      refine wp_cond_false (by kernel_rfl) ?_
      refine wp_skip ?_
      refine block_normal ?_
      refine then_at rfl ?_
      refine wl_region ?_
      refine wl_val (iN .i64 i) (by kernel_rfl) (by kernel_rfl) ?_
      refine wl_val (iN .i64 (i + 1)) (by kernel_rfl) (run_add (k := .i64) (a := i) (b := 1) (by kernel_rfl) (by kernel_rfl) (by first | omega | (simp only [top]; omega))) ?_
      refine wl_val (iN .i64 (i + 1)) (by kernel_rfl) (by kernel_rfl) ?_
      refine wl_nil ?_
      exact then_I ⟨fun ii => (([(6, u15 6), (10, .pointer (some ⟨q23, 0, none⟩)), (11, .string nm), (12, .string sd), (13, iN .i64 ((SyncD D nm).2)), (14, iN .i64 ((SyncD D nm).2)), (15, u15 15), (16, u15 16), (17, u15 17), (18, u15 18), (19, u15 19), (20, u15 20), (27, iN .i64 i), (28, .slice o al.length c), (29, iN .i64 al.length), (30, .bool true), (31, .bool true), (32, iN .i64 i), (33, .bool true), (34, .bool true), (35, iN .i64 i), (36, iN .i64 (i + 1)), (37, .slice o al.length c), (38, iN .i64 i), (39, .pointer (some (oa.add (i * 5)))), (40, .agg #[.int .i64 wh, .string nm0, .string sd0, .int .i64 nn, .slice ko ks.length kc]), (41, .pointer (some ⟨q23, 1, none⟩)), (42, .string nm0), (43, .string nm), (44, .pointer (some ⟨q23, 2, none⟩)), (45, .string sd0), (46, .string sd), (47, .pointer (some ⟨q23, 0, none⟩)), (48, .int .i64 wh), (49, u15 49), (50, u15 50), (51, u15 51), (52, u15 52), (53, u15 53), (54, u15 54), (55, u15 55), (56, u15 56), (57, u15 57), (58, u15 58), (59, u15 59), (60, u15 60), (61, u15 61), (62, u15 62), (63, u15 63), (64, u15 64), (65, u15 65), (66, u15 66), (67, u15 67), (68, u15 68), (69, .bool false), (70, .bool false), (71, u15 71), (72, u15 72), (73, u15 73), (74, u15 74), (75, u15 75), (76, u15 76), (77, u15 77), (78, u15 78), (79, u15 79), (80, u15 80), (81, u15 81), (82, .bool true), (83, .bool true), (84, .pointer (some ⟨d.q, 0, none⟩)), (85, .string nm), (86, iN .i64 ((SyncD D nm).2)), (87, .tuple #[.agg #[iN .i64 rm, .slice pf53 nf53 cf53, .bool dn53, iN .i64 lf53, .slice pz53 nz53 cz53], iN .i64 ((SyncD D nm).2)]), (88, .agg (#[iN .i64 rm, .slice pf nf cf, .bool dn, iN .i64 lf, .slice pz nz cz])), (89, .string nm), (90, .tuple #[.agg #[iN .i64 rm, .slice pf53 nf53 cf53, .bool dn53, iN .i64 lf53, .slice pz53 nz53 cz53], iN .i64 ((SyncD D nm).2)]), (91, .agg #[iN .i64 rm, .slice pf53 nf53 cf53, .bool dn53, iN .i64 lf53, .slice pz53 nz53 cz53]), (92, iN .i64 ((SyncD D nm).2)), (93, u15 93), (94, u15 94), (95, u15 95), (96, u15 96), (97, u15 97), (98, u15 98), (99, u15 99), (100, u15 100), (101, u15 101), (102, u15 102), (103, u15 103), (104, u15 104), (105, u15 105), (106, u15 106), (107, u15 107), (108, u15 108), (109, u15 109), (110, u15 110), (111, u15 111), (112, u15 112), (113, u15 113), (114, u15 114), (115, u15 115), (116, u15 116), (117, u15 117), (118, u15 118), (119, u15 119), (120, u15 120), (121, u15 121), (122, u15 122), (123, u15 123), (124, u15 124), (125, u15 125), (126, u15 126), (127, u15 127), (128, u15 128), (129, u15 129), (130, u15 130), (131, u15 131), (132, u15 132), (133, u15 133), (134, u15 134), (135, u15 135), (136, u15 136), (137, u15 137), (138, u15 138), (139, u15 139), (140, u15 140), (141, u15 141), (142, u15 142), (143, u15 143), (144, u15 144), (145, u15 145), (146, u15 146), (147, u15 147), (148, u15 148), (149, u15 149), (150, u15 150), (151, u15 151), (152, u15 152), (153, u15 153), (154, u15 154), (155, u15 155), (156, u15 156), (157, u15 157), (158, u15 158), (159, u15 159), (160, u15 160), (161, u15 161), (162, u15 162), (163, u15 163), (164, u15 164), (165, u15 165), (166, iN .i64 ((SyncD D nm).2)), (167, iN .i64 ((SyncD D nm).2)), (168, .bool false), (169, .bool false), (170, .pointer (some ⟨d.q, 0, none⟩)), (171, .agg (#[iN .i64 rm, .slice pf53 nf53 cf53, .bool dn53, iN .i64 lf53, .slice pz53 nz53 cz53])), (172, .string p), (173, .string pp), (174, .bool true), (175, .bool false), (176, .bool false)] : List (Nat × Value)).find? (·.1 == ii)).elim undef (·.2), by kernel_rfl, (SyncD D nm).1, (N1 ++ N), _, _, _, _, _, _, _, _, hRn, hdbn.mono (by omega) (by omega), (hcl47 ((q10, 28, #[iN .i64 rm, .slice pf53 nf53 cf53, .bool dn53, iN .i64 lf53, .slice pz53 nz53 cz53]) :: (N1 ++ N)) _ (h57.sub (List.Sublist.cons _ (List.Sublist.refl _))))⟩
    · refine wl_region ?_
      refine wl_val (.bool false) (by kernel_rfl) (run_eqz (k := .i64) (a := wh) (b := 0) (by kernel_rfl) (by kernel_rfl) false (decide_eq_false (by omega))) ?_
      refine wl_val (.bool false) (by kernel_rfl) (by kernel_rfl) ?_
      refine wl_nil ?_
      refine then_at rfl ?_
      refine wp_cond_false (by kernel_rfl) ?_
      refine wp_seq ?_
      refine wl_region ?_
      refine wl_val (.bool false) (by kernel_rfl) (run_eqz (k := .i64) (a := wh) (b := 1) (by kernel_rfl) (by kernel_rfl) false (decide_eq_false (by omega))) ?_
      refine wl_val (.bool false) (by kernel_rfl) (by kernel_rfl) ?_
      refine wl_nil ?_
      refine then_at (F := ⟨(.int .i64 z :: .slice o al.length c :: .string p :: un :: un :: un :: u15 6 :: pt d.q :: pt q10 :: iN .i64 i :: pt q23 :: .string nm :: .string sd :: iN .i64 0 :: iN .i64 0 :: u15 15 :: u15 16 :: u15 17 :: u15 18 :: u15 19 :: u15 20 :: .int .i64 z :: pt d.q :: .int .i64 z :: .agg #[iN .i64 rm, .slice none 0 0, .bool false, iN .i64 0, .slice none 0 0] :: pt d.q :: .bool false :: iN .i64 i :: .slice o al.length c :: iN .i64 al.length :: .bool true :: .bool true :: iN .i64 i :: .bool true :: .bool true :: u15 35 :: u15 36 :: .slice o al.length c :: iN .i64 i :: .pointer (some (oa.add (i * 5))) :: .agg #[.int .i64 wh, .string nm0, .string sd0, .int .i64 nn, .slice ko ks.length kc] :: .pointer (some ⟨q23, 1, none⟩) :: .string nm0 :: .string nm :: .pointer (some ⟨q23, 2, none⟩) :: .string sd0 :: .string sd :: pt q23 :: .int .i64 wh :: u15 49 :: u15 50 :: u15 51 :: u15 52 :: u15 53 :: u15 54 :: u15 55 :: u15 56 :: u15 57 :: u15 58 :: u15 59 :: u15 60 :: u15 61 :: u15 62 :: u15 63 :: u15 64 :: u15 65 :: u15 66 :: u15 67 :: u15 68 :: .bool false :: .bool false :: u15 71 :: u15 72 :: u15 73 :: u15 74 :: u15 75 :: u15 76 :: u15 77 :: u15 78 :: u15 79 :: u15 80 :: u15 81 :: .bool false :: .bool false :: u15 84 :: u15 85 :: u15 86 :: u15 87 :: u15 88 :: u15 89 :: u15 90 :: u15 91 :: u15 92 :: u15 93 :: u15 94 :: u15 95 :: u15 96 :: u15 97 :: u15 98 :: u15 99 :: u15 100 :: u15 101 :: u15 102 :: u15 103 :: u15 104 :: u15 105 :: u15 106 :: u15 107 :: u15 108 :: u15 109 :: u15 110 :: u15 111 :: u15 112 :: u15 113 :: u15 114 :: u15 115 :: u15 116 :: u15 117 :: u15 118 :: u15 119 :: u15 120 :: u15 121 :: u15 122 :: u15 123 :: u15 124 :: u15 125 :: u15 126 :: u15 127 :: u15 128 :: u15 129 :: u15 130 :: u15 131 :: u15 132 :: u15 133 :: u15 134 :: u15 135 :: u15 136 :: u15 137 :: u15 138 :: u15 139 :: u15 140 :: u15 141 :: u15 142 :: u15 143 :: u15 144 :: u15 145 :: u15 146 :: u15 147 :: u15 148 :: u15 149 :: u15 150 :: u15 151 :: u15 152 :: u15 153 :: u15 154 :: u15 155 :: u15 156 :: u15 157 :: u15 158 :: u15 159 :: u15 160 :: u15 161 :: u15 162 :: u15 163 :: u15 164 :: u15 165 :: u15 166 :: u15 167 :: u15 168 :: u15 169 :: u15 170 :: u15 171 :: u15 172 :: u15 173 :: u15 174 :: u15 175 :: u15 176 :: List.replicate 1 un).toArray, []⟩) (by kernel_rfl) ?_
      refine wp_cond_false (by kernel_rfl) ?_
      refine wp_seq ?_
      refine wl_region ?_
      refine wl_val (.bool true) (by kernel_rfl) (run_eqz (k := .i64) (a := wh) (b := 2) (by kernel_rfl) (by kernel_rfl) true (decide_eq_true (by omega))) ?_
      refine wl_val (.bool true) (by kernel_rfl) (by kernel_rfl) ?_
      refine wl_nil ?_
      refine then_at rfl ?_
      refine wp_cond_true (by kernel_rfl) ?_
      refine wp_seq ?_
      refine wl_region ?_
      refine wl_val (.pointer (some ⟨d.q, 0, none⟩)) (by kernel_rfl) (by kernel_rfl) ?_
      refine wl_val (.string nm) (by kernel_rfl) (by kernel_rfl) ?_
      refine wl_val (.string sd) (by kernel_rfl) (by kernel_rfl) ?_
      refine wl_callx (by kernel_rfl) enter14 #[.pointer (some ⟨d.q, 0, none⟩), .string nm, .string sd] (by kernel_rfl) (Rename_any (hcl19 ((q23, 31, #[.int .i64 wh, .string nm0, .string sd0, .int .i64 nn, .slice ko ks.length kc]) :: (q10, 28, #[iN .i64 rm, .slice pf nf cf, .bool dn, iN .i64 lf, .slice pz nz cz]) :: N) _ h29) nm sd hdb (by omega)) ?_
      rintro _ w58 ⟨rfl, hDp⟩
      refine ⟨_, rfl, ?_⟩
      have hdbn := Rename_DB hdb nm sd
      have hDp : DH _ _ d ((RenameD D nm sd).1) _ _ := hDp
      obtain ⟨z59, X60, hcl61, hbe62, h63⟩ := DH.front hDp
      have h64 : HA z59 ((q23, 31, #[.int .i64 wh, .string nm0, .string sd0, .int .i64 nn, .slice ko ks.length kc]) :: (q10, 28, #[iN .i64 rm, .slice pf nf cf, .bool dn, iN .i64 lf, .slice pz nz cz]) :: (N ++ X60)) w58 := h63
      refine wl_val (iN .i64 ((RenameD D nm sd).2)) (by kernel_rfl) (by kernel_rfl) ?_
      refine wl_nil ?_
      refine then_at rfl ?_
      refine wl_region ?_
      refine wl_load h64 1 rfl (by kernel_rfl) (by kernel_rfl) Try.underlying28 rfl (by kernel_rfl) ?_
      refine wl_val (.string nm) (by kernel_rfl) (by kernel_rfl) ?_
      refine wl_val (.string sd) (by kernel_rfl) (by kernel_rfl) ?_
      refine wl_callx (by kernel_rfl) enter15 #[.agg (#[iN .i64 rm, .slice pf nf cf, .bool dn, iN .i64 lf, .slice pz nz cz]), .string nm, .string sd] (by kernel_rfl) (rRename hr (fun y hy => h64.blk y (List.mem_cons_of_mem _ (List.mem_cons_of_mem _ (List.mem_append_left _ hy)))) hdb (by omega) (by omega) nm sd) ?_
      rintro _ w65 ⟨v1, N1, rfl, hRn, hNn1, hbn1⟩
      refine ⟨_, rfl, ?_⟩
      have h66 : HA z59 ((q23, 31, #[.int .i64 wh, .string nm0, .string sd0, .int .i64 nn, .slice ko ks.length kc]) :: (q10, 28, #[iN .i64 rm, .slice pf nf cf, .bool dn, iN .i64 lf, .slice pz nz cz]) :: ((N1 ++ N) ++ X60)) w65 := HA.perm (HA.addL h64 hbn1 hNn1) (perm_ref [(q23, 31, #[.int .i64 wh, .string nm0, .string sd0, .int .i64 nn, .slice ko ks.length kc]), (q10, 28, #[iN .i64 rm, .slice pf nf cf, .bool dn, iN .i64 lf, .slice pz nz cz])] N X60 N1)
      obtain ⟨pf67, nf67, cf67, dn67, lf67, pz67, nz67, cz67, rfl⟩ := RD.form hRn
      refine wl_val (.tuple #[.agg #[iN .i64 rm, .slice pf67 nf67 cf67, .bool dn67, iN .i64 lf67, .slice pz67 nz67 cz67], iN .i64 ((RenameD D nm sd).2)]) (by kernel_rfl) (by kernel_rfl) ?_
      refine wl_val (.agg #[iN .i64 rm, .slice pf67 nf67 cf67, .bool dn67, iN .i64 lf67, .slice pz67 nz67 cz67]) (by kernel_rfl) (by kernel_rfl) ?_
      refine wl_val (iN .i64 ((RenameD D nm sd).2)) (by kernel_rfl) (by kernel_rfl) ?_
      refine wl_fill (c' := #[iN .i64 rm, .slice pf67 nf67 cf67, .bool dn67, iN .i64 lf67, .slice pz67 nz67 cz67]) h66 1 rfl (by kernel_rfl) (by kernel_rfl) (by kernel_rfl) rfl (by kernel_rfl) (by kernel_rfl) ?_
      intro w68 (h69 : HA z59 ((q23, 31, #[.int .i64 wh, .string nm0, .string sd0, .int .i64 nn, .slice ko ks.length kc]) :: (q10, 28, #[iN .i64 rm, .slice pf67 nf67 cf67, .bool dn67, iN .i64 lf67, .slice pz67 nz67 cz67]) :: ((N1 ++ N) ++ X60)) w68)
      refine wl_val (iN .i64 ((RenameD D nm sd).2)) (by kernel_rfl) (by kernel_rfl) ?_
      refine wl_nil ?_
      refine block_normal ?_
      refine then_at rfl ?_
      refine wp_seq ?_
      refine wp_region_sure ⟨(.int .i64 z :: .slice o al.length c :: .string p :: un :: un :: un :: u15 6 :: pt d.q :: pt q10 :: iN .i64 i :: pt q23 :: .string nm :: .string sd :: iN .i64 ((RenameD D nm sd).2) :: iN .i64 ((RenameD D nm sd).2) :: u15 15 :: u15 16 :: u15 17 :: u15 18 :: u15 19 :: u15 20 :: .int .i64 z :: pt d.q :: .int .i64 z :: .agg #[iN .i64 rm, .slice none 0 0, .bool false, iN .i64 0, .slice none 0 0] :: pt d.q :: .bool false :: iN .i64 i :: .slice o al.length c :: iN .i64 al.length :: .bool true :: .bool true :: iN .i64 i :: .bool true :: .bool true :: u15 35 :: u15 36 :: .slice o al.length c :: iN .i64 i :: .pointer (some (oa.add (i * 5))) :: .agg #[.int .i64 wh, .string nm0, .string sd0, .int .i64 nn, .slice ko ks.length kc] :: .pointer (some ⟨q23, 1, none⟩) :: .string nm0 :: .string nm :: .pointer (some ⟨q23, 2, none⟩) :: .string sd0 :: .string sd :: pt q23 :: .int .i64 wh :: u15 49 :: u15 50 :: u15 51 :: u15 52 :: u15 53 :: u15 54 :: u15 55 :: u15 56 :: u15 57 :: u15 58 :: u15 59 :: u15 60 :: u15 61 :: u15 62 :: u15 63 :: u15 64 :: u15 65 :: u15 66 :: u15 67 :: u15 68 :: .bool false :: .bool false :: u15 71 :: u15 72 :: u15 73 :: u15 74 :: u15 75 :: u15 76 :: u15 77 :: u15 78 :: u15 79 :: u15 80 :: u15 81 :: .bool false :: .bool false :: u15 84 :: u15 85 :: u15 86 :: u15 87 :: u15 88 :: u15 89 :: u15 90 :: u15 91 :: u15 92 :: .bool true :: .bool true :: pt d.q :: .string nm :: .string sd :: iN .i64 ((RenameD D nm sd).2) :: .tuple #[.agg #[iN .i64 rm, .slice pf67 nf67 cf67, .bool dn67, iN .i64 lf67, .slice pz67 nz67 cz67], iN .i64 ((RenameD D nm sd).2)] :: .agg (#[iN .i64 rm, .slice pf nf cf, .bool dn, iN .i64 lf, .slice pz nz cz]) :: .string nm :: .string sd :: .tuple #[.agg #[iN .i64 rm, .slice pf67 nf67 cf67, .bool dn67, iN .i64 lf67, .slice pz67 nz67 cz67], iN .i64 ((RenameD D nm sd).2)] :: .agg #[iN .i64 rm, .slice pf67 nf67 cf67, .bool dn67, iN .i64 lf67, .slice pz67 nz67 cz67] :: iN .i64 ((RenameD D nm sd).2) :: u15 106 :: u15 107 :: u15 108 :: u15 109 :: u15 110 :: u15 111 :: u15 112 :: u15 113 :: u15 114 :: u15 115 :: u15 116 :: u15 117 :: u15 118 :: u15 119 :: u15 120 :: u15 121 :: u15 122 :: u15 123 :: u15 124 :: u15 125 :: u15 126 :: u15 127 :: u15 128 :: u15 129 :: u15 130 :: u15 131 :: u15 132 :: u15 133 :: u15 134 :: u15 135 :: u15 136 :: u15 137 :: u15 138 :: u15 139 :: u15 140 :: u15 141 :: u15 142 :: u15 143 :: u15 144 :: u15 145 :: u15 146 :: u15 147 :: u15 148 :: u15 149 :: u15 150 :: u15 151 :: u15 152 :: u15 153 :: u15 154 :: u15 155 :: u15 156 :: u15 157 :: u15 158 :: u15 159 :: u15 160 :: u15 161 :: u15 162 :: u15 163 :: u15 164 :: u15 165 :: iN .i64 ((RenameD D nm sd).2) :: iN .i64 ((RenameD D nm sd).2) :: .bool false :: .bool false :: pt d.q :: .agg (#[iN .i64 rm, .slice pf67 nf67 cf67, .bool dn67, iN .i64 lf67, .slice pz67 nz67 cz67]) :: .string p :: .string pp :: .bool true :: .bool false :: .bool false :: List.replicate 1 un).toArray, []⟩ (HA z59 ((q23, 31, #[.int .i64 wh, .string nm0, .string sd0, .int .i64 nn, .slice ko ks.length kc]) :: (q10, 28, #[iN .i64 rm, .slice pf67 nf67 cf67, .bool dn67, iN .i64 lf67, .slice pz67 nz67 cz67]) :: ((N1 ++ N) ++ X60))) [iN .i64 ((RenameD D nm sd).2), iN .i64 ((RenameD D nm sd).2), .bool false, .bool false, .pointer (some ⟨d.q, 0, none⟩), .agg (#[iN .i64 rm, .slice pf67 nf67 cf67, .bool dn67, iN .i64 lf67, .slice pz67 nz67 cz67]), .string p, .string pp, .bool true, .bool false, .bool false] (by kernel_rfl) (by kernel_rfl) (by kernel_rfl) (by kernel_rfl) (fun _ _ _ h => h) h69.drew ?_ ?_
      · refine AllSure.cons (OpSure.take (v := iN .i64 ((RenameD D nm sd).2)) (by kernel_rfl) (by kernel_rfl) (fun _ _ => (by kernel_rfl))) ?_
        refine AllSure.cons (OpSure.take (v := iN .i64 ((RenameD D nm sd).2)) (by kernel_rfl) (by kernel_rfl) (fun _ _ => (by kernel_rfl))) ?_
        refine AllSure.cons (OpSure.take (v := .bool false) (by kernel_rfl) (by kernel_rfl) (fun _ _ => (run_nei (k := .i64) (a := (RenameD D nm sd).2) (b := (RenameD D nm sd).2) (by kernel_rfl) (by kernel_rfl) false (decide_eq_false (fun h => h rfl))))) ?_
        refine AllSure.cons (OpSure.take (v := .bool false) (by kernel_rfl) (by kernel_rfl) (fun _ _ => (by kernel_rfl))) ?_
        refine AllSure.cons (OpSure.take (v := .pointer (some ⟨d.q, 0, none⟩)) (by kernel_rfl) (by kernel_rfl) (fun _ _ => (by kernel_rfl))) ?_
        refine AllSure.cons (OpSure.take (v := .agg (#[iN .i64 rm, .slice pf67 nf67 cf67, .bool dn67, iN .i64 lf67, .slice pz67 nz67 cz67])) (by kernel_rfl) (by kernel_rfl) (fun _ h => run_load_blk (by kernel_rfl) (h.get 1 rfl) Try.underlying28 rfl (by kernel_rfl))) ?_
        refine AllSure.cons (OpSure.take (v := .string p) (by kernel_rfl) (by kernel_rfl) (fun _ _ => (by kernel_rfl))) ?_
        refine AllSure.cons (sure_call (v := .string pp) (by kernel_rfl) (by kernel_rfl) enter9 HA.keep #[.string p, iN .i64 10] (by kernel_rfl) (fun w' h' => by rw [hpp]; exact cutP_any p 10 hpl w')) ?_
        refine AllSure.cons (sure_call (v := .bool true) (by kernel_rfl) (by kernel_rfl) enter25 HA.keep #[.pointer (some ⟨d.q, 0, none⟩), .agg (#[iN .i64 rm, .slice pf67 nf67 cf67, .bool dn67, iN .i64 lf67, .slice pz67 nz67 cz67]), .string pp] (by kernel_rfl) (fun w' h' => same_ok (hcl61 ((q23, 31, #[.int .i64 wh, .string nm0, .string sd0, .int .i64 nn, .slice ko ks.length kc]) :: (q10, 28, #[iN .i64 rm, .slice pf67 nf67 cf67, .bool dn67, iN .i64 lf67, .slice pz67 nz67 cz67]) :: (N1 ++ N)) _ h') hRn (fun y hy => h'.blk y (List.mem_cons_of_mem _ (List.mem_cons_of_mem _ (List.mem_append_left _ hy)))) hdbn (by omega) (by omega) pp)) ?_
        refine AllSure.cons (OpSure.take (v := .bool false) (by kernel_rfl) (by kernel_rfl) (fun _ _ => (by kernel_rfl))) ?_
        refine AllSure.cons (OpSure.take (v := .bool false) (by kernel_rfl) (by kernel_rfl) (fun _ _ => (by kernel_rfl))) ?_
        exact AllSure.nil
      intro w70 h71
      refine then_at rfl ?_
      refine wp_cond_false (by kernel_rfl) ?_
      refine wp_skip ?_
      refine block_normal ?_
      refine then_at rfl ?_
      refine wl_region ?_
      refine wl_val (iN .i64 i) (by kernel_rfl) (by kernel_rfl) ?_
      refine wl_val (iN .i64 (i + 1)) (by kernel_rfl) (run_add (k := .i64) (a := i) (b := 1) (by kernel_rfl) (by kernel_rfl) (by first | omega | (simp only [top]; omega))) ?_
      refine wl_val (iN .i64 (i + 1)) (by kernel_rfl) (by kernel_rfl) ?_
      refine wl_nil ?_
      exact then_I ⟨fun ii => (([(6, u15 6), (10, .pointer (some ⟨q23, 0, none⟩)), (11, .string nm), (12, .string sd), (13, iN .i64 ((RenameD D nm sd).2)), (14, iN .i64 ((RenameD D nm sd).2)), (15, u15 15), (16, u15 16), (17, u15 17), (18, u15 18), (19, u15 19), (20, u15 20), (27, iN .i64 i), (28, .slice o al.length c), (29, iN .i64 al.length), (30, .bool true), (31, .bool true), (32, iN .i64 i), (33, .bool true), (34, .bool true), (35, iN .i64 i), (36, iN .i64 (i + 1)), (37, .slice o al.length c), (38, iN .i64 i), (39, .pointer (some (oa.add (i * 5)))), (40, .agg #[.int .i64 wh, .string nm0, .string sd0, .int .i64 nn, .slice ko ks.length kc]), (41, .pointer (some ⟨q23, 1, none⟩)), (42, .string nm0), (43, .string nm), (44, .pointer (some ⟨q23, 2, none⟩)), (45, .string sd0), (46, .string sd), (47, .pointer (some ⟨q23, 0, none⟩)), (48, .int .i64 wh), (49, u15 49), (50, u15 50), (51, u15 51), (52, u15 52), (53, u15 53), (54, u15 54), (55, u15 55), (56, u15 56), (57, u15 57), (58, u15 58), (59, u15 59), (60, u15 60), (61, u15 61), (62, u15 62), (63, u15 63), (64, u15 64), (65, u15 65), (66, u15 66), (67, u15 67), (68, u15 68), (69, .bool false), (70, .bool false), (71, u15 71), (72, u15 72), (73, u15 73), (74, u15 74), (75, u15 75), (76, u15 76), (77, u15 77), (78, u15 78), (79, u15 79), (80, u15 80), (81, u15 81), (82, .bool false), (83, .bool false), (84, u15 84), (85, u15 85), (86, u15 86), (87, u15 87), (88, u15 88), (89, u15 89), (90, u15 90), (91, u15 91), (92, u15 92), (93, .bool true), (94, .bool true), (95, .pointer (some ⟨d.q, 0, none⟩)), (96, .string nm), (97, .string sd), (98, iN .i64 ((RenameD D nm sd).2)), (99, .tuple #[.agg #[iN .i64 rm, .slice pf67 nf67 cf67, .bool dn67, iN .i64 lf67, .slice pz67 nz67 cz67], iN .i64 ((RenameD D nm sd).2)]), (100, .agg (#[iN .i64 rm, .slice pf nf cf, .bool dn, iN .i64 lf, .slice pz nz cz])), (101, .string nm), (102, .string sd), (103, .tuple #[.agg #[iN .i64 rm, .slice pf67 nf67 cf67, .bool dn67, iN .i64 lf67, .slice pz67 nz67 cz67], iN .i64 ((RenameD D nm sd).2)]), (104, .agg #[iN .i64 rm, .slice pf67 nf67 cf67, .bool dn67, iN .i64 lf67, .slice pz67 nz67 cz67]), (105, iN .i64 ((RenameD D nm sd).2)), (106, u15 106), (107, u15 107), (108, u15 108), (109, u15 109), (110, u15 110), (111, u15 111), (112, u15 112), (113, u15 113), (114, u15 114), (115, u15 115), (116, u15 116), (117, u15 117), (118, u15 118), (119, u15 119), (120, u15 120), (121, u15 121), (122, u15 122), (123, u15 123), (124, u15 124), (125, u15 125), (126, u15 126), (127, u15 127), (128, u15 128), (129, u15 129), (130, u15 130), (131, u15 131), (132, u15 132), (133, u15 133), (134, u15 134), (135, u15 135), (136, u15 136), (137, u15 137), (138, u15 138), (139, u15 139), (140, u15 140), (141, u15 141), (142, u15 142), (143, u15 143), (144, u15 144), (145, u15 145), (146, u15 146), (147, u15 147), (148, u15 148), (149, u15 149), (150, u15 150), (151, u15 151), (152, u15 152), (153, u15 153), (154, u15 154), (155, u15 155), (156, u15 156), (157, u15 157), (158, u15 158), (159, u15 159), (160, u15 160), (161, u15 161), (162, u15 162), (163, u15 163), (164, u15 164), (165, u15 165), (166, iN .i64 ((RenameD D nm sd).2)), (167, iN .i64 ((RenameD D nm sd).2)), (168, .bool false), (169, .bool false), (170, .pointer (some ⟨d.q, 0, none⟩)), (171, .agg (#[iN .i64 rm, .slice pf67 nf67 cf67, .bool dn67, iN .i64 lf67, .slice pz67 nz67 cz67])), (172, .string p), (173, .string pp), (174, .bool true), (175, .bool false), (176, .bool false)] : List (Nat × Value)).find? (·.1 == ii)).elim undef (·.2), by kernel_rfl, (RenameD D nm sd).1, (N1 ++ N), _, _, _, _, _, _, _, _, hRn, hdbn.mono (by omega) (by omega), (hcl61 ((q10, 28, #[iN .i64 rm, .slice pf67 nf67 cf67, .bool dn67, iN .i64 lf67, .slice pz67 nz67 cz67]) :: (N1 ++ N)) _ (h71.sub (List.Sublist.cons _ (List.Sublist.refl _))))⟩
    · refine wl_region ?_
      refine wl_val (.bool false) (by kernel_rfl) (run_eqz (k := .i64) (a := wh) (b := 0) (by kernel_rfl) (by kernel_rfl) false (decide_eq_false (by omega))) ?_
      refine wl_val (.bool false) (by kernel_rfl) (by kernel_rfl) ?_
      refine wl_nil ?_
      refine then_at (F := ⟨(.int .i64 z :: .slice o al.length c :: .string p :: un :: un :: un :: u15 6 :: pt d.q :: pt q10 :: iN .i64 i :: pt q23 :: .string nm :: .string sd :: iN .i64 0 :: iN .i64 0 :: u15 15 :: u15 16 :: u15 17 :: u15 18 :: u15 19 :: u15 20 :: .int .i64 z :: pt d.q :: .int .i64 z :: .agg #[iN .i64 rm, .slice none 0 0, .bool false, iN .i64 0, .slice none 0 0] :: pt d.q :: .bool false :: iN .i64 i :: .slice o al.length c :: iN .i64 al.length :: .bool true :: .bool true :: iN .i64 i :: .bool true :: .bool true :: u15 35 :: u15 36 :: .slice o al.length c :: iN .i64 i :: .pointer (some (oa.add (i * 5))) :: .agg #[.int .i64 wh, .string nm0, .string sd0, .int .i64 nn, .slice ko ks.length kc] :: .pointer (some ⟨q23, 1, none⟩) :: .string nm0 :: .string nm :: .pointer (some ⟨q23, 2, none⟩) :: .string sd0 :: .string sd :: pt q23 :: .int .i64 wh :: u15 49 :: u15 50 :: u15 51 :: u15 52 :: u15 53 :: u15 54 :: u15 55 :: u15 56 :: u15 57 :: u15 58 :: u15 59 :: u15 60 :: u15 61 :: u15 62 :: u15 63 :: u15 64 :: u15 65 :: u15 66 :: u15 67 :: u15 68 :: .bool false :: .bool false :: u15 71 :: u15 72 :: u15 73 :: u15 74 :: u15 75 :: u15 76 :: u15 77 :: u15 78 :: u15 79 :: u15 80 :: u15 81 :: u15 82 :: u15 83 :: u15 84 :: u15 85 :: u15 86 :: u15 87 :: u15 88 :: u15 89 :: u15 90 :: u15 91 :: u15 92 :: u15 93 :: u15 94 :: u15 95 :: u15 96 :: u15 97 :: u15 98 :: u15 99 :: u15 100 :: u15 101 :: u15 102 :: u15 103 :: u15 104 :: u15 105 :: u15 106 :: u15 107 :: u15 108 :: u15 109 :: u15 110 :: u15 111 :: u15 112 :: u15 113 :: u15 114 :: u15 115 :: u15 116 :: u15 117 :: u15 118 :: u15 119 :: u15 120 :: u15 121 :: u15 122 :: u15 123 :: u15 124 :: u15 125 :: u15 126 :: u15 127 :: u15 128 :: u15 129 :: u15 130 :: u15 131 :: u15 132 :: u15 133 :: u15 134 :: u15 135 :: u15 136 :: u15 137 :: u15 138 :: u15 139 :: u15 140 :: u15 141 :: u15 142 :: u15 143 :: u15 144 :: u15 145 :: u15 146 :: u15 147 :: u15 148 :: u15 149 :: u15 150 :: u15 151 :: u15 152 :: u15 153 :: u15 154 :: u15 155 :: u15 156 :: u15 157 :: u15 158 :: u15 159 :: u15 160 :: u15 161 :: u15 162 :: u15 163 :: u15 164 :: u15 165 :: u15 166 :: u15 167 :: u15 168 :: u15 169 :: u15 170 :: u15 171 :: u15 172 :: u15 173 :: u15 174 :: u15 175 :: u15 176 :: List.replicate 1 un).toArray, []⟩) (by kernel_rfl) ?_
      refine wp_cond_false (by kernel_rfl) ?_
      refine wp_seq ?_
      refine wl_region ?_
      refine wl_val (.bool false) (by kernel_rfl) (run_eqz (k := .i64) (a := wh) (b := 1) (by kernel_rfl) (by kernel_rfl) false (decide_eq_false (by omega))) ?_
      refine wl_val (.bool false) (by kernel_rfl) (by kernel_rfl) ?_
      refine wl_nil ?_
      refine then_at rfl ?_
      refine wp_cond_false (by kernel_rfl) ?_
      refine wp_seq ?_
      refine wl_region ?_
      refine wl_val (.bool false) (by kernel_rfl) (run_eqz (k := .i64) (a := wh) (b := 2) (by kernel_rfl) (by kernel_rfl) false (decide_eq_false (by omega))) ?_
      refine wl_val (.bool false) (by kernel_rfl) (by kernel_rfl) ?_
      refine wl_nil ?_
      refine then_at rfl ?_
      refine wp_cond_false (by kernel_rfl) ?_
      refine wp_seq ?_
      refine wl_region ?_
      refine wl_val (.bool true) (by kernel_rfl) (run_eqz (k := .i64) (a := wh) (b := 3) (by kernel_rfl) (by kernel_rfl) true (decide_eq_true (by omega))) ?_
      refine wl_val (.bool true) (by kernel_rfl) (by kernel_rfl) ?_
      refine wl_nil ?_
      refine then_at rfl ?_
      refine wp_cond_true (by kernel_rfl) ?_
      refine wp_seq ?_
      refine wl_region ?_
      refine wl_val (.pointer (some ⟨d.q, 0, none⟩)) (by kernel_rfl) (by kernel_rfl) ?_
      refine wl_val (.string nm) (by kernel_rfl) (by kernel_rfl) ?_
      refine wl_callx (by kernel_rfl) enter16 #[.pointer (some ⟨d.q, 0, none⟩), .string nm] (by kernel_rfl) (Remove_any (hcl19 ((q23, 31, #[.int .i64 wh, .string nm0, .string sd0, .int .i64 nn, .slice ko ks.length kc]) :: (q10, 28, #[iN .i64 rm, .slice pf nf cf, .bool dn, iN .i64 lf, .slice pz nz cz]) :: N) _ h29) nm hdb (by omega)) ?_
      rintro _ w72 ⟨rfl, hDp⟩
      refine ⟨_, rfl, ?_⟩
      have hdbn := Remove_DB hdb nm
      have hDp : DH _ _ d ((RemoveD D nm).1) _ _ := hDp
      obtain ⟨z73, X74, hcl75, hbe76, h77⟩ := DH.front hDp
      have h78 : HA z73 ((q23, 31, #[.int .i64 wh, .string nm0, .string sd0, .int .i64 nn, .slice ko ks.length kc]) :: (q10, 28, #[iN .i64 rm, .slice pf nf cf, .bool dn, iN .i64 lf, .slice pz nz cz]) :: (N ++ X74)) w72 := h77
      refine wl_val (iN .i64 ((RemoveD D nm).2)) (by kernel_rfl) (by kernel_rfl) ?_
      refine wl_nil ?_
      refine then_at rfl ?_
      refine wl_region ?_
      refine wl_load h78 1 rfl (by kernel_rfl) (by kernel_rfl) Try.underlying28 rfl (by kernel_rfl) ?_
      refine wl_val (.string nm) (by kernel_rfl) (by kernel_rfl) ?_
      refine wl_callx (by kernel_rfl) enter17 #[.agg (#[iN .i64 rm, .slice pf nf cf, .bool dn, iN .i64 lf, .slice pz nz cz]), .string nm] (by kernel_rfl) (rRemove hr (fun y hy => h78.blk y (List.mem_cons_of_mem _ (List.mem_cons_of_mem _ (List.mem_append_left _ hy)))) hdb (by omega) (by omega) nm) ?_
      rintro _ w79 ⟨v1, N1, rfl, hRn, hNn1, hbn1⟩
      refine ⟨_, rfl, ?_⟩
      have h80 : HA z73 ((q23, 31, #[.int .i64 wh, .string nm0, .string sd0, .int .i64 nn, .slice ko ks.length kc]) :: (q10, 28, #[iN .i64 rm, .slice pf nf cf, .bool dn, iN .i64 lf, .slice pz nz cz]) :: ((N1 ++ N) ++ X74)) w79 := HA.perm (HA.addL h78 hbn1 hNn1) (perm_ref [(q23, 31, #[.int .i64 wh, .string nm0, .string sd0, .int .i64 nn, .slice ko ks.length kc]), (q10, 28, #[iN .i64 rm, .slice pf nf cf, .bool dn, iN .i64 lf, .slice pz nz cz])] N X74 N1)
      obtain ⟨pf81, nf81, cf81, dn81, lf81, pz81, nz81, cz81, rfl⟩ := RD.form hRn
      refine wl_val (.tuple #[.agg #[iN .i64 rm, .slice pf81 nf81 cf81, .bool dn81, iN .i64 lf81, .slice pz81 nz81 cz81], iN .i64 ((RemoveD D nm).2)]) (by kernel_rfl) (by kernel_rfl) ?_
      refine wl_val (.agg #[iN .i64 rm, .slice pf81 nf81 cf81, .bool dn81, iN .i64 lf81, .slice pz81 nz81 cz81]) (by kernel_rfl) (by kernel_rfl) ?_
      refine wl_val (iN .i64 ((RemoveD D nm).2)) (by kernel_rfl) (by kernel_rfl) ?_
      refine wl_fill (c' := #[iN .i64 rm, .slice pf81 nf81 cf81, .bool dn81, iN .i64 lf81, .slice pz81 nz81 cz81]) h80 1 rfl (by kernel_rfl) (by kernel_rfl) (by kernel_rfl) rfl (by kernel_rfl) (by kernel_rfl) ?_
      intro w82 (h83 : HA z73 ((q23, 31, #[.int .i64 wh, .string nm0, .string sd0, .int .i64 nn, .slice ko ks.length kc]) :: (q10, 28, #[iN .i64 rm, .slice pf81 nf81 cf81, .bool dn81, iN .i64 lf81, .slice pz81 nz81 cz81]) :: ((N1 ++ N) ++ X74)) w82)
      refine wl_val (iN .i64 ((RemoveD D nm).2)) (by kernel_rfl) (by kernel_rfl) ?_
      refine wl_nil ?_
      refine block_normal ?_
      refine then_at rfl ?_
      refine wp_seq ?_
      refine wp_region_sure ⟨(.int .i64 z :: .slice o al.length c :: .string p :: un :: un :: un :: u15 6 :: pt d.q :: pt q10 :: iN .i64 i :: pt q23 :: .string nm :: .string sd :: iN .i64 ((RemoveD D nm).2) :: iN .i64 ((RemoveD D nm).2) :: u15 15 :: u15 16 :: u15 17 :: u15 18 :: u15 19 :: u15 20 :: .int .i64 z :: pt d.q :: .int .i64 z :: .agg #[iN .i64 rm, .slice none 0 0, .bool false, iN .i64 0, .slice none 0 0] :: pt d.q :: .bool false :: iN .i64 i :: .slice o al.length c :: iN .i64 al.length :: .bool true :: .bool true :: iN .i64 i :: .bool true :: .bool true :: u15 35 :: u15 36 :: .slice o al.length c :: iN .i64 i :: .pointer (some (oa.add (i * 5))) :: .agg #[.int .i64 wh, .string nm0, .string sd0, .int .i64 nn, .slice ko ks.length kc] :: .pointer (some ⟨q23, 1, none⟩) :: .string nm0 :: .string nm :: .pointer (some ⟨q23, 2, none⟩) :: .string sd0 :: .string sd :: pt q23 :: .int .i64 wh :: u15 49 :: u15 50 :: u15 51 :: u15 52 :: u15 53 :: u15 54 :: u15 55 :: u15 56 :: u15 57 :: u15 58 :: u15 59 :: u15 60 :: u15 61 :: u15 62 :: u15 63 :: u15 64 :: u15 65 :: u15 66 :: u15 67 :: u15 68 :: .bool false :: .bool false :: u15 71 :: u15 72 :: u15 73 :: u15 74 :: u15 75 :: u15 76 :: u15 77 :: u15 78 :: u15 79 :: u15 80 :: u15 81 :: .bool false :: .bool false :: u15 84 :: u15 85 :: u15 86 :: u15 87 :: u15 88 :: u15 89 :: u15 90 :: u15 91 :: u15 92 :: .bool false :: .bool false :: u15 95 :: u15 96 :: u15 97 :: u15 98 :: u15 99 :: u15 100 :: u15 101 :: u15 102 :: u15 103 :: u15 104 :: u15 105 :: .bool true :: .bool true :: pt d.q :: .string nm :: iN .i64 ((RemoveD D nm).2) :: .tuple #[.agg #[iN .i64 rm, .slice pf81 nf81 cf81, .bool dn81, iN .i64 lf81, .slice pz81 nz81 cz81], iN .i64 ((RemoveD D nm).2)] :: .agg (#[iN .i64 rm, .slice pf nf cf, .bool dn, iN .i64 lf, .slice pz nz cz]) :: .string nm :: .tuple #[.agg #[iN .i64 rm, .slice pf81 nf81 cf81, .bool dn81, iN .i64 lf81, .slice pz81 nz81 cz81], iN .i64 ((RemoveD D nm).2)] :: .agg #[iN .i64 rm, .slice pf81 nf81 cf81, .bool dn81, iN .i64 lf81, .slice pz81 nz81 cz81] :: iN .i64 ((RemoveD D nm).2) :: u15 117 :: u15 118 :: u15 119 :: u15 120 :: u15 121 :: u15 122 :: u15 123 :: u15 124 :: u15 125 :: u15 126 :: u15 127 :: u15 128 :: u15 129 :: u15 130 :: u15 131 :: u15 132 :: u15 133 :: u15 134 :: u15 135 :: u15 136 :: u15 137 :: u15 138 :: u15 139 :: u15 140 :: u15 141 :: u15 142 :: u15 143 :: u15 144 :: u15 145 :: u15 146 :: u15 147 :: u15 148 :: u15 149 :: u15 150 :: u15 151 :: u15 152 :: u15 153 :: u15 154 :: u15 155 :: u15 156 :: u15 157 :: u15 158 :: u15 159 :: u15 160 :: u15 161 :: u15 162 :: u15 163 :: u15 164 :: u15 165 :: iN .i64 ((RemoveD D nm).2) :: iN .i64 ((RemoveD D nm).2) :: .bool false :: .bool false :: pt d.q :: .agg (#[iN .i64 rm, .slice pf81 nf81 cf81, .bool dn81, iN .i64 lf81, .slice pz81 nz81 cz81]) :: .string p :: .string pp :: .bool true :: .bool false :: .bool false :: List.replicate 1 un).toArray, []⟩ (HA z73 ((q23, 31, #[.int .i64 wh, .string nm0, .string sd0, .int .i64 nn, .slice ko ks.length kc]) :: (q10, 28, #[iN .i64 rm, .slice pf81 nf81 cf81, .bool dn81, iN .i64 lf81, .slice pz81 nz81 cz81]) :: ((N1 ++ N) ++ X74))) [iN .i64 ((RemoveD D nm).2), iN .i64 ((RemoveD D nm).2), .bool false, .bool false, .pointer (some ⟨d.q, 0, none⟩), .agg (#[iN .i64 rm, .slice pf81 nf81 cf81, .bool dn81, iN .i64 lf81, .slice pz81 nz81 cz81]), .string p, .string pp, .bool true, .bool false, .bool false] (by kernel_rfl) (by kernel_rfl) (by kernel_rfl) (by kernel_rfl) (fun _ _ _ h => h) h83.drew ?_ ?_
      · refine AllSure.cons (OpSure.take (v := iN .i64 ((RemoveD D nm).2)) (by kernel_rfl) (by kernel_rfl) (fun _ _ => (by kernel_rfl))) ?_
        refine AllSure.cons (OpSure.take (v := iN .i64 ((RemoveD D nm).2)) (by kernel_rfl) (by kernel_rfl) (fun _ _ => (by kernel_rfl))) ?_
        refine AllSure.cons (OpSure.take (v := .bool false) (by kernel_rfl) (by kernel_rfl) (fun _ _ => (run_nei (k := .i64) (a := (RemoveD D nm).2) (b := (RemoveD D nm).2) (by kernel_rfl) (by kernel_rfl) false (decide_eq_false (fun h => h rfl))))) ?_
        refine AllSure.cons (OpSure.take (v := .bool false) (by kernel_rfl) (by kernel_rfl) (fun _ _ => (by kernel_rfl))) ?_
        refine AllSure.cons (OpSure.take (v := .pointer (some ⟨d.q, 0, none⟩)) (by kernel_rfl) (by kernel_rfl) (fun _ _ => (by kernel_rfl))) ?_
        refine AllSure.cons (OpSure.take (v := .agg (#[iN .i64 rm, .slice pf81 nf81 cf81, .bool dn81, iN .i64 lf81, .slice pz81 nz81 cz81])) (by kernel_rfl) (by kernel_rfl) (fun _ h => run_load_blk (by kernel_rfl) (h.get 1 rfl) Try.underlying28 rfl (by kernel_rfl))) ?_
        refine AllSure.cons (OpSure.take (v := .string p) (by kernel_rfl) (by kernel_rfl) (fun _ _ => (by kernel_rfl))) ?_
        refine AllSure.cons (sure_call (v := .string pp) (by kernel_rfl) (by kernel_rfl) enter9 HA.keep #[.string p, iN .i64 10] (by kernel_rfl) (fun w' h' => by rw [hpp]; exact cutP_any p 10 hpl w')) ?_
        refine AllSure.cons (sure_call (v := .bool true) (by kernel_rfl) (by kernel_rfl) enter25 HA.keep #[.pointer (some ⟨d.q, 0, none⟩), .agg (#[iN .i64 rm, .slice pf81 nf81 cf81, .bool dn81, iN .i64 lf81, .slice pz81 nz81 cz81]), .string pp] (by kernel_rfl) (fun w' h' => same_ok (hcl75 ((q23, 31, #[.int .i64 wh, .string nm0, .string sd0, .int .i64 nn, .slice ko ks.length kc]) :: (q10, 28, #[iN .i64 rm, .slice pf81 nf81 cf81, .bool dn81, iN .i64 lf81, .slice pz81 nz81 cz81]) :: (N1 ++ N)) _ h') hRn (fun y hy => h'.blk y (List.mem_cons_of_mem _ (List.mem_cons_of_mem _ (List.mem_append_left _ hy)))) hdbn (by omega) (by omega) pp)) ?_
        refine AllSure.cons (OpSure.take (v := .bool false) (by kernel_rfl) (by kernel_rfl) (fun _ _ => (by kernel_rfl))) ?_
        refine AllSure.cons (OpSure.take (v := .bool false) (by kernel_rfl) (by kernel_rfl) (fun _ _ => (by kernel_rfl))) ?_
        exact AllSure.nil
      intro w84 h85
      refine then_at (F := ⟨(.int .i64 z :: .slice o al.length c :: .string p :: un :: un :: un :: u15 6 :: pt d.q :: pt q10 :: iN .i64 i :: pt q23 :: .string nm :: .string sd :: iN .i64 ((RemoveD D nm).2) :: iN .i64 ((RemoveD D nm).2) :: u15 15 :: u15 16 :: u15 17 :: u15 18 :: u15 19 :: u15 20 :: .int .i64 z :: pt d.q :: .int .i64 z :: .agg #[iN .i64 rm, .slice none 0 0, .bool false, iN .i64 0, .slice none 0 0] :: pt d.q :: .bool false :: iN .i64 i :: .slice o al.length c :: iN .i64 al.length :: .bool true :: .bool true :: iN .i64 i :: .bool true :: .bool true :: u15 35 :: u15 36 :: .slice o al.length c :: iN .i64 i :: .pointer (some (oa.add (i * 5))) :: .agg #[.int .i64 wh, .string nm0, .string sd0, .int .i64 nn, .slice ko ks.length kc] :: .pointer (some ⟨q23, 1, none⟩) :: .string nm0 :: .string nm :: .pointer (some ⟨q23, 2, none⟩) :: .string sd0 :: .string sd :: pt q23 :: .int .i64 wh :: u15 49 :: u15 50 :: u15 51 :: u15 52 :: u15 53 :: u15 54 :: u15 55 :: u15 56 :: u15 57 :: u15 58 :: u15 59 :: u15 60 :: u15 61 :: u15 62 :: u15 63 :: u15 64 :: u15 65 :: u15 66 :: u15 67 :: u15 68 :: .bool false :: .bool false :: u15 71 :: u15 72 :: u15 73 :: u15 74 :: u15 75 :: u15 76 :: u15 77 :: u15 78 :: u15 79 :: u15 80 :: u15 81 :: .bool false :: .bool false :: u15 84 :: u15 85 :: u15 86 :: u15 87 :: u15 88 :: u15 89 :: u15 90 :: u15 91 :: u15 92 :: .bool false :: .bool false :: u15 95 :: u15 96 :: u15 97 :: u15 98 :: u15 99 :: u15 100 :: u15 101 :: u15 102 :: u15 103 :: u15 104 :: u15 105 :: .bool true :: .bool true :: pt d.q :: .string nm :: iN .i64 ((RemoveD D nm).2) :: .tuple #[.agg #[iN .i64 rm, .slice pf81 nf81 cf81, .bool dn81, iN .i64 lf81, .slice pz81 nz81 cz81], iN .i64 ((RemoveD D nm).2)] :: .agg (#[iN .i64 rm, .slice pf nf cf, .bool dn, iN .i64 lf, .slice pz nz cz]) :: .string nm :: .tuple #[.agg #[iN .i64 rm, .slice pf81 nf81 cf81, .bool dn81, iN .i64 lf81, .slice pz81 nz81 cz81], iN .i64 ((RemoveD D nm).2)] :: .agg #[iN .i64 rm, .slice pf81 nf81 cf81, .bool dn81, iN .i64 lf81, .slice pz81 nz81 cz81] :: iN .i64 ((RemoveD D nm).2) :: u15 117 :: u15 118 :: u15 119 :: u15 120 :: u15 121 :: u15 122 :: u15 123 :: u15 124 :: u15 125 :: u15 126 :: u15 127 :: u15 128 :: u15 129 :: u15 130 :: u15 131 :: u15 132 :: u15 133 :: u15 134 :: u15 135 :: u15 136 :: u15 137 :: u15 138 :: u15 139 :: u15 140 :: u15 141 :: u15 142 :: u15 143 :: u15 144 :: u15 145 :: u15 146 :: u15 147 :: u15 148 :: u15 149 :: u15 150 :: u15 151 :: u15 152 :: u15 153 :: u15 154 :: u15 155 :: u15 156 :: u15 157 :: u15 158 :: u15 159 :: u15 160 :: u15 161 :: u15 162 :: u15 163 :: u15 164 :: u15 165 :: iN .i64 ((RemoveD D nm).2) :: iN .i64 ((RemoveD D nm).2) :: .bool false :: .bool false :: pt d.q :: .agg (#[iN .i64 rm, .slice pf81 nf81 cf81, .bool dn81, iN .i64 lf81, .slice pz81 nz81 cz81]) :: .string p :: .string pp :: .bool true :: .bool false :: .bool false :: List.replicate 1 un).toArray, []⟩) (by kernel_rfl) ?_
      refine wp_cond_false (by kernel_rfl) ?_
      refine wp_skip ?_
      refine block_normal ?_
      refine then_at rfl ?_
      refine wl_region ?_
      refine wl_val (iN .i64 i) (by kernel_rfl) (by kernel_rfl) ?_
      refine wl_val (iN .i64 (i + 1)) (by kernel_rfl) (run_add (k := .i64) (a := i) (b := 1) (by kernel_rfl) (by kernel_rfl) (by first | omega | (simp only [top]; omega))) ?_
      refine wl_val (iN .i64 (i + 1)) (by kernel_rfl) (by kernel_rfl) ?_
      refine wl_nil ?_
      exact then_I ⟨fun ii => (([(6, u15 6), (10, .pointer (some ⟨q23, 0, none⟩)), (11, .string nm), (12, .string sd), (13, iN .i64 ((RemoveD D nm).2)), (14, iN .i64 ((RemoveD D nm).2)), (15, u15 15), (16, u15 16), (17, u15 17), (18, u15 18), (19, u15 19), (20, u15 20), (27, iN .i64 i), (28, .slice o al.length c), (29, iN .i64 al.length), (30, .bool true), (31, .bool true), (32, iN .i64 i), (33, .bool true), (34, .bool true), (35, iN .i64 i), (36, iN .i64 (i + 1)), (37, .slice o al.length c), (38, iN .i64 i), (39, .pointer (some (oa.add (i * 5)))), (40, .agg #[.int .i64 wh, .string nm0, .string sd0, .int .i64 nn, .slice ko ks.length kc]), (41, .pointer (some ⟨q23, 1, none⟩)), (42, .string nm0), (43, .string nm), (44, .pointer (some ⟨q23, 2, none⟩)), (45, .string sd0), (46, .string sd), (47, .pointer (some ⟨q23, 0, none⟩)), (48, .int .i64 wh), (49, u15 49), (50, u15 50), (51, u15 51), (52, u15 52), (53, u15 53), (54, u15 54), (55, u15 55), (56, u15 56), (57, u15 57), (58, u15 58), (59, u15 59), (60, u15 60), (61, u15 61), (62, u15 62), (63, u15 63), (64, u15 64), (65, u15 65), (66, u15 66), (67, u15 67), (68, u15 68), (69, .bool false), (70, .bool false), (71, u15 71), (72, u15 72), (73, u15 73), (74, u15 74), (75, u15 75), (76, u15 76), (77, u15 77), (78, u15 78), (79, u15 79), (80, u15 80), (81, u15 81), (82, .bool false), (83, .bool false), (84, u15 84), (85, u15 85), (86, u15 86), (87, u15 87), (88, u15 88), (89, u15 89), (90, u15 90), (91, u15 91), (92, u15 92), (93, .bool false), (94, .bool false), (95, u15 95), (96, u15 96), (97, u15 97), (98, u15 98), (99, u15 99), (100, u15 100), (101, u15 101), (102, u15 102), (103, u15 103), (104, u15 104), (105, u15 105), (106, .bool true), (107, .bool true), (108, .pointer (some ⟨d.q, 0, none⟩)), (109, .string nm), (110, iN .i64 ((RemoveD D nm).2)), (111, .tuple #[.agg #[iN .i64 rm, .slice pf81 nf81 cf81, .bool dn81, iN .i64 lf81, .slice pz81 nz81 cz81], iN .i64 ((RemoveD D nm).2)]), (112, .agg (#[iN .i64 rm, .slice pf nf cf, .bool dn, iN .i64 lf, .slice pz nz cz])), (113, .string nm), (114, .tuple #[.agg #[iN .i64 rm, .slice pf81 nf81 cf81, .bool dn81, iN .i64 lf81, .slice pz81 nz81 cz81], iN .i64 ((RemoveD D nm).2)]), (115, .agg #[iN .i64 rm, .slice pf81 nf81 cf81, .bool dn81, iN .i64 lf81, .slice pz81 nz81 cz81]), (116, iN .i64 ((RemoveD D nm).2)), (117, u15 117), (118, u15 118), (119, u15 119), (120, u15 120), (121, u15 121), (122, u15 122), (123, u15 123), (124, u15 124), (125, u15 125), (126, u15 126), (127, u15 127), (128, u15 128), (129, u15 129), (130, u15 130), (131, u15 131), (132, u15 132), (133, u15 133), (134, u15 134), (135, u15 135), (136, u15 136), (137, u15 137), (138, u15 138), (139, u15 139), (140, u15 140), (141, u15 141), (142, u15 142), (143, u15 143), (144, u15 144), (145, u15 145), (146, u15 146), (147, u15 147), (148, u15 148), (149, u15 149), (150, u15 150), (151, u15 151), (152, u15 152), (153, u15 153), (154, u15 154), (155, u15 155), (156, u15 156), (157, u15 157), (158, u15 158), (159, u15 159), (160, u15 160), (161, u15 161), (162, u15 162), (163, u15 163), (164, u15 164), (165, u15 165), (166, iN .i64 ((RemoveD D nm).2)), (167, iN .i64 ((RemoveD D nm).2)), (168, .bool false), (169, .bool false), (170, .pointer (some ⟨d.q, 0, none⟩)), (171, .agg (#[iN .i64 rm, .slice pf81 nf81 cf81, .bool dn81, iN .i64 lf81, .slice pz81 nz81 cz81])), (172, .string p), (173, .string pp), (174, .bool true), (175, .bool false), (176, .bool false)] : List (Nat × Value)).find? (·.1 == ii)).elim undef (·.2), by kernel_rfl, (RemoveD D nm).1, (N1 ++ N), _, _, _, _, _, _, _, _, hRn, hdbn.mono (by omega) (by omega), (hcl75 ((q10, 28, #[iN .i64 rm, .slice pf81 nf81 cf81, .bool dn81, iN .i64 lf81, .slice pz81 nz81 cz81]) :: (N1 ++ N)) _ (h85.sub (List.Sublist.cons _ (List.Sublist.refl _))))⟩
    · refine wl_region ?_
      refine wl_val (.bool false) (by kernel_rfl) (run_eqz (k := .i64) (a := wh) (b := 0) (by kernel_rfl) (by kernel_rfl) false (decide_eq_false (by omega))) ?_
      refine wl_val (.bool false) (by kernel_rfl) (by kernel_rfl) ?_
      refine wl_nil ?_
      refine then_at rfl ?_
      refine wp_cond_false (by kernel_rfl) ?_
      refine wp_seq ?_
      refine wl_region ?_
      refine wl_val (.bool false) (by kernel_rfl) (run_eqz (k := .i64) (a := wh) (b := 1) (by kernel_rfl) (by kernel_rfl) false (decide_eq_false (by omega))) ?_
      refine wl_val (.bool false) (by kernel_rfl) (by kernel_rfl) ?_
      refine wl_nil ?_
      refine then_at rfl ?_
      refine wp_cond_false (by kernel_rfl) ?_
      refine wp_seq ?_
      refine wl_region ?_
      refine wl_val (.bool false) (by kernel_rfl) (run_eqz (k := .i64) (a := wh) (b := 2) (by kernel_rfl) (by kernel_rfl) false (decide_eq_false (by omega))) ?_
      refine wl_val (.bool false) (by kernel_rfl) (by kernel_rfl) ?_
      refine wl_nil ?_
      refine then_at rfl ?_
      refine wp_cond_false (by kernel_rfl) ?_
      refine wp_seq ?_
      refine wl_region ?_
      refine wl_val (.bool false) (by kernel_rfl) (run_eqz (k := .i64) (a := wh) (b := 3) (by kernel_rfl) (by kernel_rfl) false (decide_eq_false (by omega))) ?_
      refine wl_val (.bool false) (by kernel_rfl) (by kernel_rfl) ?_
      refine wl_nil ?_
      refine then_at rfl ?_
      refine wp_cond_false (by kernel_rfl) ?_
      refine wp_seq ?_
      refine wl_region ?_
      refine wl_val (.bool true) (by kernel_rfl) (run_eqz (k := .i64) (a := wh) (b := 4) (by kernel_rfl) (by kernel_rfl) true (decide_eq_true (by omega))) ?_
      refine wl_val (.bool true) (by kernel_rfl) (by kernel_rfl) ?_
      refine wl_nil ?_
      refine then_at (F := ⟨(.int .i64 z :: .slice o al.length c :: .string p :: un :: un :: un :: u15 6 :: pt d.q :: pt q10 :: iN .i64 i :: pt q23 :: .string nm :: .string sd :: iN .i64 0 :: iN .i64 0 :: u15 15 :: u15 16 :: u15 17 :: u15 18 :: u15 19 :: u15 20 :: .int .i64 z :: pt d.q :: .int .i64 z :: .agg #[iN .i64 rm, .slice none 0 0, .bool false, iN .i64 0, .slice none 0 0] :: pt d.q :: .bool false :: iN .i64 i :: .slice o al.length c :: iN .i64 al.length :: .bool true :: .bool true :: iN .i64 i :: .bool true :: .bool true :: u15 35 :: u15 36 :: .slice o al.length c :: iN .i64 i :: .pointer (some (oa.add (i * 5))) :: .agg #[.int .i64 wh, .string nm0, .string sd0, .int .i64 nn, .slice ko ks.length kc] :: .pointer (some ⟨q23, 1, none⟩) :: .string nm0 :: .string nm :: .pointer (some ⟨q23, 2, none⟩) :: .string sd0 :: .string sd :: pt q23 :: .int .i64 wh :: u15 49 :: u15 50 :: u15 51 :: u15 52 :: u15 53 :: u15 54 :: u15 55 :: u15 56 :: u15 57 :: u15 58 :: u15 59 :: u15 60 :: u15 61 :: u15 62 :: u15 63 :: u15 64 :: u15 65 :: u15 66 :: u15 67 :: u15 68 :: .bool false :: .bool false :: u15 71 :: u15 72 :: u15 73 :: u15 74 :: u15 75 :: u15 76 :: u15 77 :: u15 78 :: u15 79 :: u15 80 :: u15 81 :: .bool false :: .bool false :: u15 84 :: u15 85 :: u15 86 :: u15 87 :: u15 88 :: u15 89 :: u15 90 :: u15 91 :: u15 92 :: .bool false :: .bool false :: u15 95 :: u15 96 :: u15 97 :: u15 98 :: u15 99 :: u15 100 :: u15 101 :: u15 102 :: u15 103 :: u15 104 :: u15 105 :: .bool false :: .bool false :: u15 108 :: u15 109 :: u15 110 :: u15 111 :: u15 112 :: u15 113 :: u15 114 :: u15 115 :: u15 116 :: .bool true :: .bool true :: u15 119 :: u15 120 :: u15 121 :: u15 122 :: u15 123 :: u15 124 :: u15 125 :: u15 126 :: u15 127 :: u15 128 :: u15 129 :: u15 130 :: u15 131 :: u15 132 :: u15 133 :: u15 134 :: u15 135 :: u15 136 :: u15 137 :: u15 138 :: u15 139 :: u15 140 :: u15 141 :: u15 142 :: u15 143 :: u15 144 :: u15 145 :: u15 146 :: u15 147 :: u15 148 :: u15 149 :: u15 150 :: u15 151 :: u15 152 :: u15 153 :: u15 154 :: u15 155 :: u15 156 :: u15 157 :: u15 158 :: u15 159 :: u15 160 :: u15 161 :: u15 162 :: u15 163 :: u15 164 :: u15 165 :: u15 166 :: u15 167 :: u15 168 :: u15 169 :: u15 170 :: u15 171 :: u15 172 :: u15 173 :: u15 174 :: u15 175 :: u15 176 :: List.replicate 1 un).toArray, []⟩) (by kernel_rfl) ?_
      refine wp_cond_true (by kernel_rfl) ?_
      refine wp_seq ?_
      refine wl_region ?_
      refine wl_val (.pointer (some ⟨d.q, 0, none⟩)) (by kernel_rfl) (by kernel_rfl) ?_
      refine wl_val (.pointer (some ⟨q23, 3, none⟩)) (by kernel_rfl) (by kernel_rfl) ?_
      refine wl_val (.int .i64 nn) (by kernel_rfl) (run_load1 (fun w => Try.isAgg3 w) (by kernel_rfl) (((h29.get 0 rfl).cell 3).trans rfl)) ?_
      refine wl_callx (by kernel_rfl) enter18 #[.pointer (some ⟨d.q, 0, none⟩), .int .i64 nn] (by kernel_rfl) (Arm_any (hcl19 ((q23, 31, #[.int .i64 wh, .string nm0, .string sd0, .int .i64 nn, .slice ko ks.length kc]) :: (q10, 28, #[iN .i64 rm, .slice pf nf cf, .bool dn, iN .i64 lf, .slice pz nz cz]) :: N) _ h29) nn) ?_
      rintro _ w86 ⟨rfl, hDp⟩
      refine ⟨_, rfl, ?_⟩
      have hdbn := arm_DB hdb hok.n1
      have hDp : DH _ _ d ((armD D nn).1) _ _ := hDp
      obtain ⟨z87, X88, hcl89, hbe90, h91⟩ := DH.front hDp
      have h92 : HA z87 ((q23, 31, #[.int .i64 wh, .string nm0, .string sd0, .int .i64 nn, .slice ko ks.length kc]) :: (q10, 28, #[iN .i64 rm, .slice pf nf cf, .bool dn, iN .i64 lf, .slice pz nz cz]) :: (N ++ X88)) w86 := h91
      refine wl_val (iN .i64 ((armD D nn).2)) (by kernel_rfl) (by kernel_rfl) ?_
      refine wl_nil ?_
      refine then_at rfl ?_
      refine wl_region ?_
      refine wl_load h92 1 rfl (by kernel_rfl) (by kernel_rfl) Try.underlying28 rfl (by kernel_rfl) ?_
      refine wl_val (.pointer (some ⟨q23, 3, none⟩)) (by kernel_rfl) (by kernel_rfl) ?_
      refine wl_val (.int .i64 nn) (by kernel_rfl) (run_load1 (fun w => Try.isAgg3 w) (by kernel_rfl) (((h92.get 0 rfl).cell 3).trans rfl)) ?_
      refine wl_callx (by kernel_rfl) enter19 #[.agg (#[iN .i64 rm, .slice pf nf cf, .bool dn, iN .i64 lf, .slice pz nz cz]), .int .i64 nn] (by kernel_rfl) (rArm hr (fun y hy => h92.blk y (List.mem_cons_of_mem _ (List.mem_cons_of_mem _ (List.mem_append_left _ hy)))) hdb (by omega) (by omega) nn) ?_
      rintro _ w93 ⟨v1, N1, rfl, hRn, hNn1, hbn1⟩
      refine ⟨_, rfl, ?_⟩
      have h94 : HA z87 ((q23, 31, #[.int .i64 wh, .string nm0, .string sd0, .int .i64 nn, .slice ko ks.length kc]) :: (q10, 28, #[iN .i64 rm, .slice pf nf cf, .bool dn, iN .i64 lf, .slice pz nz cz]) :: ((N1 ++ N) ++ X88)) w93 := HA.perm (HA.addL h92 hbn1 hNn1) (perm_ref [(q23, 31, #[.int .i64 wh, .string nm0, .string sd0, .int .i64 nn, .slice ko ks.length kc]), (q10, 28, #[iN .i64 rm, .slice pf nf cf, .bool dn, iN .i64 lf, .slice pz nz cz])] N X88 N1)
      obtain ⟨pf95, nf95, cf95, dn95, lf95, pz95, nz95, cz95, rfl⟩ := RD.form hRn
      refine wl_val (.tuple #[.agg #[iN .i64 rm, .slice pf95 nf95 cf95, .bool dn95, iN .i64 lf95, .slice pz95 nz95 cz95], iN .i64 ((armD D nn).2)]) (by kernel_rfl) (by kernel_rfl) ?_
      refine wl_val (.agg #[iN .i64 rm, .slice pf95 nf95 cf95, .bool dn95, iN .i64 lf95, .slice pz95 nz95 cz95]) (by kernel_rfl) (by kernel_rfl) ?_
      refine wl_val (iN .i64 ((armD D nn).2)) (by kernel_rfl) (by kernel_rfl) ?_
      refine wl_fill (c' := #[iN .i64 rm, .slice pf95 nf95 cf95, .bool dn95, iN .i64 lf95, .slice pz95 nz95 cz95]) h94 1 rfl (by kernel_rfl) (by kernel_rfl) (by kernel_rfl) rfl (by kernel_rfl) (by kernel_rfl) ?_
      intro w96 (h97 : HA z87 ((q23, 31, #[.int .i64 wh, .string nm0, .string sd0, .int .i64 nn, .slice ko ks.length kc]) :: (q10, 28, #[iN .i64 rm, .slice pf95 nf95 cf95, .bool dn95, iN .i64 lf95, .slice pz95 nz95 cz95]) :: ((N1 ++ N) ++ X88)) w96)
      refine wl_val (iN .i64 ((armD D nn).2)) (by kernel_rfl) (by kernel_rfl) ?_
      refine wl_nil ?_
      refine block_normal ?_
      refine then_at rfl ?_
      refine wp_seq ?_
      refine wp_region_sure ⟨(.int .i64 z :: .slice o al.length c :: .string p :: un :: un :: un :: u15 6 :: pt d.q :: pt q10 :: iN .i64 i :: pt q23 :: .string nm :: .string sd :: iN .i64 ((armD D nn).2) :: iN .i64 ((armD D nn).2) :: u15 15 :: u15 16 :: u15 17 :: u15 18 :: u15 19 :: u15 20 :: .int .i64 z :: pt d.q :: .int .i64 z :: .agg #[iN .i64 rm, .slice none 0 0, .bool false, iN .i64 0, .slice none 0 0] :: pt d.q :: .bool false :: iN .i64 i :: .slice o al.length c :: iN .i64 al.length :: .bool true :: .bool true :: iN .i64 i :: .bool true :: .bool true :: u15 35 :: u15 36 :: .slice o al.length c :: iN .i64 i :: .pointer (some (oa.add (i * 5))) :: .agg #[.int .i64 wh, .string nm0, .string sd0, .int .i64 nn, .slice ko ks.length kc] :: .pointer (some ⟨q23, 1, none⟩) :: .string nm0 :: .string nm :: .pointer (some ⟨q23, 2, none⟩) :: .string sd0 :: .string sd :: pt q23 :: .int .i64 wh :: u15 49 :: u15 50 :: u15 51 :: u15 52 :: u15 53 :: u15 54 :: u15 55 :: u15 56 :: u15 57 :: u15 58 :: u15 59 :: u15 60 :: u15 61 :: u15 62 :: u15 63 :: u15 64 :: u15 65 :: u15 66 :: u15 67 :: u15 68 :: .bool false :: .bool false :: u15 71 :: u15 72 :: u15 73 :: u15 74 :: u15 75 :: u15 76 :: u15 77 :: u15 78 :: u15 79 :: u15 80 :: u15 81 :: .bool false :: .bool false :: u15 84 :: u15 85 :: u15 86 :: u15 87 :: u15 88 :: u15 89 :: u15 90 :: u15 91 :: u15 92 :: .bool false :: .bool false :: u15 95 :: u15 96 :: u15 97 :: u15 98 :: u15 99 :: u15 100 :: u15 101 :: u15 102 :: u15 103 :: u15 104 :: u15 105 :: .bool false :: .bool false :: u15 108 :: u15 109 :: u15 110 :: u15 111 :: u15 112 :: u15 113 :: u15 114 :: u15 115 :: u15 116 :: .bool true :: .bool true :: pt d.q :: .pointer (some ⟨q23, 3, none⟩) :: .int .i64 nn :: iN .i64 ((armD D nn).2) :: .tuple #[.agg #[iN .i64 rm, .slice pf95 nf95 cf95, .bool dn95, iN .i64 lf95, .slice pz95 nz95 cz95], iN .i64 ((armD D nn).2)] :: .agg (#[iN .i64 rm, .slice pf nf cf, .bool dn, iN .i64 lf, .slice pz nz cz]) :: .pointer (some ⟨q23, 3, none⟩) :: .int .i64 nn :: .tuple #[.agg #[iN .i64 rm, .slice pf95 nf95 cf95, .bool dn95, iN .i64 lf95, .slice pz95 nz95 cz95], iN .i64 ((armD D nn).2)] :: .agg #[iN .i64 rm, .slice pf95 nf95 cf95, .bool dn95, iN .i64 lf95, .slice pz95 nz95 cz95] :: iN .i64 ((armD D nn).2) :: u15 130 :: u15 131 :: u15 132 :: u15 133 :: u15 134 :: u15 135 :: u15 136 :: u15 137 :: u15 138 :: u15 139 :: u15 140 :: u15 141 :: u15 142 :: u15 143 :: u15 144 :: u15 145 :: u15 146 :: u15 147 :: u15 148 :: u15 149 :: u15 150 :: u15 151 :: u15 152 :: u15 153 :: u15 154 :: u15 155 :: u15 156 :: u15 157 :: u15 158 :: u15 159 :: u15 160 :: u15 161 :: u15 162 :: u15 163 :: u15 164 :: u15 165 :: iN .i64 ((armD D nn).2) :: iN .i64 ((armD D nn).2) :: .bool false :: .bool false :: pt d.q :: .agg (#[iN .i64 rm, .slice pf95 nf95 cf95, .bool dn95, iN .i64 lf95, .slice pz95 nz95 cz95]) :: .string p :: .string pp :: .bool true :: .bool false :: .bool false :: List.replicate 1 un).toArray, []⟩ (HA z87 ((q23, 31, #[.int .i64 wh, .string nm0, .string sd0, .int .i64 nn, .slice ko ks.length kc]) :: (q10, 28, #[iN .i64 rm, .slice pf95 nf95 cf95, .bool dn95, iN .i64 lf95, .slice pz95 nz95 cz95]) :: ((N1 ++ N) ++ X88))) [iN .i64 ((armD D nn).2), iN .i64 ((armD D nn).2), .bool false, .bool false, .pointer (some ⟨d.q, 0, none⟩), .agg (#[iN .i64 rm, .slice pf95 nf95 cf95, .bool dn95, iN .i64 lf95, .slice pz95 nz95 cz95]), .string p, .string pp, .bool true, .bool false, .bool false] (by kernel_rfl) (by kernel_rfl) (by kernel_rfl) (by kernel_rfl) (fun _ _ _ h => h) h97.drew ?_ ?_
      · refine AllSure.cons (OpSure.take (v := iN .i64 ((armD D nn).2)) (by kernel_rfl) (by kernel_rfl) (fun _ _ => (by kernel_rfl))) ?_
        refine AllSure.cons (OpSure.take (v := iN .i64 ((armD D nn).2)) (by kernel_rfl) (by kernel_rfl) (fun _ _ => (by kernel_rfl))) ?_
        refine AllSure.cons (OpSure.take (v := .bool false) (by kernel_rfl) (by kernel_rfl) (fun _ _ => (run_nei (k := .i64) (a := (armD D nn).2) (b := (armD D nn).2) (by kernel_rfl) (by kernel_rfl) false (decide_eq_false (fun h => h rfl))))) ?_
        refine AllSure.cons (OpSure.take (v := .bool false) (by kernel_rfl) (by kernel_rfl) (fun _ _ => (by kernel_rfl))) ?_
        refine AllSure.cons (OpSure.take (v := .pointer (some ⟨d.q, 0, none⟩)) (by kernel_rfl) (by kernel_rfl) (fun _ _ => (by kernel_rfl))) ?_
        refine AllSure.cons (OpSure.take (v := .agg (#[iN .i64 rm, .slice pf95 nf95 cf95, .bool dn95, iN .i64 lf95, .slice pz95 nz95 cz95])) (by kernel_rfl) (by kernel_rfl) (fun _ h => run_load_blk (by kernel_rfl) (h.get 1 rfl) Try.underlying28 rfl (by kernel_rfl))) ?_
        refine AllSure.cons (OpSure.take (v := .string p) (by kernel_rfl) (by kernel_rfl) (fun _ _ => (by kernel_rfl))) ?_
        refine AllSure.cons (sure_call (v := .string pp) (by kernel_rfl) (by kernel_rfl) enter9 HA.keep #[.string p, iN .i64 10] (by kernel_rfl) (fun w' h' => by rw [hpp]; exact cutP_any p 10 hpl w')) ?_
        refine AllSure.cons (sure_call (v := .bool true) (by kernel_rfl) (by kernel_rfl) enter25 HA.keep #[.pointer (some ⟨d.q, 0, none⟩), .agg (#[iN .i64 rm, .slice pf95 nf95 cf95, .bool dn95, iN .i64 lf95, .slice pz95 nz95 cz95]), .string pp] (by kernel_rfl) (fun w' h' => same_ok (hcl89 ((q23, 31, #[.int .i64 wh, .string nm0, .string sd0, .int .i64 nn, .slice ko ks.length kc]) :: (q10, 28, #[iN .i64 rm, .slice pf95 nf95 cf95, .bool dn95, iN .i64 lf95, .slice pz95 nz95 cz95]) :: (N1 ++ N)) _ h') hRn (fun y hy => h'.blk y (List.mem_cons_of_mem _ (List.mem_cons_of_mem _ (List.mem_append_left _ hy)))) hdbn (by omega) (by omega) pp)) ?_
        refine AllSure.cons (OpSure.take (v := .bool false) (by kernel_rfl) (by kernel_rfl) (fun _ _ => (by kernel_rfl))) ?_
        refine AllSure.cons (OpSure.take (v := .bool false) (by kernel_rfl) (by kernel_rfl) (fun _ _ => (by kernel_rfl))) ?_
        exact AllSure.nil
      intro w98 h99
      refine then_at rfl ?_
      refine wp_cond_false (by kernel_rfl) ?_
      refine wp_skip ?_
      refine block_normal ?_
      refine then_at rfl ?_
      refine wl_region ?_
      refine wl_val (iN .i64 i) (by kernel_rfl) (by kernel_rfl) ?_
      refine wl_val (iN .i64 (i + 1)) (by kernel_rfl) (run_add (k := .i64) (a := i) (b := 1) (by kernel_rfl) (by kernel_rfl) (by first | omega | (simp only [top]; omega))) ?_
      refine wl_val (iN .i64 (i + 1)) (by kernel_rfl) (by kernel_rfl) ?_
      refine wl_nil ?_
      exact then_I ⟨fun ii => (([(6, u15 6), (10, .pointer (some ⟨q23, 0, none⟩)), (11, .string nm), (12, .string sd), (13, iN .i64 ((armD D nn).2)), (14, iN .i64 ((armD D nn).2)), (15, u15 15), (16, u15 16), (17, u15 17), (18, u15 18), (19, u15 19), (20, u15 20), (27, iN .i64 i), (28, .slice o al.length c), (29, iN .i64 al.length), (30, .bool true), (31, .bool true), (32, iN .i64 i), (33, .bool true), (34, .bool true), (35, iN .i64 i), (36, iN .i64 (i + 1)), (37, .slice o al.length c), (38, iN .i64 i), (39, .pointer (some (oa.add (i * 5)))), (40, .agg #[.int .i64 wh, .string nm0, .string sd0, .int .i64 nn, .slice ko ks.length kc]), (41, .pointer (some ⟨q23, 1, none⟩)), (42, .string nm0), (43, .string nm), (44, .pointer (some ⟨q23, 2, none⟩)), (45, .string sd0), (46, .string sd), (47, .pointer (some ⟨q23, 0, none⟩)), (48, .int .i64 wh), (49, u15 49), (50, u15 50), (51, u15 51), (52, u15 52), (53, u15 53), (54, u15 54), (55, u15 55), (56, u15 56), (57, u15 57), (58, u15 58), (59, u15 59), (60, u15 60), (61, u15 61), (62, u15 62), (63, u15 63), (64, u15 64), (65, u15 65), (66, u15 66), (67, u15 67), (68, u15 68), (69, .bool false), (70, .bool false), (71, u15 71), (72, u15 72), (73, u15 73), (74, u15 74), (75, u15 75), (76, u15 76), (77, u15 77), (78, u15 78), (79, u15 79), (80, u15 80), (81, u15 81), (82, .bool false), (83, .bool false), (84, u15 84), (85, u15 85), (86, u15 86), (87, u15 87), (88, u15 88), (89, u15 89), (90, u15 90), (91, u15 91), (92, u15 92), (93, .bool false), (94, .bool false), (95, u15 95), (96, u15 96), (97, u15 97), (98, u15 98), (99, u15 99), (100, u15 100), (101, u15 101), (102, u15 102), (103, u15 103), (104, u15 104), (105, u15 105), (106, .bool false), (107, .bool false), (108, u15 108), (109, u15 109), (110, u15 110), (111, u15 111), (112, u15 112), (113, u15 113), (114, u15 114), (115, u15 115), (116, u15 116), (117, .bool true), (118, .bool true), (119, .pointer (some ⟨d.q, 0, none⟩)), (120, .pointer (some ⟨q23, 3, none⟩)), (121, .int .i64 nn), (122, iN .i64 ((armD D nn).2)), (123, .tuple #[.agg #[iN .i64 rm, .slice pf95 nf95 cf95, .bool dn95, iN .i64 lf95, .slice pz95 nz95 cz95], iN .i64 ((armD D nn).2)]), (124, .agg (#[iN .i64 rm, .slice pf nf cf, .bool dn, iN .i64 lf, .slice pz nz cz])), (125, .pointer (some ⟨q23, 3, none⟩)), (126, .int .i64 nn), (127, .tuple #[.agg #[iN .i64 rm, .slice pf95 nf95 cf95, .bool dn95, iN .i64 lf95, .slice pz95 nz95 cz95], iN .i64 ((armD D nn).2)]), (128, .agg #[iN .i64 rm, .slice pf95 nf95 cf95, .bool dn95, iN .i64 lf95, .slice pz95 nz95 cz95]), (129, iN .i64 ((armD D nn).2)), (130, u15 130), (131, u15 131), (132, u15 132), (133, u15 133), (134, u15 134), (135, u15 135), (136, u15 136), (137, u15 137), (138, u15 138), (139, u15 139), (140, u15 140), (141, u15 141), (142, u15 142), (143, u15 143), (144, u15 144), (145, u15 145), (146, u15 146), (147, u15 147), (148, u15 148), (149, u15 149), (150, u15 150), (151, u15 151), (152, u15 152), (153, u15 153), (154, u15 154), (155, u15 155), (156, u15 156), (157, u15 157), (158, u15 158), (159, u15 159), (160, u15 160), (161, u15 161), (162, u15 162), (163, u15 163), (164, u15 164), (165, u15 165), (166, iN .i64 ((armD D nn).2)), (167, iN .i64 ((armD D nn).2)), (168, .bool false), (169, .bool false), (170, .pointer (some ⟨d.q, 0, none⟩)), (171, .agg (#[iN .i64 rm, .slice pf95 nf95 cf95, .bool dn95, iN .i64 lf95, .slice pz95 nz95 cz95])), (172, .string p), (173, .string pp), (174, .bool true), (175, .bool false), (176, .bool false)] : List (Nat × Value)).find? (·.1 == ii)).elim undef (·.2), by kernel_rfl, (armD D nn).1, (N1 ++ N), _, _, _, _, _, _, _, _, hRn, hdbn.mono (by omega) (by omega), (hcl89 ((q10, 28, #[iN .i64 rm, .slice pf95 nf95 cf95, .bool dn95, iN .i64 lf95, .slice pz95 nz95 cz95]) :: (N1 ++ N)) _ (h99.sub (List.Sublist.cons _ (List.Sublist.refl _))))⟩
    · refine wl_region ?_
      refine wl_val (.bool false) (by kernel_rfl) (run_eqz (k := .i64) (a := wh) (b := 0) (by kernel_rfl) (by kernel_rfl) false (decide_eq_false (by omega))) ?_
      refine wl_val (.bool false) (by kernel_rfl) (by kernel_rfl) ?_
      refine wl_nil ?_
      refine then_at rfl ?_
      refine wp_cond_false (by kernel_rfl) ?_
      refine wp_seq ?_
      refine wl_region ?_
      refine wl_val (.bool false) (by kernel_rfl) (run_eqz (k := .i64) (a := wh) (b := 1) (by kernel_rfl) (by kernel_rfl) false (decide_eq_false (by omega))) ?_
      refine wl_val (.bool false) (by kernel_rfl) (by kernel_rfl) ?_
      refine wl_nil ?_
      refine then_at (F := ⟨(.int .i64 z :: .slice o al.length c :: .string p :: un :: un :: un :: u15 6 :: pt d.q :: pt q10 :: iN .i64 i :: pt q23 :: .string nm :: .string sd :: iN .i64 0 :: iN .i64 0 :: u15 15 :: u15 16 :: u15 17 :: u15 18 :: u15 19 :: u15 20 :: .int .i64 z :: pt d.q :: .int .i64 z :: .agg #[iN .i64 rm, .slice none 0 0, .bool false, iN .i64 0, .slice none 0 0] :: pt d.q :: .bool false :: iN .i64 i :: .slice o al.length c :: iN .i64 al.length :: .bool true :: .bool true :: iN .i64 i :: .bool true :: .bool true :: u15 35 :: u15 36 :: .slice o al.length c :: iN .i64 i :: .pointer (some (oa.add (i * 5))) :: .agg #[.int .i64 wh, .string nm0, .string sd0, .int .i64 nn, .slice ko ks.length kc] :: .pointer (some ⟨q23, 1, none⟩) :: .string nm0 :: .string nm :: .pointer (some ⟨q23, 2, none⟩) :: .string sd0 :: .string sd :: pt q23 :: .int .i64 wh :: u15 49 :: u15 50 :: u15 51 :: u15 52 :: u15 53 :: u15 54 :: u15 55 :: u15 56 :: u15 57 :: u15 58 :: u15 59 :: u15 60 :: u15 61 :: u15 62 :: u15 63 :: u15 64 :: u15 65 :: u15 66 :: u15 67 :: u15 68 :: .bool false :: .bool false :: u15 71 :: u15 72 :: u15 73 :: u15 74 :: u15 75 :: u15 76 :: u15 77 :: u15 78 :: u15 79 :: u15 80 :: u15 81 :: .bool false :: .bool false :: u15 84 :: u15 85 :: u15 86 :: u15 87 :: u15 88 :: u15 89 :: u15 90 :: u15 91 :: u15 92 :: u15 93 :: u15 94 :: u15 95 :: u15 96 :: u15 97 :: u15 98 :: u15 99 :: u15 100 :: u15 101 :: u15 102 :: u15 103 :: u15 104 :: u15 105 :: u15 106 :: u15 107 :: u15 108 :: u15 109 :: u15 110 :: u15 111 :: u15 112 :: u15 113 :: u15 114 :: u15 115 :: u15 116 :: u15 117 :: u15 118 :: u15 119 :: u15 120 :: u15 121 :: u15 122 :: u15 123 :: u15 124 :: u15 125 :: u15 126 :: u15 127 :: u15 128 :: u15 129 :: u15 130 :: u15 131 :: u15 132 :: u15 133 :: u15 134 :: u15 135 :: u15 136 :: u15 137 :: u15 138 :: u15 139 :: u15 140 :: u15 141 :: u15 142 :: u15 143 :: u15 144 :: u15 145 :: u15 146 :: u15 147 :: u15 148 :: u15 149 :: u15 150 :: u15 151 :: u15 152 :: u15 153 :: u15 154 :: u15 155 :: u15 156 :: u15 157 :: u15 158 :: u15 159 :: u15 160 :: u15 161 :: u15 162 :: u15 163 :: u15 164 :: u15 165 :: u15 166 :: u15 167 :: u15 168 :: u15 169 :: u15 170 :: u15 171 :: u15 172 :: u15 173 :: u15 174 :: u15 175 :: u15 176 :: List.replicate 1 un).toArray, []⟩) (by kernel_rfl) ?_
      refine wp_cond_false (by kernel_rfl) ?_
      refine wp_seq ?_
      refine wl_region ?_
      refine wl_val (.bool false) (by kernel_rfl) (run_eqz (k := .i64) (a := wh) (b := 2) (by kernel_rfl) (by kernel_rfl) false (decide_eq_false (by omega))) ?_
      refine wl_val (.bool false) (by kernel_rfl) (by kernel_rfl) ?_
      refine wl_nil ?_
      refine then_at rfl ?_
      refine wp_cond_false (by kernel_rfl) ?_
      refine wp_seq ?_
      refine wl_region ?_
      refine wl_val (.bool false) (by kernel_rfl) (run_eqz (k := .i64) (a := wh) (b := 3) (by kernel_rfl) (by kernel_rfl) false (decide_eq_false (by omega))) ?_
      refine wl_val (.bool false) (by kernel_rfl) (by kernel_rfl) ?_
      refine wl_nil ?_
      refine then_at rfl ?_
      refine wp_cond_false (by kernel_rfl) ?_
      refine wp_seq ?_
      refine wl_region ?_
      refine wl_val (.bool false) (by kernel_rfl) (run_eqz (k := .i64) (a := wh) (b := 4) (by kernel_rfl) (by kernel_rfl) false (decide_eq_false (by omega))) ?_
      refine wl_val (.bool false) (by kernel_rfl) (by kernel_rfl) ?_
      refine wl_nil ?_
      refine then_at rfl ?_
      refine wp_cond_false (by kernel_rfl) ?_
      refine wp_seq ?_
      refine wl_region ?_
      refine wl_val (.bool true) (by kernel_rfl) (run_eqz (k := .i64) (a := wh) (b := 5) (by kernel_rfl) (by kernel_rfl) true (decide_eq_true (by omega))) ?_
      refine wl_val (.bool true) (by kernel_rfl) (by kernel_rfl) ?_
      refine wl_nil ?_
      refine then_at rfl ?_
      refine wp_cond_true (by kernel_rfl) ?_
      refine wp_seq ?_
      refine wl_region ?_
      refine wl_mks (n := 0) (m := 0) (c := #[]) h29 3 (by kernel_rfl) (by kernel_rfl) ?_
      intro q100 w101 (h102 : HA z17 ((q100, 3, #[]) :: (q23, 31, #[.int .i64 wh, .string nm0, .string sd0, .int .i64 nn, .slice ko ks.length kc]) :: (q10, 28, #[iN .i64 rm, .slice pf nf cf, .bool dn, iN .i64 lf, .slice pz nz cz]) :: (N ++ X18)) w101)
      refine wl_val (.pointer (some ⟨q23, 4, none⟩)) (by kernel_rfl) (by kernel_rfl) ?_
      refine wl_val (.slice ko ks.length kc) (by kernel_rfl) (run_load1 (fun w => Try.isAgg26 w) (by kernel_rfl) (((h102.get 1 rfl).cell 4).trans rfl)) ?_
      refine wl_val (.pointer (some ⟨q23, 4, none⟩)) (by kernel_rfl) (by kernel_rfl) ?_
      refine wl_val (.slice ko ks.length kc) (by kernel_rfl) (run_load1 (fun w => Try.isAgg26 w) (by kernel_rfl) (((h102.get 1 rfl).cell 4).trans rfl)) ?_
      refine wl_val (iN .i64 ks.length) (by kernel_rfl) (by kernel_rfl) ?_
      refine wl_val (iN .i64 (min ks.length 20)) (by kernel_rfl) (run_min (i := ks.length) (j := 20) (by kernel_rfl) (by kernel_rfl)) ?_
      refine wl_val (.slice ko (min ks.length 20) kc) (by kernel_rfl) (run_slP (a := ko) (n := ks.length) (cap := kc) (m := min ks.length 20) (by kernel_rfl) (by kernel_rfl) (by have := hok.k2; simp only at this; omega)) ?_
      refine wl_appO (Lr := [(q100, 3, #[])]) (news := (ks.take (min ks.length 20)).map (Value.int .i64)) (m := min ks.length 20) (o := ko) (c := kc) (v := .slice (some ⟨q100, 0, none⟩) 0 0) (n := 0) (xs := []) ⟨rfl, .inr ⟨q100, 0, #[], rfl, rfl, Nat.le_refl _, Nat.zero_le _, rfl, rfl⟩⟩ h102 (take_cell (hok.i4.keep (hbe20 _ _ h102)) _ (Nat.min_le_left _ _)) (by simp) (by intro u hu; obtain ⟨z1, _, rfl⟩ := List.mem_map.1 hu; rfl) (by kernel_rfl) (by kernel_rfl) (by kernel_rfl) (by omega) ?_
      intro vk w103 Lk hRk h104
      have hkt : (ks.take (min ks.length 20)).length = min ks.length 20 := by rw [List.length_take]; omega
      obtain ⟨ok, ck, rfl, hkv⟩ := KV.row (Lr := Lk) (n := 0 + min ks.length 20) (w0 := w) (L := ((q23, 31, #[.int .i64 wh, .string nm0, .string sd0, .int .i64 nn, .slice ko ks.length kc]) :: (q10, 28, #[iN .i64 rm, .slice pf nf cf, .bool dn, iN .i64 lf, .slice pz nz cz]) :: (Lk ++ N))) (ks := ks.take (min ks.length 20)) (by rw [hkt, Nat.zero_add]) (fun y hy => by simp [hy]) (by simpa using hRk)
      rw [hkt]
      have h105 : HA z17 ((q23, 31, #[.int .i64 wh, .string nm0, .string sd0, .int .i64 nn, .slice ko ks.length kc]) :: (q10, 28, #[iN .i64 rm, .slice pf nf cf, .bool dn, iN .i64 lf, .slice pz nz cz]) :: ((Lk ++ N) ++ X18)) w103 := HA.perm h104 (perm_lk [(q23, 31, #[.int .i64 wh, .string nm0, .string sd0, .int .i64 nn, .slice ko ks.length kc]), (q10, 28, #[iN .i64 rm, .slice pf nf cf, .bool dn, iN .i64 lf, .slice pz nz cz])] N X18 Lk)
      refine wl_val (.slice ok (min ks.length 20) ck) (by kernel_rfl) (by kernel_rfl) ?_
      refine wl_nil ?_
      refine then_at rfl ?_
      refine wp_seq ?_
      refine wl_region ?_
      refine wl_val (.pointer (some ⟨d.q, 0, none⟩)) (by kernel_rfl) (by kernel_rfl) ?_
      refine wl_val (.slice ok (min ks.length 20) ck) (by kernel_rfl) (by kernel_rfl) ?_
      refine wl_callx (by kernel_rfl) enter20 #[.pointer (some ⟨d.q, 0, none⟩), .slice ok (min ks.length 20) ck] (by kernel_rfl) (by have h := Wake_any (o := ok) (c := ck) (ks := ks.take (min ks.length 20)) (hcl19 ((q23, 31, #[.int .i64 wh, .string nm0, .string sd0, .int .i64 nn, .slice ko ks.length kc]) :: (q10, 28, #[iN .i64 rm, .slice pf nf cf, .bool dn, iN .i64 lf, .slice pz nz cz]) :: (Lk ++ N)) _ h105) hkv (by rw [List.length_take]; omega) hdb (by omega) (by omega); rw [hkt] at h; exact h) ?_
      rintro _ w106 ⟨rfl, hDw⟩
      refine ⟨_, rfl, ?_⟩
      have hdbn := wake_DB hdb (ks.take (min ks.length 20))
      have hDw : DH _ _ d (wakeD D (ks.take (min ks.length 20))) _ _ := hDw
      obtain ⟨z107, X108, hcl109, hbe110, h111⟩ := DH.front hDw
      have h112 : HA z107 ((q23, 31, #[.int .i64 wh, .string nm0, .string sd0, .int .i64 nn, .slice ko ks.length kc]) :: (q10, 28, #[iN .i64 rm, .slice pf nf cf, .bool dn, iN .i64 lf, .slice pz nz cz]) :: ((Lk ++ N) ++ X108)) w106 := h111
      refine wl_val (iN .i64 0) (by kernel_rfl) (by kernel_rfl) ?_
      refine wl_nil ?_
      refine then_at (F := ⟨(.int .i64 z :: .slice o al.length c :: .string p :: un :: un :: un :: u15 6 :: pt d.q :: pt q10 :: iN .i64 i :: pt q23 :: .string nm :: .string sd :: iN .i64 0 :: iN .i64 0 :: .slice ok (min ks.length 20) ck :: u15 16 :: u15 17 :: u15 18 :: u15 19 :: u15 20 :: .int .i64 z :: pt d.q :: .int .i64 z :: .agg #[iN .i64 rm, .slice none 0 0, .bool false, iN .i64 0, .slice none 0 0] :: pt d.q :: .bool false :: iN .i64 i :: .slice o al.length c :: iN .i64 al.length :: .bool true :: .bool true :: iN .i64 i :: .bool true :: .bool true :: u15 35 :: u15 36 :: .slice o al.length c :: iN .i64 i :: .pointer (some (oa.add (i * 5))) :: .agg #[.int .i64 wh, .string nm0, .string sd0, .int .i64 nn, .slice ko ks.length kc] :: .pointer (some ⟨q23, 1, none⟩) :: .string nm0 :: .string nm :: .pointer (some ⟨q23, 2, none⟩) :: .string sd0 :: .string sd :: pt q23 :: .int .i64 wh :: u15 49 :: u15 50 :: u15 51 :: u15 52 :: u15 53 :: u15 54 :: u15 55 :: u15 56 :: u15 57 :: u15 58 :: u15 59 :: u15 60 :: u15 61 :: u15 62 :: u15 63 :: u15 64 :: u15 65 :: u15 66 :: u15 67 :: u15 68 :: .bool false :: .bool false :: u15 71 :: u15 72 :: u15 73 :: u15 74 :: u15 75 :: u15 76 :: u15 77 :: u15 78 :: u15 79 :: u15 80 :: u15 81 :: .bool false :: .bool false :: u15 84 :: u15 85 :: u15 86 :: u15 87 :: u15 88 :: u15 89 :: u15 90 :: u15 91 :: u15 92 :: .bool false :: .bool false :: u15 95 :: u15 96 :: u15 97 :: u15 98 :: u15 99 :: u15 100 :: u15 101 :: u15 102 :: u15 103 :: u15 104 :: u15 105 :: .bool false :: .bool false :: u15 108 :: u15 109 :: u15 110 :: u15 111 :: u15 112 :: u15 113 :: u15 114 :: u15 115 :: u15 116 :: .bool false :: .bool false :: u15 119 :: u15 120 :: u15 121 :: u15 122 :: u15 123 :: u15 124 :: u15 125 :: u15 126 :: u15 127 :: u15 128 :: u15 129 :: .bool true :: .bool true :: .slice (some ⟨q100, 0, none⟩) 0 0 :: .pointer (some ⟨q23, 4, none⟩) :: .slice ko ks.length kc :: .pointer (some ⟨q23, 4, none⟩) :: .slice ko ks.length kc :: iN .i64 ks.length :: iN .i64 (min ks.length 20) :: .slice ko (min ks.length 20) kc :: .slice ok (min ks.length 20) ck :: pt d.q :: .slice ok (min ks.length 20) ck :: iN .i64 0 :: u15 144 :: u15 145 :: u15 146 :: u15 147 :: u15 148 :: u15 149 :: u15 150 :: u15 151 :: u15 152 :: u15 153 :: u15 154 :: u15 155 :: u15 156 :: u15 157 :: u15 158 :: u15 159 :: u15 160 :: u15 161 :: u15 162 :: u15 163 :: u15 164 :: u15 165 :: u15 166 :: u15 167 :: u15 168 :: u15 169 :: u15 170 :: u15 171 :: u15 172 :: u15 173 :: u15 174 :: u15 175 :: u15 176 :: List.replicate 1 un).toArray, []⟩) (by kernel_rfl) ?_
      refine wp_region_wx (HA z107 ((q23, 31, #[.int .i64 wh, .string nm0, .string sd0, .int .i64 nn, .slice ko ks.length kc]) :: (q10, 28, #[iN .i64 rm, .slice pf nf cf, .bool dn, iN .i64 lf, .slice pz nz cz]) :: ((Lk ++ N) ++ X108))) (fun AQ w' => ∃ (N1 : BL) (pf118 : Option Addr) (nf118 : Nat) (cf118 : Nat) (dn118 : Bool) (lf118 : Nat) (pz118 : Option Addr) (nz118 : Nat) (cz118 : Nat), AQ = ⟨(.int .i64 z :: .slice o al.length c :: .string p :: un :: un :: un :: u15 6 :: pt d.q :: pt q10 :: iN .i64 i :: pt q23 :: .string nm :: .string sd :: iN .i64 0 :: iN .i64 0 :: .slice ok (min ks.length 20) ck :: u15 16 :: u15 17 :: u15 18 :: u15 19 :: u15 20 :: .int .i64 z :: pt d.q :: .int .i64 z :: .agg #[iN .i64 rm, .slice none 0 0, .bool false, iN .i64 0, .slice none 0 0] :: pt d.q :: .bool false :: iN .i64 i :: .slice o al.length c :: iN .i64 al.length :: .bool true :: .bool true :: iN .i64 i :: .bool true :: .bool true :: u15 35 :: u15 36 :: .slice o al.length c :: iN .i64 i :: .pointer (some (oa.add (i * 5))) :: .agg #[.int .i64 wh, .string nm0, .string sd0, .int .i64 nn, .slice ko ks.length kc] :: .pointer (some ⟨q23, 1, none⟩) :: .string nm0 :: .string nm :: .pointer (some ⟨q23, 2, none⟩) :: .string sd0 :: .string sd :: pt q23 :: .int .i64 wh :: u15 49 :: u15 50 :: u15 51 :: u15 52 :: u15 53 :: u15 54 :: u15 55 :: u15 56 :: u15 57 :: u15 58 :: u15 59 :: u15 60 :: u15 61 :: u15 62 :: u15 63 :: u15 64 :: u15 65 :: u15 66 :: u15 67 :: u15 68 :: .bool false :: .bool false :: u15 71 :: u15 72 :: u15 73 :: u15 74 :: u15 75 :: u15 76 :: u15 77 :: u15 78 :: u15 79 :: u15 80 :: u15 81 :: .bool false :: .bool false :: u15 84 :: u15 85 :: u15 86 :: u15 87 :: u15 88 :: u15 89 :: u15 90 :: u15 91 :: u15 92 :: .bool false :: .bool false :: u15 95 :: u15 96 :: u15 97 :: u15 98 :: u15 99 :: u15 100 :: u15 101 :: u15 102 :: u15 103 :: u15 104 :: u15 105 :: .bool false :: .bool false :: u15 108 :: u15 109 :: u15 110 :: u15 111 :: u15 112 :: u15 113 :: u15 114 :: u15 115 :: u15 116 :: .bool false :: .bool false :: u15 119 :: u15 120 :: u15 121 :: u15 122 :: u15 123 :: u15 124 :: u15 125 :: u15 126 :: u15 127 :: u15 128 :: u15 129 :: .bool true :: .bool true :: .slice (some ⟨q100, 0, none⟩) 0 0 :: .pointer (some ⟨q23, 4, none⟩) :: .slice ko ks.length kc :: .pointer (some ⟨q23, 4, none⟩) :: .slice ko ks.length kc :: iN .i64 ks.length :: iN .i64 (min ks.length 20) :: .slice ko (min ks.length 20) kc :: .slice ok (min ks.length 20) ck :: pt d.q :: .slice ok (min ks.length 20) ck :: iN .i64 0 :: .agg (#[iN .i64 rm, .slice pf nf cf, .bool dn, iN .i64 lf, .slice pz nz cz]) :: .pointer (some ⟨q23, 4, none⟩) :: .slice ko ks.length kc :: .pointer (some ⟨q23, 4, none⟩) :: .slice ko ks.length kc :: iN .i64 ks.length :: iN .i64 (min ks.length 20) :: .slice ko (min ks.length 20) kc :: .agg #[iN .i64 rm, .slice pf118 nf118 cf118, .bool dn118, iN .i64 lf118, .slice pz118 nz118 cz118] :: u15 153 :: u15 154 :: u15 155 :: u15 156 :: u15 157 :: u15 158 :: u15 159 :: u15 160 :: u15 161 :: u15 162 :: u15 163 :: u15 164 :: u15 165 :: u15 166 :: u15 167 :: u15 168 :: u15 169 :: u15 170 :: u15 171 :: u15 172 :: u15 173 :: u15 174 :: u15 175 :: u15 176 :: List.replicate 1 un).toArray, []⟩ ∧ RD (.agg #[iN .i64 rm, .slice pf118 nf118 cf118, .bool dn118, iN .i64 lf118, .slice pz118 nz118 cz118]) (wakeD D (ks.take (min ks.length 20))) rm (N1 ++ N) ∧ HA z107 ((q23, 31, #[.int .i64 wh, .string nm0, .string sd0, .int .i64 nn, .slice ko ks.length kc]) :: (q10, 28, #[iN .i64 rm, .slice pf118 nf118 cf118, .bool dn118, iN .i64 lf118, .slice pz118 nz118 cz118]) :: ((N1 ++ (Lk ++ N)) ++ X108)) w') 10 (by kernel_rfl) (by kernel_rfl) (by kernel_rfl) (by kernel_rfl) (by kernel_rfl) (h112.drew) ?_ ?_
      · have h113 := h112.drew
        refine wx_val (i := 0) (.agg (#[iN .i64 rm, .slice pf nf cf, .bool dn, iN .i64 lf, .slice pz nz cz])) rfl rfl (by kernel_rfl) (by kernel_rfl) (fun w' h' => run_load_blk (by kernel_rfl) (h'.get 1 rfl) Try.underlying28 rfl (by kernel_rfl)) ?_
        refine wx_pure (i := 1) (.pointer (some ⟨q23, 4, none⟩)) rfl rfl (by kernel_rfl) (by kernel_rfl) (fun _ => (by kernel_rfl)) ?_
        refine wx_val (i := 2) (.slice ko ks.length kc) rfl rfl (by kernel_rfl) (by kernel_rfl) (fun w' h' => run_load1 (fun w => Try.isAgg26 w) (by kernel_rfl) (((h'.get 0 rfl).cell 4).trans rfl)) ?_
        refine wx_pure (i := 3) (.pointer (some ⟨q23, 4, none⟩)) rfl rfl (by kernel_rfl) (by kernel_rfl) (fun _ => (by kernel_rfl)) ?_
        refine wx_val (i := 4) (.slice ko ks.length kc) rfl rfl (by kernel_rfl) (by kernel_rfl) (fun w' h' => run_load1 (fun w => Try.isAgg26 w) (by kernel_rfl) (((h'.get 0 rfl).cell 4).trans rfl)) ?_
        refine wx_pure (i := 5) (iN .i64 ks.length) rfl rfl (by kernel_rfl) (by kernel_rfl) (fun _ => (by kernel_rfl)) ?_
        refine wx_pure (i := 6) (iN .i64 (min ks.length 20)) rfl rfl (by kernel_rfl) (by kernel_rfl) (fun _ => (run_min (i := ks.length) (j := 20) (by kernel_rfl) (by kernel_rfl))) ?_
        refine wx_pure (i := 7) (.slice ko (min ks.length 20) kc) rfl rfl (by kernel_rfl) (by kernel_rfl) (fun _ => (run_slP (a := ko) (n := ks.length) (cap := kc) (m := min ks.length 20) (by kernel_rfl) (by kernel_rfl) (by have := hok.k2; simp only at this; omega))) ?_
        refine wx_one 8 (by kernel_rfl) ?_
        refine ex_callx rfl (by kernel_rfl) h113 enter21 #[.agg (#[iN .i64 rm, .slice pf nf cf, .bool dn, iN .i64 lf, .slice pz nz cz]), .slice ko (min ks.length 20) kc] (by kernel_rfl) (fun w114 h115 => by have h := rWake hr (fun y hy => h115.blk y (List.mem_cons_of_mem _ (List.mem_cons_of_mem _ (List.mem_append_left _ (List.mem_append_right _ hy))))) hdb (by omega) (by omega) (kc := kc) (ks.take (min ks.length 20)) (take_src (hok.i4.keep (hbe110 _ _ h115)) _ (Nat.min_le_left _ _)) (by rw [List.length_take]; omega) hsyn; rw [hkt] at h; exact h) ?_
        rintro w114 h115 _ w116 ⟨v1, N1, rfl, hRn, hNn1, hbn1⟩
        have h117 : HA z107 ((q23, 31, #[.int .i64 wh, .string nm0, .string sd0, .int .i64 nn, .slice ko ks.length kc]) :: (q10, 28, #[iN .i64 rm, .slice pf nf cf, .bool dn, iN .i64 lf, .slice pz nz cz]) :: ((N1 ++ (Lk ++ N)) ++ X108)) w116 := HA.perm (HA.addL h115 hbn1 hNn1) (perm_ref [(q23, 31, #[.int .i64 wh, .string nm0, .string sd0, .int .i64 nn, .slice ko ks.length kc]), (q10, 28, #[iN .i64 rm, .slice pf nf cf, .bool dn, iN .i64 lf, .slice pz nz cz])] (Lk ++ N) X108 N1)
        obtain ⟨pf118, nf118, cf118, dn118, lf118, pz118, nz118, cz118, rfl⟩ := RD.form hRn
        refine ⟨_, rfl, _, .inl (by kernel_rfl), h117, ?_⟩
        refine wx_one 9 (by kernel_rfl) ?_
        refine ex_skip rfl (by kernel_rfl) (by kernel_rfl) h117 fun w119 h120 => ⟨_, run_store_blk (c' := #[iN .i64 rm, .slice pf118 nf118 cf118, .bool dn118, iN .i64 lf118, .slice pz118 nz118 cz118]) (by kernel_rfl) (by kernel_rfl) (h120.get 1 rfl) rfl (by kernel_rfl) (by kernel_rfl), _, h120.fill 1 rfl (c' := #[iN .i64 rm, .slice pf118 nf118 cf118, .bool dn118, iN .i64 lf118, .slice pz118 nz118 cz118]) rfl, ?_⟩
        have h121 : HA z107 ((q23, 31, #[.int .i64 wh, .string nm0, .string sd0, .int .i64 nn, .slice ko ks.length kc]) :: (q10, 28, #[iN .i64 rm, .slice pf118 nf118 cf118, .bool dn118, iN .i64 lf118, .slice pz118 nz118 cz118]) :: ((N1 ++ (Lk ++ N)) ++ X108)) _ := h120.fill 1 rfl (c' := #[iN .i64 rm, .slice pf118 nf118 cf118, .bool dn118, iN .i64 lf118, .slice pz118 nz118 cz118]) rfl
        refine wx_end fun w122 hbx _ => ?_
        have h123 := HA.keep _ _ h121 hbx
        exact ⟨N1, pf118, nf118, cf118, dn118, lf118, pz118, nz118, cz118, by kernel_rfl, hRn, h123⟩
      · rintro _ w124 ⟨N1, pf118, nf118, cf118, dn118, lf118, pz118, nz118, cz118, rfl, hRn, h125⟩
        refine block_normal ?_
        refine then_at rfl ?_
        refine wp_seq ?_
        refine wp_region_sure ⟨(.int .i64 z :: .slice o al.length c :: .string p :: un :: un :: un :: u15 6 :: pt d.q :: pt q10 :: iN .i64 i :: pt q23 :: .string nm :: .string sd :: iN .i64 0 :: iN .i64 0 :: .slice ok (min ks.length 20) ck :: u15 16 :: u15 17 :: u15 18 :: u15 19 :: u15 20 :: .int .i64 z :: pt d.q :: .int .i64 z :: .agg #[iN .i64 rm, .slice none 0 0, .bool false, iN .i64 0, .slice none 0 0] :: pt d.q :: .bool false :: iN .i64 i :: .slice o al.length c :: iN .i64 al.length :: .bool true :: .bool true :: iN .i64 i :: .bool true :: .bool true :: u15 35 :: u15 36 :: .slice o al.length c :: iN .i64 i :: .pointer (some (oa.add (i * 5))) :: .agg #[.int .i64 wh, .string nm0, .string sd0, .int .i64 nn, .slice ko ks.length kc] :: .pointer (some ⟨q23, 1, none⟩) :: .string nm0 :: .string nm :: .pointer (some ⟨q23, 2, none⟩) :: .string sd0 :: .string sd :: pt q23 :: .int .i64 wh :: u15 49 :: u15 50 :: u15 51 :: u15 52 :: u15 53 :: u15 54 :: u15 55 :: u15 56 :: u15 57 :: u15 58 :: u15 59 :: u15 60 :: u15 61 :: u15 62 :: u15 63 :: u15 64 :: u15 65 :: u15 66 :: u15 67 :: u15 68 :: .bool false :: .bool false :: u15 71 :: u15 72 :: u15 73 :: u15 74 :: u15 75 :: u15 76 :: u15 77 :: u15 78 :: u15 79 :: u15 80 :: u15 81 :: .bool false :: .bool false :: u15 84 :: u15 85 :: u15 86 :: u15 87 :: u15 88 :: u15 89 :: u15 90 :: u15 91 :: u15 92 :: .bool false :: .bool false :: u15 95 :: u15 96 :: u15 97 :: u15 98 :: u15 99 :: u15 100 :: u15 101 :: u15 102 :: u15 103 :: u15 104 :: u15 105 :: .bool false :: .bool false :: u15 108 :: u15 109 :: u15 110 :: u15 111 :: u15 112 :: u15 113 :: u15 114 :: u15 115 :: u15 116 :: .bool false :: .bool false :: u15 119 :: u15 120 :: u15 121 :: u15 122 :: u15 123 :: u15 124 :: u15 125 :: u15 126 :: u15 127 :: u15 128 :: u15 129 :: .bool true :: .bool true :: .slice (some ⟨q100, 0, none⟩) 0 0 :: .pointer (some ⟨q23, 4, none⟩) :: .slice ko ks.length kc :: .pointer (some ⟨q23, 4, none⟩) :: .slice ko ks.length kc :: iN .i64 ks.length :: iN .i64 (min ks.length 20) :: .slice ko (min ks.length 20) kc :: .slice ok (min ks.length 20) ck :: pt d.q :: .slice ok (min ks.length 20) ck :: iN .i64 0 :: .agg (#[iN .i64 rm, .slice pf nf cf, .bool dn, iN .i64 lf, .slice pz nz cz]) :: .pointer (some ⟨q23, 4, none⟩) :: .slice ko ks.length kc :: .pointer (some ⟨q23, 4, none⟩) :: .slice ko ks.length kc :: iN .i64 ks.length :: iN .i64 (min ks.length 20) :: .slice ko (min ks.length 20) kc :: .agg #[iN .i64 rm, .slice pf118 nf118 cf118, .bool dn118, iN .i64 lf118, .slice pz118 nz118 cz118] :: u15 153 :: u15 154 :: u15 155 :: u15 156 :: u15 157 :: u15 158 :: u15 159 :: u15 160 :: u15 161 :: u15 162 :: u15 163 :: u15 164 :: u15 165 :: iN .i64 0 :: iN .i64 0 :: .bool false :: .bool false :: pt d.q :: .agg (#[iN .i64 rm, .slice pf118 nf118 cf118, .bool dn118, iN .i64 lf118, .slice pz118 nz118 cz118]) :: .string p :: .string pp :: .bool true :: .bool false :: .bool false :: List.replicate 1 un).toArray, []⟩ (HA z107 ((q23, 31, #[.int .i64 wh, .string nm0, .string sd0, .int .i64 nn, .slice ko ks.length kc]) :: (q10, 28, #[iN .i64 rm, .slice pf118 nf118 cf118, .bool dn118, iN .i64 lf118, .slice pz118 nz118 cz118]) :: ((N1 ++ (Lk ++ N)) ++ X108))) [iN .i64 0, iN .i64 0, .bool false, .bool false, .pointer (some ⟨d.q, 0, none⟩), .agg (#[iN .i64 rm, .slice pf118 nf118 cf118, .bool dn118, iN .i64 lf118, .slice pz118 nz118 cz118]), .string p, .string pp, .bool true, .bool false, .bool false] (by kernel_rfl) (by kernel_rfl) (by kernel_rfl) (by kernel_rfl) (fun _ _ _ h => h) h125.drew ?_ ?_
        · refine AllSure.cons (OpSure.take (v := iN .i64 0) (by kernel_rfl) (by kernel_rfl) (fun _ _ => (by kernel_rfl))) ?_
          refine AllSure.cons (OpSure.take (v := iN .i64 0) (by kernel_rfl) (by kernel_rfl) (fun _ _ => (by kernel_rfl))) ?_
          refine AllSure.cons (OpSure.take (v := .bool false) (by kernel_rfl) (by kernel_rfl) (fun _ _ => (run_nei (k := .i64) (a := 0) (b := 0) (by kernel_rfl) (by kernel_rfl) false (by decide)))) ?_
          refine AllSure.cons (OpSure.take (v := .bool false) (by kernel_rfl) (by kernel_rfl) (fun _ _ => (by kernel_rfl))) ?_
          refine AllSure.cons (OpSure.take (v := .pointer (some ⟨d.q, 0, none⟩)) (by kernel_rfl) (by kernel_rfl) (fun _ _ => (by kernel_rfl))) ?_
          refine AllSure.cons (OpSure.take (v := .agg (#[iN .i64 rm, .slice pf118 nf118 cf118, .bool dn118, iN .i64 lf118, .slice pz118 nz118 cz118])) (by kernel_rfl) (by kernel_rfl) (fun _ h => run_load_blk (by kernel_rfl) (h.get 1 rfl) Try.underlying28 rfl (by kernel_rfl))) ?_
          refine AllSure.cons (OpSure.take (v := .string p) (by kernel_rfl) (by kernel_rfl) (fun _ _ => (by kernel_rfl))) ?_
          refine AllSure.cons (sure_call (v := .string pp) (by kernel_rfl) (by kernel_rfl) enter9 HA.keep #[.string p, iN .i64 10] (by kernel_rfl) (fun w' h' => by rw [hpp]; exact cutP_any p 10 hpl w')) ?_
          refine AllSure.cons (sure_call (v := .bool true) (by kernel_rfl) (by kernel_rfl) enter25 HA.keep #[.pointer (some ⟨d.q, 0, none⟩), .agg (#[iN .i64 rm, .slice pf118 nf118 cf118, .bool dn118, iN .i64 lf118, .slice pz118 nz118 cz118]), .string pp] (by kernel_rfl) (fun w' h' => same_ok (hcl109 ((q23, 31, #[.int .i64 wh, .string nm0, .string sd0, .int .i64 nn, .slice ko ks.length kc]) :: (q10, 28, #[iN .i64 rm, .slice pf118 nf118 cf118, .bool dn118, iN .i64 lf118, .slice pz118 nz118 cz118]) :: (N1 ++ (Lk ++ N))) _ h') (hRn.mono (fun y hy => by rcases List.mem_append.1 hy with h | h <;> simp [h]) : RD _ _ _ (N1 ++ (Lk ++ N))) (fun y hy => h'.blk y (List.mem_cons_of_mem _ (List.mem_cons_of_mem _ (List.mem_append_left _ hy)))) hdbn (by omega) (by omega) pp)) ?_
          refine AllSure.cons (OpSure.take (v := .bool false) (by kernel_rfl) (by kernel_rfl) (fun _ _ => (by kernel_rfl))) ?_
          refine AllSure.cons (OpSure.take (v := .bool false) (by kernel_rfl) (by kernel_rfl) (fun _ _ => (by kernel_rfl))) ?_
          exact AllSure.nil
        intro w126 h127
        refine then_at rfl ?_
        refine wp_cond_false (by kernel_rfl) ?_
        refine wp_skip ?_
        refine block_normal ?_
        refine then_at rfl ?_
        refine wl_region ?_
        refine wl_val (iN .i64 i) (by kernel_rfl) (by kernel_rfl) ?_
        refine wl_val (iN .i64 (i + 1)) (by kernel_rfl) (run_add (k := .i64) (a := i) (b := 1) (by kernel_rfl) (by kernel_rfl) (by first | omega | (simp only [top]; omega))) ?_
        refine wl_val (iN .i64 (i + 1)) (by kernel_rfl) (by kernel_rfl) ?_
        refine wl_nil ?_
        exact then_I ⟨fun ii => (([(6, u15 6), (10, .pointer (some ⟨q23, 0, none⟩)), (11, .string nm), (12, .string sd), (13, iN .i64 0), (14, iN .i64 0), (15, .slice ok (min ks.length 20) ck), (16, u15 16), (17, u15 17), (18, u15 18), (19, u15 19), (20, u15 20), (27, iN .i64 i), (28, .slice o al.length c), (29, iN .i64 al.length), (30, .bool true), (31, .bool true), (32, iN .i64 i), (33, .bool true), (34, .bool true), (35, iN .i64 i), (36, iN .i64 (i + 1)), (37, .slice o al.length c), (38, iN .i64 i), (39, .pointer (some (oa.add (i * 5)))), (40, .agg #[.int .i64 wh, .string nm0, .string sd0, .int .i64 nn, .slice ko ks.length kc]), (41, .pointer (some ⟨q23, 1, none⟩)), (42, .string nm0), (43, .string nm), (44, .pointer (some ⟨q23, 2, none⟩)), (45, .string sd0), (46, .string sd), (47, .pointer (some ⟨q23, 0, none⟩)), (48, .int .i64 wh), (49, u15 49), (50, u15 50), (51, u15 51), (52, u15 52), (53, u15 53), (54, u15 54), (55, u15 55), (56, u15 56), (57, u15 57), (58, u15 58), (59, u15 59), (60, u15 60), (61, u15 61), (62, u15 62), (63, u15 63), (64, u15 64), (65, u15 65), (66, u15 66), (67, u15 67), (68, u15 68), (69, .bool false), (70, .bool false), (71, u15 71), (72, u15 72), (73, u15 73), (74, u15 74), (75, u15 75), (76, u15 76), (77, u15 77), (78, u15 78), (79, u15 79), (80, u15 80), (81, u15 81), (82, .bool false), (83, .bool false), (84, u15 84), (85, u15 85), (86, u15 86), (87, u15 87), (88, u15 88), (89, u15 89), (90, u15 90), (91, u15 91), (92, u15 92), (93, .bool false), (94, .bool false), (95, u15 95), (96, u15 96), (97, u15 97), (98, u15 98), (99, u15 99), (100, u15 100), (101, u15 101), (102, u15 102), (103, u15 103), (104, u15 104), (105, u15 105), (106, .bool false), (107, .bool false), (108, u15 108), (109, u15 109), (110, u15 110), (111, u15 111), (112, u15 112), (113, u15 113), (114, u15 114), (115, u15 115), (116, u15 116), (117, .bool false), (118, .bool false), (119, u15 119), (120, u15 120), (121, u15 121), (122, u15 122), (123, u15 123), (124, u15 124), (125, u15 125), (126, u15 126), (127, u15 127), (128, u15 128), (129, u15 129), (130, .bool true), (131, .bool true), (132, .slice (some ⟨q100, 0, none⟩) 0 0), (133, .pointer (some ⟨q23, 4, none⟩)), (134, .slice ko ks.length kc), (135, .pointer (some ⟨q23, 4, none⟩)), (136, .slice ko ks.length kc), (137, iN .i64 ks.length), (138, iN .i64 (min ks.length 20)), (139, .slice ko (min ks.length 20) kc), (140, .slice ok (min ks.length 20) ck), (141, .pointer (some ⟨d.q, 0, none⟩)), (142, .slice ok (min ks.length 20) ck), (143, iN .i64 0), (144, .agg (#[iN .i64 rm, .slice pf nf cf, .bool dn, iN .i64 lf, .slice pz nz cz])), (145, .pointer (some ⟨q23, 4, none⟩)), (146, .slice ko ks.length kc), (147, .pointer (some ⟨q23, 4, none⟩)), (148, .slice ko ks.length kc), (149, iN .i64 ks.length), (150, iN .i64 (min ks.length 20)), (151, .slice ko (min ks.length 20) kc), (152, .agg #[iN .i64 rm, .slice pf118 nf118 cf118, .bool dn118, iN .i64 lf118, .slice pz118 nz118 cz118]), (153, u15 153), (154, u15 154), (155, u15 155), (156, u15 156), (157, u15 157), (158, u15 158), (159, u15 159), (160, u15 160), (161, u15 161), (162, u15 162), (163, u15 163), (164, u15 164), (165, u15 165), (166, iN .i64 0), (167, iN .i64 0), (168, .bool false), (169, .bool false), (170, .pointer (some ⟨d.q, 0, none⟩)), (171, .agg (#[iN .i64 rm, .slice pf118 nf118 cf118, .bool dn118, iN .i64 lf118, .slice pz118 nz118 cz118])), (172, .string p), (173, .string pp), (174, .bool true), (175, .bool false), (176, .bool false)] : List (Nat × Value)).find? (·.1 == ii)).elim undef (·.2), by kernel_rfl, wakeD D (ks.take (min ks.length 20)), (N1 ++ (Lk ++ N)), _, _, _, _, _, _, _, _, (hRn.mono (fun y hy => by rcases List.mem_append.1 hy with h | h <;> simp [h])), hdbn.mono (by omega) (by omega), (hcl109 ((q10, 28, #[iN .i64 rm, .slice pf118 nf118 cf118, .bool dn118, iN .i64 lf118, .slice pz118 nz118 cz118]) :: (N1 ++ (Lk ++ N))) _ (h127.sub (List.Sublist.cons _ (List.Sublist.refl _))))⟩
    · refine wl_region ?_
      refine wl_val (.bool false) (by kernel_rfl) (run_eqz (k := .i64) (a := wh) (b := 0) (by kernel_rfl) (by kernel_rfl) false (decide_eq_false (by omega))) ?_
      refine wl_val (.bool false) (by kernel_rfl) (by kernel_rfl) ?_
      refine wl_nil ?_
      refine then_at rfl ?_
      refine wp_cond_false (by kernel_rfl) ?_
      refine wp_seq ?_
      refine wl_region ?_
      refine wl_val (.bool false) (by kernel_rfl) (run_eqz (k := .i64) (a := wh) (b := 1) (by kernel_rfl) (by kernel_rfl) false (decide_eq_false (by omega))) ?_
      refine wl_val (.bool false) (by kernel_rfl) (by kernel_rfl) ?_
      refine wl_nil ?_
      refine then_at rfl ?_
      refine wp_cond_false (by kernel_rfl) ?_
      refine wp_seq ?_
      refine wl_region ?_
      refine wl_val (.bool false) (by kernel_rfl) (run_eqz (k := .i64) (a := wh) (b := 2) (by kernel_rfl) (by kernel_rfl) false (decide_eq_false (by omega))) ?_
      refine wl_val (.bool false) (by kernel_rfl) (by kernel_rfl) ?_
      refine wl_nil ?_
      refine then_at (F := ⟨(.int .i64 z :: .slice o al.length c :: .string p :: un :: un :: un :: u15 6 :: pt d.q :: pt q10 :: iN .i64 i :: pt q23 :: .string nm :: .string sd :: iN .i64 0 :: iN .i64 0 :: u15 15 :: u15 16 :: u15 17 :: u15 18 :: u15 19 :: u15 20 :: .int .i64 z :: pt d.q :: .int .i64 z :: .agg #[iN .i64 rm, .slice none 0 0, .bool false, iN .i64 0, .slice none 0 0] :: pt d.q :: .bool false :: iN .i64 i :: .slice o al.length c :: iN .i64 al.length :: .bool true :: .bool true :: iN .i64 i :: .bool true :: .bool true :: u15 35 :: u15 36 :: .slice o al.length c :: iN .i64 i :: .pointer (some (oa.add (i * 5))) :: .agg #[.int .i64 wh, .string nm0, .string sd0, .int .i64 nn, .slice ko ks.length kc] :: .pointer (some ⟨q23, 1, none⟩) :: .string nm0 :: .string nm :: .pointer (some ⟨q23, 2, none⟩) :: .string sd0 :: .string sd :: pt q23 :: .int .i64 wh :: u15 49 :: u15 50 :: u15 51 :: u15 52 :: u15 53 :: u15 54 :: u15 55 :: u15 56 :: u15 57 :: u15 58 :: u15 59 :: u15 60 :: u15 61 :: u15 62 :: u15 63 :: u15 64 :: u15 65 :: u15 66 :: u15 67 :: u15 68 :: .bool false :: .bool false :: u15 71 :: u15 72 :: u15 73 :: u15 74 :: u15 75 :: u15 76 :: u15 77 :: u15 78 :: u15 79 :: u15 80 :: u15 81 :: .bool false :: .bool false :: u15 84 :: u15 85 :: u15 86 :: u15 87 :: u15 88 :: u15 89 :: u15 90 :: u15 91 :: u15 92 :: .bool false :: .bool false :: u15 95 :: u15 96 :: u15 97 :: u15 98 :: u15 99 :: u15 100 :: u15 101 :: u15 102 :: u15 103 :: u15 104 :: u15 105 :: u15 106 :: u15 107 :: u15 108 :: u15 109 :: u15 110 :: u15 111 :: u15 112 :: u15 113 :: u15 114 :: u15 115 :: u15 116 :: u15 117 :: u15 118 :: u15 119 :: u15 120 :: u15 121 :: u15 122 :: u15 123 :: u15 124 :: u15 125 :: u15 126 :: u15 127 :: u15 128 :: u15 129 :: u15 130 :: u15 131 :: u15 132 :: u15 133 :: u15 134 :: u15 135 :: u15 136 :: u15 137 :: u15 138 :: u15 139 :: u15 140 :: u15 141 :: u15 142 :: u15 143 :: u15 144 :: u15 145 :: u15 146 :: u15 147 :: u15 148 :: u15 149 :: u15 150 :: u15 151 :: u15 152 :: u15 153 :: u15 154 :: u15 155 :: u15 156 :: u15 157 :: u15 158 :: u15 159 :: u15 160 :: u15 161 :: u15 162 :: u15 163 :: u15 164 :: u15 165 :: u15 166 :: u15 167 :: u15 168 :: u15 169 :: u15 170 :: u15 171 :: u15 172 :: u15 173 :: u15 174 :: u15 175 :: u15 176 :: List.replicate 1 un).toArray, []⟩) (by kernel_rfl) ?_
      refine wp_cond_false (by kernel_rfl) ?_
      refine wp_seq ?_
      refine wl_region ?_
      refine wl_val (.bool false) (by kernel_rfl) (run_eqz (k := .i64) (a := wh) (b := 3) (by kernel_rfl) (by kernel_rfl) false (decide_eq_false (by omega))) ?_
      refine wl_val (.bool false) (by kernel_rfl) (by kernel_rfl) ?_
      refine wl_nil ?_
      refine then_at rfl ?_
      refine wp_cond_false (by kernel_rfl) ?_
      refine wp_seq ?_
      refine wl_region ?_
      refine wl_val (.bool false) (by kernel_rfl) (run_eqz (k := .i64) (a := wh) (b := 4) (by kernel_rfl) (by kernel_rfl) false (decide_eq_false (by omega))) ?_
      refine wl_val (.bool false) (by kernel_rfl) (by kernel_rfl) ?_
      refine wl_nil ?_
      refine then_at rfl ?_
      refine wp_cond_false (by kernel_rfl) ?_
      refine wp_seq ?_
      refine wl_region ?_
      refine wl_val (.bool false) (by kernel_rfl) (run_eqz (k := .i64) (a := wh) (b := 5) (by kernel_rfl) (by kernel_rfl) false (decide_eq_false (by omega))) ?_
      refine wl_val (.bool false) (by kernel_rfl) (by kernel_rfl) ?_
      refine wl_nil ?_
      refine then_at rfl ?_
      refine wp_cond_false (by kernel_rfl) ?_
      refine wp_seq ?_
      refine wl_region ?_
      refine wl_val (.bool true) (by kernel_rfl) (run_eqz (k := .i64) (a := wh) (b := 6) (by kernel_rfl) (by kernel_rfl) true (decide_eq_true (by omega))) ?_
      refine wl_val (.bool true) (by kernel_rfl) (by kernel_rfl) ?_
      refine wl_nil ?_
      refine then_at rfl ?_
      refine wp_cond_true (by kernel_rfl) ?_
      refine wp_seq ?_
      refine wl_region ?_
      refine wl_val (.pointer (some ⟨d.q, 0, none⟩)) (by kernel_rfl) (by kernel_rfl) ?_
      refine wl_callx (by kernel_rfl) enter22 #[.pointer (some ⟨d.q, 0, none⟩)] (by kernel_rfl) (Copy_any (hcl19 ((q23, 31, #[.int .i64 wh, .string nm0, .string sd0, .int .i64 nn, .slice ko ks.length kc]) :: (q10, 28, #[iN .i64 rm, .slice pf nf cf, .bool dn, iN .i64 lf, .slice pz nz cz]) :: N) _ h29) hdb (by omega) (by omega)) ?_
      rintro _ w128 ⟨cd, D2, M2, Xc, rfl, hb2, hDc, hback⟩
      refine ⟨_, rfl, ?_⟩
      have hDc : DH _ _ cd (D2) _ _ := hDc
      obtain ⟨z129, X130, hcl131, hbe132, h133⟩ := DH.front hDc
      have h134 : HA z129 ((Xc ++ X130)) w128 := h133
      refine wl_val (.pointer (some ⟨cd.q, 0, none⟩)) (by kernel_rfl) (by kernel_rfl) ?_
      refine wl_nil ?_
      refine then_at rfl ?_
      refine wp_seq ?_
      refine wp_seq ?_
      refine wl_region ?_
      refine wl_val (.pointer (some ⟨cd.q, 0, none⟩)) (by kernel_rfl) (by kernel_rfl) ?_
      refine wl_val (.bool false) (by kernel_rfl) (by kernel_rfl) ?_
      refine wl_nil ?_
      refine then_at (F := ⟨(.int .i64 z :: .slice o al.length c :: .string p :: un :: un :: un :: u15 6 :: pt d.q :: pt q10 :: iN .i64 i :: pt q23 :: .string nm :: .string sd :: iN .i64 0 :: iN .i64 0 :: u15 15 :: pt cd.q :: u15 17 :: u15 18 :: u15 19 :: u15 20 :: .int .i64 z :: pt d.q :: .int .i64 z :: .agg #[iN .i64 rm, .slice none 0 0, .bool false, iN .i64 0, .slice none 0 0] :: pt d.q :: .bool false :: iN .i64 i :: .slice o al.length c :: iN .i64 al.length :: .bool true :: .bool true :: iN .i64 i :: .bool true :: .bool true :: u15 35 :: u15 36 :: .slice o al.length c :: iN .i64 i :: .pointer (some (oa.add (i * 5))) :: .agg #[.int .i64 wh, .string nm0, .string sd0, .int .i64 nn, .slice ko ks.length kc] :: .pointer (some ⟨q23, 1, none⟩) :: .string nm0 :: .string nm :: .pointer (some ⟨q23, 2, none⟩) :: .string sd0 :: .string sd :: pt q23 :: .int .i64 wh :: u15 49 :: u15 50 :: u15 51 :: u15 52 :: u15 53 :: u15 54 :: u15 55 :: u15 56 :: u15 57 :: u15 58 :: u15 59 :: u15 60 :: u15 61 :: u15 62 :: u15 63 :: u15 64 :: u15 65 :: u15 66 :: u15 67 :: u15 68 :: .bool false :: .bool false :: u15 71 :: u15 72 :: u15 73 :: u15 74 :: u15 75 :: u15 76 :: u15 77 :: u15 78 :: u15 79 :: u15 80 :: u15 81 :: .bool false :: .bool false :: u15 84 :: u15 85 :: u15 86 :: u15 87 :: u15 88 :: u15 89 :: u15 90 :: u15 91 :: u15 92 :: .bool false :: .bool false :: u15 95 :: u15 96 :: u15 97 :: u15 98 :: u15 99 :: u15 100 :: u15 101 :: u15 102 :: u15 103 :: u15 104 :: u15 105 :: .bool false :: .bool false :: u15 108 :: u15 109 :: u15 110 :: u15 111 :: u15 112 :: u15 113 :: u15 114 :: u15 115 :: u15 116 :: .bool false :: .bool false :: u15 119 :: u15 120 :: u15 121 :: u15 122 :: u15 123 :: u15 124 :: u15 125 :: u15 126 :: u15 127 :: u15 128 :: u15 129 :: .bool false :: .bool false :: u15 132 :: u15 133 :: u15 134 :: u15 135 :: u15 136 :: u15 137 :: u15 138 :: u15 139 :: u15 140 :: u15 141 :: u15 142 :: u15 143 :: u15 144 :: u15 145 :: u15 146 :: u15 147 :: u15 148 :: u15 149 :: u15 150 :: u15 151 :: u15 152 :: .bool true :: .bool true :: pt d.q :: pt cd.q :: pt cd.q :: .bool false :: u15 159 :: u15 160 :: u15 161 :: u15 162 :: u15 163 :: u15 164 :: u15 165 :: u15 166 :: u15 167 :: u15 168 :: u15 169 :: u15 170 :: u15 171 :: u15 172 :: u15 173 :: u15 174 :: u15 175 :: u15 176 :: List.replicate 1 un).toArray, []⟩) (by kernel_rfl) ?_
      refine wp_cond_false (by kernel_rfl) ?_
      refine wp_skip ?_
      refine then_at rfl ?_
      refine wp_seq ?_
      refine wl_region ?_
      refine wl_val (.pointer (some ⟨cd.q, 0, none⟩)) (by kernel_rfl) (by kernel_rfl) ?_
      refine wl_callx (by kernel_rfl) enter10 #[.pointer (some ⟨cd.q, 0, none⟩), .string ({ data := #[109, 105, 110, 101] }), .string ({ data := #[120] })] (by kernel_rfl) (Append_any (hcl131 (Xc) _ h134) ({ data := #[109, 105, 110, 101] }) ({ data := #[120] }) hb2 (by show _ + 1 ≤ _; omega) (by omega)) ?_
      rintro _ w135 ⟨rfl, hDa⟩
      refine ⟨_, rfl, ?_⟩
      have hda := Append_DB hb2 ({ data := #[109, 105, 110, 101] }) ({ data := #[120] })
      have hda := hda.mono (U' := 300 * i + 1) (N' := i + 1) (by show _ + 1 ≤ _; omega) (by omega)
      have hDa : DH _ _ cd ((AppendD D2 ({ data := #[109, 105, 110, 101] }) ({ data := #[120] })).1) _ _ := hDa
      obtain ⟨z136, X137, hcl138, hbe139, h140⟩ := DH.front hDa
      have h141 : HA z136 ((Xc ++ X137)) w135 := h140
      refine wl_nil ?_
      refine then_at rfl ?_
      refine wp_seq ?_
      refine wl_region ?_
      refine wl_val (.pointer (some ⟨cd.q, 0, none⟩)) (by kernel_rfl) (by kernel_rfl) ?_
      refine wl_callx (by kernel_rfl) enter20 #[.pointer (some ⟨cd.q, 0, none⟩), .slice none 0 0] (by kernel_rfl) (Wake_any (o := none) (c := 0) (ks := []) (hcl138 (Xc) _ h141) (KV.nil _ _ _) (by simp) hda (by omega) (by omega)) ?_
      rintro _ w142 ⟨rfl, hDw⟩
      refine ⟨_, rfl, ?_⟩
      have hdw := wake_DB hda []
      have hDw : DH _ _ cd ((wakeD (AppendD D2 ({ data := #[109, 105, 110, 101] }) ({ data := #[120] })).1 [])) _ _ := hDw
      obtain ⟨z143, X144, hcl145, hbe146, h147⟩ := DH.front hDw
      have h148 : HA z143 ((Xc ++ X144)) w142 := h147
      refine wl_nil ?_
      refine then_at rfl ?_
      refine wl_region ?_
      refine wl_val (.pointer (some ⟨cd.q, 0, none⟩)) (by kernel_rfl) (by kernel_rfl) ?_
      refine wl_val (.string nm) (by kernel_rfl) (by kernel_rfl) ?_
      refine wl_callx (by kernel_rfl) enter16 #[.pointer (some ⟨cd.q, 0, none⟩), .string nm] (by kernel_rfl) (Remove_any (hcl145 (Xc) _ h148) nm hdw (by omega)) ?_
      rintro _ w149 ⟨rfl, hDr⟩
      refine ⟨_, rfl, ?_⟩
      have hDb := hback _ _ hDr
      have hDb : DH _ _ d (D) _ _ := hDb
      obtain ⟨z150, X151, hcl152, hbe153, h154⟩ := DH.front hDb
      have h155 : HA z150 ((q23, 31, #[.int .i64 wh, .string nm0, .string sd0, .int .i64 nn, .slice ko ks.length kc]) :: (q10, 28, #[iN .i64 rm, .slice pf nf cf, .bool dn, iN .i64 lf, .slice pz nz cz]) :: (N ++ X151)) w149 := h154
      refine wl_nil ?_
      refine block_normal ?_
      refine then_at rfl ?_
      refine wp_seq ?_
      refine wp_region_sure ⟨(.int .i64 z :: .slice o al.length c :: .string p :: un :: un :: un :: u15 6 :: pt d.q :: pt q10 :: iN .i64 i :: pt q23 :: .string nm :: .string sd :: iN .i64 0 :: iN .i64 0 :: u15 15 :: pt cd.q :: u15 17 :: u15 18 :: u15 19 :: u15 20 :: .int .i64 z :: pt d.q :: .int .i64 z :: .agg #[iN .i64 rm, .slice none 0 0, .bool false, iN .i64 0, .slice none 0 0] :: pt d.q :: .bool false :: iN .i64 i :: .slice o al.length c :: iN .i64 al.length :: .bool true :: .bool true :: iN .i64 i :: .bool true :: .bool true :: u15 35 :: u15 36 :: .slice o al.length c :: iN .i64 i :: .pointer (some (oa.add (i * 5))) :: .agg #[.int .i64 wh, .string nm0, .string sd0, .int .i64 nn, .slice ko ks.length kc] :: .pointer (some ⟨q23, 1, none⟩) :: .string nm0 :: .string nm :: .pointer (some ⟨q23, 2, none⟩) :: .string sd0 :: .string sd :: pt q23 :: .int .i64 wh :: u15 49 :: u15 50 :: u15 51 :: u15 52 :: u15 53 :: u15 54 :: u15 55 :: u15 56 :: u15 57 :: u15 58 :: u15 59 :: u15 60 :: u15 61 :: u15 62 :: u15 63 :: u15 64 :: u15 65 :: u15 66 :: u15 67 :: u15 68 :: .bool false :: .bool false :: u15 71 :: u15 72 :: u15 73 :: u15 74 :: u15 75 :: u15 76 :: u15 77 :: u15 78 :: u15 79 :: u15 80 :: u15 81 :: .bool false :: .bool false :: u15 84 :: u15 85 :: u15 86 :: u15 87 :: u15 88 :: u15 89 :: u15 90 :: u15 91 :: u15 92 :: .bool false :: .bool false :: u15 95 :: u15 96 :: u15 97 :: u15 98 :: u15 99 :: u15 100 :: u15 101 :: u15 102 :: u15 103 :: u15 104 :: u15 105 :: .bool false :: .bool false :: u15 108 :: u15 109 :: u15 110 :: u15 111 :: u15 112 :: u15 113 :: u15 114 :: u15 115 :: u15 116 :: .bool false :: .bool false :: u15 119 :: u15 120 :: u15 121 :: u15 122 :: u15 123 :: u15 124 :: u15 125 :: u15 126 :: u15 127 :: u15 128 :: u15 129 :: .bool false :: .bool false :: u15 132 :: u15 133 :: u15 134 :: u15 135 :: u15 136 :: u15 137 :: u15 138 :: u15 139 :: u15 140 :: u15 141 :: u15 142 :: u15 143 :: u15 144 :: u15 145 :: u15 146 :: u15 147 :: u15 148 :: u15 149 :: u15 150 :: u15 151 :: u15 152 :: .bool true :: .bool true :: pt d.q :: pt cd.q :: pt cd.q :: .bool false :: pt cd.q :: iN .i64 ((AppendD D2 ({ data := #[109, 105, 110, 101] }) ({ data := #[120] })).2) :: pt cd.q :: iN .i64 0 :: pt cd.q :: .string nm :: iN .i64 ((RemoveD (wakeD (AppendD D2 ({ data := #[109, 105, 110, 101] }) ({ data := #[120] })).1 []) nm).2) :: iN .i64 0 :: iN .i64 0 :: .bool false :: .bool false :: pt d.q :: .agg (#[iN .i64 rm, .slice pf nf cf, .bool dn, iN .i64 lf, .slice pz nz cz]) :: .string p :: .string pp :: .bool true :: .bool false :: .bool false :: List.replicate 1 un).toArray, []⟩ (HA z150 ((q23, 31, #[.int .i64 wh, .string nm0, .string sd0, .int .i64 nn, .slice ko ks.length kc]) :: (q10, 28, #[iN .i64 rm, .slice pf nf cf, .bool dn, iN .i64 lf, .slice pz nz cz]) :: (N ++ X151))) [iN .i64 0, iN .i64 0, .bool false, .bool false, .pointer (some ⟨d.q, 0, none⟩), .agg (#[iN .i64 rm, .slice pf nf cf, .bool dn, iN .i64 lf, .slice pz nz cz]), .string p, .string pp, .bool true, .bool false, .bool false] (by kernel_rfl) (by kernel_rfl) (by kernel_rfl) (by kernel_rfl) (fun _ _ _ h => h) h155.drew ?_ ?_
      · refine AllSure.cons (OpSure.take (v := iN .i64 0) (by kernel_rfl) (by kernel_rfl) (fun _ _ => (by kernel_rfl))) ?_
        refine AllSure.cons (OpSure.take (v := iN .i64 0) (by kernel_rfl) (by kernel_rfl) (fun _ _ => (by kernel_rfl))) ?_
        refine AllSure.cons (OpSure.take (v := .bool false) (by kernel_rfl) (by kernel_rfl) (fun _ _ => (run_nei (k := .i64) (a := 0) (b := 0) (by kernel_rfl) (by kernel_rfl) false (by decide)))) ?_
        refine AllSure.cons (OpSure.take (v := .bool false) (by kernel_rfl) (by kernel_rfl) (fun _ _ => (by kernel_rfl))) ?_
        refine AllSure.cons (OpSure.take (v := .pointer (some ⟨d.q, 0, none⟩)) (by kernel_rfl) (by kernel_rfl) (fun _ _ => (by kernel_rfl))) ?_
        refine AllSure.cons (OpSure.take (v := .agg (#[iN .i64 rm, .slice pf nf cf, .bool dn, iN .i64 lf, .slice pz nz cz])) (by kernel_rfl) (by kernel_rfl) (fun _ h => run_load_blk (by kernel_rfl) (h.get 1 rfl) Try.underlying28 rfl (by kernel_rfl))) ?_
        refine AllSure.cons (OpSure.take (v := .string p) (by kernel_rfl) (by kernel_rfl) (fun _ _ => (by kernel_rfl))) ?_
        refine AllSure.cons (sure_call (v := .string pp) (by kernel_rfl) (by kernel_rfl) enter9 HA.keep #[.string p, iN .i64 10] (by kernel_rfl) (fun w' h' => by rw [hpp]; exact cutP_any p 10 hpl w')) ?_
        refine AllSure.cons (sure_call (v := .bool true) (by kernel_rfl) (by kernel_rfl) enter25 HA.keep #[.pointer (some ⟨d.q, 0, none⟩), .agg (#[iN .i64 rm, .slice pf nf cf, .bool dn, iN .i64 lf, .slice pz nz cz]), .string pp] (by kernel_rfl) (fun w' h' => same_ok (hcl152 ((q23, 31, #[.int .i64 wh, .string nm0, .string sd0, .int .i64 nn, .slice ko ks.length kc]) :: (q10, 28, #[iN .i64 rm, .slice pf nf cf, .bool dn, iN .i64 lf, .slice pz nz cz]) :: N) _ h') hr (fun y hy => h'.blk y (List.mem_cons_of_mem _ (List.mem_cons_of_mem _ (List.mem_append_left _ hy)))) hdb (by omega) (by omega) pp)) ?_
        refine AllSure.cons (OpSure.take (v := .bool false) (by kernel_rfl) (by kernel_rfl) (fun _ _ => (by kernel_rfl))) ?_
        refine AllSure.cons (OpSure.take (v := .bool false) (by kernel_rfl) (by kernel_rfl) (fun _ _ => (by kernel_rfl))) ?_
        exact AllSure.nil
      intro w156 h157
      refine then_at rfl ?_
      refine wp_cond_false (by kernel_rfl) ?_
      refine wp_skip ?_
      refine block_normal ?_
      refine then_at (F := ⟨(.int .i64 z :: .slice o al.length c :: .string p :: un :: un :: un :: u15 6 :: pt d.q :: pt q10 :: iN .i64 i :: pt q23 :: .string nm :: .string sd :: iN .i64 0 :: iN .i64 0 :: u15 15 :: pt cd.q :: u15 17 :: u15 18 :: u15 19 :: u15 20 :: .int .i64 z :: pt d.q :: .int .i64 z :: .agg #[iN .i64 rm, .slice none 0 0, .bool false, iN .i64 0, .slice none 0 0] :: pt d.q :: .bool false :: iN .i64 i :: .slice o al.length c :: iN .i64 al.length :: .bool true :: .bool true :: iN .i64 i :: .bool true :: .bool true :: u15 35 :: u15 36 :: .slice o al.length c :: iN .i64 i :: .pointer (some (oa.add (i * 5))) :: .agg #[.int .i64 wh, .string nm0, .string sd0, .int .i64 nn, .slice ko ks.length kc] :: .pointer (some ⟨q23, 1, none⟩) :: .string nm0 :: .string nm :: .pointer (some ⟨q23, 2, none⟩) :: .string sd0 :: .string sd :: pt q23 :: .int .i64 wh :: u15 49 :: u15 50 :: u15 51 :: u15 52 :: u15 53 :: u15 54 :: u15 55 :: u15 56 :: u15 57 :: u15 58 :: u15 59 :: u15 60 :: u15 61 :: u15 62 :: u15 63 :: u15 64 :: u15 65 :: u15 66 :: u15 67 :: u15 68 :: .bool false :: .bool false :: u15 71 :: u15 72 :: u15 73 :: u15 74 :: u15 75 :: u15 76 :: u15 77 :: u15 78 :: u15 79 :: u15 80 :: u15 81 :: .bool false :: .bool false :: u15 84 :: u15 85 :: u15 86 :: u15 87 :: u15 88 :: u15 89 :: u15 90 :: u15 91 :: u15 92 :: .bool false :: .bool false :: u15 95 :: u15 96 :: u15 97 :: u15 98 :: u15 99 :: u15 100 :: u15 101 :: u15 102 :: u15 103 :: u15 104 :: u15 105 :: .bool false :: .bool false :: u15 108 :: u15 109 :: u15 110 :: u15 111 :: u15 112 :: u15 113 :: u15 114 :: u15 115 :: u15 116 :: .bool false :: .bool false :: u15 119 :: u15 120 :: u15 121 :: u15 122 :: u15 123 :: u15 124 :: u15 125 :: u15 126 :: u15 127 :: u15 128 :: u15 129 :: .bool false :: .bool false :: u15 132 :: u15 133 :: u15 134 :: u15 135 :: u15 136 :: u15 137 :: u15 138 :: u15 139 :: u15 140 :: u15 141 :: u15 142 :: u15 143 :: u15 144 :: u15 145 :: u15 146 :: u15 147 :: u15 148 :: u15 149 :: u15 150 :: u15 151 :: u15 152 :: .bool true :: .bool true :: pt d.q :: pt cd.q :: pt cd.q :: .bool false :: pt cd.q :: iN .i64 ((AppendD D2 ({ data := #[109, 105, 110, 101] }) ({ data := #[120] })).2) :: pt cd.q :: iN .i64 0 :: pt cd.q :: .string nm :: iN .i64 ((RemoveD (wakeD (AppendD D2 ({ data := #[109, 105, 110, 101] }) ({ data := #[120] })).1 []) nm).2) :: iN .i64 0 :: iN .i64 0 :: .bool false :: .bool false :: pt d.q :: .agg (#[iN .i64 rm, .slice pf nf cf, .bool dn, iN .i64 lf, .slice pz nz cz]) :: .string p :: .string pp :: .bool true :: .bool false :: .bool false :: List.replicate 1 un).toArray, []⟩) (by kernel_rfl) ?_
      refine wl_region ?_
      refine wl_val (iN .i64 i) (by kernel_rfl) (by kernel_rfl) ?_
      refine wl_val (iN .i64 (i + 1)) (by kernel_rfl) (run_add (k := .i64) (a := i) (b := 1) (by kernel_rfl) (by kernel_rfl) (by first | omega | (simp only [top]; omega))) ?_
      refine wl_val (iN .i64 (i + 1)) (by kernel_rfl) (by kernel_rfl) ?_
      refine wl_nil ?_
      exact then_I ⟨fun ii => (([(6, u15 6), (10, .pointer (some ⟨q23, 0, none⟩)), (11, .string nm), (12, .string sd), (13, iN .i64 0), (14, iN .i64 0), (15, u15 15), (16, .pointer (some ⟨cd.q, 0, none⟩)), (17, u15 17), (18, u15 18), (19, u15 19), (20, u15 20), (27, iN .i64 i), (28, .slice o al.length c), (29, iN .i64 al.length), (30, .bool true), (31, .bool true), (32, iN .i64 i), (33, .bool true), (34, .bool true), (35, iN .i64 i), (36, iN .i64 (i + 1)), (37, .slice o al.length c), (38, iN .i64 i), (39, .pointer (some (oa.add (i * 5)))), (40, .agg #[.int .i64 wh, .string nm0, .string sd0, .int .i64 nn, .slice ko ks.length kc]), (41, .pointer (some ⟨q23, 1, none⟩)), (42, .string nm0), (43, .string nm), (44, .pointer (some ⟨q23, 2, none⟩)), (45, .string sd0), (46, .string sd), (47, .pointer (some ⟨q23, 0, none⟩)), (48, .int .i64 wh), (49, u15 49), (50, u15 50), (51, u15 51), (52, u15 52), (53, u15 53), (54, u15 54), (55, u15 55), (56, u15 56), (57, u15 57), (58, u15 58), (59, u15 59), (60, u15 60), (61, u15 61), (62, u15 62), (63, u15 63), (64, u15 64), (65, u15 65), (66, u15 66), (67, u15 67), (68, u15 68), (69, .bool false), (70, .bool false), (71, u15 71), (72, u15 72), (73, u15 73), (74, u15 74), (75, u15 75), (76, u15 76), (77, u15 77), (78, u15 78), (79, u15 79), (80, u15 80), (81, u15 81), (82, .bool false), (83, .bool false), (84, u15 84), (85, u15 85), (86, u15 86), (87, u15 87), (88, u15 88), (89, u15 89), (90, u15 90), (91, u15 91), (92, u15 92), (93, .bool false), (94, .bool false), (95, u15 95), (96, u15 96), (97, u15 97), (98, u15 98), (99, u15 99), (100, u15 100), (101, u15 101), (102, u15 102), (103, u15 103), (104, u15 104), (105, u15 105), (106, .bool false), (107, .bool false), (108, u15 108), (109, u15 109), (110, u15 110), (111, u15 111), (112, u15 112), (113, u15 113), (114, u15 114), (115, u15 115), (116, u15 116), (117, .bool false), (118, .bool false), (119, u15 119), (120, u15 120), (121, u15 121), (122, u15 122), (123, u15 123), (124, u15 124), (125, u15 125), (126, u15 126), (127, u15 127), (128, u15 128), (129, u15 129), (130, .bool false), (131, .bool false), (132, u15 132), (133, u15 133), (134, u15 134), (135, u15 135), (136, u15 136), (137, u15 137), (138, u15 138), (139, u15 139), (140, u15 140), (141, u15 141), (142, u15 142), (143, u15 143), (144, u15 144), (145, u15 145), (146, u15 146), (147, u15 147), (148, u15 148), (149, u15 149), (150, u15 150), (151, u15 151), (152, u15 152), (153, .bool true), (154, .bool true), (155, .pointer (some ⟨d.q, 0, none⟩)), (156, .pointer (some ⟨cd.q, 0, none⟩)), (157, .pointer (some ⟨cd.q, 0, none⟩)), (158, .bool false), (159, .pointer (some ⟨cd.q, 0, none⟩)), (160, iN .i64 ((AppendD D2 ({ data := #[109, 105, 110, 101] }) ({ data := #[120] })).2)), (161, .pointer (some ⟨cd.q, 0, none⟩)), (162, iN .i64 0), (163, .pointer (some ⟨cd.q, 0, none⟩)), (164, .string nm), (165, iN .i64 ((RemoveD (wakeD (AppendD D2 ({ data := #[109, 105, 110, 101] }) ({ data := #[120] })).1 []) nm).2)), (166, iN .i64 0), (167, iN .i64 0), (168, .bool false), (169, .bool false), (170, .pointer (some ⟨d.q, 0, none⟩)), (171, .agg (#[iN .i64 rm, .slice pf nf cf, .bool dn, iN .i64 lf, .slice pz nz cz])), (172, .string p), (173, .string pp), (174, .bool true), (175, .bool false), (176, .bool false)] : List (Nat × Value)).find? (·.1 == ii)).elim undef (·.2), by kernel_rfl, D, N, _, _, _, _, _, _, _, _, hr, hdb.mono (by omega) (by omega), (hcl152 ((q10, 28, #[iN .i64 rm, .slice pf nf cf, .bool dn, iN .i64 lf, .slice pz nz cz]) :: N) _ (h157.sub (List.Sublist.cons _ (List.Sublist.refl _))))⟩
    · refine wl_region ?_
      refine wl_val (.bool false) (by kernel_rfl) (run_eqz (k := .i64) (a := wh) (b := 0) (by kernel_rfl) (by kernel_rfl) false (decide_eq_false (by omega))) ?_
      refine wl_val (.bool false) (by kernel_rfl) (by kernel_rfl) ?_
      refine wl_nil ?_
      refine then_at rfl ?_
      refine wp_cond_false (by kernel_rfl) ?_
      refine wp_seq ?_
      refine wl_region ?_
      refine wl_val (.bool false) (by kernel_rfl) (run_eqz (k := .i64) (a := wh) (b := 1) (by kernel_rfl) (by kernel_rfl) false (decide_eq_false (by omega))) ?_
      refine wl_val (.bool false) (by kernel_rfl) (by kernel_rfl) ?_
      refine wl_nil ?_
      refine then_at rfl ?_
      refine wp_cond_false (by kernel_rfl) ?_
      refine wp_seq ?_
      refine wl_region ?_
      refine wl_val (.bool false) (by kernel_rfl) (run_eqz (k := .i64) (a := wh) (b := 2) (by kernel_rfl) (by kernel_rfl) false (decide_eq_false (by omega))) ?_
      refine wl_val (.bool false) (by kernel_rfl) (by kernel_rfl) ?_
      refine wl_nil ?_
      refine then_at rfl ?_
      refine wp_cond_false (by kernel_rfl) ?_
      refine wp_seq ?_
      refine wl_region ?_
      refine wl_val (.bool false) (by kernel_rfl) (run_eqz (k := .i64) (a := wh) (b := 3) (by kernel_rfl) (by kernel_rfl) false (decide_eq_false (by omega))) ?_
      refine wl_val (.bool false) (by kernel_rfl) (by kernel_rfl) ?_
      refine wl_nil ?_
      refine then_at rfl ?_
      refine wp_cond_false (by kernel_rfl) ?_
      refine wp_seq ?_
      refine wl_region ?_
      refine wl_val (.bool false) (by kernel_rfl) (run_eqz (k := .i64) (a := wh) (b := 4) (by kernel_rfl) (by kernel_rfl) false (decide_eq_false (by omega))) ?_
      refine wl_val (.bool false) (by kernel_rfl) (by kernel_rfl) ?_
      refine wl_nil ?_
      refine then_at rfl ?_
      refine wp_cond_false (by kernel_rfl) ?_
      refine wp_seq ?_
      refine wl_region ?_
      refine wl_val (.bool false) (by kernel_rfl) (run_eqz (k := .i64) (a := wh) (b := 5) (by kernel_rfl) (by kernel_rfl) false (decide_eq_false (by omega))) ?_
      refine wl_val (.bool false) (by kernel_rfl) (by kernel_rfl) ?_
      refine wl_nil ?_
      refine then_at (F := ⟨(.int .i64 z :: .slice o al.length c :: .string p :: un :: un :: un :: u15 6 :: pt d.q :: pt q10 :: iN .i64 i :: pt q23 :: .string nm :: .string sd :: iN .i64 0 :: iN .i64 0 :: u15 15 :: u15 16 :: u15 17 :: u15 18 :: u15 19 :: u15 20 :: .int .i64 z :: pt d.q :: .int .i64 z :: .agg #[iN .i64 rm, .slice none 0 0, .bool false, iN .i64 0, .slice none 0 0] :: pt d.q :: .bool false :: iN .i64 i :: .slice o al.length c :: iN .i64 al.length :: .bool true :: .bool true :: iN .i64 i :: .bool true :: .bool true :: u15 35 :: u15 36 :: .slice o al.length c :: iN .i64 i :: .pointer (some (oa.add (i * 5))) :: .agg #[.int .i64 wh, .string nm0, .string sd0, .int .i64 nn, .slice ko ks.length kc] :: .pointer (some ⟨q23, 1, none⟩) :: .string nm0 :: .string nm :: .pointer (some ⟨q23, 2, none⟩) :: .string sd0 :: .string sd :: pt q23 :: .int .i64 wh :: u15 49 :: u15 50 :: u15 51 :: u15 52 :: u15 53 :: u15 54 :: u15 55 :: u15 56 :: u15 57 :: u15 58 :: u15 59 :: u15 60 :: u15 61 :: u15 62 :: u15 63 :: u15 64 :: u15 65 :: u15 66 :: u15 67 :: u15 68 :: .bool false :: .bool false :: u15 71 :: u15 72 :: u15 73 :: u15 74 :: u15 75 :: u15 76 :: u15 77 :: u15 78 :: u15 79 :: u15 80 :: u15 81 :: .bool false :: .bool false :: u15 84 :: u15 85 :: u15 86 :: u15 87 :: u15 88 :: u15 89 :: u15 90 :: u15 91 :: u15 92 :: .bool false :: .bool false :: u15 95 :: u15 96 :: u15 97 :: u15 98 :: u15 99 :: u15 100 :: u15 101 :: u15 102 :: u15 103 :: u15 104 :: u15 105 :: .bool false :: .bool false :: u15 108 :: u15 109 :: u15 110 :: u15 111 :: u15 112 :: u15 113 :: u15 114 :: u15 115 :: u15 116 :: .bool false :: .bool false :: u15 119 :: u15 120 :: u15 121 :: u15 122 :: u15 123 :: u15 124 :: u15 125 :: u15 126 :: u15 127 :: u15 128 :: u15 129 :: .bool false :: .bool false :: u15 132 :: u15 133 :: u15 134 :: u15 135 :: u15 136 :: u15 137 :: u15 138 :: u15 139 :: u15 140 :: u15 141 :: u15 142 :: u15 143 :: u15 144 :: u15 145 :: u15 146 :: u15 147 :: u15 148 :: u15 149 :: u15 150 :: u15 151 :: u15 152 :: u15 153 :: u15 154 :: u15 155 :: u15 156 :: u15 157 :: u15 158 :: u15 159 :: u15 160 :: u15 161 :: u15 162 :: u15 163 :: u15 164 :: u15 165 :: u15 166 :: u15 167 :: u15 168 :: u15 169 :: u15 170 :: u15 171 :: u15 172 :: u15 173 :: u15 174 :: u15 175 :: u15 176 :: List.replicate 1 un).toArray, []⟩) (by kernel_rfl) ?_
      refine wp_cond_false (by kernel_rfl) ?_
      refine wp_seq ?_
      refine wl_region ?_
      refine wl_val (.bool false) (by kernel_rfl) (run_eqz (k := .i64) (a := wh) (b := 6) (by kernel_rfl) (by kernel_rfl) false (decide_eq_false (by omega))) ?_
      refine wl_val (.bool false) (by kernel_rfl) (by kernel_rfl) ?_
      refine wl_nil ?_
      refine then_at rfl ?_
      refine wp_cond_false (by kernel_rfl) ?_
      refine wp_seq ?_
      refine wl_region ?_
      refine wl_val (.pointer (some ⟨d.q, 0, none⟩)) (by kernel_rfl) (by kernel_rfl) ?_
      refine wl_val (.string nm) (by kernel_rfl) (by kernel_rfl) ?_
      refine wl_call (v := .tuple #[.string ((readD D nm).1), iN .i64 ((readD D nm).2)]) h29 (by kernel_rfl) enter23 #[.pointer (some ⟨d.q, 0, none⟩), .string nm] (by kernel_rfl) (Read_any (hcl19 ((q23, 31, #[.int .i64 wh, .string nm0, .string sd0, .int .i64 nn, .slice ko ks.length kc]) :: (q10, 28, #[iN .i64 rm, .slice pf nf cf, .bool dn, iN .i64 lf, .slice pz nz cz]) :: N) _ h29) nm) ?_
      intro w158 h159
      refine wl_val (.tuple #[.string ((readD D nm).1), iN .i64 ((readD D nm).2)]) (by kernel_rfl) (by kernel_rfl) ?_
      refine wl_val (.string ((readD D nm).1)) (by kernel_rfl) (by kernel_rfl) ?_
      refine wl_val (iN .i64 ((readD D nm).2)) (by kernel_rfl) (by kernel_rfl) ?_
      refine wl_val (.string ((readD D nm).1)) (by kernel_rfl) (by kernel_rfl) ?_
      refine wl_val (iN .i64 ((readD D nm).2)) (by kernel_rfl) (by kernel_rfl) ?_
      refine wl_nil ?_
      refine then_at rfl ?_
      refine wp_seq ?_
      refine wl_region ?_
      refine wl_load h159 1 rfl (by kernel_rfl) (by kernel_rfl) Try.underlying28 rfl (by kernel_rfl) ?_
      refine wl_val (.string nm) (by kernel_rfl) (by kernel_rfl) ?_
      refine wl_call (v := .tuple #[.string ((readD D nm).1), iN .i64 ((readD D nm).2)]) h159 (by kernel_rfl) enter24 #[.agg (#[iN .i64 rm, .slice pf nf cf, .bool dn, iN .i64 lf, .slice pz nz cz]), .string nm] (by kernel_rfl) (rRead hr (fun y hy => h159.blk y (List.mem_cons_of_mem _ (List.mem_cons_of_mem _ (List.mem_append_left _ hy)))) hdb (by omega) (by omega) nm) ?_
      intro w160 h161
      refine wl_val (.tuple #[.string ((readD D nm).1), iN .i64 ((readD D nm).2)]) (by kernel_rfl) (by kernel_rfl) ?_
      refine wl_val (.string ((readD D nm).1)) (by kernel_rfl) (by kernel_rfl) ?_
      refine wl_val (iN .i64 ((readD D nm).2)) (by kernel_rfl) (by kernel_rfl) ?_
      refine wl_val (.string ((readD D nm).1)) (by kernel_rfl) (by kernel_rfl) ?_
      refine wl_val (iN .i64 ((readD D nm).2)) (by kernel_rfl) (by kernel_rfl) ?_
      refine wl_nil ?_
      refine then_at rfl ?_
      refine wp_seq ?_
      refine wl_region ?_
      refine wl_val (.string ((readD D nm).1)) (by kernel_rfl) (by kernel_rfl) ?_
      refine wl_val (.string ((readD D nm).1)) (by kernel_rfl) (by kernel_rfl) ?_
      refine wl_val (.bool false) (by kernel_rfl) (run_nes (s := (readD D nm).1) (t := (readD D nm).1) (by kernel_rfl) (by kernel_rfl) false (decide_eq_true rfl)) ?_
      refine wl_val (.bool false) (by kernel_rfl) (by kernel_rfl) ?_
      refine wl_val (iN .i64 ((readD D nm).2)) (by kernel_rfl) (by kernel_rfl) ?_
      refine wl_val (iN .i64 ((readD D nm).2)) (by kernel_rfl) (by kernel_rfl) ?_
      refine wl_val (.bool false) (by kernel_rfl) (run_nei (k := .i64) (a := (readD D nm).2) (b := (readD D nm).2) (by kernel_rfl) (by kernel_rfl) false (decide_eq_false (fun h => h rfl))) ?_
      refine wl_val (.bool false) (by kernel_rfl) (by kernel_rfl) ?_
      refine wl_nil ?_
      refine then_at rfl ?_
      refine wp_cond_false (by kernel_rfl) ?_
      refine wp_skip ?_
      refine block_normal ?_
      refine then_at rfl ?_
      refine wp_seq ?_
      refine wp_region_sure ⟨(.int .i64 z :: .slice o al.length c :: .string p :: un :: un :: un :: u15 6 :: pt d.q :: pt q10 :: iN .i64 i :: pt q23 :: .string nm :: .string sd :: iN .i64 0 :: iN .i64 0 :: u15 15 :: u15 16 :: .string ((readD D nm).1) :: iN .i64 ((readD D nm).2) :: .string ((readD D nm).1) :: iN .i64 ((readD D nm).2) :: .int .i64 z :: pt d.q :: .int .i64 z :: .agg #[iN .i64 rm, .slice none 0 0, .bool false, iN .i64 0, .slice none 0 0] :: pt d.q :: .bool false :: iN .i64 i :: .slice o al.length c :: iN .i64 al.length :: .bool true :: .bool true :: iN .i64 i :: .bool true :: .bool true :: u15 35 :: u15 36 :: .slice o al.length c :: iN .i64 i :: .pointer (some (oa.add (i * 5))) :: .agg #[.int .i64 wh, .string nm0, .string sd0, .int .i64 nn, .slice ko ks.length kc] :: .pointer (some ⟨q23, 1, none⟩) :: .string nm0 :: .string nm :: .pointer (some ⟨q23, 2, none⟩) :: .string sd0 :: .string sd :: pt q23 :: .int .i64 wh :: .tuple #[.string ((readD D nm).1), iN .i64 ((readD D nm).2)] :: pt d.q :: .string nm :: .tuple #[.string ((readD D nm).1), iN .i64 ((readD D nm).2)] :: .string ((readD D nm).1) :: iN .i64 ((readD D nm).2) :: .tuple #[.string ((readD D nm).1), iN .i64 ((readD D nm).2)] :: .agg (#[iN .i64 rm, .slice pf nf cf, .bool dn, iN .i64 lf, .slice pz nz cz]) :: .string nm :: .tuple #[.string ((readD D nm).1), iN .i64 ((readD D nm).2)] :: .string ((readD D nm).1) :: iN .i64 ((readD D nm).2) :: .string ((readD D nm).1) :: .string ((readD D nm).1) :: .bool false :: .bool false :: iN .i64 ((readD D nm).2) :: iN .i64 ((readD D nm).2) :: .bool false :: .bool false :: .bool false :: .bool false :: u15 71 :: u15 72 :: u15 73 :: u15 74 :: u15 75 :: u15 76 :: u15 77 :: u15 78 :: u15 79 :: u15 80 :: u15 81 :: .bool false :: .bool false :: u15 84 :: u15 85 :: u15 86 :: u15 87 :: u15 88 :: u15 89 :: u15 90 :: u15 91 :: u15 92 :: .bool false :: .bool false :: u15 95 :: u15 96 :: u15 97 :: u15 98 :: u15 99 :: u15 100 :: u15 101 :: u15 102 :: u15 103 :: u15 104 :: u15 105 :: .bool false :: .bool false :: u15 108 :: u15 109 :: u15 110 :: u15 111 :: u15 112 :: u15 113 :: u15 114 :: u15 115 :: u15 116 :: .bool false :: .bool false :: u15 119 :: u15 120 :: u15 121 :: u15 122 :: u15 123 :: u15 124 :: u15 125 :: u15 126 :: u15 127 :: u15 128 :: u15 129 :: .bool false :: .bool false :: u15 132 :: u15 133 :: u15 134 :: u15 135 :: u15 136 :: u15 137 :: u15 138 :: u15 139 :: u15 140 :: u15 141 :: u15 142 :: u15 143 :: u15 144 :: u15 145 :: u15 146 :: u15 147 :: u15 148 :: u15 149 :: u15 150 :: u15 151 :: u15 152 :: .bool false :: .bool false :: u15 155 :: u15 156 :: u15 157 :: u15 158 :: u15 159 :: u15 160 :: u15 161 :: u15 162 :: u15 163 :: u15 164 :: u15 165 :: iN .i64 0 :: iN .i64 0 :: .bool false :: .bool false :: pt d.q :: .agg (#[iN .i64 rm, .slice pf nf cf, .bool dn, iN .i64 lf, .slice pz nz cz]) :: .string p :: .string pp :: .bool true :: .bool false :: .bool false :: List.replicate 1 un).toArray, []⟩ (HA z17 ((q23, 31, #[.int .i64 wh, .string nm0, .string sd0, .int .i64 nn, .slice ko ks.length kc]) :: (q10, 28, #[iN .i64 rm, .slice pf nf cf, .bool dn, iN .i64 lf, .slice pz nz cz]) :: (N ++ X18))) [iN .i64 0, iN .i64 0, .bool false, .bool false, .pointer (some ⟨d.q, 0, none⟩), .agg (#[iN .i64 rm, .slice pf nf cf, .bool dn, iN .i64 lf, .slice pz nz cz]), .string p, .string pp, .bool true, .bool false, .bool false] (by kernel_rfl) (by kernel_rfl) (by kernel_rfl) (by kernel_rfl) (fun _ _ _ h => h) h161.drew ?_ ?_
      · refine AllSure.cons (OpSure.take (v := iN .i64 0) (by kernel_rfl) (by kernel_rfl) (fun _ _ => (by kernel_rfl))) ?_
        refine AllSure.cons (OpSure.take (v := iN .i64 0) (by kernel_rfl) (by kernel_rfl) (fun _ _ => (by kernel_rfl))) ?_
        refine AllSure.cons (OpSure.take (v := .bool false) (by kernel_rfl) (by kernel_rfl) (fun _ _ => (run_nei (k := .i64) (a := 0) (b := 0) (by kernel_rfl) (by kernel_rfl) false (by decide)))) ?_
        refine AllSure.cons (OpSure.take (v := .bool false) (by kernel_rfl) (by kernel_rfl) (fun _ _ => (by kernel_rfl))) ?_
        refine AllSure.cons (OpSure.take (v := .pointer (some ⟨d.q, 0, none⟩)) (by kernel_rfl) (by kernel_rfl) (fun _ _ => (by kernel_rfl))) ?_
        refine AllSure.cons (OpSure.take (v := .agg (#[iN .i64 rm, .slice pf nf cf, .bool dn, iN .i64 lf, .slice pz nz cz])) (by kernel_rfl) (by kernel_rfl) (fun _ h => run_load_blk (by kernel_rfl) (h.get 1 rfl) Try.underlying28 rfl (by kernel_rfl))) ?_
        refine AllSure.cons (OpSure.take (v := .string p) (by kernel_rfl) (by kernel_rfl) (fun _ _ => (by kernel_rfl))) ?_
        refine AllSure.cons (sure_call (v := .string pp) (by kernel_rfl) (by kernel_rfl) enter9 HA.keep #[.string p, iN .i64 10] (by kernel_rfl) (fun w' h' => by rw [hpp]; exact cutP_any p 10 hpl w')) ?_
        refine AllSure.cons (sure_call (v := .bool true) (by kernel_rfl) (by kernel_rfl) enter25 HA.keep #[.pointer (some ⟨d.q, 0, none⟩), .agg (#[iN .i64 rm, .slice pf nf cf, .bool dn, iN .i64 lf, .slice pz nz cz]), .string pp] (by kernel_rfl) (fun w' h' => same_ok (hcl19 ((q23, 31, #[.int .i64 wh, .string nm0, .string sd0, .int .i64 nn, .slice ko ks.length kc]) :: (q10, 28, #[iN .i64 rm, .slice pf nf cf, .bool dn, iN .i64 lf, .slice pz nz cz]) :: N) _ h') hr (fun y hy => h'.blk y (List.mem_cons_of_mem _ (List.mem_cons_of_mem _ (List.mem_append_left _ hy)))) hdb (by omega) (by omega) pp)) ?_
        refine AllSure.cons (OpSure.take (v := .bool false) (by kernel_rfl) (by kernel_rfl) (fun _ _ => (by kernel_rfl))) ?_
        refine AllSure.cons (OpSure.take (v := .bool false) (by kernel_rfl) (by kernel_rfl) (fun _ _ => (by kernel_rfl))) ?_
        exact AllSure.nil
      intro w162 h163
      refine then_at (F := ⟨(.int .i64 z :: .slice o al.length c :: .string p :: un :: un :: un :: u15 6 :: pt d.q :: pt q10 :: iN .i64 i :: pt q23 :: .string nm :: .string sd :: iN .i64 0 :: iN .i64 0 :: u15 15 :: u15 16 :: .string ((readD D nm).1) :: iN .i64 ((readD D nm).2) :: .string ((readD D nm).1) :: iN .i64 ((readD D nm).2) :: .int .i64 z :: pt d.q :: .int .i64 z :: .agg #[iN .i64 rm, .slice none 0 0, .bool false, iN .i64 0, .slice none 0 0] :: pt d.q :: .bool false :: iN .i64 i :: .slice o al.length c :: iN .i64 al.length :: .bool true :: .bool true :: iN .i64 i :: .bool true :: .bool true :: u15 35 :: u15 36 :: .slice o al.length c :: iN .i64 i :: .pointer (some (oa.add (i * 5))) :: .agg #[.int .i64 wh, .string nm0, .string sd0, .int .i64 nn, .slice ko ks.length kc] :: .pointer (some ⟨q23, 1, none⟩) :: .string nm0 :: .string nm :: .pointer (some ⟨q23, 2, none⟩) :: .string sd0 :: .string sd :: pt q23 :: .int .i64 wh :: .tuple #[.string ((readD D nm).1), iN .i64 ((readD D nm).2)] :: pt d.q :: .string nm :: .tuple #[.string ((readD D nm).1), iN .i64 ((readD D nm).2)] :: .string ((readD D nm).1) :: iN .i64 ((readD D nm).2) :: .tuple #[.string ((readD D nm).1), iN .i64 ((readD D nm).2)] :: .agg (#[iN .i64 rm, .slice pf nf cf, .bool dn, iN .i64 lf, .slice pz nz cz]) :: .string nm :: .tuple #[.string ((readD D nm).1), iN .i64 ((readD D nm).2)] :: .string ((readD D nm).1) :: iN .i64 ((readD D nm).2) :: .string ((readD D nm).1) :: .string ((readD D nm).1) :: .bool false :: .bool false :: iN .i64 ((readD D nm).2) :: iN .i64 ((readD D nm).2) :: .bool false :: .bool false :: .bool false :: .bool false :: u15 71 :: u15 72 :: u15 73 :: u15 74 :: u15 75 :: u15 76 :: u15 77 :: u15 78 :: u15 79 :: u15 80 :: u15 81 :: .bool false :: .bool false :: u15 84 :: u15 85 :: u15 86 :: u15 87 :: u15 88 :: u15 89 :: u15 90 :: u15 91 :: u15 92 :: .bool false :: .bool false :: u15 95 :: u15 96 :: u15 97 :: u15 98 :: u15 99 :: u15 100 :: u15 101 :: u15 102 :: u15 103 :: u15 104 :: u15 105 :: .bool false :: .bool false :: u15 108 :: u15 109 :: u15 110 :: u15 111 :: u15 112 :: u15 113 :: u15 114 :: u15 115 :: u15 116 :: .bool false :: .bool false :: u15 119 :: u15 120 :: u15 121 :: u15 122 :: u15 123 :: u15 124 :: u15 125 :: u15 126 :: u15 127 :: u15 128 :: u15 129 :: .bool false :: .bool false :: u15 132 :: u15 133 :: u15 134 :: u15 135 :: u15 136 :: u15 137 :: u15 138 :: u15 139 :: u15 140 :: u15 141 :: u15 142 :: u15 143 :: u15 144 :: u15 145 :: u15 146 :: u15 147 :: u15 148 :: u15 149 :: u15 150 :: u15 151 :: u15 152 :: .bool false :: .bool false :: u15 155 :: u15 156 :: u15 157 :: u15 158 :: u15 159 :: u15 160 :: u15 161 :: u15 162 :: u15 163 :: u15 164 :: u15 165 :: iN .i64 0 :: iN .i64 0 :: .bool false :: .bool false :: pt d.q :: .agg (#[iN .i64 rm, .slice pf nf cf, .bool dn, iN .i64 lf, .slice pz nz cz]) :: .string p :: .string pp :: .bool true :: .bool false :: .bool false :: List.replicate 1 un).toArray, []⟩) (by kernel_rfl) ?_
      refine wp_cond_false (by kernel_rfl) ?_
      refine wp_skip ?_
      refine block_normal ?_
      refine then_at rfl ?_
      refine wl_region ?_
      refine wl_val (iN .i64 i) (by kernel_rfl) (by kernel_rfl) ?_
      refine wl_val (iN .i64 (i + 1)) (by kernel_rfl) (run_add (k := .i64) (a := i) (b := 1) (by kernel_rfl) (by kernel_rfl) (by first | omega | (simp only [top]; omega))) ?_
      refine wl_val (iN .i64 (i + 1)) (by kernel_rfl) (by kernel_rfl) ?_
      refine wl_nil ?_
      exact then_I ⟨fun ii => (([(6, u15 6), (10, .pointer (some ⟨q23, 0, none⟩)), (11, .string nm), (12, .string sd), (13, iN .i64 0), (14, iN .i64 0), (15, u15 15), (16, u15 16), (17, .string ((readD D nm).1)), (18, iN .i64 ((readD D nm).2)), (19, .string ((readD D nm).1)), (20, iN .i64 ((readD D nm).2)), (27, iN .i64 i), (28, .slice o al.length c), (29, iN .i64 al.length), (30, .bool true), (31, .bool true), (32, iN .i64 i), (33, .bool true), (34, .bool true), (35, iN .i64 i), (36, iN .i64 (i + 1)), (37, .slice o al.length c), (38, iN .i64 i), (39, .pointer (some (oa.add (i * 5)))), (40, .agg #[.int .i64 wh, .string nm0, .string sd0, .int .i64 nn, .slice ko ks.length kc]), (41, .pointer (some ⟨q23, 1, none⟩)), (42, .string nm0), (43, .string nm), (44, .pointer (some ⟨q23, 2, none⟩)), (45, .string sd0), (46, .string sd), (47, .pointer (some ⟨q23, 0, none⟩)), (48, .int .i64 wh), (49, .tuple #[.string ((readD D nm).1), iN .i64 ((readD D nm).2)]), (50, .pointer (some ⟨d.q, 0, none⟩)), (51, .string nm), (52, .tuple #[.string ((readD D nm).1), iN .i64 ((readD D nm).2)]), (53, .string ((readD D nm).1)), (54, iN .i64 ((readD D nm).2)), (55, .tuple #[.string ((readD D nm).1), iN .i64 ((readD D nm).2)]), (56, .agg (#[iN .i64 rm, .slice pf nf cf, .bool dn, iN .i64 lf, .slice pz nz cz])), (57, .string nm), (58, .tuple #[.string ((readD D nm).1), iN .i64 ((readD D nm).2)]), (59, .string ((readD D nm).1)), (60, iN .i64 ((readD D nm).2)), (61, .string ((readD D nm).1)), (62, .string ((readD D nm).1)), (63, .bool false), (64, .bool false), (65, iN .i64 ((readD D nm).2)), (66, iN .i64 ((readD D nm).2)), (67, .bool false), (68, .bool false), (69, .bool false), (70, .bool false), (71, u15 71), (72, u15 72), (73, u15 73), (74, u15 74), (75, u15 75), (76, u15 76), (77, u15 77), (78, u15 78), (79, u15 79), (80, u15 80), (81, u15 81), (82, .bool false), (83, .bool false), (84, u15 84), (85, u15 85), (86, u15 86), (87, u15 87), (88, u15 88), (89, u15 89), (90, u15 90), (91, u15 91), (92, u15 92), (93, .bool false), (94, .bool false), (95, u15 95), (96, u15 96), (97, u15 97), (98, u15 98), (99, u15 99), (100, u15 100), (101, u15 101), (102, u15 102), (103, u15 103), (104, u15 104), (105, u15 105), (106, .bool false), (107, .bool false), (108, u15 108), (109, u15 109), (110, u15 110), (111, u15 111), (112, u15 112), (113, u15 113), (114, u15 114), (115, u15 115), (116, u15 116), (117, .bool false), (118, .bool false), (119, u15 119), (120, u15 120), (121, u15 121), (122, u15 122), (123, u15 123), (124, u15 124), (125, u15 125), (126, u15 126), (127, u15 127), (128, u15 128), (129, u15 129), (130, .bool false), (131, .bool false), (132, u15 132), (133, u15 133), (134, u15 134), (135, u15 135), (136, u15 136), (137, u15 137), (138, u15 138), (139, u15 139), (140, u15 140), (141, u15 141), (142, u15 142), (143, u15 143), (144, u15 144), (145, u15 145), (146, u15 146), (147, u15 147), (148, u15 148), (149, u15 149), (150, u15 150), (151, u15 151), (152, u15 152), (153, .bool false), (154, .bool false), (155, u15 155), (156, u15 156), (157, u15 157), (158, u15 158), (159, u15 159), (160, u15 160), (161, u15 161), (162, u15 162), (163, u15 163), (164, u15 164), (165, u15 165), (166, iN .i64 0), (167, iN .i64 0), (168, .bool false), (169, .bool false), (170, .pointer (some ⟨d.q, 0, none⟩)), (171, .agg (#[iN .i64 rm, .slice pf nf cf, .bool dn, iN .i64 lf, .slice pz nz cz])), (172, .string p), (173, .string pp), (174, .bool true), (175, .bool false), (176, .bool false)] : List (Nat × Value)).find? (·.1 == ii)).elim undef (·.2), by kernel_rfl, D, N, _, _, _, _, _, _, _, _, hr, hdb.mono (by omega) (by omega), (hcl19 ((q10, 28, #[iN .i64 rm, .slice pf nf cf, .bool dn, iN .i64 lf, .slice pz nz cz]) :: N) _ (h163.sub (List.Sublist.cons _ (List.Sublist.refl _))))⟩
  · rintro _ w164 ⟨u15, rfl, D, N, pf, nf, cf, dn, lf, pz, nz, cz, hr, hdb, hLp⟩
    have hLp : DH _ _ d (D) _ _ := hLp
    obtain ⟨z165, X166, hcl167, hbe168, h169⟩ := DH.front hLp
    have h170 : HA z165 ((q10, 28, #[iN .i64 rm, .slice pf nf cf, .bool dn, iN .i64 lf, .slice pz nz cz]) :: (N ++ X166)) w164 := h169
    refine wp_seq ?_
    refine wp_seq ?_
    by_cases hgt : 60 < al.length
    · refine wl_region ?_
      refine wl_val (iN .i64 (min al.length 60)) (by kernel_rfl) (by kernel_rfl) ?_
      refine wl_val (.slice o al.length c) (by kernel_rfl) (by kernel_rfl) ?_
      refine wl_val (iN .i64 al.length) (by kernel_rfl) (by kernel_rfl) ?_
      refine wl_val (.bool true) (by kernel_rfl) (run_lss (k := .i64) (a := min al.length 60) (b := al.length) (by kernel_rfl) (by kernel_rfl) true (decide_eq_true (by omega))) ?_
      refine wl_val (.bool true) (by kernel_rfl) (by kernel_rfl) ?_
      refine wl_val (iN .i64 (min al.length 60)) (by kernel_rfl) (by kernel_rfl) ?_
      refine wl_val (.bool false) (by kernel_rfl) (run_lss (k := .i64) (a := min al.length 60) (b := 60) (by kernel_rfl) (by kernel_rfl) false (decide_eq_false (by omega))) ?_
      refine wl_val (.bool false) (by kernel_rfl) (by kernel_rfl) ?_
      refine wl_nil ?_
      refine then_at rfl ?_
      refine wp_cond_false (by kernel_rfl) ?_
      refine wp_exit ?_
      repeat first | refine then_exit ?_ | refine block_exit ?_ | refine block_exit_ne (by decide) ?_
      refine then_at rfl ?_
      refine wp_seq ?_
      refine wl_region ?_
      refine wl_call (v := .bool true) h170 (by kernel_rfl) enter26 #[] (by kernel_rfl) (works_any w164) ?_
      intro w171 h172
      refine wl_val (.bool true) (by kernel_rfl) (by kernel_rfl) ?_
      refine wl_nil ?_
      refine then_at rfl ?_
      refine wp_ret ?_
      repeat first | refine then_ret ?_ | refine block_ret ?_
      exact bodyPost_ret (v := .bool true) (by kernel_rfl) rfl ⟨rfl, hbe168 _ _ h172⟩
    · refine wl_region ?_
      refine wl_val (iN .i64 (min al.length 60)) (by kernel_rfl) (by kernel_rfl) ?_
      refine wl_val (.slice o al.length c) (by kernel_rfl) (by kernel_rfl) ?_
      refine wl_val (iN .i64 al.length) (by kernel_rfl) (by kernel_rfl) ?_
      refine wl_val (.bool false) (by kernel_rfl) (run_lss (k := .i64) (a := min al.length 60) (b := al.length) (by kernel_rfl) (by kernel_rfl) false (decide_eq_false (by omega))) ?_
      refine wl_val (.bool false) (by kernel_rfl) (by kernel_rfl) ?_
      refine wl_skip (by kernel_rfl) ?_
      refine wl_skip (by kernel_rfl) ?_
      refine wl_val (.bool false) (by kernel_rfl) (by kernel_rfl) ?_
      refine wl_nil ?_
      refine then_at rfl ?_
      refine wp_cond_false (by kernel_rfl) ?_
      refine wp_exit ?_
      repeat first | refine then_exit ?_ | refine block_exit ?_ | refine block_exit_ne (by decide) ?_
      refine then_at (F := ⟨(.int .i64 z :: .slice o al.length c :: .string p :: un :: un :: un :: u15 6 :: pt d.q :: pt q10 :: iN .i64 (min al.length 60) :: u15 10 :: u15 11 :: u15 12 :: u15 13 :: u15 14 :: u15 15 :: u15 16 :: u15 17 :: u15 18 :: u15 19 :: u15 20 :: .int .i64 z :: pt d.q :: .int .i64 z :: .agg #[iN .i64 rm, .slice none 0 0, .bool false, iN .i64 0, .slice none 0 0] :: pt d.q :: .bool false :: iN .i64 (min al.length 60) :: .slice o al.length c :: iN .i64 al.length :: .bool false :: .bool false :: un :: un :: .bool false :: u15 35 :: u15 36 :: u15 37 :: u15 38 :: u15 39 :: u15 40 :: u15 41 :: u15 42 :: u15 43 :: u15 44 :: u15 45 :: u15 46 :: u15 47 :: u15 48 :: u15 49 :: u15 50 :: u15 51 :: u15 52 :: u15 53 :: u15 54 :: u15 55 :: u15 56 :: u15 57 :: u15 58 :: u15 59 :: u15 60 :: u15 61 :: u15 62 :: u15 63 :: u15 64 :: u15 65 :: u15 66 :: u15 67 :: u15 68 :: u15 69 :: u15 70 :: u15 71 :: u15 72 :: u15 73 :: u15 74 :: u15 75 :: u15 76 :: u15 77 :: u15 78 :: u15 79 :: u15 80 :: u15 81 :: u15 82 :: u15 83 :: u15 84 :: u15 85 :: u15 86 :: u15 87 :: u15 88 :: u15 89 :: u15 90 :: u15 91 :: u15 92 :: u15 93 :: u15 94 :: u15 95 :: u15 96 :: u15 97 :: u15 98 :: u15 99 :: u15 100 :: u15 101 :: u15 102 :: u15 103 :: u15 104 :: u15 105 :: u15 106 :: u15 107 :: u15 108 :: u15 109 :: u15 110 :: u15 111 :: u15 112 :: u15 113 :: u15 114 :: u15 115 :: u15 116 :: u15 117 :: u15 118 :: u15 119 :: u15 120 :: u15 121 :: u15 122 :: u15 123 :: u15 124 :: u15 125 :: u15 126 :: u15 127 :: u15 128 :: u15 129 :: u15 130 :: u15 131 :: u15 132 :: u15 133 :: u15 134 :: u15 135 :: u15 136 :: u15 137 :: u15 138 :: u15 139 :: u15 140 :: u15 141 :: u15 142 :: u15 143 :: u15 144 :: u15 145 :: u15 146 :: u15 147 :: u15 148 :: u15 149 :: u15 150 :: u15 151 :: u15 152 :: u15 153 :: u15 154 :: u15 155 :: u15 156 :: u15 157 :: u15 158 :: u15 159 :: u15 160 :: u15 161 :: u15 162 :: u15 163 :: u15 164 :: u15 165 :: u15 166 :: u15 167 :: u15 168 :: u15 169 :: u15 170 :: u15 171 :: u15 172 :: u15 173 :: u15 174 :: u15 175 :: u15 176 :: List.replicate 1 un).toArray, []⟩) (by kernel_rfl) ?_
      refine wp_seq ?_
      refine wl_region ?_
      refine wl_call (v := .bool true) h170 (by kernel_rfl) enter26 #[] (by kernel_rfl) (works_any w164) ?_
      intro w173 h174
      refine wl_val (.bool true) (by kernel_rfl) (by kernel_rfl) ?_
      refine wl_nil ?_
      refine then_at rfl ?_
      refine wp_ret ?_
      repeat first | refine then_ret ?_ | refine block_ret ?_
      exact bodyPost_ret (v := .bool true) (by kernel_rfl) rfl ⟨rfl, hbe168 _ _ h174⟩
end Go.Proofs.Ytjedhnjjgmbcbaa
