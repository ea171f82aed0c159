/-
 StoreLasts.
-/
import Derived.Test.YtckmlaempffpjaaGreatSW
namespace Go.Proofs.YtckmlaempffpjaaGreat
open Go.RowKit

theorem wp_join2 {P : Program} {x y z : Code} {Q : Exit → Act → World → Prop} {a : Act} {w : World} (J : Act → World → Prop) (h : x.wp P (Exit.then (y.wp P (fun e a w => e = .normal ∧ J a w)) (fun e a w => e = .normal ∧ J a w)) a w) (hz : ∀ a w, J a w → z.wp P Q a w) : (Code.seq x (Code.seq y z)).wp P Q a w := by
 refine wp_seq (Code.wp_mono (fun e a w he => ?_) h)
 cases e with
 | normal =>
  refine wp_seq (Code.wp_mono (fun e a w he => ?_) he)
  obtain ⟨rfl, hj⟩ := he
  exact hz _ _ hj
 | _ => exact absurd he.1 (by simp)
theorem arm_S {w0 : World} {M : ML} {s : Sk} {S : SS} {L : BL} {w : World} (h : SH w0 M s S L w) (z : Int) : Calls Tryz.prog 14 #[pt s.d.q, .int .i64 z] w fun e w' => e = .returned (iN .i64 (armD S.D z).2) ∧ SH w0 M s ⟨(armD S.D z).1, S.rows, S.size⟩ L w' := by
 obtain ⟨rs, nx, h1, h2, hD⟩ := h
 exact (Arm_any hD z).mono fun e w' hr => ⟨hr.1, rs, nx, h1, h2, hr.2⟩
theorem down_S {w0 : World} {M : ML} {s : Sk} {S : SS} {L : BL} {w : World} (h : SH w0 M s S L w) : Calls Tryz.prog 18 #[pt s.d.q] w fun e w' => e = .returned (.bool S.D.down) ∧ Below w.heap.size w w' := by
 obtain ⟨rs, nx, h1, h2, hD⟩ := h
 exact Down_any hD
theorem arm_up {D : DS} (h : D.down = false) (n : Nat) : armD D (n : Int) = ({ D with left := n }, 0) := by
 rw [armD, if_neg (by rw [h]; decide), if_neg (by omega), Int.toNat_natCast]
theorem tnc_one (x : Tn) : (tnc x).all (·.oneCell') = true := by kernel_rfl
theorem kv2 {w0 : World} {L : BL} {q : Nat} {z : Int} (h : (q, 3, #[.int .i64 z, .int .i64 z]) ∈ L) : KV w0 L (some ⟨q, 0, none⟩) [z, z] := KV.own h fun j hj => by
 match j, hj with
 | 0, _ => rfl
 | 1, _ => rfl
theorem Dn.down {D : DS} {now next : List ByteArray} {R B N : Nat} (h : Dn D now next R B N) : D.down = true := by
 obtain ⟨cs, t, a, b, f, _⟩ := h.f
 exact f.dn
theorem Up.up {D : DS} {now next : List ByteArray} {R B N : Nat} (h : Up D now next R B N) : D.down = false := by
 obtain ⟨cs, c, k, a, b, w, _⟩ := h.f
 exact w.up
set_option linter.unusedVariables false in
set_option maxRecDepth 100000 in
set_option maxHeartbeats 4000000 in
theorem lasts_any (w : World) (xs : List Tn) (o : Option Addr) (c : Nat) (hA : TnA w o xs) (hln : xs.length ≤ 9223372036854775807) :
  Calls Tryz.prog 4 #[.slice o xs.length c] w fun e w' => e = .returned (.bool true) ∧ Below w.heap.size w w' := by
 have H0 := HA.start w
 obtain ⟨ho1, hl0, hSt⟩ := St.new 16777216 6000 (by decide)
 go_enter Tryz.func4, Tryz.ntmps4
 refine wp_seq ?_
 refine wl_region ?_
 refine zwv (.bool false) ?_
 refine wl_nil ?_
 refine then_at rfl ?_
 refine wp_seq ?_
 refine wp_seq ?_
 refine wl_region ?_
 refine wl_call (v := .bool true) H0 (by kernel_rfl) enter12 #[] (by kernel_rfl) (works_any w) ?_
 intro w1 h2
 refine zwv (.bool false) ?_
 refine wl_nil ?_
 refine then_at rfl ?_
 refine wp_cond_false (by kernel_rfl) ?_
 refine wp_skip ?_
 refine then_at rfl ?_
 refine wp_seq ?_
 refine wl_region ?_
 refine wl_callx (by kernel_rfl) enter7 #[iN .i64 16777216] (by kernel_rfl) (New_any 16777216 h2) ?_
 rintro _ w3 ⟨d, rfl, hD0⟩
 refine ⟨_, rfl, ?_⟩
 have hD1 : DH w [] d ⟨[], 16777216, 0, false, []⟩ [] w3 := hD0
 obtain ⟨z4, X5, hcl6, hbe7, h8⟩ := DH.front hD1
 have h9 : HA z4 ([] ++ X5) w3 := h8
 refine zwv (.pointer (some ⟨d.q, 0, none⟩)) ?_
 refine wl_nil ?_
 refine then_at rfl ?_
 refine wp_seq ?_
 refine wl_region ?_
 refine zwv (.pointer (some ⟨d.q, 0, none⟩)) ?_
 refine wl_callx (by kernel_rfl) enter13 #[.pointer (some ⟨d.q, 0, none⟩)] (by kernel_rfl) (Open_d (hcl6 ([]) _ h9) (DG.new (by omega)) (by decide) (by decide) (by rw [lg_new]; decide) ho1) ?_
 rintro _ w10 ⟨sq0, sr0, rfl, hO⟩
 refine ⟨_, rfl, ?_⟩
 generalize (opnS ⟨[], 16777216, 0, false, []⟩).1 = S0 at hO hSt hl0
 obtain ⟨m11, X11, hc11, rs11, nx11, hrs11, hK11, hH11⟩ := SH.opn hO
 have h12 : HA ⟨w, m11 :: (sr0, .mp (eR rs11) nx11) :: []⟩ ((sq0, 73, scell d.q sr0 ((laidR S0.rows)) S0.size) :: ([] ++ X11)) w10 := hH11
 refine zwv (.tuple #[.pointer (some ⟨sq0, 0, none⟩), iN .i64 0]) ?_
 refine zwv (.pointer (some ⟨sq0, 0, none⟩)) ?_
 refine zwv (iN .i64 0) ?_
 refine zwv (.pointer (some ⟨sq0, 0, none⟩)) ?_
 refine zwv (iN .i64 0) ?_
 refine wl_nil ?_
 refine then_at rfl ?_
 refine wp_seq ?_
 refine wl_region ?_
 refine wl_make (c := stc (List.replicate 16 eB)) h12 48 (by kernel_rfl) (by kernel_rfl) ?_
 intro q13 w14 (h15 : HA ⟨w, m11 :: (sr0, .mp (eR rs11) nx11) :: []⟩ ((q13, 48, stc (List.replicate 16 eB)) :: (sq0, 73, scell d.q sr0 ((laidR S0.rows)) S0.size) :: ([] ++ X11)) w14)
 refine wl_nil ?_
 have h16 := h15
 clear h15
 generalize q13 = q6 at h16 ⊢
 refine then_at rfl ?_
 refine wp_seq ?_
 refine wp_seq ?_
 refine wl_region ?_
 refine zwv (iN .i64 0) ?_
 refine wl_nil ?_
 refine then_at rfl ?_
 refine wp_block ?_
 refine wp_count (fun i AQ w' => ∃ (sq sr : Nat) (S : SS) (now : List ByteArray) (u17 : Nat → Value), AQ = ⟨(.slice o xs.length c :: un :: u17 2 :: pt d.q :: pt sq :: iN .i64 0 :: pt q6 :: iN .i64 i :: u17 8 :: u17 9 :: u17 10 :: u17 11 :: u17 12 :: .bool true :: .bool false :: pt d.q :: .tuple #[pt sq0, iN .i64 0] :: pt d.q :: .tuple #[pt sq0, iN .i64 0] :: pt sq0 :: iN .i64 0 :: u17 21 :: u17 22 :: u17 23 :: u17 24 :: u17 25 :: u17 26 :: u17 27 :: u17 28 :: u17 29 :: u17 30 :: u17 31 :: u17 32 :: u17 33 :: u17 34 :: u17 35 :: u17 36 :: u17 37 :: u17 38 :: u17 39 :: u17 40 :: u17 41 :: u17 42 :: u17 43 :: u17 44 :: u17 45 :: u17 46 :: u17 47 :: u17 48 :: u17 49 :: u17 50 :: u17 51 :: u17 52 :: u17 53 :: u17 54 :: u17 55 :: u17 56 :: u17 57 :: u17 58 :: u17 59 :: u17 60 :: u17 61 :: u17 62 :: u17 63 :: u17 64 :: u17 65 :: u17 66 :: u17 67 :: u17 68 :: u17 69 :: u17 70 :: u17 71 :: u17 72 :: u17 73 :: u17 74 :: u17 75 :: u17 76 :: u17 77 :: u17 78 :: u17 79 :: u17 80 :: u17 81 :: u17 82 :: u17 83 :: u17 84 :: u17 85 :: u17 86 :: u17 87 :: u17 88 :: u17 89 :: u17 90 :: u17 91 :: u17 92 :: u17 93 :: u17 94 :: u17 95 :: u17 96 :: u17 97 :: u17 98 :: u17 99 :: u17 100 :: u17 101 :: u17 102 :: u17 103 :: u17 104 :: u17 105 :: u17 106 :: u17 107 :: u17 108 :: u17 109 :: u17 110 :: u17 111 :: u17 112 :: u17 113 :: u17 114 :: u17 115 :: u17 116 :: u17 117 :: u17 118 :: u17 119 :: u17 120 :: u17 121 :: u17 122 :: u17 123 :: u17 124 :: u17 125 :: u17 126 :: u17 127 :: u17 128 :: u17 129 :: u17 130 :: u17 131 :: u17 132 :: u17 133 :: u17 134 :: u17 135 :: u17 136 :: u17 137 :: u17 138 :: u17 139 :: u17 140 :: u17 141 :: u17 142 :: u17 143 :: u17 144 :: List.replicate 2 un).toArray, []⟩ ∧ St S now 16777216 (6000 + 1000 * i) (4 + 60 * i) ∧ S.D.left = 0 ∧ SH w [] ⟨sq, sr, d⟩ S [(q6, 48, stc now)] w') (min xs.length 40) ?_ ?_ ?_
 ·exact ⟨sq0, sr0, S0, List.replicate 16 eB, fun ii => (([(2, .bool false), (8, undef), (9, undef), (10, undef), (11, undef), (12, undef), (21, undef), (22, undef), (23, undef), (24, undef), (25, undef), (26, undef), (27, undef), (28, undef), (29, undef), (30, undef), (31, undef), (32, undef), (33, undef), (34, undef), (35, undef), (36, undef), (37, undef), (38, undef), (39, undef), (40, undef), (41, undef), (42, undef), (43, undef), (44, undef), (45, undef), (46, undef), (47, undef), (48, undef), (49, undef), (50, undef), (51, undef), (52, undef), (53, undef), (54, undef), (55, undef), (56, undef), (57, undef), (58, undef), (59, undef), (60, undef), (61, undef), (62, undef), (63, undef), (64, undef), (65, undef), (66, undef), (67, undef), (68, undef), (69, undef), (70, undef), (71, undef), (72, undef), (73, undef), (74, undef), (75, undef), (76, undef), (77, undef), (78, undef), (79, undef), (80, undef), (81, undef), (82, undef), (83, undef), (84, undef), (85, undef), (86, undef), (87, undef), (88, undef), (89, undef), (90, undef), (91, undef), (92, undef), (93, undef), (94, undef), (95, undef), (96, undef), (97, undef), (98, undef), (99, undef), (100, undef), (101, undef), (102, undef), (103, undef), (104, undef), (105, undef), (106, undef), (107, undef), (108, undef), (109, undef), (110, undef), (111, undef), (112, undef), (113, undef), (114, undef), (115, undef), (116, undef), (117, undef), (118, undef), (119, undef), (120, undef), (121, undef), (122, undef), (123, undef), (124, undef), (125, undef), (126, undef), (127, undef), (128, undef), (129, undef), (130, undef), (131, undef), (132, undef), (133, undef), (134, undef), (135, undef), (136, undef), (137, undef), (138, undef), (139, undef), (140, undef), (141, undef), (142, undef), (143, undef), (144, undef)] : List (Nat × Value)).find? (·.1 == ii)).elim undef (·.2), by kernel_rfl, hSt, hl0, (hc11 _ _ ((q6, 48, stc (List.replicate 16 eB)) :: []) _ ⟨_, _, hrs11, hK11, (HA.perm h16 (List.perm_middle (l₁ := ([(q6, 48, stc (List.replicate 16 eB))] : BL))))⟩)⟩
 ·rintro i hi _ w18 ⟨sq, sr, S, now, u17, rfl, hSt, hl, hS⟩
  obtain ⟨m19, X19, hc19, rs19, nx19, hrs19, hK19, hH19⟩ := SH.opn hS
  have h20 : HA ⟨w, m19 :: (sr, .mp (eR rs19) nx19) :: []⟩ ((sq, 73, scell d.q sr ((laidR S.rows)) S.size) :: (q6, 48, stc now) :: ([] ++ X19)) w18 := hH19
  obtain ⟨oa, hoa, hxo, hok⟩ := hA i (by omega)
  obtain ⟨x, hxe⟩ : ∃ x, x = xs.getD i tn0 := ⟨_, rfl⟩
  rw [← hxe] at hxo hok
  have hnxl : (nextR now x i).length = 16 := (next_len now x i).trans hSt.ok.1
  have hNo := hSt.ok
  have hxa := hxo.a
  refine wp_seq ?_
  refine wp_seq ?_
  refine wl_region ?_
  refine zwv (iN .i64 i) ?_
  refine zwv (.slice o xs.length c) ?_
  refine zwv (iN .i64 xs.length) ?_
  refine zwx (.bool true) (run_lss (k := .i64) (a := i) (b := xs.length) (by kernel_rfl) (by kernel_rfl) true (decide_eq_true (by omega))) ?_
  refine zwv (.bool true) ?_
  refine zwv (iN .i64 i) ?_
  refine zwx (.bool true) (run_lss (k := .i64) (a := i) (b := 40) (by kernel_rfl) (by kernel_rfl) true (decide_eq_true (by omega))) ?_
  refine zwv (.bool true) ?_
  refine zwv (.bool true) ?_
  refine zwv (iN .i64 0) ?_
  refine zwx (.bool true) (run_eqi (k := .i64) (a := 0) (b := 0) (by kernel_rfl) (by kernel_rfl) true (by decide)) ?_
  refine zwv (.bool true) ?_
  refine wl_nil ?_
  refine then_at rfl ?_
  refine wp_cond_true (by kernel_rfl) ?_
  refine wp_skip ?_
  refine then_at rfl ?_
  refine wp_seq ?_
  refine wp_block ?_
  refine wp_seq ?_
  refine wl_region ?_
  refine zwv (.slice o xs.length c) ?_
  refine zwv (iN .i64 i) ?_
  refine wl_val (.pointer (some (oa.add (i * 11)))) (by kernel_rfl) (run_addrT (o := o) (a := oa) (n := xs.length) (m := c) (i := i) hoa Tryz.underlying44 (fun w => Tryz.sizeOf52 w) (by kernel_rfl) (by kernel_rfl) (by omega)) ?_
  refine zwx (.agg (tnc x)) (run_loadT (a := oa.add (i * 11)) (c := tnc x) (by kernel_rfl) (fun j v hv => cell_old h20.old.old (hok j v hv)) Tryz.underlying52 rfl (by kernel_rfl)) ?_
  refine wl_make (c := tnc tn0) h20 52 (by kernel_rfl) (by kernel_rfl) ?_
  intro q21 w22 (h23 : HA ⟨w, m19 :: (sr, .mp (eR rs19) nx19) :: []⟩ ((q21, 52, tnc tn0) :: (sq, 73, scell d.q sr ((laidR S.rows)) S.size) :: (q6, 48, stc now) :: ([] ++ X19)) w22)
  refine wl_fill (c' := tnc x) h23 0 rfl (by kernel_rfl) (by kernel_rfl) (by kernel_rfl) rfl (by kernel_rfl) (tnc_one x) ?_
  intro w24 (h25 : HA ⟨w, m19 :: (sr, .mp (eR rs19) nx19) :: []⟩ ((q21, 52, tnc x) :: (sq, 73, scell d.q sr ((laidR S.rows)) S.size) :: (q6, 48, stc now) :: ([] ++ X19)) w24)
  refine wl_nil ?_
  have h26 := h25
  clear h25
  generalize q21 = q8 at h26 ⊢
  refine then_at rfl ?_
  refine wp_seq ?_
  refine Code.wp_mono (Q := fun ex AQ w' => ex = Exit.normal ∧ ∃ (Sa : SS) (u27 : Nat → Value), AQ = ⟨(.slice o xs.length c :: un :: u27 2 :: pt d.q :: pt sq :: iN .i64 0 :: pt q6 :: iN .i64 i :: pt q8 :: u17 9 :: u17 10 :: u17 11 :: u17 12 :: .bool true :: .bool false :: pt d.q :: .tuple #[pt sq0, iN .i64 0] :: pt d.q :: .tuple #[pt sq0, iN .i64 0] :: pt sq0 :: iN .i64 0 :: iN .i64 i :: .slice o xs.length c :: iN .i64 xs.length :: .bool true :: .bool true :: iN .i64 i :: .bool true :: .bool true :: .bool true :: iN .i64 0 :: .bool true :: .bool true :: u17 33 :: u17 34 :: .slice o xs.length c :: iN .i64 i :: .pointer (some (oa.add (i * 11))) :: .agg (tnc x) :: u27 39 :: u27 40 :: u27 41 :: u27 42 :: u27 43 :: u27 44 :: u27 45 :: u27 46 :: u27 47 :: u27 48 :: u27 49 :: u27 50 :: u17 51 :: u17 52 :: u17 53 :: u17 54 :: u17 55 :: u17 56 :: u17 57 :: u17 58 :: u17 59 :: u17 60 :: u17 61 :: u17 62 :: u17 63 :: u17 64 :: u17 65 :: u17 66 :: u17 67 :: u17 68 :: u17 69 :: u17 70 :: u17 71 :: u17 72 :: u17 73 :: u17 74 :: u17 75 :: u17 76 :: u17 77 :: u17 78 :: u17 79 :: u17 80 :: u17 81 :: u17 82 :: u17 83 :: u17 84 :: u17 85 :: u17 86 :: u17 87 :: u17 88 :: u17 89 :: u17 90 :: u17 91 :: u17 92 :: u17 93 :: u17 94 :: u17 95 :: u17 96 :: u17 97 :: u17 98 :: u17 99 :: u17 100 :: u17 101 :: u17 102 :: u17 103 :: u17 104 :: u17 105 :: u17 106 :: u17 107 :: u17 108 :: u17 109 :: u17 110 :: u17 111 :: u17 112 :: u17 113 :: u17 114 :: u17 115 :: u17 116 :: u17 117 :: u17 118 :: u17 119 :: u17 120 :: u17 121 :: u17 122 :: u17 123 :: u17 124 :: u17 125 :: u17 126 :: u17 127 :: u17 128 :: u17 129 :: u17 130 :: u17 131 :: u17 132 :: u17 133 :: u17 134 :: u17 135 :: u17 136 :: u17 137 :: u17 138 :: u17 139 :: u17 140 :: u17 141 :: u17 142 :: u17 143 :: u17 144 :: List.replicate 2 un).toArray, []⟩ ∧ St Sa now 16777216 (6000 + 1000 * i) (4 + 60 * i) ∧ SH w [] ⟨sq, sr, d⟩ Sa [(q8, 52, tnc x), (q6, 48, stc now)] w') ?_ ?_
  ·rintro _ _ w28 ⟨rfl, Sa, u27, rfl, hSta, hSa⟩
   obtain ⟨m29, X29, hc29, rs29, nx29, hrs29, hK29, hH29⟩ := SH.opn hSa
   have h30 : HA ⟨w, m29 :: (sr, .mp (eR rs29) nx29) :: []⟩ ((sq, 73, scell d.q sr ((laidR Sa.rows)) Sa.size) :: (q8, 52, tnc x) :: (q6, 48, stc now) :: ([] ++ X29)) w28 := hH29
   refine then_at rfl ?_
   refine wp_seq ?_
   refine wl_region ?_
   refine zwv (iN .i64 0) ?_
   refine wl_nil ?_
   refine then_at rfl ?_
   refine wp_seq ?_
   refine Code.wp_mono (Q := fun ex AQ w' => ex = Exit.normal ∧ ∃ (S2 : SS) (f2 : Nat) (u31 : Nat → Value), AQ = ⟨(.slice o xs.length c :: un :: u27 2 :: pt d.q :: pt sq :: iN .i64 0 :: pt q6 :: iN .i64 i :: pt q8 :: iN .i64 f2 :: u17 10 :: u17 11 :: u17 12 :: .bool true :: .bool false :: pt d.q :: .tuple #[pt sq0, iN .i64 0] :: pt d.q :: .tuple #[pt sq0, iN .i64 0] :: pt sq0 :: iN .i64 0 :: iN .i64 i :: .slice o xs.length c :: iN .i64 xs.length :: .bool true :: .bool true :: iN .i64 i :: .bool true :: .bool true :: .bool true :: iN .i64 0 :: .bool true :: .bool true :: u17 33 :: u17 34 :: .slice o xs.length c :: iN .i64 i :: .pointer (some (oa.add (i * 11))) :: .agg (tnc x) :: u27 39 :: u27 40 :: u27 41 :: u27 42 :: u27 43 :: u27 44 :: u27 45 :: u27 46 :: u27 47 :: u27 48 :: u27 49 :: u27 50 :: u31 51 :: u31 52 :: u31 53 :: u31 54 :: u17 55 :: u17 56 :: u17 57 :: u17 58 :: u17 59 :: u17 60 :: u17 61 :: u17 62 :: u17 63 :: u17 64 :: u17 65 :: u17 66 :: u17 67 :: u17 68 :: u17 69 :: u17 70 :: u17 71 :: u17 72 :: u17 73 :: u17 74 :: u17 75 :: u17 76 :: u17 77 :: u17 78 :: u17 79 :: u17 80 :: u17 81 :: u17 82 :: u17 83 :: u17 84 :: u17 85 :: u17 86 :: u17 87 :: u17 88 :: u17 89 :: u17 90 :: u17 91 :: u17 92 :: u17 93 :: u17 94 :: u17 95 :: u17 96 :: u17 97 :: u17 98 :: u17 99 :: u17 100 :: u17 101 :: u17 102 :: u17 103 :: u17 104 :: u17 105 :: u17 106 :: u17 107 :: u17 108 :: u17 109 :: u17 110 :: u17 111 :: u17 112 :: u17 113 :: u17 114 :: u17 115 :: u17 116 :: u17 117 :: u17 118 :: u17 119 :: u17 120 :: u17 121 :: u17 122 :: u17 123 :: u17 124 :: u17 125 :: u17 126 :: u17 127 :: u17 128 :: u17 129 :: u17 130 :: u17 131 :: u17 132 :: u17 133 :: u17 134 :: u17 135 :: u17 136 :: u17 137 :: u17 138 :: u17 139 :: u17 140 :: u17 141 :: u17 142 :: u17 143 :: u17 144 :: List.replicate 2 un).toArray, []⟩ ∧ ((f2 = 0 ∧ St S2 now 16777216 (6000 + 1000 * i) ((4 + 60 * i) + 5)) ∨ (f2 = 16 ∧ Dn S2.D now now 16777216 (6000 + 1000 * i) ((4 + 60 * i) + 5))) ∧ SH w [] ⟨sq, sr, d⟩ S2 [(q8, 52, tnc x), (q6, 48, stc now)] w') ?_ ?_
   ·rintro _ _ w32 ⟨rfl, S2, f2, u31, rfl, hf2, hS2⟩
    obtain ⟨m33, X33, hc33, rs33, nx33, hrs33, hK33, hH33⟩ := SH.opn hS2
    have h34 : HA ⟨w, m33 :: (sr, .mp (eR rs33) nx33) :: []⟩ ((sq, 73, scell d.q sr ((laidR S2.rows)) S2.size) :: (q8, 52, tnc x) :: (q6, 48, stc now) :: ([] ++ X33)) w32 := hH33
    refine then_at rfl ?_
    refine wp_seq ?_
    refine wl_region ?_
    refine zwx (.agg (stc now)) (run_load_blk (by kernel_rfl) (h34.get 2 rfl) Tryz.underlying48 rfl (by rw [info48, stc_size, hNo.1])) ?_
    refine zwx (.agg (tnc x)) (run_load_blk (by kernel_rfl) (h34.get 1 rfl) Tryz.underlying52 rfl (by kernel_rfl)) ?_
    refine zwv (iN .i64 i) ?_
    refine wl_callx (by kernel_rfl) enter16 #[.agg (stc now), .agg (tnc x), iN .i64 i] (by kernel_rfl) (change_any hNo.1 hxo (by omega) w32) ?_
    rintro _ w35 ⟨vp, vd, Lp, Ld, rfl, hRp, hRd, hcK⟩
    refine ⟨_, rfl, ?_⟩
    have h36 : HA ⟨w, m33 :: (sr, .mp (eR rs33) nx33) :: []⟩ ((Lp ++ Ld) ++ ([(sq, 73, scell d.q sr ((laidR S2.rows)) S2.size), (q8, 52, tnc x), (q6, 48, stc now)] ++ ([] ++ X33))) w35 := HA.join h34 hcK
    have h37 : HA ⟨w, m33 :: (sr, .mp (eR rs33) nx33) :: []⟩ ((sq, 73, scell d.q sr ((laidR S2.rows)) S2.size) :: (q8, 52, tnc x) :: (q6, 48, stc now) :: ((Lp ++ Ld) ++ X33)) w35 := h36.perm (perm_mv (Lp ++ Ld) [(sq, 73, scell d.q sr ((laidR S2.rows)) S2.size), (q8, 52, tnc x), (q6, 48, stc now)] ([] ++ X33))
    refine zwv (.tuple #[vp, vd, .agg (stc (nextR now x i))]) ?_
    refine zwv (vp) ?_
    refine zwv (vd) ?_
    refine zwv (.agg (stc (nextR now x i))) ?_
    refine wl_make (c := stc (List.replicate 16 eB)) h37 48 (by kernel_rfl) (by kernel_rfl) ?_
    intro q38 w39 (h40 : HA ⟨w, m33 :: (sr, .mp (eR rs33) nx33) :: []⟩ ((q38, 48, stc (List.replicate 16 eB)) :: (sq, 73, scell d.q sr ((laidR S2.rows)) S2.size) :: (q8, 52, tnc x) :: (q6, 48, stc now) :: ((Lp ++ Ld) ++ X33)) w39)
    refine zwv (vp) ?_
    refine zwv (vd) ?_
    refine wl_fill (c' := stc (nextR now x i)) h40 0 rfl (by kernel_rfl) (by kernel_rfl) (by kernel_rfl) (by rw [stc_size, stc_size, hnxl, List.length_replicate]) (by rw [info48, stc_size, hnxl]) (stc_one _) ?_
    intro w41 (h42 : HA ⟨w, m33 :: (sr, .mp (eR rs33) nx33) :: []⟩ ((q38, 48, stc (nextR now x i)) :: (sq, 73, scell d.q sr ((laidR S2.rows)) S2.size) :: (q8, 52, tnc x) :: (q6, 48, stc now) :: ((Lp ++ Ld) ++ X33)) w41)
    refine wl_nil ?_
    have h43 := h42
    clear h42
    generalize q38 = q12 at h43 ⊢
    refine then_at rfl ?_
    refine wp_seq ?_
    refine Code.wp_mono (Q := fun ex AQ w' => ex = Exit.normal ∧ ∃ (S3 : SS) (f3 : Nat) (now3 next3 : List ByteArray) (u44 : Nat → Value), AQ = ⟨(.slice o xs.length c :: un :: u27 2 :: pt d.q :: pt sq :: iN .i64 0 :: pt q6 :: iN .i64 i :: pt q8 :: iN .i64 f3 :: vp :: vd :: pt q12 :: .bool true :: .bool false :: pt d.q :: .tuple #[pt sq0, iN .i64 0] :: pt d.q :: .tuple #[pt sq0, iN .i64 0] :: pt sq0 :: iN .i64 0 :: iN .i64 i :: .slice o xs.length c :: iN .i64 xs.length :: .bool true :: .bool true :: iN .i64 i :: .bool true :: .bool true :: .bool true :: iN .i64 0 :: .bool true :: .bool true :: u17 33 :: u17 34 :: .slice o xs.length c :: iN .i64 i :: .pointer (some (oa.add (i * 11))) :: .agg (tnc x) :: u27 39 :: u27 40 :: u27 41 :: u27 42 :: u27 43 :: u27 44 :: u27 45 :: u27 46 :: u27 47 :: u27 48 :: u27 49 :: u27 50 :: u31 51 :: u31 52 :: u31 53 :: u31 54 :: .tuple #[vp, vd, .agg (stc (nextR now x i))] :: .agg (stc now) :: .agg (tnc x) :: iN .i64 i :: .tuple #[vp, vd, .agg (stc (nextR now x i))] :: vp :: vd :: .agg (stc (nextR now x i)) :: u44 63 :: u44 64 :: u44 65 :: u44 66 :: u44 67 :: u44 68 :: u44 69 :: u44 70 :: u44 71 :: u44 72 :: u17 73 :: u17 74 :: u17 75 :: u17 76 :: u17 77 :: u17 78 :: u17 79 :: u17 80 :: u17 81 :: u17 82 :: u17 83 :: u17 84 :: u17 85 :: u17 86 :: u17 87 :: u17 88 :: u17 89 :: u17 90 :: u17 91 :: u17 92 :: u17 93 :: u17 94 :: u17 95 :: u17 96 :: u17 97 :: u17 98 :: u17 99 :: u17 100 :: u17 101 :: u17 102 :: u17 103 :: u17 104 :: u17 105 :: u17 106 :: u17 107 :: u17 108 :: u17 109 :: u17 110 :: u17 111 :: u17 112 :: u17 113 :: u17 114 :: u17 115 :: u17 116 :: u17 117 :: u17 118 :: u17 119 :: u17 120 :: u17 121 :: u17 122 :: u17 123 :: u17 124 :: u17 125 :: u17 126 :: u17 127 :: u17 128 :: u17 129 :: u17 130 :: u17 131 :: u17 132 :: u17 133 :: u17 134 :: u17 135 :: u17 136 :: u17 137 :: u17 138 :: u17 139 :: u17 140 :: u17 141 :: u17 142 :: u17 143 :: u17 144 :: List.replicate 2 un).toArray, []⟩ ∧ ((f3 = 0 ∧ St S3 now3 16777216 ((6000 + 1000 * i) + 1000) ((4 + 60 * i) + 18)) ∨ (f3 = 16 ∧ Dn S3.D now3 next3 16777216 ((6000 + 1000 * i) + 1000) ((4 + 60 * i) + 18))) ∧ NowOk next3 ∧ SH w [] ⟨sq, sr, d⟩ S3 [(q12, 48, stc next3), (q8, 52, tnc x), (q6, 48, stc now3)] w') ?_ ?_
    ·rintro _ _ w45 ⟨rfl, S3, f3, now3, next3, u44, rfl, hf3, hNx3, hS3⟩
     obtain ⟨m46, X46, hc46, rs46, nx46, hrs46, hK46, hH46⟩ := SH.opn hS3
     have h47 : HA ⟨w, m46 :: (sr, .mp (eR rs46) nx46) :: []⟩ ((sq, 73, scell d.q sr ((laidR S3.rows)) S3.size) :: (q12, 48, stc next3) :: (q8, 52, tnc x) :: (q6, 48, stc now3) :: ([] ++ X46)) w45 := hH46
     refine then_at rfl ?_
     refine wp_seq ?_
     refine wp_seq ?_
     rcases hf3 with ⟨rfl, hSt3⟩ | ⟨rfl, hDn3⟩
     ·have hNo3 := hSt3.ok
      refine wl_region ?_
      refine zwv (iN .i64 0) ?_
      refine zwx (.bool false) (run_nei (k := .i64) (a := 0) (b := 0) (by kernel_rfl) (by kernel_rfl) false (by decide)) ?_
      refine zwv (.bool false) ?_
      refine wl_skip (by kernel_rfl) ?_
      refine wl_skip (by kernel_rfl) ?_
      refine zwv (.bool false) ?_
      refine zwv (.bool false) ?_
      refine zwv (iN .i64 0) ?_
      refine zwx (.bool false) (run_eqi (k := .i64) (a := 0) (b := 16) (by kernel_rfl) (by kernel_rfl) false (by decide)) ?_
      refine zwv (.pointer (some ⟨d.q, 0, none⟩)) ?_
      refine wl_call (v := .bool false) h47 (by kernel_rfl) enter18 #[.pointer (some ⟨d.q, 0, none⟩)] (by kernel_rfl) (by have h9 := down_S (hc46 _ _ ((q12, 48, stc next3) :: (q8, 52, tnc x) :: (q6, 48, stc now3) :: []) _ ⟨_, _, hrs46, hK46, h47⟩); rw [hSt3.up] at h9; exact h9) ?_
      intro w48 h49
      refine zwv (.bool false) ?_
      refine zwv (.bool false) ?_
      refine wl_nil ?_
      refine then_at rfl ?_
      refine wp_cond_false (by kernel_rfl) ?_
      refine wp_skip ?_
      refine then_at rfl ?_
      refine wp_seq ?_
      refine wp_seq ?_
      by_cases hi5 : 0 < i % 5
      ·refine wl_region ?_
       refine zwv (.pointer (some ⟨d.q, 0, none⟩)) ?_
       refine wl_call (v := .bool false) h49 (by kernel_rfl) enter18 #[.pointer (some ⟨d.q, 0, none⟩)] (by kernel_rfl) (by have h9 := down_S (hc46 _ _ ((q12, 48, stc next3) :: (q8, 52, tnc x) :: (q6, 48, stc now3) :: []) _ ⟨_, _, hrs46, hK46, h49⟩); rw [hSt3.up] at h9; exact h9) ?_
       intro w50 h51
       refine zwv (.bool true) ?_
       refine zwv (.bool true) ?_
       refine zwv (iN .i64 i) ?_
       refine zwx (iN .i64 (i % 5)) (run_remb (k := .i64) (a := i) (n := 5) (by kernel_rfl) (by kernel_rfl) (by decide)) ?_
       refine zwx (.bool true) (run_gtr (k := .i64) (a := i % 5) (b := 0) (by kernel_rfl) (by kernel_rfl) true (decide_eq_true hi5)) ?_
       refine zwv (.bool true) ?_
       refine wl_nil ?_
       refine then_at rfl ?_
       refine wp_cond_true (by kernel_rfl) ?_
       refine wp_seq ?_
       refine wl_region ?_
       refine zwv (.pointer (some ⟨d.q, 0, none⟩)) ?_
       refine wl_callx (by kernel_rfl) enter14 #[.pointer (some ⟨d.q, 0, none⟩), iN .i64 0] (by kernel_rfl) (by have h9 := arm_S (hc46 _ _ ((q12, 48, stc next3) :: (q8, 52, tnc x) :: (q6, 48, stc now3) :: []) _ ⟨_, _, hrs46, hK46, h51⟩) ((0 : Nat) : Int); rw [show (armD S3.D ((0 : Nat) : Int)).2 = 0 by rw [arm_up hSt3.up]] at h9; exact h9) ?_
       rintro _ w54 ⟨rfl, hA53⟩
       refine ⟨_, rfl, ?_⟩
       have hA53s := hSt3.arm (z := ((0 : Nat) : Int)) (by omega)
       have hA53l : (armD S3.D ((0 : Nat) : Int)).1.left = 0 := by rw [arm_up hSt3.up]
       obtain ⟨Sa52, Sa52e⟩ : ∃ S9 : SS, S9 = ⟨(armD S3.D ((0 : Nat) : Int)).1, S3.rows, S3.size⟩ := ⟨_, rfl⟩
       rw [← Sa52e] at hA53 hA53s
       have hA53l : Sa52.D.left = 0 := by rw [Sa52e]; exact hA53l
       clear Sa52e
       obtain ⟨m55, X55, hc55, rs55, nx55, hrs55, hK55, hH55⟩ := SH.opn hA53
       have h56 : HA ⟨w, m55 :: (sr, .mp (eR rs55) nx55) :: []⟩ ((sq, 73, scell d.q sr ((laidR Sa52.rows)) Sa52.size) :: (q12, 48, stc next3) :: (q8, 52, tnc x) :: (q6, 48, stc now3) :: ([] ++ X55)) w54 := hH55
       refine wl_nil ?_
       refine then_at rfl ?_
       refine wp_seq ?_
       refine wp_seq ?_
       refine wl_region ?_
       refine zwv (.pointer (some ⟨sq, 0, none⟩)) ?_
       refine zwx (.agg (stc now3)) (run_load_blk (by kernel_rfl) (h56.get 3 rfl) Tryz.underlying48 rfl (by rw [info48, stc_size, hNo3.1])) ?_
       refine wl_call (v := .bool true) h56 (by kernel_rfl) enter19 #[.pointer (some ⟨sq, 0, none⟩), .agg (stc now3)] (by kernel_rfl) (says_S (hc55 _ _ ((q12, 48, stc next3) :: (q8, 52, tnc x) :: (q6, 48, stc now3) :: []) _ ⟨_, _, hrs55, hK55, h56⟩) hA53s) ?_
       intro w57 h58
       refine zwv (.bool false) ?_
       refine wl_nil ?_
       refine then_at rfl ?_
       refine wp_cond_false (by kernel_rfl) ?_
       refine wp_skip ?_
       refine then_at rfl ?_
       refine wp_exit ?_
       repeat first | refine then_exit ?_ | refine block_exit ?_ | refine block_exit_ne (by decide) ?_
       refine then_at rfl ?_
       refine wl_region ?_
       refine zwv (iN .i64 i) ?_
       refine zwx (iN .i64 (i + 1)) (run_add (k := .i64) (a := i) (b := 1) (by kernel_rfl) (by kernel_rfl) (by first | omega | (simp only [top]; omega))) ?_
       refine zwv (iN .i64 (i + 1)) ?_
       refine wl_nil ?_
       exact then_I ⟨sq, sr, Sa52, now3, fun ii => (([(2, u27 2), (8, .pointer (some ⟨q8, 0, none⟩)), (9, iN .i64 0), (10, vp), (11, vd), (12, .pointer (some ⟨q12, 0, none⟩)), (21, iN .i64 i), (22, .slice o xs.length c), (23, iN .i64 xs.length), (24, .bool true), (25, .bool true), (26, iN .i64 i), (27, .bool true), (28, .bool true), (29, .bool true), (30, iN .i64 0), (31, .bool true), (32, .bool true), (33, iN .i64 i), (34, iN .i64 (i + 1)), (35, .slice o xs.length c), (36, iN .i64 i), (37, .pointer (some (oa.add (i * 11)))), (38, .agg (tnc x)), (39, u27 39), (40, u27 40), (41, u27 41), (42, u27 42), (43, u27 43), (44, u27 44), (45, u27 45), (46, u27 46), (47, u27 47), (48, u27 48), (49, u27 49), (50, u27 50), (51, u31 51), (52, u31 52), (53, u31 53), (54, u31 54), (55, .tuple #[vp, vd, .agg (stc (nextR now x i))]), (56, .agg (stc now)), (57, .agg (tnc x)), (58, iN .i64 i), (59, .tuple #[vp, vd, .agg (stc (nextR now x i))]), (60, vp), (61, vd), (62, .agg (stc (nextR now x i))), (63, u44 63), (64, u44 64), (65, u44 65), (66, u44 66), (67, u44 67), (68, u44 68), (69, u44 69), (70, u44 70), (71, u44 71), (72, u44 72), (73, iN .i64 0), (74, .bool false), (75, .bool false), (76, undef), (77, undef), (78, .bool false), (79, .bool false), (80, iN .i64 0), (81, .bool false), (82, .pointer (some ⟨d.q, 0, none⟩)), (83, .bool false), (84, .bool false), (85, .bool false), (86, .pointer (some ⟨d.q, 0, none⟩)), (87, .bool false), (88, .bool true), (89, .bool true), (90, iN .i64 i), (91, iN .i64 (i % 5)), (92, .bool true), (93, .bool true), (94, .pointer (some ⟨d.q, 0, none⟩)), (95, iN .i64 0), (96, .pointer (some ⟨sq, 0, none⟩)), (97, .agg (stc now3)), (98, .bool true), (99, .bool false), (100, u17 100), (101, u17 101), (102, u17 102), (103, u17 103), (104, u17 104), (105, u17 105), (106, u17 106), (107, u17 107), (108, u17 108), (109, u17 109), (110, u17 110), (111, u17 111), (112, u17 112), (113, u17 113), (114, u17 114), (115, u17 115), (116, u17 116), (117, u17 117), (118, u17 118), (119, u17 119), (120, u17 120), (121, u17 121), (122, u17 122), (123, u17 123), (124, u17 124), (125, u17 125), (126, u17 126), (127, u17 127), (128, u17 128), (129, u17 129), (130, u17 130), (131, u17 131), (132, u17 132), (133, u17 133), (134, u17 134), (135, u17 135), (136, u17 136), (137, u17 137), (138, u17 138), (139, u17 139), (140, u17 140), (141, u17 141), (142, u17 142), (143, u17 143), (144, u17 144)] : List (Nat × Value)).find? (·.1 == ii)).elim undef (·.2), by kernel_rfl, hA53s.mono (by omega) (by omega), hA53l, SH.sub (hc55 _ _ ((q12, 48, stc next3) :: (q8, 52, tnc x) :: (q6, 48, stc now3) :: []) _ ⟨_, _, hrs55, hK55, h58⟩) (List.Sublist.cons _ (List.Sublist.cons _ (List.Sublist.cons_cons _ (List.nil_sublist _))))⟩
      ·refine wl_region ?_
       refine zwv (.pointer (some ⟨d.q, 0, none⟩)) ?_
       refine wl_call (v := .bool false) h49 (by kernel_rfl) enter18 #[.pointer (some ⟨d.q, 0, none⟩)] (by kernel_rfl) (by have h9 := down_S (hc46 _ _ ((q12, 48, stc next3) :: (q8, 52, tnc x) :: (q6, 48, stc now3) :: []) _ ⟨_, _, hrs46, hK46, h49⟩); rw [hSt3.up] at h9; exact h9) ?_
       intro w59 h60
       refine zwv (.bool true) ?_
       refine zwv (.bool true) ?_
       refine zwv (iN .i64 i) ?_
       refine zwx (iN .i64 (i % 5)) (run_remb (k := .i64) (a := i) (n := 5) (by kernel_rfl) (by kernel_rfl) (by decide)) ?_
       refine zwx (.bool false) (run_gtr (k := .i64) (a := i % 5) (b := 0) (by kernel_rfl) (by kernel_rfl) false (decide_eq_false hi5)) ?_
       refine zwv (.bool false) ?_
       refine wl_nil ?_
       refine then_at rfl ?_
       refine wp_cond_false (by kernel_rfl) ?_
       refine wp_skip ?_
       refine then_at rfl ?_
       refine wp_seq ?_
       refine wl_region ?_
       refine zwv (.pointer (some ⟨d.q, 0, none⟩)) ?_
       refine zwv (.pointer (some ⟨q8, 9, none⟩)) ?_
       refine zwx (.int .i64 x.keep) (run_load1 (fun w => Tryz.isAgg3 w) (by kernel_rfl) (((h60.get 2 rfl).cell 9).trans rfl)) ?_
       refine zwv (.pointer (some ⟨q8, 9, none⟩)) ?_
       refine zwx (.int .i64 x.keep) (run_load1 (fun w => Tryz.isAgg3 w) (by kernel_rfl) (((h60.get 2 rfl).cell 9).trans rfl)) ?_
       refine wl_mks (n := 2) (m := 2) (c := #[.int .i64 x.keep, .int .i64 x.keep]) h60 3 (by kernel_rfl) (by kernel_rfl) ?_
       intro q61 w62 (h63 : HA ⟨w, m46 :: (sr, .mp (eR rs46) nx46) :: []⟩ ((q61, 3, #[.int .i64 x.keep, .int .i64 x.keep]) :: (sq, 73, scell d.q sr ((laidR S3.rows)) S3.size) :: (q12, 48, stc next3) :: (q8, 52, tnc x) :: (q6, 48, stc now3) :: ([] ++ X46)) w62)
       refine wl_callx (by kernel_rfl) enter20 #[.pointer (some ⟨d.q, 0, none⟩), .slice (some ⟨q61, 0, none⟩) 2 2] (by kernel_rfl) (Wake_any (o := some ⟨q61, 0, none⟩) (c := 2) (ks := [x.keep, x.keep]) (SH.disk (hc46 _ _ ((q61, 3, #[.int .i64 x.keep, .int .i64 x.keep]) :: (q12, 48, stc next3) :: (q8, 52, tnc x) :: (q6, 48, stc now3) :: []) _ ⟨_, _, hrs46, hK46, (HA.perm h63 (List.perm_middle (l₁ := ([(q61, 3, #[.int .i64 x.keep, .int .i64 x.keep])] : BL))))⟩)) (kv2 (z := x.keep) (List.mem_of_getElem? (i := 0) rfl)) (by show 2 ≤ 1000000000; decide) hSt3.dg.db (by decide) (by omega)) ?_
       rintro _ w64 ⟨rfl, hWk⟩
       refine ⟨_, rfl, ?_⟩
       have hUp0 := hSt3.wake [x.keep, x.keep] next3 hNx3
       generalize wakeD S3.D [x.keep, x.keep] = D3 at hWk hUp0
       obtain ⟨z65, X66, hcl67, hbe68, h69⟩ := DH.front hWk
       have h70 : HA z65 ((q61, 3, #[.int .i64 x.keep, .int .i64 x.keep]) :: (q12, 48, stc next3) :: (q8, 52, tnc x) :: (q6, 48, stc now3) :: ([] ++ X66)) w64 := h69
       refine wl_nil ?_
       refine then_at rfl ?_
       refine wp_seq ?_
       refine wl_region ?_
       refine zwv (.pointer (some ⟨d.q, 0, none⟩)) ?_
       refine zwv (.pointer (some ⟨q8, 8, none⟩)) ?_
       refine zwx (iN .u8 x.arm) (run_load1 (fun w => Tryz.isAgg5 w) (by kernel_rfl) (((h70.get 2 rfl).cell 8).trans rfl)) ?_
       refine zwx (iN .u8 (x.arm / 12)) (run_quo (k := .u8) (a := x.arm) (b := 12) (by kernel_rfl) (by kernel_rfl) (by decide) (by simp only [top]; omega)) ?_
       refine zwx (iN .u8 ((x.arm / 12) % 6)) (run_remb (k := .u8) (a := x.arm / 12) (n := 6) (by kernel_rfl) (by kernel_rfl) (by decide)) ?_
       refine zwx (iN .i64 ((x.arm / 12) % 6)) (run_conv .i64 Tryz.underlying5 Tryz.underlying3 (by kernel_rfl) (by simp only [top]; omega)) ?_
       refine wl_callx (by kernel_rfl) enter14 #[.pointer (some ⟨d.q, 0, none⟩), iN .i64 ((x.arm / 12) % 6)] (by kernel_rfl) (by have h9 := Arm_any (hcl67 ((q61, 3, #[.int .i64 x.keep, .int .i64 x.keep]) :: (q12, 48, stc next3) :: (q8, 52, tnc x) :: (q6, 48, stc now3) :: []) _ h70) (((x.arm / 12) % 6 : Nat) : Int); rw [show (armD D3 (((x.arm / 12) % 6 : Nat) : Int)).2 = 0 by rw [arm_up hUp0.up]] at h9; exact h9) ?_
       rintro _ w71 ⟨rfl, hA4⟩
       refine ⟨_, rfl, ?_⟩
       have hUp := hUp0.arm (z := (((x.arm / 12) % 6 : Nat) : Int)) (by omega)
       generalize (armD D3 (((x.arm / 12) % 6 : Nat) : Int)).1 = D4 at hA4 hUp
       obtain ⟨z72, X73, hcl74, hbe75, h76⟩ := DH.front hA4
       have h77 : HA z72 ((q61, 3, #[.int .i64 x.keep, .int .i64 x.keep]) :: (q12, 48, stc next3) :: (q8, 52, tnc x) :: (q6, 48, stc now3) :: ([] ++ X73)) w71 := h76
       refine wl_nil ?_
       refine then_at rfl ?_
       refine wp_join2 (fun AQ w' => ∃ (sq4 sr4 : Nat) (S4 : SS) (u78 : Nat → Value), AQ = ⟨(.slice o xs.length c :: un :: u27 2 :: pt d.q :: pt sq4 :: iN .i64 0 :: pt q6 :: iN .i64 i :: pt q8 :: iN .i64 0 :: vp :: vd :: pt q12 :: .bool true :: .bool false :: pt d.q :: .tuple #[pt sq0, iN .i64 0] :: pt d.q :: .tuple #[pt sq0, iN .i64 0] :: pt sq0 :: iN .i64 0 :: iN .i64 i :: .slice o xs.length c :: iN .i64 xs.length :: .bool true :: .bool true :: iN .i64 i :: .bool true :: .bool true :: .bool true :: iN .i64 0 :: .bool true :: .bool true :: u17 33 :: u17 34 :: .slice o xs.length c :: iN .i64 i :: .pointer (some (oa.add (i * 11))) :: .agg (tnc x) :: u27 39 :: u27 40 :: u27 41 :: u27 42 :: u27 43 :: u27 44 :: u27 45 :: u27 46 :: u27 47 :: u27 48 :: u27 49 :: u27 50 :: u31 51 :: u31 52 :: u31 53 :: u31 54 :: .tuple #[vp, vd, .agg (stc (nextR now x i))] :: .agg (stc now) :: .agg (tnc x) :: iN .i64 i :: .tuple #[vp, vd, .agg (stc (nextR now x i))] :: vp :: vd :: .agg (stc (nextR now x i)) :: u44 63 :: u44 64 :: u44 65 :: u44 66 :: u44 67 :: u44 68 :: u44 69 :: u44 70 :: u44 71 :: u44 72 :: iN .i64 0 :: .bool false :: .bool false :: un :: un :: .bool false :: .bool false :: iN .i64 0 :: .bool false :: pt d.q :: .bool false :: .bool false :: .bool false :: pt d.q :: .bool false :: .bool true :: .bool true :: iN .i64 i :: iN .i64 (i % 5) :: .bool false :: .bool false :: u17 94 :: u17 95 :: u17 96 :: u17 97 :: u17 98 :: u17 99 :: pt d.q :: .pointer (some ⟨q8, 9, none⟩) :: .int .i64 x.keep :: .pointer (some ⟨q8, 9, none⟩) :: .int .i64 x.keep :: .slice (some ⟨q61, 0, none⟩) 2 2 :: iN .i64 0 :: pt d.q :: .pointer (some ⟨q8, 8, none⟩) :: iN .u8 x.arm :: iN .u8 (x.arm / 12) :: iN .u8 ((x.arm / 12) % 6) :: iN .i64 ((x.arm / 12) % 6) :: iN .i64 0 :: u78 114 :: u78 115 :: u78 116 :: u78 117 :: u78 118 :: u78 119 :: u78 120 :: u78 121 :: u78 122 :: u78 123 :: u78 124 :: u78 125 :: u78 126 :: u78 127 :: u78 128 :: u78 129 :: u78 130 :: u78 131 :: u78 132 :: u17 133 :: u17 134 :: u17 135 :: u17 136 :: u17 137 :: u17 138 :: u17 139 :: u17 140 :: u17 141 :: u17 142 :: u17 143 :: u17 144 :: List.replicate 2 un).toArray, []⟩ ∧ (St S4 now3 16777216 ((6000 + 1000 * i) + 1000) ((4 + 60 * i) + 26) ∨ St S4 next3 16777216 ((6000 + 1000 * i) + 1000) ((4 + 60 * i) + 26)) ∧ SH w [] ⟨sq4, sr4, d⟩ S4 [(q12, 48, stc next3), (q8, 52, tnc x), (q6, 48, stc now3)] w') ?_ ?_
       ·skip
        rcases hUp.opn (by omega) (by omega) with ⟨he4, _, hop⟩ | ⟨he4, _, hop⟩
        ·refine wl_region ?_
         refine zwv (.pointer (some ⟨d.q, 0, none⟩)) ?_
         refine wl_callx (by kernel_rfl) enter13 #[.pointer (some ⟨d.q, 0, none⟩)] (by kernel_rfl) (Open_no (hcl74 ((q61, 3, #[.int .i64 x.keep, .int .i64 x.keep]) :: (q12, 48, stc next3) :: (q8, 52, tnc x) :: (q6, 48, stc now3) :: []) _ h77) hUp.dg (by omega) (by decide) (Nat.le_trans hUp.lg (by omega)) he4 (by decide)) ?_
         rintro _ w79 ⟨rfl, hO⟩
         refine ⟨_, rfl, ?_⟩
         obtain ⟨D5, hD5⟩ : ∃ D5, D5 = (opnS D4).1.D := ⟨_, rfl⟩
         rw [← hD5] at hO hop
         obtain ⟨z80, X81, hcl82, hbe83, h84⟩ := DH.front hO
         have h85 : HA z80 ((q61, 3, #[.int .i64 x.keep, .int .i64 x.keep]) :: (q12, 48, stc next3) :: (q8, 52, tnc x) :: (q6, 48, stc now3) :: ([] ++ X81)) w79 := h84
         refine zwv (.tuple #[.pointer none, iN .i64 16]) ?_
         refine zwv (.pointer none) ?_
         refine zwv (iN .i64 16) ?_
         refine zwv (.pointer none) ?_
         refine zwv (iN .i64 16) ?_
         refine wl_nil ?_
         refine then_at rfl ?_
         refine wp_seq ?_
         refine wl_region ?_
         refine zwv (iN .i64 16) ?_
         refine zwx (.bool true) (run_eqi (k := .i64) (a := 16) (b := 16) (by kernel_rfl) (by kernel_rfl) true (by decide)) ?_
         refine wl_nil ?_
         refine then_at rfl ?_
         refine wp_cond_true (by kernel_rfl) ?_
         refine wp_seq ?_
         refine wl_region ?_
         refine zwv (.pointer (some ⟨d.q, 0, none⟩)) ?_
         refine zwv (.pointer (some ⟨q8, 9, none⟩)) ?_
         refine zwx (.int .i64 x.keep) (run_load1 (fun w => Tryz.isAgg3 w) (by kernel_rfl) (((h85.get 2 rfl).cell 9).trans rfl)) ?_
         refine zwv (.pointer (some ⟨q8, 9, none⟩)) ?_
         refine zwx (.int .i64 x.keep) (run_load1 (fun w => Tryz.isAgg3 w) (by kernel_rfl) (((h85.get 2 rfl).cell 9).trans rfl)) ?_
         refine wl_mks (n := 2) (m := 2) (c := #[.int .i64 x.keep, .int .i64 x.keep]) h85 3 (by kernel_rfl) (by kernel_rfl) ?_
         intro q86 w87 (h88 : HA z80 ((q86, 3, #[.int .i64 x.keep, .int .i64 x.keep]) :: (q61, 3, #[.int .i64 x.keep, .int .i64 x.keep]) :: (q12, 48, stc next3) :: (q8, 52, tnc x) :: (q6, 48, stc now3) :: ([] ++ X81)) w87)
         refine wl_callx (by kernel_rfl) enter20 #[.pointer (some ⟨d.q, 0, none⟩), .slice (some ⟨q86, 0, none⟩) 2 2] (by kernel_rfl) (Wake_any (o := some ⟨q86, 0, none⟩) (c := 2) (ks := [x.keep, x.keep]) (hcl82 ((q86, 3, #[.int .i64 x.keep, .int .i64 x.keep]) :: (q61, 3, #[.int .i64 x.keep, .int .i64 x.keep]) :: (q12, 48, stc next3) :: (q8, 52, tnc x) :: (q6, 48, stc now3) :: []) _ h88) (kv2 (z := x.keep) (List.mem_of_getElem? (i := 0) rfl)) (by show 2 ≤ 1000000000; decide) (hD5 ▸ hUp.dg.opnS).db (by decide) (by omega)) ?_
         rintro _ w89 ⟨rfl, hWk6⟩
         refine ⟨_, rfl, ?_⟩
         have hUp6 := hop [x.keep, x.keep]
         have hlw : (wakeD D5 [x.keep, x.keep]).left = 0 := rfl
         generalize wakeD D5 [x.keep, x.keep] = D6 at hWk6 hUp6 hlw
         obtain ⟨z90, X91, hcl92, hbe93, h94⟩ := DH.front hWk6
         have h95 : HA z90 ((q86, 3, #[.int .i64 x.keep, .int .i64 x.keep]) :: (q61, 3, #[.int .i64 x.keep, .int .i64 x.keep]) :: (q12, 48, stc next3) :: (q8, 52, tnc x) :: (q6, 48, stc now3) :: ([] ++ X91)) w89 := h94
         refine wl_nil ?_
         refine then_at rfl ?_
         have hop6 := hUp6.opn (by omega) (by omega)
         replace hop6 := hop6.resolve_left (fun e => e.2.1 hlw)
         obtain ⟨he6, _, hop⟩ := hop6
         refine wl_region ?_
         refine zwv (.pointer (some ⟨d.q, 0, none⟩)) ?_
         refine wl_callx (by kernel_rfl) enter13 #[.pointer (some ⟨d.q, 0, none⟩)] (by kernel_rfl) (Open_d (hcl92 ((q86, 3, #[.int .i64 x.keep, .int .i64 x.keep]) :: (q61, 3, #[.int .i64 x.keep, .int .i64 x.keep]) :: (q12, 48, stc next3) :: (q8, 52, tnc x) :: (q6, 48, stc now3) :: []) _ h95) hUp6.dg (by omega) (by decide) (Nat.le_trans hUp6.lg (by omega)) he6) ?_
         rintro _ w96 ⟨sq4, sr4, rfl, hO⟩
         refine ⟨_, rfl, ?_⟩
         generalize (opnS D6).1 = S4 at hO hop
         obtain ⟨m97, X97, hc97, rs97, nx97, hrs97, hK97, hH97⟩ := SH.opn hO
         have h98 : HA ⟨w, m97 :: (sr4, .mp (eR rs97) nx97) :: []⟩ ((sq4, 73, scell d.q sr4 ((laidR S4.rows)) S4.size) :: (q86, 3, #[.int .i64 x.keep, .int .i64 x.keep]) :: (q61, 3, #[.int .i64 x.keep, .int .i64 x.keep]) :: (q12, 48, stc next3) :: (q8, 52, tnc x) :: (q6, 48, stc now3) :: ([] ++ X97)) w96 := hH97
         refine zwv (.tuple #[.pointer (some ⟨sq4, 0, none⟩), iN .i64 0]) ?_
         refine zwv (.pointer (some ⟨sq4, 0, none⟩)) ?_
         refine zwv (iN .i64 0) ?_
         refine zwv (.pointer (some ⟨sq4, 0, none⟩)) ?_
         refine zwv (iN .i64 0) ?_
         refine wl_nil ?_
         exact ⟨rfl, sq4, sr4, S4, fun ii => (([(114, .tuple #[.pointer none, iN .i64 16]), (115, .pointer (some ⟨d.q, 0, none⟩)), (116, .tuple #[.pointer none, iN .i64 16]), (117, .pointer none), (118, iN .i64 16), (119, iN .i64 16), (120, .bool true), (121, .pointer (some ⟨d.q, 0, none⟩)), (122, .pointer (some ⟨q8, 9, none⟩)), (123, .int .i64 x.keep), (124, .pointer (some ⟨q8, 9, none⟩)), (125, .int .i64 x.keep), (126, .slice (some ⟨q86, 0, none⟩) 2 2), (127, iN .i64 0), (128, .tuple #[.pointer (some ⟨sq4, 0, none⟩), iN .i64 0]), (129, .pointer (some ⟨d.q, 0, none⟩)), (130, .tuple #[.pointer (some ⟨sq4, 0, none⟩), iN .i64 0]), (131, .pointer (some ⟨sq4, 0, none⟩)), (132, iN .i64 0)] : List (Nat × Value)).find? (·.1 == ii)).elim undef (·.2), by kernel_rfl, hop.imp (fun h => h.mono (Nat.le_refl _) (by omega)) (fun h => h.mono (Nat.le_refl _) (by omega)), SH.sub (hc97 _ _ ((q86, 3, #[.int .i64 x.keep, .int .i64 x.keep]) :: (q61, 3, #[.int .i64 x.keep, .int .i64 x.keep]) :: (q12, 48, stc next3) :: (q8, 52, tnc x) :: (q6, 48, stc now3) :: []) _ ⟨_, _, hrs97, hK97, h98⟩) (List.Sublist.cons _ (List.Sublist.cons _ (List.Sublist.cons_cons _ (List.Sublist.cons_cons _ (List.Sublist.cons_cons _ (List.nil_sublist _))))))⟩
        ·refine wl_region ?_
         refine zwv (.pointer (some ⟨d.q, 0, none⟩)) ?_
         refine wl_callx (by kernel_rfl) enter13 #[.pointer (some ⟨d.q, 0, none⟩)] (by kernel_rfl) (Open_d (hcl74 ((q61, 3, #[.int .i64 x.keep, .int .i64 x.keep]) :: (q12, 48, stc next3) :: (q8, 52, tnc x) :: (q6, 48, stc now3) :: []) _ h77) hUp.dg (by omega) (by decide) (Nat.le_trans hUp.lg (by omega)) he4) ?_
         rintro _ w99 ⟨sq4, sr4, rfl, hO⟩
         refine ⟨_, rfl, ?_⟩
         generalize (opnS D4).1 = S4 at hO hop
         obtain ⟨m100, X100, hc100, rs100, nx100, hrs100, hK100, hH100⟩ := SH.opn hO
         have h101 : HA ⟨w, m100 :: (sr4, .mp (eR rs100) nx100) :: []⟩ ((sq4, 73, scell d.q sr4 ((laidR S4.rows)) S4.size) :: (q61, 3, #[.int .i64 x.keep, .int .i64 x.keep]) :: (q12, 48, stc next3) :: (q8, 52, tnc x) :: (q6, 48, stc now3) :: ([] ++ X100)) w99 := hH100
         refine zwv (.tuple #[.pointer (some ⟨sq4, 0, none⟩), iN .i64 0]) ?_
         refine zwv (.pointer (some ⟨sq4, 0, none⟩)) ?_
         refine zwv (iN .i64 0) ?_
         refine zwv (.pointer (some ⟨sq4, 0, none⟩)) ?_
         refine zwv (iN .i64 0) ?_
         refine wl_nil ?_
         refine then_at (F := ⟨(.slice o xs.length c :: un :: u27 2 :: pt d.q :: pt sq4 :: iN .i64 0 :: pt q6 :: iN .i64 i :: pt q8 :: iN .i64 0 :: vp :: vd :: pt q12 :: .bool true :: .bool false :: pt d.q :: .tuple #[pt sq0, iN .i64 0] :: pt d.q :: .tuple #[pt sq0, iN .i64 0] :: pt sq0 :: iN .i64 0 :: iN .i64 i :: .slice o xs.length c :: iN .i64 xs.length :: .bool true :: .bool true :: iN .i64 i :: .bool true :: .bool true :: .bool true :: iN .i64 0 :: .bool true :: .bool true :: u17 33 :: u17 34 :: .slice o xs.length c :: iN .i64 i :: .pointer (some (oa.add (i * 11))) :: .agg (tnc x) :: u27 39 :: u27 40 :: u27 41 :: u27 42 :: u27 43 :: u27 44 :: u27 45 :: u27 46 :: u27 47 :: u27 48 :: u27 49 :: u27 50 :: u31 51 :: u31 52 :: u31 53 :: u31 54 :: .tuple #[vp, vd, .agg (stc (nextR now x i))] :: .agg (stc now) :: .agg (tnc x) :: iN .i64 i :: .tuple #[vp, vd, .agg (stc (nextR now x i))] :: vp :: vd :: .agg (stc (nextR now x i)) :: u44 63 :: u44 64 :: u44 65 :: u44 66 :: u44 67 :: u44 68 :: u44 69 :: u44 70 :: u44 71 :: u44 72 :: iN .i64 0 :: .bool false :: .bool false :: un :: un :: .bool false :: .bool false :: iN .i64 0 :: .bool false :: pt d.q :: .bool false :: .bool false :: .bool false :: pt d.q :: .bool false :: .bool true :: .bool true :: iN .i64 i :: iN .i64 (i % 5) :: .bool false :: .bool false :: u17 94 :: u17 95 :: u17 96 :: u17 97 :: u17 98 :: u17 99 :: pt d.q :: .pointer (some ⟨q8, 9, none⟩) :: .int .i64 x.keep :: .pointer (some ⟨q8, 9, none⟩) :: .int .i64 x.keep :: .slice (some ⟨q61, 0, none⟩) 2 2 :: iN .i64 0 :: pt d.q :: .pointer (some ⟨q8, 8, none⟩) :: iN .u8 x.arm :: iN .u8 (x.arm / 12) :: iN .u8 ((x.arm / 12) % 6) :: iN .i64 ((x.arm / 12) % 6) :: iN .i64 0 :: .tuple #[pt sq4, iN .i64 0] :: pt d.q :: .tuple #[pt sq4, iN .i64 0] :: pt sq4 :: iN .i64 0 :: u17 119 :: u17 120 :: u17 121 :: u17 122 :: u17 123 :: u17 124 :: u17 125 :: u17 126 :: u17 127 :: u17 128 :: u17 129 :: u17 130 :: u17 131 :: u17 132 :: u17 133 :: u17 134 :: u17 135 :: u17 136 :: u17 137 :: u17 138 :: u17 139 :: u17 140 :: u17 141 :: u17 142 :: u17 143 :: u17 144 :: List.replicate 2 un).toArray, []⟩) (by kernel_rfl) ?_
         refine wp_seq ?_
         refine wl_region ?_
         refine zwv (iN .i64 0) ?_
         refine zwx (.bool false) (run_eqi (k := .i64) (a := 0) (b := 16) (by kernel_rfl) (by kernel_rfl) false (by decide)) ?_
         refine wl_nil ?_
         refine then_at rfl ?_
         refine wp_cond_false (by kernel_rfl) ?_
         refine wp_skip ?_
         exact ⟨rfl, sq4, sr4, S4, fun ii => (([(114, .tuple #[.pointer (some ⟨sq4, 0, none⟩), iN .i64 0]), (115, .pointer (some ⟨d.q, 0, none⟩)), (116, .tuple #[.pointer (some ⟨sq4, 0, none⟩), iN .i64 0]), (117, .pointer (some ⟨sq4, 0, none⟩)), (118, iN .i64 0), (119, iN .i64 0), (120, .bool false), (121, u17 121), (122, u17 122), (123, u17 123), (124, u17 124), (125, u17 125), (126, u17 126), (127, u17 127), (128, u17 128), (129, u17 129), (130, u17 130), (131, u17 131), (132, u17 132)] : List (Nat × Value)).find? (·.1 == ii)).elim undef (·.2), by kernel_rfl, hop.imp (fun h => h.mono (Nat.le_refl _) (by omega)) (fun h => h.mono (Nat.le_refl _) (by omega)), SH.sub (hc100 _ _ ((q61, 3, #[.int .i64 x.keep, .int .i64 x.keep]) :: (q12, 48, stc next3) :: (q8, 52, tnc x) :: (q6, 48, stc now3) :: []) _ ⟨_, _, hrs100, hK100, h101⟩) (List.Sublist.cons _ (List.Sublist.cons_cons _ (List.Sublist.cons_cons _ (List.Sublist.cons_cons _ (List.nil_sublist _)))))⟩
       ·rintro _ w102 ⟨sq4, sr4, S4, u78, rfl, hS4s, hS4⟩
        obtain ⟨m103, X103, hc103, rs103, nx103, hrs103, hK103, hH103⟩ := SH.opn hS4
        have h104 : HA ⟨w, m103 :: (sr4, .mp (eR rs103) nx103) :: []⟩ ((sq4, 73, scell d.q sr4 ((laidR S4.rows)) S4.size) :: (q12, 48, stc next3) :: (q8, 52, tnc x) :: (q6, 48, stc now3) :: ([] ++ X103)) w102 := hH103
        refine wp_seq ?_
        have hcase : St S4 next3 16777216 ((6000 + 1000 * i) + 1000) ((4 + 60 * i) + 26) ∨ (St S4 now3 16777216 ((6000 + 1000 * i) + 1000) ((4 + 60 * i) + 26) ∧ next3 ≠ now3) := by
         rcases hS4s with h9 | h9
         ·by_cases e9 : next3 = now3
          ·exact .inl (by rw [e9]; exact h9)
          ·exact .inr ⟨h9, e9⟩
         ·exact .inl h9
        rcases hcase with hS4n | ⟨hS4o, hne⟩
        ·refine wl_region ?_
         refine zwv (.pointer (some ⟨d.q, 0, none⟩)) ?_
         refine wl_callx (by kernel_rfl) enter14 #[.pointer (some ⟨d.q, 0, none⟩), iN .i64 0] (by kernel_rfl) (by have h9 := arm_S (hc103 _ _ ((q12, 48, stc next3) :: (q8, 52, tnc x) :: (q6, 48, stc now3) :: []) _ ⟨_, _, hrs103, hK103, h104⟩) ((0 : Nat) : Int); rw [show (armD S4.D ((0 : Nat) : Int)).2 = 0 by rw [arm_up hS4n.up]] at h9; exact h9) ?_
         rintro _ w107 ⟨rfl, hA106⟩
         refine ⟨_, rfl, ?_⟩
         have hA106s := hS4n.arm (z := ((0 : Nat) : Int)) (by omega)
         have hA106l : (armD S4.D ((0 : Nat) : Int)).1.left = 0 := by rw [arm_up hS4n.up]
         obtain ⟨Sa105, Sa105e⟩ : ∃ S9 : SS, S9 = ⟨(armD S4.D ((0 : Nat) : Int)).1, S4.rows, S4.size⟩ := ⟨_, rfl⟩
         rw [← Sa105e] at hA106 hA106s
         have hA106l : Sa105.D.left = 0 := by rw [Sa105e]; exact hA106l
         clear Sa105e
         obtain ⟨m108, X108, hc108, rs108, nx108, hrs108, hK108, hH108⟩ := SH.opn hA106
         have h109 : HA ⟨w, m108 :: (sr4, .mp (eR rs108) nx108) :: []⟩ ((sq4, 73, scell d.q sr4 ((laidR Sa105.rows)) Sa105.size) :: (q12, 48, stc next3) :: (q8, 52, tnc x) :: (q6, 48, stc now3) :: ([] ++ X108)) w107 := hH108
         refine wl_nil ?_
         refine then_at rfl ?_
         refine wp_seq ?_
         refine wp_seq ?_
         refine wl_region ?_
         refine zwv (iN .i64 0) ?_
         refine zwx (.bool false) (run_nei (k := .i64) (a := 0) (b := 0) (by kernel_rfl) (by kernel_rfl) false (by decide)) ?_
         refine wl_nil ?_
         refine then_at rfl ?_
         refine wp_cond_false (by kernel_rfl) ?_
         refine wp_skip ?_
         refine then_at rfl ?_
         refine wp_seq ?_
         refine wp_seq ?_
         refine wl_region ?_
         refine zwv (.pointer (some ⟨sq4, 0, none⟩)) ?_
         refine zwx (.agg (stc next3)) (run_load_blk (by kernel_rfl) (h109.get 1 rfl) Tryz.underlying48 rfl (by rw [info48, stc_size, hNx3.1])) ?_
         refine wl_call (v := .bool true) h109 (by kernel_rfl) enter19 #[.pointer (some ⟨sq4, 0, none⟩), .agg (stc next3)] (by kernel_rfl) (says_S (hc108 _ _ ((q12, 48, stc next3) :: (q8, 52, tnc x) :: (q6, 48, stc now3) :: []) _ ⟨_, _, hrs108, hK108, h109⟩) hA106s) ?_
         intro w110 h111
         refine wl_nil ?_
         refine then_at rfl ?_
         refine wp_cond_true (by kernel_rfl) ?_
         refine wl_region ?_
         refine zwx (.agg (stc next3)) (run_load_blk (by kernel_rfl) (h111.get 1 rfl) Tryz.underlying48 rfl (by rw [info48, stc_size, hNx3.1])) ?_
         refine wl_fill (c' := stc next3) h111 3 rfl (by kernel_rfl) (by kernel_rfl) (by kernel_rfl) (by rw [stc_size, stc_size, hNx3.1, hNo3.1]) (by rw [info48, stc_size, hNx3.1]) (stc_one _) ?_
         intro w112 (h113 : HA ⟨w, m108 :: (sr4, .mp (eR rs108) nx108) :: []⟩ ((sq4, 73, scell d.q sr4 ((laidR Sa105.rows)) Sa105.size) :: (q12, 48, stc next3) :: (q8, 52, tnc x) :: (q6, 48, stc next3) :: ([] ++ X108)) w112)
         refine wl_nil ?_
         refine then_at rfl ?_
         refine wp_seq ?_
         refine wl_region ?_
         refine zwv (.pointer (some ⟨sq4, 0, none⟩)) ?_
         refine zwx (.agg (stc next3)) (run_load_blk (by kernel_rfl) (h113.get 3 rfl) Tryz.underlying48 rfl (by rw [info48, stc_size, hNx3.1])) ?_
         refine wl_call (v := .bool true) h113 (by kernel_rfl) enter19 #[.pointer (some ⟨sq4, 0, none⟩), .agg (stc next3)] (by kernel_rfl) (says_S (hc108 _ _ ((q12, 48, stc next3) :: (q8, 52, tnc x) :: (q6, 48, stc next3) :: []) _ ⟨_, _, hrs108, hK108, h113⟩) hA106s) ?_
         intro w114 h115
         refine zwv (.bool false) ?_
         refine wl_nil ?_
         refine then_at rfl ?_
         refine wp_cond_false (by kernel_rfl) ?_
         refine wp_skip ?_
         refine block_normal ?_
         refine then_at rfl ?_
         refine wl_region ?_
         refine zwv (iN .i64 i) ?_
         refine zwx (iN .i64 (i + 1)) (run_add (k := .i64) (a := i) (b := 1) (by kernel_rfl) (by kernel_rfl) (by first | omega | (simp only [top]; omega))) ?_
         refine zwv (iN .i64 (i + 1)) ?_
         refine wl_nil ?_
         exact then_I ⟨sq4, sr4, Sa105, next3, fun ii => (([(2, u27 2), (8, .pointer (some ⟨q8, 0, none⟩)), (9, iN .i64 0), (10, vp), (11, vd), (12, .pointer (some ⟨q12, 0, none⟩)), (21, iN .i64 i), (22, .slice o xs.length c), (23, iN .i64 xs.length), (24, .bool true), (25, .bool true), (26, iN .i64 i), (27, .bool true), (28, .bool true), (29, .bool true), (30, iN .i64 0), (31, .bool true), (32, .bool true), (33, iN .i64 i), (34, iN .i64 (i + 1)), (35, .slice o xs.length c), (36, iN .i64 i), (37, .pointer (some (oa.add (i * 11)))), (38, .agg (tnc x)), (39, u27 39), (40, u27 40), (41, u27 41), (42, u27 42), (43, u27 43), (44, u27 44), (45, u27 45), (46, u27 46), (47, u27 47), (48, u27 48), (49, u27 49), (50, u27 50), (51, u31 51), (52, u31 52), (53, u31 53), (54, u31 54), (55, .tuple #[vp, vd, .agg (stc (nextR now x i))]), (56, .agg (stc now)), (57, .agg (tnc x)), (58, iN .i64 i), (59, .tuple #[vp, vd, .agg (stc (nextR now x i))]), (60, vp), (61, vd), (62, .agg (stc (nextR now x i))), (63, u44 63), (64, u44 64), (65, u44 65), (66, u44 66), (67, u44 67), (68, u44 68), (69, u44 69), (70, u44 70), (71, u44 71), (72, u44 72), (73, iN .i64 0), (74, .bool false), (75, .bool false), (76, undef), (77, undef), (78, .bool false), (79, .bool false), (80, iN .i64 0), (81, .bool false), (82, .pointer (some ⟨d.q, 0, none⟩)), (83, .bool false), (84, .bool false), (85, .bool false), (86, .pointer (some ⟨d.q, 0, none⟩)), (87, .bool false), (88, .bool true), (89, .bool true), (90, iN .i64 i), (91, iN .i64 (i % 5)), (92, .bool false), (93, .bool false), (94, u17 94), (95, u17 95), (96, u17 96), (97, u17 97), (98, u17 98), (99, u17 99), (100, .pointer (some ⟨d.q, 0, none⟩)), (101, .pointer (some ⟨q8, 9, none⟩)), (102, .int .i64 x.keep), (103, .pointer (some ⟨q8, 9, none⟩)), (104, .int .i64 x.keep), (105, .slice (some ⟨q61, 0, none⟩) 2 2), (106, iN .i64 0), (107, .pointer (some ⟨d.q, 0, none⟩)), (108, .pointer (some ⟨q8, 8, none⟩)), (109, iN .u8 x.arm), (110, iN .u8 (x.arm / 12)), (111, iN .u8 ((x.arm / 12) % 6)), (112, iN .i64 ((x.arm / 12) % 6)), (113, iN .i64 0), (114, u78 114), (115, u78 115), (116, u78 116), (117, u78 117), (118, u78 118), (119, u78 119), (120, u78 120), (121, u78 121), (122, u78 122), (123, u78 123), (124, u78 124), (125, u78 125), (126, u78 126), (127, u78 127), (128, u78 128), (129, u78 129), (130, u78 130), (131, u78 131), (132, u78 132), (133, .pointer (some ⟨d.q, 0, none⟩)), (134, iN .i64 0), (135, iN .i64 0), (136, .bool false), (137, .pointer (some ⟨sq4, 0, none⟩)), (138, .agg (stc next3)), (139, .bool true), (140, .agg (stc next3)), (141, .pointer (some ⟨sq4, 0, none⟩)), (142, .agg (stc next3)), (143, .bool true), (144, .bool false)] : List (Nat × Value)).find? (·.1 == ii)).elim undef (·.2), by kernel_rfl, hA106s.mono (by omega) (by omega), hA106l, SH.sub (hc108 _ _ ((q12, 48, stc next3) :: (q8, 52, tnc x) :: (q6, 48, stc next3) :: []) _ ⟨_, _, hrs108, hK108, h115⟩) (List.Sublist.cons _ (List.Sublist.cons _ (List.Sublist.cons_cons _ (List.nil_sublist _))))⟩
        ·refine wl_region ?_
         refine zwv (.pointer (some ⟨d.q, 0, none⟩)) ?_
         refine wl_callx (by kernel_rfl) enter14 #[.pointer (some ⟨d.q, 0, none⟩), iN .i64 0] (by kernel_rfl) (by have h9 := arm_S (hc103 _ _ ((q12, 48, stc next3) :: (q8, 52, tnc x) :: (q6, 48, stc now3) :: []) _ ⟨_, _, hrs103, hK103, h104⟩) ((0 : Nat) : Int); rw [show (armD S4.D ((0 : Nat) : Int)).2 = 0 by rw [arm_up hS4o.up]] at h9; exact h9) ?_
         rintro _ w118 ⟨rfl, hA117⟩
         refine ⟨_, rfl, ?_⟩
         have hA117s := hS4o.arm (z := ((0 : Nat) : Int)) (by omega)
         have hA117l : (armD S4.D ((0 : Nat) : Int)).1.left = 0 := by rw [arm_up hS4o.up]
         obtain ⟨Sa116, Sa116e⟩ : ∃ S9 : SS, S9 = ⟨(armD S4.D ((0 : Nat) : Int)).1, S4.rows, S4.size⟩ := ⟨_, rfl⟩
         rw [← Sa116e] at hA117 hA117s
         have hA117l : Sa116.D.left = 0 := by rw [Sa116e]; exact hA117l
         clear Sa116e
         obtain ⟨m119, X119, hc119, rs119, nx119, hrs119, hK119, hH119⟩ := SH.opn hA117
         have h120 : HA ⟨w, m119 :: (sr4, .mp (eR rs119) nx119) :: []⟩ ((sq4, 73, scell d.q sr4 ((laidR Sa116.rows)) Sa116.size) :: (q12, 48, stc next3) :: (q8, 52, tnc x) :: (q6, 48, stc now3) :: ([] ++ X119)) w118 := hH119
         refine wl_nil ?_
         refine then_at rfl ?_
         refine wp_seq ?_
         refine wp_seq ?_
         refine wl_region ?_
         refine zwv (iN .i64 0) ?_
         refine zwx (.bool false) (run_nei (k := .i64) (a := 0) (b := 0) (by kernel_rfl) (by kernel_rfl) false (by decide)) ?_
         refine wl_nil ?_
         refine then_at rfl ?_
         refine wp_cond_false (by kernel_rfl) ?_
         refine wp_skip ?_
         refine then_at rfl ?_
         refine wp_seq ?_
         refine wp_seq ?_
         refine wl_region ?_
         refine zwv (.pointer (some ⟨sq4, 0, none⟩)) ?_
         refine zwx (.agg (stc next3)) (run_load_blk (by kernel_rfl) (h120.get 1 rfl) Tryz.underlying48 rfl (by rw [info48, stc_size, hNx3.1])) ?_
         refine wl_call (v := .bool false) h120 (by kernel_rfl) enter19 #[.pointer (some ⟨sq4, 0, none⟩), .agg (stc next3)] (by kernel_rfl) (says_other (hc119 _ _ ((q12, 48, stc next3) :: (q8, 52, tnc x) :: (q6, 48, stc now3) :: []) _ ⟨_, _, hrs119, hK119, h120⟩) hA117s hNx3 hne) ?_
         intro w121 h122
         refine wl_nil ?_
         refine then_at rfl ?_
         refine wp_cond_false (by kernel_rfl) ?_
         refine wp_skip ?_
         refine then_at rfl ?_
         refine wp_seq ?_
         refine wl_region ?_
         refine zwv (.pointer (some ⟨sq4, 0, none⟩)) ?_
         refine zwx (.agg (stc now3)) (run_load_blk (by kernel_rfl) (h122.get 3 rfl) Tryz.underlying48 rfl (by rw [info48, stc_size, hNo3.1])) ?_
         refine wl_call (v := .bool true) h122 (by kernel_rfl) enter19 #[.pointer (some ⟨sq4, 0, none⟩), .agg (stc now3)] (by kernel_rfl) (says_S (hc119 _ _ ((q12, 48, stc next3) :: (q8, 52, tnc x) :: (q6, 48, stc now3) :: []) _ ⟨_, _, hrs119, hK119, h122⟩) hA117s) ?_
         intro w123 h124
         refine zwv (.bool false) ?_
         refine wl_nil ?_
         refine then_at rfl ?_
         refine wp_cond_false (by kernel_rfl) ?_
         refine wp_skip ?_
         refine block_normal ?_
         refine then_at rfl ?_
         refine wl_region ?_
         refine zwv (iN .i64 i) ?_
         refine zwx (iN .i64 (i + 1)) (run_add (k := .i64) (a := i) (b := 1) (by kernel_rfl) (by kernel_rfl) (by first | omega | (simp only [top]; omega))) ?_
         refine zwv (iN .i64 (i + 1)) ?_
         refine wl_nil ?_
         exact then_I ⟨sq4, sr4, Sa116, now3, fun ii => (([(2, u27 2), (8, .pointer (some ⟨q8, 0, none⟩)), (9, iN .i64 0), (10, vp), (11, vd), (12, .pointer (some ⟨q12, 0, none⟩)), (21, iN .i64 i), (22, .slice o xs.length c), (23, iN .i64 xs.length), (24, .bool true), (25, .bool true), (26, iN .i64 i), (27, .bool true), (28, .bool true), (29, .bool true), (30, iN .i64 0), (31, .bool true), (32, .bool true), (33, iN .i64 i), (34, iN .i64 (i + 1)), (35, .slice o xs.length c), (36, iN .i64 i), (37, .pointer (some (oa.add (i * 11)))), (38, .agg (tnc x)), (39, u27 39), (40, u27 40), (41, u27 41), (42, u27 42), (43, u27 43), (44, u27 44), (45, u27 45), (46, u27 46), (47, u27 47), (48, u27 48), (49, u27 49), (50, u27 50), (51, u31 51), (52, u31 52), (53, u31 53), (54, u31 54), (55, .tuple #[vp, vd, .agg (stc (nextR now x i))]), (56, .agg (stc now)), (57, .agg (tnc x)), (58, iN .i64 i), (59, .tuple #[vp, vd, .agg (stc (nextR now x i))]), (60, vp), (61, vd), (62, .agg (stc (nextR now x i))), (63, u44 63), (64, u44 64), (65, u44 65), (66, u44 66), (67, u44 67), (68, u44 68), (69, u44 69), (70, u44 70), (71, u44 71), (72, u44 72), (73, iN .i64 0), (74, .bool false), (75, .bool false), (76, undef), (77, undef), (78, .bool false), (79, .bool false), (80, iN .i64 0), (81, .bool false), (82, .pointer (some ⟨d.q, 0, none⟩)), (83, .bool false), (84, .bool false), (85, .bool false), (86, .pointer (some ⟨d.q, 0, none⟩)), (87, .bool false), (88, .bool true), (89, .bool true), (90, iN .i64 i), (91, iN .i64 (i % 5)), (92, .bool false), (93, .bool false), (94, u17 94), (95, u17 95), (96, u17 96), (97, u17 97), (98, u17 98), (99, u17 99), (100, .pointer (some ⟨d.q, 0, none⟩)), (101, .pointer (some ⟨q8, 9, none⟩)), (102, .int .i64 x.keep), (103, .pointer (some ⟨q8, 9, none⟩)), (104, .int .i64 x.keep), (105, .slice (some ⟨q61, 0, none⟩) 2 2), (106, iN .i64 0), (107, .pointer (some ⟨d.q, 0, none⟩)), (108, .pointer (some ⟨q8, 8, none⟩)), (109, iN .u8 x.arm), (110, iN .u8 (x.arm / 12)), (111, iN .u8 ((x.arm / 12) % 6)), (112, iN .i64 ((x.arm / 12) % 6)), (113, iN .i64 0), (114, u78 114), (115, u78 115), (116, u78 116), (117, u78 117), (118, u78 118), (119, u78 119), (120, u78 120), (121, u78 121), (122, u78 122), (123, u78 123), (124, u78 124), (125, u78 125), (126, u78 126), (127, u78 127), (128, u78 128), (129, u78 129), (130, u78 130), (131, u78 131), (132, u78 132), (133, .pointer (some ⟨d.q, 0, none⟩)), (134, iN .i64 0), (135, iN .i64 0), (136, .bool false), (137, .pointer (some ⟨sq4, 0, none⟩)), (138, .agg (stc next3)), (139, .bool false), (140, u17 140), (141, .pointer (some ⟨sq4, 0, none⟩)), (142, .agg (stc now3)), (143, .bool true), (144, .bool false)] : List (Nat × Value)).find? (·.1 == ii)).elim undef (·.2), by kernel_rfl, hA117s.mono (by omega) (by omega), hA117l, SH.sub (hc119 _ _ ((q12, 48, stc next3) :: (q8, 52, tnc x) :: (q6, 48, stc now3) :: []) _ ⟨_, _, hrs119, hK119, h124⟩) (List.Sublist.cons _ (List.Sublist.cons _ (List.Sublist.cons_cons _ (List.nil_sublist _))))⟩
     ·have hNo3 := hDn3.ok
      refine wl_region ?_
      refine zwv (iN .i64 16) ?_
      refine zwx (.bool true) (run_nei (k := .i64) (a := 16) (b := 0) (by kernel_rfl) (by kernel_rfl) true (by decide)) ?_
      refine zwv (.bool true) ?_
      refine zwv (iN .i64 16) ?_
      refine zwx (.bool false) (run_nei (k := .i64) (a := 16) (b := 16) (by kernel_rfl) (by kernel_rfl) false (by decide)) ?_
      refine zwv (.bool false) ?_
      refine zwv (.bool false) ?_
      refine zwv (iN .i64 16) ?_
      refine zwx (.bool true) (run_eqi (k := .i64) (a := 16) (b := 16) (by kernel_rfl) (by kernel_rfl) true (by decide)) ?_
      refine zwv (.pointer (some ⟨d.q, 0, none⟩)) ?_
      refine wl_call (v := .bool true) h47 (by kernel_rfl) enter18 #[.pointer (some ⟨d.q, 0, none⟩)] (by kernel_rfl) (by have h9 := down_S (hc46 _ _ ((q12, 48, stc next3) :: (q8, 52, tnc x) :: (q6, 48, stc now3) :: []) _ ⟨_, _, hrs46, hK46, h47⟩); rw [hDn3.down] at h9; exact h9) ?_
      intro w125 h126
      refine zwv (.bool false) ?_
      refine zwv (.bool false) ?_
      refine wl_nil ?_
      refine then_at rfl ?_
      refine wp_cond_false (by kernel_rfl) ?_
      refine wp_skip ?_
      refine then_at rfl ?_
      refine wp_seq ?_
      refine wp_seq ?_
      refine wl_region ?_
      refine zwv (.pointer (some ⟨d.q, 0, none⟩)) ?_
      refine wl_call (v := .bool true) h126 (by kernel_rfl) enter18 #[.pointer (some ⟨d.q, 0, none⟩)] (by kernel_rfl) (by have h9 := down_S (hc46 _ _ ((q12, 48, stc next3) :: (q8, 52, tnc x) :: (q6, 48, stc now3) :: []) _ ⟨_, _, hrs46, hK46, h126⟩); rw [hDn3.down] at h9; exact h9) ?_
      intro w127 h128
      refine zwv (.bool false) ?_
      refine zwv (.bool false) ?_
      refine wl_skip (by kernel_rfl) ?_
      refine wl_skip (by kernel_rfl) ?_
      refine wl_skip (by kernel_rfl) ?_
      refine zwv (.bool false) ?_
      refine wl_nil ?_
      refine then_at rfl ?_
      refine wp_cond_false (by kernel_rfl) ?_
      refine wp_skip ?_
      refine then_at rfl ?_
      refine wp_seq ?_
      refine wl_region ?_
      refine zwv (.pointer (some ⟨d.q, 0, none⟩)) ?_
      refine zwv (.pointer (some ⟨q8, 9, none⟩)) ?_
      refine zwx (.int .i64 x.keep) (run_load1 (fun w => Tryz.isAgg3 w) (by kernel_rfl) (((h128.get 2 rfl).cell 9).trans rfl)) ?_
      refine zwv (.pointer (some ⟨q8, 9, none⟩)) ?_
      refine zwx (.int .i64 x.keep) (run_load1 (fun w => Tryz.isAgg3 w) (by kernel_rfl) (((h128.get 2 rfl).cell 9).trans rfl)) ?_
      refine wl_mks (n := 2) (m := 2) (c := #[.int .i64 x.keep, .int .i64 x.keep]) h128 3 (by kernel_rfl) (by kernel_rfl) ?_
      intro q129 w130 (h131 : HA ⟨w, m46 :: (sr, .mp (eR rs46) nx46) :: []⟩ ((q129, 3, #[.int .i64 x.keep, .int .i64 x.keep]) :: (sq, 73, scell d.q sr ((laidR S3.rows)) S3.size) :: (q12, 48, stc next3) :: (q8, 52, tnc x) :: (q6, 48, stc now3) :: ([] ++ X46)) w130)
      refine wl_callx (by kernel_rfl) enter20 #[.pointer (some ⟨d.q, 0, none⟩), .slice (some ⟨q129, 0, none⟩) 2 2] (by kernel_rfl) (Wake_any (o := some ⟨q129, 0, none⟩) (c := 2) (ks := [x.keep, x.keep]) (SH.disk (hc46 _ _ ((q129, 3, #[.int .i64 x.keep, .int .i64 x.keep]) :: (q12, 48, stc next3) :: (q8, 52, tnc x) :: (q6, 48, stc now3) :: []) _ ⟨_, _, hrs46, hK46, (HA.perm h131 (List.perm_middle (l₁ := ([(q129, 3, #[.int .i64 x.keep, .int .i64 x.keep])] : BL))))⟩)) (kv2 (z := x.keep) (List.mem_of_getElem? (i := 0) rfl)) (by show 2 ≤ 1000000000; decide) hDn3.dg.db (by decide) (by omega)) ?_
      rintro _ w132 ⟨rfl, hWk⟩
      refine ⟨_, rfl, ?_⟩
      have hUp0 := hDn3.wake [x.keep, x.keep]
      generalize wakeD S3.D [x.keep, x.keep] = D3 at hWk hUp0
      obtain ⟨z133, X134, hcl135, hbe136, h137⟩ := DH.front hWk
      have h138 : HA z133 ((q129, 3, #[.int .i64 x.keep, .int .i64 x.keep]) :: (q12, 48, stc next3) :: (q8, 52, tnc x) :: (q6, 48, stc now3) :: ([] ++ X134)) w132 := h137
      refine wl_nil ?_
      refine then_at rfl ?_
      refine wp_seq ?_
      refine wl_region ?_
      refine zwv (.pointer (some ⟨d.q, 0, none⟩)) ?_
      refine zwv (.pointer (some ⟨q8, 8, none⟩)) ?_
      refine zwx (iN .u8 x.arm) (run_load1 (fun w => Tryz.isAgg5 w) (by kernel_rfl) (((h138.get 2 rfl).cell 8).trans rfl)) ?_
      refine zwx (iN .u8 (x.arm / 12)) (run_quo (k := .u8) (a := x.arm) (b := 12) (by kernel_rfl) (by kernel_rfl) (by decide) (by simp only [top]; omega)) ?_
      refine zwx (iN .u8 ((x.arm / 12) % 6)) (run_remb (k := .u8) (a := x.arm / 12) (n := 6) (by kernel_rfl) (by kernel_rfl) (by decide)) ?_
      refine zwx (iN .i64 ((x.arm / 12) % 6)) (run_conv .i64 Tryz.underlying5 Tryz.underlying3 (by kernel_rfl) (by simp only [top]; omega)) ?_
      refine wl_callx (by kernel_rfl) enter14 #[.pointer (some ⟨d.q, 0, none⟩), iN .i64 ((x.arm / 12) % 6)] (by kernel_rfl) (by have h9 := Arm_any (hcl135 ((q129, 3, #[.int .i64 x.keep, .int .i64 x.keep]) :: (q12, 48, stc next3) :: (q8, 52, tnc x) :: (q6, 48, stc now3) :: []) _ h138) (((x.arm / 12) % 6 : Nat) : Int); rw [show (armD D3 (((x.arm / 12) % 6 : Nat) : Int)).2 = 0 by rw [arm_up hUp0.up]] at h9; exact h9) ?_
      rintro _ w139 ⟨rfl, hA4⟩
      refine ⟨_, rfl, ?_⟩
      have hUp := hUp0.arm (z := (((x.arm / 12) % 6 : Nat) : Int)) (by omega)
      generalize (armD D3 (((x.arm / 12) % 6 : Nat) : Int)).1 = D4 at hA4 hUp
      obtain ⟨z140, X141, hcl142, hbe143, h144⟩ := DH.front hA4
      have h145 : HA z140 ((q129, 3, #[.int .i64 x.keep, .int .i64 x.keep]) :: (q12, 48, stc next3) :: (q8, 52, tnc x) :: (q6, 48, stc now3) :: ([] ++ X141)) w139 := h144
      refine wl_nil ?_
      refine then_at rfl ?_
      refine wp_join2 (fun AQ w' => ∃ (sq4 sr4 : Nat) (S4 : SS) (u146 : Nat → Value), AQ = ⟨(.slice o xs.length c :: un :: u27 2 :: pt d.q :: pt sq4 :: iN .i64 0 :: pt q6 :: iN .i64 i :: pt q8 :: iN .i64 16 :: vp :: vd :: pt q12 :: .bool true :: .bool false :: pt d.q :: .tuple #[pt sq0, iN .i64 0] :: pt d.q :: .tuple #[pt sq0, iN .i64 0] :: pt sq0 :: iN .i64 0 :: iN .i64 i :: .slice o xs.length c :: iN .i64 xs.length :: .bool true :: .bool true :: iN .i64 i :: .bool true :: .bool true :: .bool true :: iN .i64 0 :: .bool true :: .bool true :: u17 33 :: u17 34 :: .slice o xs.length c :: iN .i64 i :: .pointer (some (oa.add (i * 11))) :: .agg (tnc x) :: u27 39 :: u27 40 :: u27 41 :: u27 42 :: u27 43 :: u27 44 :: u27 45 :: u27 46 :: u27 47 :: u27 48 :: u27 49 :: u27 50 :: u31 51 :: u31 52 :: u31 53 :: u31 54 :: .tuple #[vp, vd, .agg (stc (nextR now x i))] :: .agg (stc now) :: .agg (tnc x) :: iN .i64 i :: .tuple #[vp, vd, .agg (stc (nextR now x i))] :: vp :: vd :: .agg (stc (nextR now x i)) :: u44 63 :: u44 64 :: u44 65 :: u44 66 :: u44 67 :: u44 68 :: u44 69 :: u44 70 :: u44 71 :: u44 72 :: iN .i64 16 :: .bool true :: .bool true :: iN .i64 16 :: .bool false :: .bool false :: .bool false :: iN .i64 16 :: .bool true :: pt d.q :: .bool true :: .bool false :: .bool false :: pt d.q :: .bool true :: .bool false :: .bool false :: un :: un :: un :: .bool false :: u17 94 :: u17 95 :: u17 96 :: u17 97 :: u17 98 :: u17 99 :: pt d.q :: .pointer (some ⟨q8, 9, none⟩) :: .int .i64 x.keep :: .pointer (some ⟨q8, 9, none⟩) :: .int .i64 x.keep :: .slice (some ⟨q129, 0, none⟩) 2 2 :: iN .i64 0 :: pt d.q :: .pointer (some ⟨q8, 8, none⟩) :: iN .u8 x.arm :: iN .u8 (x.arm / 12) :: iN .u8 ((x.arm / 12) % 6) :: iN .i64 ((x.arm / 12) % 6) :: iN .i64 0 :: u146 114 :: u146 115 :: u146 116 :: u146 117 :: u146 118 :: u146 119 :: u146 120 :: u146 121 :: u146 122 :: u146 123 :: u146 124 :: u146 125 :: u146 126 :: u146 127 :: u146 128 :: u146 129 :: u146 130 :: u146 131 :: u146 132 :: u17 133 :: u17 134 :: u17 135 :: u17 136 :: u17 137 :: u17 138 :: u17 139 :: u17 140 :: u17 141 :: u17 142 :: u17 143 :: u17 144 :: List.replicate 2 un).toArray, []⟩ ∧ (St S4 now3 16777216 ((6000 + 1000 * i) + 1000) ((4 + 60 * i) + 26) ∨ St S4 next3 16777216 ((6000 + 1000 * i) + 1000) ((4 + 60 * i) + 26)) ∧ SH w [] ⟨sq4, sr4, d⟩ S4 [(q12, 48, stc next3), (q8, 52, tnc x), (q6, 48, stc now3)] w') ?_ ?_
      ·skip
       rcases hUp.opn (by omega) (by omega) with ⟨he4, _, hop⟩ | ⟨he4, _, hop⟩
       ·refine wl_region ?_
        refine zwv (.pointer (some ⟨d.q, 0, none⟩)) ?_
        refine wl_callx (by kernel_rfl) enter13 #[.pointer (some ⟨d.q, 0, none⟩)] (by kernel_rfl) (Open_no (hcl142 ((q129, 3, #[.int .i64 x.keep, .int .i64 x.keep]) :: (q12, 48, stc next3) :: (q8, 52, tnc x) :: (q6, 48, stc now3) :: []) _ h145) hUp.dg (by omega) (by decide) (Nat.le_trans hUp.lg (by omega)) he4 (by decide)) ?_
        rintro _ w147 ⟨rfl, hO⟩
        refine ⟨_, rfl, ?_⟩
        obtain ⟨D5, hD5⟩ : ∃ D5, D5 = (opnS D4).1.D := ⟨_, rfl⟩
        rw [← hD5] at hO hop
        obtain ⟨z148, X149, hcl150, hbe151, h152⟩ := DH.front hO
        have h153 : HA z148 ((q129, 3, #[.int .i64 x.keep, .int .i64 x.keep]) :: (q12, 48, stc next3) :: (q8, 52, tnc x) :: (q6, 48, stc now3) :: ([] ++ X149)) w147 := h152
        refine zwv (.tuple #[.pointer none, iN .i64 16]) ?_
        refine zwv (.pointer none) ?_
        refine zwv (iN .i64 16) ?_
        refine zwv (.pointer none) ?_
        refine zwv (iN .i64 16) ?_
        refine wl_nil ?_
        refine then_at rfl ?_
        refine wp_seq ?_
        refine wl_region ?_
        refine zwv (iN .i64 16) ?_
        refine zwx (.bool true) (run_eqi (k := .i64) (a := 16) (b := 16) (by kernel_rfl) (by kernel_rfl) true (by decide)) ?_
        refine wl_nil ?_
        refine then_at rfl ?_
        refine wp_cond_true (by kernel_rfl) ?_
        refine wp_seq ?_
        refine wl_region ?_
        refine zwv (.pointer (some ⟨d.q, 0, none⟩)) ?_
        refine zwv (.pointer (some ⟨q8, 9, none⟩)) ?_
        refine zwx (.int .i64 x.keep) (run_load1 (fun w => Tryz.isAgg3 w) (by kernel_rfl) (((h153.get 2 rfl).cell 9).trans rfl)) ?_
        refine zwv (.pointer (some ⟨q8, 9, none⟩)) ?_
        refine zwx (.int .i64 x.keep) (run_load1 (fun w => Tryz.isAgg3 w) (by kernel_rfl) (((h153.get 2 rfl).cell 9).trans rfl)) ?_
        refine wl_mks (n := 2) (m := 2) (c := #[.int .i64 x.keep, .int .i64 x.keep]) h153 3 (by kernel_rfl) (by kernel_rfl) ?_
        intro q154 w155 (h156 : HA z148 ((q154, 3, #[.int .i64 x.keep, .int .i64 x.keep]) :: (q129, 3, #[.int .i64 x.keep, .int .i64 x.keep]) :: (q12, 48, stc next3) :: (q8, 52, tnc x) :: (q6, 48, stc now3) :: ([] ++ X149)) w155)
        refine wl_callx (by kernel_rfl) enter20 #[.pointer (some ⟨d.q, 0, none⟩), .slice (some ⟨q154, 0, none⟩) 2 2] (by kernel_rfl) (Wake_any (o := some ⟨q154, 0, none⟩) (c := 2) (ks := [x.keep, x.keep]) (hcl150 ((q154, 3, #[.int .i64 x.keep, .int .i64 x.keep]) :: (q129, 3, #[.int .i64 x.keep, .int .i64 x.keep]) :: (q12, 48, stc next3) :: (q8, 52, tnc x) :: (q6, 48, stc now3) :: []) _ h156) (kv2 (z := x.keep) (List.mem_of_getElem? (i := 0) rfl)) (by show 2 ≤ 1000000000; decide) (hD5 ▸ hUp.dg.opnS).db (by decide) (by omega)) ?_
        rintro _ w157 ⟨rfl, hWk6⟩
        refine ⟨_, rfl, ?_⟩
        have hUp6 := hop [x.keep, x.keep]
        have hlw : (wakeD D5 [x.keep, x.keep]).left = 0 := rfl
        generalize wakeD D5 [x.keep, x.keep] = D6 at hWk6 hUp6 hlw
        obtain ⟨z158, X159, hcl160, hbe161, h162⟩ := DH.front hWk6
        have h163 : HA z158 ((q154, 3, #[.int .i64 x.keep, .int .i64 x.keep]) :: (q129, 3, #[.int .i64 x.keep, .int .i64 x.keep]) :: (q12, 48, stc next3) :: (q8, 52, tnc x) :: (q6, 48, stc now3) :: ([] ++ X159)) w157 := h162
        refine wl_nil ?_
        refine then_at rfl ?_
        have hop6 := hUp6.opn (by omega) (by omega)
        replace hop6 := hop6.resolve_left (fun e => e.2.1 hlw)
        obtain ⟨he6, _, hop⟩ := hop6
        refine wl_region ?_
        refine zwv (.pointer (some ⟨d.q, 0, none⟩)) ?_
        refine wl_callx (by kernel_rfl) enter13 #[.pointer (some ⟨d.q, 0, none⟩)] (by kernel_rfl) (Open_d (hcl160 ((q154, 3, #[.int .i64 x.keep, .int .i64 x.keep]) :: (q129, 3, #[.int .i64 x.keep, .int .i64 x.keep]) :: (q12, 48, stc next3) :: (q8, 52, tnc x) :: (q6, 48, stc now3) :: []) _ h163) hUp6.dg (by omega) (by decide) (Nat.le_trans hUp6.lg (by omega)) he6) ?_
        rintro _ w164 ⟨sq4, sr4, rfl, hO⟩
        refine ⟨_, rfl, ?_⟩
        generalize (opnS D6).1 = S4 at hO hop
        obtain ⟨m165, X165, hc165, rs165, nx165, hrs165, hK165, hH165⟩ := SH.opn hO
        have h166 : HA ⟨w, m165 :: (sr4, .mp (eR rs165) nx165) :: []⟩ ((sq4, 73, scell d.q sr4 ((laidR S4.rows)) S4.size) :: (q154, 3, #[.int .i64 x.keep, .int .i64 x.keep]) :: (q129, 3, #[.int .i64 x.keep, .int .i64 x.keep]) :: (q12, 48, stc next3) :: (q8, 52, tnc x) :: (q6, 48, stc now3) :: ([] ++ X165)) w164 := hH165
        refine zwv (.tuple #[.pointer (some ⟨sq4, 0, none⟩), iN .i64 0]) ?_
        refine zwv (.pointer (some ⟨sq4, 0, none⟩)) ?_
        refine zwv (iN .i64 0) ?_
        refine zwv (.pointer (some ⟨sq4, 0, none⟩)) ?_
        refine zwv (iN .i64 0) ?_
        refine wl_nil ?_
        exact ⟨rfl, sq4, sr4, S4, fun ii => (([(114, .tuple #[.pointer none, iN .i64 16]), (115, .pointer (some ⟨d.q, 0, none⟩)), (116, .tuple #[.pointer none, iN .i64 16]), (117, .pointer none), (118, iN .i64 16), (119, iN .i64 16), (120, .bool true), (121, .pointer (some ⟨d.q, 0, none⟩)), (122, .pointer (some ⟨q8, 9, none⟩)), (123, .int .i64 x.keep), (124, .pointer (some ⟨q8, 9, none⟩)), (125, .int .i64 x.keep), (126, .slice (some ⟨q154, 0, none⟩) 2 2), (127, iN .i64 0), (128, .tuple #[.pointer (some ⟨sq4, 0, none⟩), iN .i64 0]), (129, .pointer (some ⟨d.q, 0, none⟩)), (130, .tuple #[.pointer (some ⟨sq4, 0, none⟩), iN .i64 0]), (131, .pointer (some ⟨sq4, 0, none⟩)), (132, iN .i64 0)] : List (Nat × Value)).find? (·.1 == ii)).elim undef (·.2), by kernel_rfl, hop.imp (fun h => h.mono (Nat.le_refl _) (by omega)) (fun h => h.mono (Nat.le_refl _) (by omega)), SH.sub (hc165 _ _ ((q154, 3, #[.int .i64 x.keep, .int .i64 x.keep]) :: (q129, 3, #[.int .i64 x.keep, .int .i64 x.keep]) :: (q12, 48, stc next3) :: (q8, 52, tnc x) :: (q6, 48, stc now3) :: []) _ ⟨_, _, hrs165, hK165, h166⟩) (List.Sublist.cons _ (List.Sublist.cons _ (List.Sublist.cons_cons _ (List.Sublist.cons_cons _ (List.Sublist.cons_cons _ (List.nil_sublist _))))))⟩
       ·refine wl_region ?_
        refine zwv (.pointer (some ⟨d.q, 0, none⟩)) ?_
        refine wl_callx (by kernel_rfl) enter13 #[.pointer (some ⟨d.q, 0, none⟩)] (by kernel_rfl) (Open_d (hcl142 ((q129, 3, #[.int .i64 x.keep, .int .i64 x.keep]) :: (q12, 48, stc next3) :: (q8, 52, tnc x) :: (q6, 48, stc now3) :: []) _ h145) hUp.dg (by omega) (by decide) (Nat.le_trans hUp.lg (by omega)) he4) ?_
        rintro _ w167 ⟨sq4, sr4, rfl, hO⟩
        refine ⟨_, rfl, ?_⟩
        generalize (opnS D4).1 = S4 at hO hop
        obtain ⟨m168, X168, hc168, rs168, nx168, hrs168, hK168, hH168⟩ := SH.opn hO
        have h169 : HA ⟨w, m168 :: (sr4, .mp (eR rs168) nx168) :: []⟩ ((sq4, 73, scell d.q sr4 ((laidR S4.rows)) S4.size) :: (q129, 3, #[.int .i64 x.keep, .int .i64 x.keep]) :: (q12, 48, stc next3) :: (q8, 52, tnc x) :: (q6, 48, stc now3) :: ([] ++ X168)) w167 := hH168
        refine zwv (.tuple #[.pointer (some ⟨sq4, 0, none⟩), iN .i64 0]) ?_
        refine zwv (.pointer (some ⟨sq4, 0, none⟩)) ?_
        refine zwv (iN .i64 0) ?_
        refine zwv (.pointer (some ⟨sq4, 0, none⟩)) ?_
        refine zwv (iN .i64 0) ?_
        refine wl_nil ?_
        refine then_at rfl ?_
        refine wp_seq ?_
        refine wl_region ?_
        refine zwv (iN .i64 0) ?_
        refine zwx (.bool false) (run_eqi (k := .i64) (a := 0) (b := 16) (by kernel_rfl) (by kernel_rfl) false (by decide)) ?_
        refine wl_nil ?_
        refine then_at rfl ?_
        refine wp_cond_false (by kernel_rfl) ?_
        refine wp_skip ?_
        exact ⟨rfl, sq4, sr4, S4, fun ii => (([(114, .tuple #[.pointer (some ⟨sq4, 0, none⟩), iN .i64 0]), (115, .pointer (some ⟨d.q, 0, none⟩)), (116, .tuple #[.pointer (some ⟨sq4, 0, none⟩), iN .i64 0]), (117, .pointer (some ⟨sq4, 0, none⟩)), (118, iN .i64 0), (119, iN .i64 0), (120, .bool false), (121, u17 121), (122, u17 122), (123, u17 123), (124, u17 124), (125, u17 125), (126, u17 126), (127, u17 127), (128, u17 128), (129, u17 129), (130, u17 130), (131, u17 131), (132, u17 132)] : List (Nat × Value)).find? (·.1 == ii)).elim undef (·.2), by kernel_rfl, hop.imp (fun h => h.mono (Nat.le_refl _) (by omega)) (fun h => h.mono (Nat.le_refl _) (by omega)), SH.sub (hc168 _ _ ((q129, 3, #[.int .i64 x.keep, .int .i64 x.keep]) :: (q12, 48, stc next3) :: (q8, 52, tnc x) :: (q6, 48, stc now3) :: []) _ ⟨_, _, hrs168, hK168, h169⟩) (List.Sublist.cons _ (List.Sublist.cons_cons _ (List.Sublist.cons_cons _ (List.Sublist.cons_cons _ (List.nil_sublist _)))))⟩
      ·rintro _ w170 ⟨sq4, sr4, S4, u146, rfl, hS4s, hS4⟩
       obtain ⟨m171, X171, hc171, rs171, nx171, hrs171, hK171, hH171⟩ := SH.opn hS4
       have h172 : HA ⟨w, m171 :: (sr4, .mp (eR rs171) nx171) :: []⟩ ((sq4, 73, scell d.q sr4 ((laidR S4.rows)) S4.size) :: (q12, 48, stc next3) :: (q8, 52, tnc x) :: (q6, 48, stc now3) :: ([] ++ X171)) w170 := hH171
       refine wp_seq ?_
       have hcase : St S4 next3 16777216 ((6000 + 1000 * i) + 1000) ((4 + 60 * i) + 26) ∨ (St S4 now3 16777216 ((6000 + 1000 * i) + 1000) ((4 + 60 * i) + 26) ∧ next3 ≠ now3) := by
        rcases hS4s with h9 | h9
        ·by_cases e9 : next3 = now3
         ·exact .inl (by rw [e9]; exact h9)
         ·exact .inr ⟨h9, e9⟩
        ·exact .inl h9
       rcases hcase with hS4n | ⟨hS4o, hne⟩
       ·refine wl_region ?_
        refine zwv (.pointer (some ⟨d.q, 0, none⟩)) ?_
        refine wl_callx (by kernel_rfl) enter14 #[.pointer (some ⟨d.q, 0, none⟩), iN .i64 0] (by kernel_rfl) (by have h9 := arm_S (hc171 _ _ ((q12, 48, stc next3) :: (q8, 52, tnc x) :: (q6, 48, stc now3) :: []) _ ⟨_, _, hrs171, hK171, h172⟩) ((0 : Nat) : Int); rw [show (armD S4.D ((0 : Nat) : Int)).2 = 0 by rw [arm_up hS4n.up]] at h9; exact h9) ?_
        rintro _ w175 ⟨rfl, hA174⟩
        refine ⟨_, rfl, ?_⟩
        have hA174s := hS4n.arm (z := ((0 : Nat) : Int)) (by omega)
        have hA174l : (armD S4.D ((0 : Nat) : Int)).1.left = 0 := by rw [arm_up hS4n.up]
        obtain ⟨Sa173, Sa173e⟩ : ∃ S9 : SS, S9 = ⟨(armD S4.D ((0 : Nat) : Int)).1, S4.rows, S4.size⟩ := ⟨_, rfl⟩
        rw [← Sa173e] at hA174 hA174s
        have hA174l : Sa173.D.left = 0 := by rw [Sa173e]; exact hA174l
        clear Sa173e
        obtain ⟨m176, X176, hc176, rs176, nx176, hrs176, hK176, hH176⟩ := SH.opn hA174
        have h177 : HA ⟨w, m176 :: (sr4, .mp (eR rs176) nx176) :: []⟩ ((sq4, 73, scell d.q sr4 ((laidR Sa173.rows)) Sa173.size) :: (q12, 48, stc next3) :: (q8, 52, tnc x) :: (q6, 48, stc now3) :: ([] ++ X176)) w175 := hH176
        refine wl_nil ?_
        refine then_at rfl ?_
        refine wp_seq ?_
        refine wp_seq ?_
        refine wl_region ?_
        refine zwv (iN .i64 0) ?_
        refine zwx (.bool false) (run_nei (k := .i64) (a := 0) (b := 0) (by kernel_rfl) (by kernel_rfl) false (by decide)) ?_
        refine wl_nil ?_
        refine then_at rfl ?_
        refine wp_cond_false (by kernel_rfl) ?_
        refine wp_skip ?_
        refine then_at rfl ?_
        refine wp_seq ?_
        refine wp_seq ?_
        refine wl_region ?_
        refine zwv (.pointer (some ⟨sq4, 0, none⟩)) ?_
        refine zwx (.agg (stc next3)) (run_load_blk (by kernel_rfl) (h177.get 1 rfl) Tryz.underlying48 rfl (by rw [info48, stc_size, hNx3.1])) ?_
        refine wl_call (v := .bool true) h177 (by kernel_rfl) enter19 #[.pointer (some ⟨sq4, 0, none⟩), .agg (stc next3)] (by kernel_rfl) (says_S (hc176 _ _ ((q12, 48, stc next3) :: (q8, 52, tnc x) :: (q6, 48, stc now3) :: []) _ ⟨_, _, hrs176, hK176, h177⟩) hA174s) ?_
        intro w178 h179
        refine wl_nil ?_
        refine then_at (F := ⟨(.slice o xs.length c :: un :: u27 2 :: pt d.q :: pt sq4 :: iN .i64 0 :: pt q6 :: iN .i64 i :: pt q8 :: iN .i64 16 :: vp :: vd :: pt q12 :: .bool true :: .bool false :: pt d.q :: .tuple #[pt sq0, iN .i64 0] :: pt d.q :: .tuple #[pt sq0, iN .i64 0] :: pt sq0 :: iN .i64 0 :: iN .i64 i :: .slice o xs.length c :: iN .i64 xs.length :: .bool true :: .bool true :: iN .i64 i :: .bool true :: .bool true :: .bool true :: iN .i64 0 :: .bool true :: .bool true :: u17 33 :: u17 34 :: .slice o xs.length c :: iN .i64 i :: .pointer (some (oa.add (i * 11))) :: .agg (tnc x) :: u27 39 :: u27 40 :: u27 41 :: u27 42 :: u27 43 :: u27 44 :: u27 45 :: u27 46 :: u27 47 :: u27 48 :: u27 49 :: u27 50 :: u31 51 :: u31 52 :: u31 53 :: u31 54 :: .tuple #[vp, vd, .agg (stc (nextR now x i))] :: .agg (stc now) :: .agg (tnc x) :: iN .i64 i :: .tuple #[vp, vd, .agg (stc (nextR now x i))] :: vp :: vd :: .agg (stc (nextR now x i)) :: u44 63 :: u44 64 :: u44 65 :: u44 66 :: u44 67 :: u44 68 :: u44 69 :: u44 70 :: u44 71 :: u44 72 :: iN .i64 16 :: .bool true :: .bool true :: iN .i64 16 :: .bool false :: .bool false :: .bool false :: iN .i64 16 :: .bool true :: pt d.q :: .bool true :: .bool false :: .bool false :: pt d.q :: .bool true :: .bool false :: .bool false :: un :: un :: un :: .bool false :: u17 94 :: u17 95 :: u17 96 :: u17 97 :: u17 98 :: u17 99 :: pt d.q :: .pointer (some ⟨q8, 9, none⟩) :: .int .i64 x.keep :: .pointer (some ⟨q8, 9, none⟩) :: .int .i64 x.keep :: .slice (some ⟨q129, 0, none⟩) 2 2 :: iN .i64 0 :: pt d.q :: .pointer (some ⟨q8, 8, none⟩) :: iN .u8 x.arm :: iN .u8 (x.arm / 12) :: iN .u8 ((x.arm / 12) % 6) :: iN .i64 ((x.arm / 12) % 6) :: iN .i64 0 :: u146 114 :: u146 115 :: u146 116 :: u146 117 :: u146 118 :: u146 119 :: u146 120 :: u146 121 :: u146 122 :: u146 123 :: u146 124 :: u146 125 :: u146 126 :: u146 127 :: u146 128 :: u146 129 :: u146 130 :: u146 131 :: u146 132 :: pt d.q :: iN .i64 0 :: iN .i64 0 :: .bool false :: pt sq4 :: .agg (stc next3) :: .bool true :: u17 140 :: u17 141 :: u17 142 :: u17 143 :: u17 144 :: List.replicate 2 un).toArray, []⟩) (by kernel_rfl) ?_
        refine wp_cond_true (by kernel_rfl) ?_
        refine wl_region ?_
        refine zwx (.agg (stc next3)) (run_load_blk (by kernel_rfl) (h179.get 1 rfl) Tryz.underlying48 rfl (by rw [info48, stc_size, hNx3.1])) ?_
        refine wl_fill (c' := stc next3) h179 3 rfl (by kernel_rfl) (by kernel_rfl) (by kernel_rfl) (by rw [stc_size, stc_size, hNx3.1, hNo3.1]) (by rw [info48, stc_size, hNx3.1]) (stc_one _) ?_
        intro w180 (h181 : HA ⟨w, m176 :: (sr4, .mp (eR rs176) nx176) :: []⟩ ((sq4, 73, scell d.q sr4 ((laidR Sa173.rows)) Sa173.size) :: (q12, 48, stc next3) :: (q8, 52, tnc x) :: (q6, 48, stc next3) :: ([] ++ X176)) w180)
        refine wl_nil ?_
        refine then_at rfl ?_
        refine wp_seq ?_
        refine wl_region ?_
        refine zwv (.pointer (some ⟨sq4, 0, none⟩)) ?_
        refine zwx (.agg (stc next3)) (run_load_blk (by kernel_rfl) (h181.get 3 rfl) Tryz.underlying48 rfl (by rw [info48, stc_size, hNx3.1])) ?_
        refine wl_call (v := .bool true) h181 (by kernel_rfl) enter19 #[.pointer (some ⟨sq4, 0, none⟩), .agg (stc next3)] (by kernel_rfl) (says_S (hc176 _ _ ((q12, 48, stc next3) :: (q8, 52, tnc x) :: (q6, 48, stc next3) :: []) _ ⟨_, _, hrs176, hK176, h181⟩) hA174s) ?_
        intro w182 h183
        refine zwv (.bool false) ?_
        refine wl_nil ?_
        refine then_at rfl ?_
        refine wp_cond_false (by kernel_rfl) ?_
        refine wp_skip ?_
        refine block_normal ?_
        refine then_at rfl ?_
        refine wl_region ?_
        refine zwv (iN .i64 i) ?_
        refine zwx (iN .i64 (i + 1)) (run_add (k := .i64) (a := i) (b := 1) (by kernel_rfl) (by kernel_rfl) (by first | omega | (simp only [top]; omega))) ?_
        refine zwv (iN .i64 (i + 1)) ?_
        refine wl_nil ?_
        exact then_I ⟨sq4, sr4, Sa173, next3, fun ii => (([(2, u27 2), (8, .pointer (some ⟨q8, 0, none⟩)), (9, iN .i64 16), (10, vp), (11, vd), (12, .pointer (some ⟨q12, 0, none⟩)), (21, iN .i64 i), (22, .slice o xs.length c), (23, iN .i64 xs.length), (24, .bool true), (25, .bool true), (26, iN .i64 i), (27, .bool true), (28, .bool true), (29, .bool true), (30, iN .i64 0), (31, .bool true), (32, .bool true), (33, iN .i64 i), (34, iN .i64 (i + 1)), (35, .slice o xs.length c), (36, iN .i64 i), (37, .pointer (some (oa.add (i * 11)))), (38, .agg (tnc x)), (39, u27 39), (40, u27 40), (41, u27 41), (42, u27 42), (43, u27 43), (44, u27 44), (45, u27 45), (46, u27 46), (47, u27 47), (48, u27 48), (49, u27 49), (50, u27 50), (51, u31 51), (52, u31 52), (53, u31 53), (54, u31 54), (55, .tuple #[vp, vd, .agg (stc (nextR now x i))]), (56, .agg (stc now)), (57, .agg (tnc x)), (58, iN .i64 i), (59, .tuple #[vp, vd, .agg (stc (nextR now x i))]), (60, vp), (61, vd), (62, .agg (stc (nextR now x i))), (63, u44 63), (64, u44 64), (65, u44 65), (66, u44 66), (67, u44 67), (68, u44 68), (69, u44 69), (70, u44 70), (71, u44 71), (72, u44 72), (73, iN .i64 16), (74, .bool true), (75, .bool true), (76, iN .i64 16), (77, .bool false), (78, .bool false), (79, .bool false), (80, iN .i64 16), (81, .bool true), (82, .pointer (some ⟨d.q, 0, none⟩)), (83, .bool true), (84, .bool false), (85, .bool false), (86, .pointer (some ⟨d.q, 0, none⟩)), (87, .bool true), (88, .bool false), (89, .bool false), (90, undef), (91, undef), (92, undef), (93, .bool false), (94, u17 94), (95, u17 95), (96, u17 96), (97, u17 97), (98, u17 98), (99, u17 99), (100, .pointer (some ⟨d.q, 0, none⟩)), (101, .pointer (some ⟨q8, 9, none⟩)), (102, .int .i64 x.keep), (103, .pointer (some ⟨q8, 9, none⟩)), (104, .int .i64 x.keep), (105, .slice (some ⟨q129, 0, none⟩) 2 2), (106, iN .i64 0), (107, .pointer (some ⟨d.q, 0, none⟩)), (108, .pointer (some ⟨q8, 8, none⟩)), (109, iN .u8 x.arm), (110, iN .u8 (x.arm / 12)), (111, iN .u8 ((x.arm / 12) % 6)), (112, iN .i64 ((x.arm / 12) % 6)), (113, iN .i64 0), (114, u146 114), (115, u146 115), (116, u146 116), (117, u146 117), (118, u146 118), (119, u146 119), (120, u146 120), (121, u146 121), (122, u146 122), (123, u146 123), (124, u146 124), (125, u146 125), (126, u146 126), (127, u146 127), (128, u146 128), (129, u146 129), (130, u146 130), (131, u146 131), (132, u146 132), (133, .pointer (some ⟨d.q, 0, none⟩)), (134, iN .i64 0), (135, iN .i64 0), (136, .bool false), (137, .pointer (some ⟨sq4, 0, none⟩)), (138, .agg (stc next3)), (139, .bool true), (140, .agg (stc next3)), (141, .pointer (some ⟨sq4, 0, none⟩)), (142, .agg (stc next3)), (143, .bool true), (144, .bool false)] : List (Nat × Value)).find? (·.1 == ii)).elim undef (·.2), by kernel_rfl, hA174s.mono (by omega) (by omega), hA174l, SH.sub (hc176 _ _ ((q12, 48, stc next3) :: (q8, 52, tnc x) :: (q6, 48, stc next3) :: []) _ ⟨_, _, hrs176, hK176, h183⟩) (List.Sublist.cons _ (List.Sublist.cons _ (List.Sublist.cons_cons _ (List.nil_sublist _))))⟩
       ·refine wl_region ?_
        refine zwv (.pointer (some ⟨d.q, 0, none⟩)) ?_
        refine wl_callx (by kernel_rfl) enter14 #[.pointer (some ⟨d.q, 0, none⟩), iN .i64 0] (by kernel_rfl) (by have h9 := arm_S (hc171 _ _ ((q12, 48, stc next3) :: (q8, 52, tnc x) :: (q6, 48, stc now3) :: []) _ ⟨_, _, hrs171, hK171, h172⟩) ((0 : Nat) : Int); rw [show (armD S4.D ((0 : Nat) : Int)).2 = 0 by rw [arm_up hS4o.up]] at h9; exact h9) ?_
        rintro _ w186 ⟨rfl, hA185⟩
        refine ⟨_, rfl, ?_⟩
        have hA185s := hS4o.arm (z := ((0 : Nat) : Int)) (by omega)
        have hA185l : (armD S4.D ((0 : Nat) : Int)).1.left = 0 := by rw [arm_up hS4o.up]
        obtain ⟨Sa184, Sa184e⟩ : ∃ S9 : SS, S9 = ⟨(armD S4.D ((0 : Nat) : Int)).1, S4.rows, S4.size⟩ := ⟨_, rfl⟩
        rw [← Sa184e] at hA185 hA185s
        have hA185l : Sa184.D.left = 0 := by rw [Sa184e]; exact hA185l
        clear Sa184e
        obtain ⟨m187, X187, hc187, rs187, nx187, hrs187, hK187, hH187⟩ := SH.opn hA185
        have h188 : HA ⟨w, m187 :: (sr4, .mp (eR rs187) nx187) :: []⟩ ((sq4, 73, scell d.q sr4 ((laidR Sa184.rows)) Sa184.size) :: (q12, 48, stc next3) :: (q8, 52, tnc x) :: (q6, 48, stc now3) :: ([] ++ X187)) w186 := hH187
        refine wl_nil ?_
        refine then_at rfl ?_
        refine wp_seq ?_
        refine wp_seq ?_
        refine wl_region ?_
        refine zwv (iN .i64 0) ?_
        refine zwx (.bool false) (run_nei (k := .i64) (a := 0) (b := 0) (by kernel_rfl) (by kernel_rfl) false (by decide)) ?_
        refine wl_nil ?_
        refine then_at rfl ?_
        refine wp_cond_false (by kernel_rfl) ?_
        refine wp_skip ?_
        refine then_at rfl ?_
        refine wp_seq ?_
        refine wp_seq ?_
        refine wl_region ?_
        refine zwv (.pointer (some ⟨sq4, 0, none⟩)) ?_
        refine zwx (.agg (stc next3)) (run_load_blk (by kernel_rfl) (h188.get 1 rfl) Tryz.underlying48 rfl (by rw [info48, stc_size, hNx3.1])) ?_
        refine wl_call (v := .bool false) h188 (by kernel_rfl) enter19 #[.pointer (some ⟨sq4, 0, none⟩), .agg (stc next3)] (by kernel_rfl) (says_other (hc187 _ _ ((q12, 48, stc next3) :: (q8, 52, tnc x) :: (q6, 48, stc now3) :: []) _ ⟨_, _, hrs187, hK187, h188⟩) hA185s hNx3 hne) ?_
        intro w189 h190
        refine wl_nil ?_
        refine then_at rfl ?_
        refine wp_cond_false (by kernel_rfl) ?_
        refine wp_skip ?_
        refine then_at rfl ?_
        refine wp_seq ?_
        refine wl_region ?_
        refine zwv (.pointer (some ⟨sq4, 0, none⟩)) ?_
        refine zwx (.agg (stc now3)) (run_load_blk (by kernel_rfl) (h190.get 3 rfl) Tryz.underlying48 rfl (by rw [info48, stc_size, hNo3.1])) ?_
        refine wl_call (v := .bool true) h190 (by kernel_rfl) enter19 #[.pointer (some ⟨sq4, 0, none⟩), .agg (stc now3)] (by kernel_rfl) (says_S (hc187 _ _ ((q12, 48, stc next3) :: (q8, 52, tnc x) :: (q6, 48, stc now3) :: []) _ ⟨_, _, hrs187, hK187, h190⟩) hA185s) ?_
        intro w191 h192
        refine zwv (.bool false) ?_
        refine wl_nil ?_
        refine then_at rfl ?_
        refine wp_cond_false (by kernel_rfl) ?_
        refine wp_skip ?_
        refine block_normal ?_
        refine then_at rfl ?_
        refine wl_region ?_
        refine zwv (iN .i64 i) ?_
        refine zwx (iN .i64 (i + 1)) (run_add (k := .i64) (a := i) (b := 1) (by kernel_rfl) (by kernel_rfl) (by first | omega | (simp only [top]; omega))) ?_
        refine zwv (iN .i64 (i + 1)) ?_
        refine wl_nil ?_
        exact then_I ⟨sq4, sr4, Sa184, now3, fun ii => (([(2, u27 2), (8, .pointer (some ⟨q8, 0, none⟩)), (9, iN .i64 16), (10, vp), (11, vd), (12, .pointer (some ⟨q12, 0, none⟩)), (21, iN .i64 i), (22, .slice o xs.length c), (23, iN .i64 xs.length), (24, .bool true), (25, .bool true), (26, iN .i64 i), (27, .bool true), (28, .bool true), (29, .bool true), (30, iN .i64 0), (31, .bool true), (32, .bool true), (33, iN .i64 i), (34, iN .i64 (i + 1)), (35, .slice o xs.length c), (36, iN .i64 i), (37, .pointer (some (oa.add (i * 11)))), (38, .agg (tnc x)), (39, u27 39), (40, u27 40), (41, u27 41), (42, u27 42), (43, u27 43), (44, u27 44), (45, u27 45), (46, u27 46), (47, u27 47), (48, u27 48), (49, u27 49), (50, u27 50), (51, u31 51), (52, u31 52), (53, u31 53), (54, u31 54), (55, .tuple #[vp, vd, .agg (stc (nextR now x i))]), (56, .agg (stc now)), (57, .agg (tnc x)), (58, iN .i64 i), (59, .tuple #[vp, vd, .agg (stc (nextR now x i))]), (60, vp), (61, vd), (62, .agg (stc (nextR now x i))), (63, u44 63), (64, u44 64), (65, u44 65), (66, u44 66), (67, u44 67), (68, u44 68), (69, u44 69), (70, u44 70), (71, u44 71), (72, u44 72), (73, iN .i64 16), (74, .bool true), (75, .bool true), (76, iN .i64 16), (77, .bool false), (78, .bool false), (79, .bool false), (80, iN .i64 16), (81, .bool true), (82, .pointer (some ⟨d.q, 0, none⟩)), (83, .bool true), (84, .bool false), (85, .bool false), (86, .pointer (some ⟨d.q, 0, none⟩)), (87, .bool true), (88, .bool false), (89, .bool false), (90, undef), (91, undef), (92, undef), (93, .bool false), (94, u17 94), (95, u17 95), (96, u17 96), (97, u17 97), (98, u17 98), (99, u17 99), (100, .pointer (some ⟨d.q, 0, none⟩)), (101, .pointer (some ⟨q8, 9, none⟩)), (102, .int .i64 x.keep), (103, .pointer (some ⟨q8, 9, none⟩)), (104, .int .i64 x.keep), (105, .slice (some ⟨q129, 0, none⟩) 2 2), (106, iN .i64 0), (107, .pointer (some ⟨d.q, 0, none⟩)), (108, .pointer (some ⟨q8, 8, none⟩)), (109, iN .u8 x.arm), (110, iN .u8 (x.arm / 12)), (111, iN .u8 ((x.arm / 12) % 6)), (112, iN .i64 ((x.arm / 12) % 6)), (113, iN .i64 0), (114, u146 114), (115, u146 115), (116, u146 116), (117, u146 117), (118, u146 118), (119, u146 119), (120, u146 120), (121, u146 121), (122, u146 122), (123, u146 123), (124, u146 124), (125, u146 125), (126, u146 126), (127, u146 127), (128, u146 128), (129, u146 129), (130, u146 130), (131, u146 131), (132, u146 132), (133, .pointer (some ⟨d.q, 0, none⟩)), (134, iN .i64 0), (135, iN .i64 0), (136, .bool false), (137, .pointer (some ⟨sq4, 0, none⟩)), (138, .agg (stc next3)), (139, .bool false), (140, u17 140), (141, .pointer (some ⟨sq4, 0, none⟩)), (142, .agg (stc now3)), (143, .bool true), (144, .bool false)] : List (Nat × Value)).find? (·.1 == ii)).elim undef (·.2), by kernel_rfl, hA185s.mono (by omega) (by omega), hA185l, SH.sub (hc187 _ _ ((q12, 48, stc next3) :: (q8, 52, tnc x) :: (q6, 48, stc now3) :: []) _ ⟨_, _, hrs187, hK187, h192⟩) (List.Sublist.cons _ (List.Sublist.cons _ (List.Sublist.cons_cons _ (List.nil_sublist _))))⟩
    ·skip
     refine wp_seq ?_
     rcases hf2 with ⟨rfl, hSt2⟩ | ⟨rfl, hDn2⟩
     ·refine wl_region ?_
      refine zwv (iN .i64 0) ?_
      refine zwx (.bool true) (run_eqi (k := .i64) (a := 0) (b := 0) (by kernel_rfl) (by kernel_rfl) true (by decide)) ?_
      refine wl_nil ?_
      refine then_at rfl ?_
      refine wp_cond_true (by kernel_rfl) ?_
      refine wp_seq ?_
      have htu := hSt2.turn (by omega) x i
      rcases htu with ⟨hdoe, _, hdo3⟩ | ⟨_, hro3, _⟩ | ⟨hdoe, _, hdo3⟩
      ·refine wl_region ?_
       refine zwv (.pointer (some ⟨sq, 0, none⟩)) ?_
       refine zwv (vp) ?_
       refine zwv (vd) ?_
       refine wl_callx (by kernel_rfl) enter17 #[.pointer (some ⟨sq, 0, none⟩), vp, vd] (by kernel_rfl) (by have h9 := do_S (hc33 _ _ ((q12, 48, stc (nextR now x i)) :: (q8, 52, tnc x) :: (q6, 48, stc now) :: (Lp ++ Ld)) _ ⟨_, _, hrs33, hK33, (HA.perm h43 (List.perm_middle (l₁ := ([(q12, 48, stc (nextR now x i))] : BL))))⟩) hSt2 (by omega) (by decide) (by omega) hRp hRd (fun y hy => List.mem_cons_of_mem _ (List.mem_cons_of_mem _ (List.mem_cons_of_mem _ (List.mem_append_left _ hy)))) (fun y hy => List.mem_cons_of_mem _ (List.mem_cons_of_mem _ (List.mem_cons_of_mem _ (List.mem_append_right _ hy)))); rw [hdoe] at h9; exact h9) ?_
       rintro _ w193 ⟨rfl, hP3⟩
       refine ⟨_, rfl, ?_⟩
       generalize (DoS S2 (chP x i (nP x)) (chD x (nD x))).1 = S3 at hP3 hdo3
       obtain ⟨m194, X194, hc194, rs194, nx194, hrs194, hK194, hH194⟩ := SH.opn hP3
       have h195 : HA ⟨w, m194 :: (sr, .mp (eR rs194) nx194) :: []⟩ ((sq, 73, scell d.q sr ((laidR S3.rows)) S3.size) :: (q12, 48, stc (nextR now x i)) :: (q8, 52, tnc x) :: (q6, 48, stc now) :: ((Lp ++ Ld) ++ X194)) w193 := hH194
       refine zwv (iN .i64 16) ?_
       refine wl_nil ?_
       refine then_at rfl ?_
       refine wp_seq ?_
       refine wl_region ?_
       refine zwv (iN .i64 16) ?_
       refine zwx (.bool false) (run_eqi (k := .i64) (a := 16) (b := 0) (by kernel_rfl) (by kernel_rfl) false (by decide)) ?_
       refine wl_nil ?_
       refine then_at rfl ?_
       refine wp_cond_false (by kernel_rfl) ?_
       refine wp_skip ?_
       exact ⟨rfl, S3, 16, now, nextR now x i, fun ii => (([(63, iN .i64 0), (64, .bool true), (65, .pointer (some ⟨sq, 0, none⟩)), (66, vp), (67, vd), (68, iN .i64 16), (69, iN .i64 16), (70, .bool false), (71, u17 71), (72, u17 72)] : List (Nat × Value)).find? (·.1 == ii)).elim undef (·.2), by kernel_rfl, .inr ⟨rfl, hdo3.mono (by omega) (by omega)⟩, hNo.next x i, SH.sub (hc194 _ _ ((q12, 48, stc (nextR now x i)) :: (q8, 52, tnc x) :: (q6, 48, stc now) :: (Lp ++ Ld)) _ ⟨_, _, hrs194, hK194, h195⟩) (List.Sublist.cons_cons _ (List.Sublist.cons_cons _ (List.Sublist.cons_cons _ (List.nil_sublist _))))⟩
      ·omega
      ·refine wl_region ?_
       refine zwv (.pointer (some ⟨sq, 0, none⟩)) ?_
       refine zwv (vp) ?_
       refine zwv (vd) ?_
       refine wl_callx (by kernel_rfl) enter17 #[.pointer (some ⟨sq, 0, none⟩), vp, vd] (by kernel_rfl) (by have h9 := do_S (hc33 _ _ ((q12, 48, stc (nextR now x i)) :: (q8, 52, tnc x) :: (q6, 48, stc now) :: (Lp ++ Ld)) _ ⟨_, _, hrs33, hK33, (HA.perm h43 (List.perm_middle (l₁ := ([(q12, 48, stc (nextR now x i))] : BL))))⟩) hSt2 (by omega) (by decide) (by omega) hRp hRd (fun y hy => List.mem_cons_of_mem _ (List.mem_cons_of_mem _ (List.mem_cons_of_mem _ (List.mem_append_left _ hy)))) (fun y hy => List.mem_cons_of_mem _ (List.mem_cons_of_mem _ (List.mem_cons_of_mem _ (List.mem_append_right _ hy)))); rw [hdoe] at h9; exact h9) ?_
       rintro _ w196 ⟨rfl, hP3⟩
       refine ⟨_, rfl, ?_⟩
       generalize (DoS S2 (chP x i (nP x)) (chD x (nD x))).1 = S3 at hP3 hdo3
       obtain ⟨m197, X197, hc197, rs197, nx197, hrs197, hK197, hH197⟩ := SH.opn hP3
       have h198 : HA ⟨w, m197 :: (sr, .mp (eR rs197) nx197) :: []⟩ ((sq, 73, scell d.q sr ((laidR S3.rows)) S3.size) :: (q12, 48, stc (nextR now x i)) :: (q8, 52, tnc x) :: (q6, 48, stc now) :: ((Lp ++ Ld) ++ X197)) w196 := hH197
       refine zwv (iN .i64 0) ?_
       refine wl_nil ?_
       refine then_at rfl ?_
       refine wp_seq ?_
       refine wl_region ?_
       refine zwv (iN .i64 0) ?_
       refine zwx (.bool true) (run_eqi (k := .i64) (a := 0) (b := 0) (by kernel_rfl) (by kernel_rfl) true (by decide)) ?_
       refine wl_nil ?_
       refine then_at rfl ?_
       refine wp_cond_true (by kernel_rfl) ?_
       refine wl_region ?_
       refine zwx (.agg (stc (nextR now x i))) (run_load_blk (by kernel_rfl) (h198.get 1 rfl) Tryz.underlying48 rfl (by rw [info48, stc_size, hnxl])) ?_
       refine wl_fill (c' := stc (nextR now x i)) h198 3 rfl (by kernel_rfl) (by kernel_rfl) (by kernel_rfl) (by rw [stc_size, stc_size, hnxl, hNo.1]) (by rw [info48, stc_size, hnxl]) (stc_one _) ?_
       intro w199 (h200 : HA ⟨w, m197 :: (sr, .mp (eR rs197) nx197) :: []⟩ ((sq, 73, scell d.q sr ((laidR S3.rows)) S3.size) :: (q12, 48, stc (nextR now x i)) :: (q8, 52, tnc x) :: (q6, 48, stc (nextR now x i)) :: ((Lp ++ Ld) ++ X197)) w199)
       refine wl_nil ?_
       exact ⟨rfl, S3, 0, nextR now x i, nextR now x i, fun ii => (([(63, iN .i64 0), (64, .bool true), (65, .pointer (some ⟨sq, 0, none⟩)), (66, vp), (67, vd), (68, iN .i64 0), (69, iN .i64 0), (70, .bool true), (71, .agg (stc (nextR now x i))), (72, u17 72)] : List (Nat × Value)).find? (·.1 == ii)).elim undef (·.2), by kernel_rfl, .inl ⟨rfl, hdo3.mono (by omega) (by omega)⟩, hNo.next x i, SH.sub (hc197 _ _ ((q12, 48, stc (nextR now x i)) :: (q8, 52, tnc x) :: (q6, 48, stc (nextR now x i)) :: (Lp ++ Ld)) _ ⟨_, _, hrs197, hK197, h200⟩) (List.Sublist.cons_cons _ (List.Sublist.cons_cons _ (List.Sublist.cons_cons _ (List.nil_sublist _))))⟩
     ·refine wl_region ?_
      refine zwv (iN .i64 16) ?_
      refine zwx (.bool false) (run_eqi (k := .i64) (a := 16) (b := 0) (by kernel_rfl) (by kernel_rfl) false (by decide)) ?_
      refine wl_nil ?_
      refine then_at rfl ?_
      refine wp_cond_false (by kernel_rfl) ?_
      refine wl_region ?_
      refine zwx (.agg (stc now)) (run_load_blk (by kernel_rfl) (h43.get 3 rfl) Tryz.underlying48 rfl (by rw [info48, stc_size, hNo.1])) ?_
      refine wl_fill (c' := stc now) h43 0 rfl (by kernel_rfl) (by kernel_rfl) (by kernel_rfl) (by rw [stc_size, stc_size, hNo.1, hnxl]) (by rw [info48, stc_size, hNo.1]) (stc_one _) ?_
      intro w201 (h202 : HA ⟨w, m33 :: (sr, .mp (eR rs33) nx33) :: []⟩ ((q12, 48, stc now) :: (sq, 73, scell d.q sr ((laidR S2.rows)) S2.size) :: (q8, 52, tnc x) :: (q6, 48, stc now) :: ((Lp ++ Ld) ++ X33)) w201)
      refine wl_nil ?_
      exact ⟨rfl, S2, 16, now, now, fun ii => (([(63, iN .i64 16), (64, .bool false), (65, u17 65), (66, u17 66), (67, u17 67), (68, u17 68), (69, u17 69), (70, u17 70), (71, u17 71), (72, .agg (stc now))] : List (Nat × Value)).find? (·.1 == ii)).elim undef (·.2), by kernel_rfl, .inr ⟨rfl, hDn2.mono (by omega) (by omega)⟩, hNo, SH.sub (hc33 _ _ ((q12, 48, stc now) :: (q8, 52, tnc x) :: (q6, 48, stc now) :: (Lp ++ Ld)) _ ⟨_, _, hrs33, hK33, (HA.perm h202 (List.perm_middle (l₁ := ([(q12, 48, stc now)] : BL))))⟩) (List.Sublist.cons_cons _ (List.Sublist.cons_cons _ (List.Sublist.cons_cons _ (List.nil_sublist _))))⟩
   ·skip
    refine wp_seq ?_
    refine wl_region ?_
    refine zwv (.pointer (some ⟨q8, 10, none⟩)) ?_
    refine zwx (.bool x.pack) (run_load1 (fun w => Tryz.isAgg4 w) (by kernel_rfl) (((h30.get 1 rfl).cell 10).trans rfl)) ?_
    refine wl_nil ?_
    cases hpk : x.pack
    ·refine then_at (F := ⟨(.slice o xs.length c :: un :: u27 2 :: pt d.q :: pt sq :: iN .i64 0 :: pt q6 :: iN .i64 i :: pt q8 :: iN .i64 0 :: u17 10 :: u17 11 :: u17 12 :: .bool true :: .bool false :: pt d.q :: .tuple #[pt sq0, iN .i64 0] :: pt d.q :: .tuple #[pt sq0, iN .i64 0] :: pt sq0 :: iN .i64 0 :: iN .i64 i :: .slice o xs.length c :: iN .i64 xs.length :: .bool true :: .bool true :: iN .i64 i :: .bool true :: .bool true :: .bool true :: iN .i64 0 :: .bool true :: .bool true :: u17 33 :: u17 34 :: .slice o xs.length c :: iN .i64 i :: .pointer (some (oa.add (i * 11))) :: .agg (tnc x) :: u27 39 :: u27 40 :: u27 41 :: u27 42 :: u27 43 :: u27 44 :: u27 45 :: u27 46 :: u27 47 :: u27 48 :: u27 49 :: u27 50 :: .pointer (some ⟨q8, 10, none⟩) :: .bool false :: u17 53 :: u17 54 :: u17 55 :: u17 56 :: u17 57 :: u17 58 :: u17 59 :: u17 60 :: u17 61 :: u17 62 :: u17 63 :: u17 64 :: u17 65 :: u17 66 :: u17 67 :: u17 68 :: u17 69 :: u17 70 :: u17 71 :: u17 72 :: u17 73 :: u17 74 :: u17 75 :: u17 76 :: u17 77 :: u17 78 :: u17 79 :: u17 80 :: u17 81 :: u17 82 :: u17 83 :: u17 84 :: u17 85 :: u17 86 :: u17 87 :: u17 88 :: u17 89 :: u17 90 :: u17 91 :: u17 92 :: u17 93 :: u17 94 :: u17 95 :: u17 96 :: u17 97 :: u17 98 :: u17 99 :: u17 100 :: u17 101 :: u17 102 :: u17 103 :: u17 104 :: u17 105 :: u17 106 :: u17 107 :: u17 108 :: u17 109 :: u17 110 :: u17 111 :: u17 112 :: u17 113 :: u17 114 :: u17 115 :: u17 116 :: u17 117 :: u17 118 :: u17 119 :: u17 120 :: u17 121 :: u17 122 :: u17 123 :: u17 124 :: u17 125 :: u17 126 :: u17 127 :: u17 128 :: u17 129 :: u17 130 :: u17 131 :: u17 132 :: u17 133 :: u17 134 :: u17 135 :: u17 136 :: u17 137 :: u17 138 :: u17 139 :: u17 140 :: u17 141 :: u17 142 :: u17 143 :: u17 144 :: List.replicate 2 un).toArray, []⟩) (by kernel_rfl) ?_
     refine wp_cond_false (by kernel_rfl) ?_
     refine wp_skip ?_
     exact ⟨rfl, Sa, 0, fun ii => (([(51, .pointer (some ⟨q8, 10, none⟩)), (52, .bool false), (53, u17 53), (54, u17 54)] : List (Nat × Value)).find? (·.1 == ii)).elim undef (·.2), by kernel_rfl, .inl ⟨rfl, hSta.mono (Nat.le_refl _) (by omega)⟩, SH.sub (hc29 _ _ ((q8, 52, tnc x) :: (q6, 48, stc now) :: []) _ ⟨_, _, hrs29, hK29, h30⟩) (List.Sublist.cons_cons _ (List.Sublist.cons_cons _ (List.nil_sublist _)))⟩
    ·refine then_at (F := ⟨(.slice o xs.length c :: un :: u27 2 :: pt d.q :: pt sq :: iN .i64 0 :: pt q6 :: iN .i64 i :: pt q8 :: iN .i64 0 :: u17 10 :: u17 11 :: u17 12 :: .bool true :: .bool false :: pt d.q :: .tuple #[pt sq0, iN .i64 0] :: pt d.q :: .tuple #[pt sq0, iN .i64 0] :: pt sq0 :: iN .i64 0 :: iN .i64 i :: .slice o xs.length c :: iN .i64 xs.length :: .bool true :: .bool true :: iN .i64 i :: .bool true :: .bool true :: .bool true :: iN .i64 0 :: .bool true :: .bool true :: u17 33 :: u17 34 :: .slice o xs.length c :: iN .i64 i :: .pointer (some (oa.add (i * 11))) :: .agg (tnc x) :: u27 39 :: u27 40 :: u27 41 :: u27 42 :: u27 43 :: u27 44 :: u27 45 :: u27 46 :: u27 47 :: u27 48 :: u27 49 :: u27 50 :: .pointer (some ⟨q8, 10, none⟩) :: .bool true :: u17 53 :: u17 54 :: u17 55 :: u17 56 :: u17 57 :: u17 58 :: u17 59 :: u17 60 :: u17 61 :: u17 62 :: u17 63 :: u17 64 :: u17 65 :: u17 66 :: u17 67 :: u17 68 :: u17 69 :: u17 70 :: u17 71 :: u17 72 :: u17 73 :: u17 74 :: u17 75 :: u17 76 :: u17 77 :: u17 78 :: u17 79 :: u17 80 :: u17 81 :: u17 82 :: u17 83 :: u17 84 :: u17 85 :: u17 86 :: u17 87 :: u17 88 :: u17 89 :: u17 90 :: u17 91 :: u17 92 :: u17 93 :: u17 94 :: u17 95 :: u17 96 :: u17 97 :: u17 98 :: u17 99 :: u17 100 :: u17 101 :: u17 102 :: u17 103 :: u17 104 :: u17 105 :: u17 106 :: u17 107 :: u17 108 :: u17 109 :: u17 110 :: u17 111 :: u17 112 :: u17 113 :: u17 114 :: u17 115 :: u17 116 :: u17 117 :: u17 118 :: u17 119 :: u17 120 :: u17 121 :: u17 122 :: u17 123 :: u17 124 :: u17 125 :: u17 126 :: u17 127 :: u17 128 :: u17 129 :: u17 130 :: u17 131 :: u17 132 :: u17 133 :: u17 134 :: u17 135 :: u17 136 :: u17 137 :: u17 138 :: u17 139 :: u17 140 :: u17 141 :: u17 142 :: u17 143 :: u17 144 :: List.replicate 2 un).toArray, []⟩) (by kernel_rfl) ?_
     refine wp_cond_true (by kernel_rfl) ?_
     rcases hSta.pack (by omega) now hNo with ⟨hpke, _, hpk2⟩ | ⟨hpke, _, hpk2⟩
     ·refine wl_region ?_
      refine zwv (.pointer (some ⟨sq, 0, none⟩)) ?_
      refine wl_callx (by kernel_rfl) enter15 #[.pointer (some ⟨sq, 0, none⟩)] (by kernel_rfl) (by have h9 := Pack_any (hc29 _ _ ((q8, 52, tnc x) :: (q6, 48, stc now) :: []) _ ⟨_, _, hrs29, hK29, h30⟩) hSta.dg (by omega) hSta.rb (by decide) (by decide); rw [hpke] at h9; exact h9) ?_
      rintro _ w203 ⟨rfl, hP2⟩
      refine ⟨_, rfl, ?_⟩
      generalize (PackS Sa).1 = S2 at hP2 hpk2
      obtain ⟨m204, X204, hc204, rs204, nx204, hrs204, hK204, hH204⟩ := SH.opn hP2
      have h205 : HA ⟨w, m204 :: (sr, .mp (eR rs204) nx204) :: []⟩ ((sq, 73, scell d.q sr ((laidR S2.rows)) S2.size) :: (q8, 52, tnc x) :: (q6, 48, stc now) :: ([] ++ X204)) w203 := hH204
      refine zwv (iN .i64 16) ?_
      refine wl_nil ?_
      exact ⟨rfl, S2, 16, fun ii => (([(51, .pointer (some ⟨q8, 10, none⟩)), (52, .bool true), (53, .pointer (some ⟨sq, 0, none⟩)), (54, iN .i64 16)] : List (Nat × Value)).find? (·.1 == ii)).elim undef (·.2), by kernel_rfl, .inr ⟨rfl, hpk2⟩, SH.sub (hc204 _ _ ((q8, 52, tnc x) :: (q6, 48, stc now) :: []) _ ⟨_, _, hrs204, hK204, h205⟩) (List.Sublist.cons_cons _ (List.Sublist.cons_cons _ (List.nil_sublist _)))⟩
     ·refine wl_region ?_
      refine zwv (.pointer (some ⟨sq, 0, none⟩)) ?_
      refine wl_callx (by kernel_rfl) enter15 #[.pointer (some ⟨sq, 0, none⟩)] (by kernel_rfl) (by have h9 := Pack_any (hc29 _ _ ((q8, 52, tnc x) :: (q6, 48, stc now) :: []) _ ⟨_, _, hrs29, hK29, h30⟩) hSta.dg (by omega) hSta.rb (by decide) (by decide); rw [hpke] at h9; exact h9) ?_
      rintro _ w206 ⟨rfl, hP2⟩
      refine ⟨_, rfl, ?_⟩
      generalize (PackS Sa).1 = S2 at hP2 hpk2
      obtain ⟨m207, X207, hc207, rs207, nx207, hrs207, hK207, hH207⟩ := SH.opn hP2
      have h208 : HA ⟨w, m207 :: (sr, .mp (eR rs207) nx207) :: []⟩ ((sq, 73, scell d.q sr ((laidR S2.rows)) S2.size) :: (q8, 52, tnc x) :: (q6, 48, stc now) :: ([] ++ X207)) w206 := hH207
      refine zwv (iN .i64 0) ?_
      refine wl_nil ?_
      exact ⟨rfl, S2, 0, fun ii => (([(51, .pointer (some ⟨q8, 10, none⟩)), (52, .bool true), (53, .pointer (some ⟨sq, 0, none⟩)), (54, iN .i64 0)] : List (Nat × Value)).find? (·.1 == ii)).elim undef (·.2), by kernel_rfl, .inl ⟨rfl, hpk2⟩, SH.sub (hc207 _ _ ((q8, 52, tnc x) :: (q6, 48, stc now) :: []) _ ⟨_, _, hrs207, hK207, h208⟩) (List.Sublist.cons_cons _ (List.Sublist.cons_cons _ (List.nil_sublist _)))⟩
  ·skip
   refine wp_seq ?_
   by_cases har : 0 < x.arm
   ·refine wl_region ?_
    refine zwv (.pointer (some ⟨q8, 8, none⟩)) ?_
    refine zwx (iN .u8 x.arm) (run_load1 (fun w => Tryz.isAgg5 w) (by kernel_rfl) (((h26.get 0 rfl).cell 8).trans rfl)) ?_
    refine zwx (.bool true) (run_gtr (k := .u8) (a := x.arm) (b := 0) (by kernel_rfl) (by kernel_rfl) true (decide_eq_true har)) ?_
    refine zwv (.bool true) ?_
    refine zwv (.pointer (some ⟨d.q, 0, none⟩)) ?_
    refine zwv (.pointer (some ⟨q8, 8, none⟩)) ?_
    refine zwx (iN .u8 x.arm) (run_load1 (fun w => Tryz.isAgg5 w) (by kernel_rfl) (((h26.get 0 rfl).cell 8).trans rfl)) ?_
    refine zwx (iN .u8 (x.arm % 12)) (run_remb (k := .u8) (a := x.arm) (n := 12) (by kernel_rfl) (by kernel_rfl) (by decide)) ?_
    refine zwx (iN .i64 (x.arm % 12)) (run_conv .i64 Tryz.underlying5 Tryz.underlying3 (by kernel_rfl) (by simp only [top]; omega)) ?_
    refine wl_callx (by kernel_rfl) enter14 #[.pointer (some ⟨d.q, 0, none⟩), iN .i64 (x.arm % 12)] (by kernel_rfl) (by have h9 := arm_S (hc19 _ _ ((q8, 52, tnc x) :: (q6, 48, stc now) :: []) _ ⟨_, _, hrs19, hK19, (HA.perm h26 (List.perm_middle (l₁ := ([(q8, 52, tnc x)] : BL))))⟩) ((x.arm % 12 : Nat) : Int); rw [show (armD S.D ((x.arm % 12 : Nat) : Int)).2 = 0 by rw [arm_up hSt.up]] at h9; exact h9) ?_
    rintro _ w211 ⟨rfl, hA210⟩
    refine ⟨_, rfl, ?_⟩
    have hA210s := hSt.arm (z := ((x.arm % 12 : Nat) : Int)) (by omega)
    have hA210l : (armD S.D ((x.arm % 12 : Nat) : Int)).1.left = x.arm % 12 := by rw [arm_up hSt.up]
    obtain ⟨Sa209, Sa209e⟩ : ∃ S9 : SS, S9 = ⟨(armD S.D ((x.arm % 12 : Nat) : Int)).1, S.rows, S.size⟩ := ⟨_, rfl⟩
    rw [← Sa209e] at hA210 hA210s
    have hA210l : Sa209.D.left = x.arm % 12 := by rw [Sa209e]; exact hA210l
    clear Sa209e
    obtain ⟨m212, X212, hc212, rs212, nx212, hrs212, hK212, hH212⟩ := SH.opn hA210
    have h213 : HA ⟨w, m212 :: (sr, .mp (eR rs212) nx212) :: []⟩ ((sq, 73, scell d.q sr ((laidR Sa209.rows)) Sa209.size) :: (q8, 52, tnc x) :: (q6, 48, stc now) :: ([] ++ X212)) w211 := hH212
    refine zwx (.bool false) (run_nei (k := .i64) (a := 0) (b := 0) (by kernel_rfl) (by kernel_rfl) false (by decide)) ?_
    refine zwv (.bool false) ?_
    refine wl_nil ?_
    refine then_at rfl ?_
    refine wp_cond_false (by kernel_rfl) ?_
    refine wp_skip ?_
    exact ⟨rfl, Sa209, fun ii => (([(2, u17 2), (39, .pointer (some ⟨q8, 8, none⟩)), (40, iN .u8 x.arm), (41, .bool true), (42, .bool true), (43, .pointer (some ⟨d.q, 0, none⟩)), (44, .pointer (some ⟨q8, 8, none⟩)), (45, iN .u8 x.arm), (46, iN .u8 (x.arm % 12)), (47, iN .i64 (x.arm % 12)), (48, iN .i64 0), (49, .bool false), (50, .bool false)] : List (Nat × Value)).find? (·.1 == ii)).elim undef (·.2), by kernel_rfl, hA210s, SH.sub (hc212 _ _ ((q8, 52, tnc x) :: (q6, 48, stc now) :: []) _ ⟨_, _, hrs212, hK212, h213⟩) (List.Sublist.cons_cons _ (List.Sublist.cons_cons _ (List.nil_sublist _)))⟩
   ·refine wl_region ?_
    refine zwv (.pointer (some ⟨q8, 8, none⟩)) ?_
    refine zwx (iN .u8 x.arm) (run_load1 (fun w => Tryz.isAgg5 w) (by kernel_rfl) (((h26.get 0 rfl).cell 8).trans rfl)) ?_
    refine zwx (.bool false) (run_gtr (k := .u8) (a := x.arm) (b := 0) (by kernel_rfl) (by kernel_rfl) false (decide_eq_false har)) ?_
    refine zwv (.bool false) ?_
    refine wl_skip (by kernel_rfl) ?_
    refine wl_skip (by kernel_rfl) ?_
    refine wl_skip (by kernel_rfl) ?_
    refine wl_skip (by kernel_rfl) ?_
    refine wl_skip (by kernel_rfl) ?_
    refine wl_skip (by kernel_rfl) ?_
    refine wl_skip (by kernel_rfl) ?_
    refine zwv (.bool false) ?_
    refine wl_nil ?_
    refine then_at rfl ?_
    refine wp_cond_false (by kernel_rfl) ?_
    refine wp_skip ?_
    exact ⟨rfl, S, fun ii => (([(2, u17 2), (39, .pointer (some ⟨q8, 8, none⟩)), (40, iN .u8 x.arm), (41, .bool false), (42, .bool false), (43, undef), (44, undef), (45, undef), (46, undef), (47, undef), (48, undef), (49, undef), (50, .bool false)] : List (Nat × Value)).find? (·.1 == ii)).elim undef (·.2), by kernel_rfl, hSt, SH.sub (hc19 _ _ ((q8, 52, tnc x) :: (q6, 48, stc now) :: []) _ ⟨_, _, hrs19, hK19, (HA.perm h26 (List.perm_middle (l₁ := ([(q8, 52, tnc x)] : BL))))⟩) (List.Sublist.cons_cons _ (List.Sublist.cons_cons _ (List.nil_sublist _)))⟩
 ·rintro _ w214 ⟨sq, sr, S, now, u17, rfl, hSt, hl, hS⟩
  obtain ⟨m215, X215, hc215, rs215, nx215, hrs215, hK215, hH215⟩ := SH.opn hS
  have h216 : HA ⟨w, m215 :: (sr, .mp (eR rs215) nx215) :: []⟩ ((sq, 73, scell d.q sr ((laidR S.rows)) S.size) :: (q6, 48, stc now) :: ([] ++ X215)) w214 := hH215
  refine wp_seq ?_
  refine wp_seq ?_
  by_cases hgt : 40 < xs.length
  ·refine wl_region ?_
   refine zwv (iN .i64 (min xs.length 40)) ?_
   refine zwv (.slice o xs.length c) ?_
   refine zwv (iN .i64 xs.length) ?_
   refine zwx (.bool true) (run_lss (k := .i64) (a := min xs.length 40) (b := xs.length) (by kernel_rfl) (by kernel_rfl) true (decide_eq_true (by omega))) ?_
   refine zwv (.bool true) ?_
   refine zwv (iN .i64 (min xs.length 40)) ?_
   refine zwx (.bool false) (run_lss (k := .i64) (a := min xs.length 40) (b := 40) (by kernel_rfl) (by kernel_rfl) false (decide_eq_false (by omega))) ?_
   refine zwv (.bool false) ?_
   refine zwv (.bool false) ?_
   refine wl_skip (by kernel_rfl) ?_
   refine wl_skip (by kernel_rfl) ?_
   refine zwv (.bool false) ?_
   refine wl_nil ?_
   refine then_at rfl ?_
   refine wp_cond_false (by kernel_rfl) ?_
   refine wp_exit ?_
   repeat first | refine then_exit ?_ | refine block_exit ?_ | refine block_exit_ne (by decide) ?_
   refine then_at rfl ?_
   refine wp_seq ?_
   refine wl_region ?_
   refine zwv (iN .i64 0) ?_
   refine zwx (.bool true) (run_eqi (k := .i64) (a := 0) (b := 0) (by kernel_rfl) (by kernel_rfl) true (by decide)) ?_
   refine zwv (.bool true) ?_
   refine wl_nil ?_
   refine then_at rfl ?_
   refine wp_ret ?_
   repeat first | refine then_ret ?_ | refine block_ret ?_
   exact bodyPost_ret (v := .bool true) (by kernel_rfl) rfl ⟨rfl, h216.old.old⟩
  ·refine wl_region ?_
   refine zwv (iN .i64 (min xs.length 40)) ?_
   refine zwv (.slice o xs.length c) ?_
   refine zwv (iN .i64 xs.length) ?_
   refine zwx (.bool false) (run_lss (k := .i64) (a := min xs.length 40) (b := xs.length) (by kernel_rfl) (by kernel_rfl) false (decide_eq_false (by omega))) ?_
   refine zwv (.bool false) ?_
   refine wl_skip (by kernel_rfl) ?_
   refine wl_skip (by kernel_rfl) ?_
   refine zwv (.bool false) ?_
   refine zwv (.bool false) ?_
   refine wl_skip (by kernel_rfl) ?_
   refine wl_skip (by kernel_rfl) ?_
   refine zwv (.bool false) ?_
   refine wl_nil ?_
   refine then_at rfl ?_
   refine wp_cond_false (by kernel_rfl) ?_
   refine wp_exit ?_
   repeat first | refine then_exit ?_ | refine block_exit ?_ | refine block_exit_ne (by decide) ?_
   refine then_at rfl ?_
   refine wp_seq ?_
   refine wl_region ?_
   refine zwv (iN .i64 0) ?_
   refine zwx (.bool true) (run_eqi (k := .i64) (a := 0) (b := 0) (by kernel_rfl) (by kernel_rfl) true (by decide)) ?_
   refine zwv (.bool true) ?_
   refine wl_nil ?_
   refine then_at rfl ?_
   refine wp_ret ?_
   repeat first | refine then_ret ?_ | refine block_ret ?_
   exact bodyPost_ret (v := .bool true) (by kernel_rfl) rfl ⟨rfl, h216.old.old⟩
end Go.Proofs.YtckmlaempffpjaaGreat
