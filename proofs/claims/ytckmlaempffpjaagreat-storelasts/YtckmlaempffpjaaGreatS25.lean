/-
 works.
-/
import Derived.Test.YtckmlaempffpjaaGreatGM
namespace Go.Proofs.YtckmlaempffpjaaGreat
open Go.RowKit

theorem KeysAt.at {w : World} {o : Option Addr} {ds : List ByteArray} {i : Nat} {x : ByteArray} {a : Addr} (h : KeysAt w o ds) (hi : ds[i]? = some x) (ho : o = some a) : w.cell? (a.add i) = some (.string x) := by
 obtain ⟨b, hb, hc⟩ := h i x hi
 rw [ho] at hb
 cases hb
 exact hc
def wp1 : List Rw := [⟨{ data := #[97] }, { data := #[49] }⟩, ⟨{ data := #[98] }, { data := #[50] }⟩]
def wp2 : List Rw := [⟨{ data := #[97] }, { data := #[51] }⟩]
def wd2 : List ByteArray := [{ data := #[98] }]
def wp3 : List Rw := [⟨{ data := #[97] }, { data := #[52] }⟩]
def wd3 : List ByteArray := [{ data := #[97] }]
theorem w_r1 : applyR [] wp1 [] = wp1 := by decide +kernel
theorem w_r2 : applyR wp1 wp2 wd2 = wp2 := by decide +kernel
theorem w_r3 : applyR wp2 wp3 wd3 = [] := by decide +kernel
theorem w_c1 : ChOk wp1 [] := ⟨by decide +kernel, by decide⟩
theorem w_c2 : ChOk wp2 wd2 := ⟨by decide +kernel, by decide⟩
theorem w_c3 : ChOk wp3 wd3 := ⟨by decide +kernel, by decide⟩
theorem w_f1 : (frameB wp1 []).length = 28 := by decide +kernel
theorem w_f2 : (frameB wp2 wd2).length = 23 := by decide +kernel
theorem w_f3 : (frameB wp3 wd3).length = 23 := by decide +kernel
theorem w_n1 : (wp1.map (·.k)).Nodup := by have := apply_nodup (l := []) List.nodup_nil wp1 []; rw [w_r1] at this; exact this
theorem w_n2 : (wp2.map (·.k)).Nodup := by have := apply_nodup w_n1 wp2 wd2; rw [w_r2] at this; exact this
theorem w_p1 : (packL wp1).length ≤ 100 := by rw [packL_len w_n1]; decide
theorem w_p2 : (packL wp2).length ≤ 100 := by rw [packL_len w_n2]; decide
theorem w_p3 : (packL []).length ≤ 100 := by rw [packL_len (l := []) List.nodup_nil]; decide
theorem w_get : getR wp1 { data := #[97] } = ({ data := #[49] }, true) := by decide +kernel
theorem w_lst : lstR wp1 { data := #[] } = [[97], [98]] := by
 have e : ((wp1.filter fun x => pfx x.k { data := #[] }).map fun x => bl x.k) = [[97], [98]] := by decide +kernel
 unfold lstR
 rw [e]
 exact List.mergeSort_of_pairwise (by decide)
set_option linter.unusedVariables false in
set_option maxRecDepth 100000 in
set_option maxHeartbeats 4000000 in
theorem works_any (w : World) :
  Calls Tryz.prog 12 #[] w fun e w' => e = .returned (.bool true) ∧ Below w.heap.size w w' := by
 have H0 := HA.start w
 go_enter Tryz.func12, Tryz.ntmps12
 refine wp_seq ?_
 refine wl_region ?_
 refine zwv (.bool false) ?_
 refine wl_nil ?_
 refine then_at (F := ⟨(.bool false :: List.replicate 78 un).toArray, []⟩) (by kernel_rfl) ?_
 refine wp_seq ?_
 refine wl_region ?_
 refine wl_callx (by kernel_rfl) enter7 #[iN .i64 1048576] (by kernel_rfl) (New_any 1048576 H0) ?_
 rintro _ w1 ⟨d, rfl, hD0⟩
 refine ⟨_, rfl, ?_⟩
 have hg0 : DG ⟨[], 1048576, 0, false, []⟩ 1048576 0 := DG.new (by decide)
 obtain ⟨o1, o2, o3, hG0⟩ := opn_new 1048576 1000
 have hgO := hg0.opnS
 have hD1 : DH w [] d ⟨[], 1048576, 0, false, []⟩ [] w1 := hD0
 obtain ⟨z2, X3, hcl4, hbe5, h6⟩ := DH.front hD1
 have h7 : HA z2 ([] ++ X3) w1 := h6
 refine wl_callx (by kernel_rfl) enter13 #[.pointer (some ⟨d.q, 0, none⟩)] (by kernel_rfl) (Open_ok (hcl4 ([]) _ h7) hg0 (by decide) (by decide) (by decide +kernel) o1) ?_
 rintro _ w8 ⟨s, hsd, rfl, hO⟩
 refine ⟨_, rfl, ?_⟩
 have hl0 : (opnS ⟨[], 1048576, 0, false, []⟩).1.D.left = 0 := by rw [o2]
 have hro0 : roomD (opnS ⟨[], 1048576, 0, false, []⟩).1.D = 1048576 := by rw [o2]; rfl
 generalize (opnS ⟨[], 1048576, 0, false, []⟩).1 = S at *
 obtain ⟨m9, X9, hc9, rs9, nx9, hrs9, hK9, hH9⟩ := SH.opn hO
 have h10 : HA ⟨w, m9 :: (s.r, .mp (eR rs9) nx9) :: []⟩ ((s.q, 73, scell s.d.q s.r ((laidR S.rows)) S.size) :: ([] ++ X9)) w8 := hH9
 refine zwv (.tuple #[.pointer (some ⟨s.q, 0, none⟩), iN .i64 0]) ?_
 refine zwv (.pointer (some ⟨s.q, 0, none⟩)) ?_
 refine zwv (iN .i64 0) ?_
 refine zwv (.pointer (some ⟨s.q, 0, none⟩)) ?_
 refine zwv (iN .i64 0) ?_
 refine wl_nil ?_
 refine then_at (F := ⟨(.bool false :: pt s.q :: iN .i64 0 :: un :: un :: un :: un :: un :: .tuple #[pt s.q, iN .i64 0] :: pt d.q :: .tuple #[pt s.q, iN .i64 0] :: pt s.q :: iN .i64 0 :: List.replicate 66 un).toArray, []⟩) (by kernel_rfl) ?_
 refine wp_seq ?_
 refine wp_seq ?_
 refine wl_region ?_
 refine zwv (iN .i64 0) ?_
 refine zwx (.bool false) (run_nei (k := .i64) (a := 0) (b := 0) (by kernel_rfl) (by kernel_rfl) false (by decide)) ?_
 refine zwv (.bool false) ?_
 refine zwv (.pointer (some ⟨s.q, 0, none⟩)) ?_
 refine zwv (.bool false) ?_
 refine zwv (.bool false) ?_
 refine zwv (.bool false) ?_
 refine zwv (.pointer (some ⟨s.q, 0, none⟩)) ?_
 refine wl_call (v := rwv ⟨{ data := #[97] }, { data := #[49] }⟩) h10 (by kernel_rfl) enter21 #[.string ({ data := #[97] }), .string ({ data := #[49] })] (by kernel_rfl) (row_any _ _ w8) ?_
 intro w11 h12
 refine wl_call (v := rwv ⟨{ data := #[98] }, { data := #[50] }⟩) h12 (by kernel_rfl) enter21 #[.string ({ data := #[98] }), .string ({ data := #[50] })] (by kernel_rfl) (row_any _ _ w11) ?_
 intro w13 h14
 refine wl_mks (n := 2) (m := 2) (c := #[.string ({ data := #[97] }), .string ({ data := #[49] }), .string ({ data := #[98] }), .string ({ data := #[50] })]) h14 64 (by kernel_rfl) (by kernel_rfl) ?_
 intro q15 w16 (h17 : HA ⟨w, m9 :: (s.r, .mp (eR rs9) nx9) :: []⟩ ((q15, 64, #[.string ({ data := #[97] }), .string ({ data := #[49] }), .string ({ data := #[98] }), .string ({ data := #[50] })]) :: (s.q, 73, scell s.d.q s.r ((laidR S.rows)) S.size) :: ([] ++ X9)) w16)
 have hB1 : (packL (applyR S.rows wp1 [])).length ≤ 1000 + (frameB wp1 []).length := by rw [o3, w_r1]; have := w_p1; omega
 obtain ⟨e1, l1, r1, cs1, a1, b1, g1⟩ := do_ok w_c1 hG0 hgO hl0 (by rw [hro0, w_f1]; decide) hB1
 have hrb1 : RB S.rows 100 := RB.of hG0.ro (by rw [o3]; decide)
 refine wl_callx (by kernel_rfl) enter17 #[.pointer (some ⟨s.q, 0, none⟩), .slice (some ⟨q15, 0, none⟩) 2 2, .slice none 0 0] (by kernel_rfl) (by have h9 := Do_any (hc9 _ _ ((q15, 64, #[.string ({ data := #[97] }), .string ({ data := #[49] }), .string ({ data := #[98] }), .string ({ data := #[50] })]) :: []) _ ⟨_, _, hrs9, hK9, (HA.perm h17 (List.perm_middle (l₁ := ([(q15, 64, #[.string ({ data := #[97] }), .string ({ data := #[49] }), .string ({ data := #[98] }), .string ({ data := #[50] })])] : BL))))⟩) hgO (by decide) hrb1 (by decide) (by decide) (po := some ⟨q15, 0, none⟩) (pc := 2) (do_ := none) (dc := 0) (ps := wp1) (ds := []) (PV.blk (ps := wp1) (List.mem_of_getElem? (i := 0) rfl)) (DV.nil none) (by decide) (by decide) (by rw [hG0.sz]; have h8 := hG0.la; rw [hG0.len] at h8; omega); rw [e1] at h9; exact h9) ?_
 rintro _ w18 ⟨rfl, hP1⟩
 refine ⟨_, rfl, ?_⟩
 have hgd1 := hgO.doS wp1 []
 have hrd1 : roomD (DoS S wp1 []).1.D = 1048576 := (room_do hgO wp1 []).trans hro0
 rw [o3, w_r1] at r1
 rw [w_f1] at g1
 generalize (DoS S wp1 []).1 = S1 at hP1 l1 r1 g1 hgd1 hrd1
 obtain ⟨m19, X19, hc19, rs19, nx19, hrs19, hK19, hH19⟩ := SH.opn hP1
 have h20 : HA ⟨w, m19 :: (s.r, .mp (eR rs19) nx19) :: []⟩ ((s.q, 73, scell s.d.q s.r ((laidR S1.rows)) S1.size) :: (q15, 64, #[.string ({ data := #[97] }), .string ({ data := #[49] }), .string ({ data := #[98] }), .string ({ data := #[50] })]) :: ([] ++ X19)) w18 := hH19
 refine zwx (.bool false) (run_nei (k := .i64) (a := 0) (b := 0) (by kernel_rfl) (by kernel_rfl) false (by decide)) ?_
 refine zwv (.bool false) ?_
 refine wl_nil ?_
 refine then_at (F := ⟨(.bool false :: pt s.q :: iN .i64 0 :: un :: un :: un :: un :: un :: .tuple #[pt s.q, iN .i64 0] :: pt d.q :: .tuple #[pt s.q, iN .i64 0] :: pt s.q :: iN .i64 0 :: iN .i64 0 :: .bool false :: .bool false :: pt s.q :: .bool false :: .bool false :: .bool false :: pt s.q :: rwv ⟨{ data := #[97] }, { data := #[49] }⟩ :: rwv ⟨{ data := #[98] }, { data := #[50] }⟩ :: .slice (some ⟨q15, 0, none⟩) 2 2 :: iN .i64 0 :: .bool false :: .bool false :: List.replicate 52 un).toArray, []⟩) (by kernel_rfl) ?_
 refine wp_cond_false (by kernel_rfl) ?_
 refine wp_skip ?_
 refine then_at (F := ⟨(.bool false :: pt s.q :: iN .i64 0 :: un :: un :: un :: un :: un :: .tuple #[pt s.q, iN .i64 0] :: pt d.q :: .tuple #[pt s.q, iN .i64 0] :: pt s.q :: iN .i64 0 :: iN .i64 0 :: .bool false :: .bool false :: pt s.q :: .bool false :: .bool false :: .bool false :: pt s.q :: rwv ⟨{ data := #[97] }, { data := #[49] }⟩ :: rwv ⟨{ data := #[98] }, { data := #[50] }⟩ :: .slice (some ⟨q15, 0, none⟩) 2 2 :: iN .i64 0 :: .bool false :: .bool false :: List.replicate 52 un).toArray, []⟩) (by kernel_rfl) ?_
 refine wp_seq ?_
 refine wl_region ?_
 refine zwv (.pointer (some ⟨s.q, 0, none⟩)) ?_
 refine wl_call (v := .tuple #[.string ({ data := #[49] }), .bool true]) h20 (by kernel_rfl) enter23 #[.pointer (some ⟨s.q, 0, none⟩), .string ({ data := #[97] })] (by kernel_rfl) (by have h9 := get_S (hc19 _ _ ((q15, 64, #[.string ({ data := #[97] }), .string ({ data := #[49] }), .string ({ data := #[98] }), .string ({ data := #[50] })]) :: []) _ ⟨_, _, hrs19, hK19, h20⟩) (RB.of (n := 100) g1.ro (by rw [r1]; decide)) { data := #[97] }; rw [r1, w_get] at h9; exact h9) ?_
 intro w21 h22
 refine zwv (.tuple #[.string ({ data := #[49] }), .bool true]) ?_
 refine zwv (.string ({ data := #[49] })) ?_
 refine zwv (.bool true) ?_
 refine zwv (.string ({ data := #[49] })) ?_
 refine zwv (.bool true) ?_
 refine wl_nil ?_
 refine then_at (F := ⟨(.bool false :: pt s.q :: iN .i64 0 :: .string ({ data := #[49] }) :: .bool true :: un :: un :: un :: .tuple #[pt s.q, iN .i64 0] :: pt d.q :: .tuple #[pt s.q, iN .i64 0] :: pt s.q :: iN .i64 0 :: iN .i64 0 :: .bool false :: .bool false :: pt s.q :: .bool false :: .bool false :: .bool false :: pt s.q :: rwv ⟨{ data := #[97] }, { data := #[49] }⟩ :: rwv ⟨{ data := #[98] }, { data := #[50] }⟩ :: .slice (some ⟨q15, 0, none⟩) 2 2 :: iN .i64 0 :: .bool false :: .bool false :: .tuple #[.string ({ data := #[49] }), .bool true] :: pt s.q :: .tuple #[.string ({ data := #[49] }), .bool true] :: .string ({ data := #[49] }) :: .bool true :: List.replicate 47 un).toArray, []⟩) (by kernel_rfl) ?_
 refine wp_seq ?_
 refine wl_region ?_
 refine zwv (.pointer (some ⟨s.q, 0, none⟩)) ?_
 refine wl_callx (by kernel_rfl) enter27 #[.pointer (some ⟨s.q, 0, none⟩), .string ({ data := #[] })] (by kernel_rfl) (list_S (hc19 _ _ ((q15, 64, #[.string ({ data := #[97] }), .string ({ data := #[49] }), .string ({ data := #[98] }), .string ({ data := #[50] })]) :: []) _ ⟨_, _, hrs19, hK19, h22⟩) (RB.of (n := 100) g1.ro (by rw [r1]; decide)) (by decide) { data := #[] }) ?_
 rintro _ w23 ⟨vl, Ll, rfl, hRl, hLl⟩
 refine ⟨_, rfl, ?_⟩
 rw [r1, w_lst] at hRl
 obtain ⟨pl, cl, rfl⟩ := hRl.form
 have hKl := Row.keys (ds := [{ data := #[97] }, { data := #[98] }]) hRl (fun y hy => hLl.blk y hy)
 obtain ⟨la, hla, _⟩ := hKl 0 _ rfl
 have h24 : HA ⟨w, m19 :: (s.r, .mp (eR rs19) nx19) :: []⟩ (Ll ++ ([(s.q, 73, scell s.d.q s.r ((laidR S1.rows)) S1.size), (q15, 64, #[.string ({ data := #[97] }), .string ({ data := #[49] }), .string ({ data := #[98] }), .string ({ data := #[50] })])] ++ ([] ++ X19))) w23 := HA.join h22 hLl
 have h25 : HA ⟨w, m19 :: (s.r, .mp (eR rs19) nx19) :: []⟩ ((s.q, 73, scell s.d.q s.r ((laidR S1.rows)) S1.size) :: (q15, 64, #[.string ({ data := #[97] }), .string ({ data := #[49] }), .string ({ data := #[98] }), .string ({ data := #[50] })]) :: (Ll ++ X19)) w23 := h24.perm (perm_mv Ll [(s.q, 73, scell s.d.q s.r ((laidR S1.rows)) S1.size), (q15, 64, #[.string ({ data := #[97] }), .string ({ data := #[49] }), .string ({ data := #[98] }), .string ({ data := #[50] })])] ([] ++ X19))
 refine zwv (.slice pl 2 cl) ?_
 refine wl_nil ?_
 refine then_at (F := ⟨(.bool false :: pt s.q :: iN .i64 0 :: .string ({ data := #[49] }) :: .bool true :: .slice pl 2 cl :: un :: un :: .tuple #[pt s.q, iN .i64 0] :: pt d.q :: .tuple #[pt s.q, iN .i64 0] :: pt s.q :: iN .i64 0 :: iN .i64 0 :: .bool false :: .bool false :: pt s.q :: .bool false :: .bool false :: .bool false :: pt s.q :: rwv ⟨{ data := #[97] }, { data := #[49] }⟩ :: rwv ⟨{ data := #[98] }, { data := #[50] }⟩ :: .slice (some ⟨q15, 0, none⟩) 2 2 :: iN .i64 0 :: .bool false :: .bool false :: .tuple #[.string ({ data := #[49] }), .bool true] :: pt s.q :: .tuple #[.string ({ data := #[49] }), .bool true] :: .string ({ data := #[49] }) :: .bool true :: pt s.q :: .slice pl 2 cl :: List.replicate 45 un).toArray, []⟩) (by kernel_rfl) ?_
 refine wp_seq ?_
 refine wl_region ?_
 refine zwv (.pointer (some ⟨s.q, 0, none⟩)) ?_
 refine wl_call (v := rwv ⟨{ data := #[97] }, { data := #[51] }⟩) h25 (by kernel_rfl) enter21 #[.string ({ data := #[97] }), .string ({ data := #[51] })] (by kernel_rfl) (row_any _ _ w23) ?_
 intro w26 h27
 refine wl_mks (n := 1) (m := 1) (c := #[.string ({ data := #[97] }), .string ({ data := #[51] })]) h27 64 (by kernel_rfl) (by kernel_rfl) ?_
 intro q28 w29 (h30 : HA ⟨w, m19 :: (s.r, .mp (eR rs19) nx19) :: []⟩ ((q28, 64, #[.string ({ data := #[97] }), .string ({ data := #[51] })]) :: (s.q, 73, scell s.d.q s.r ((laidR S1.rows)) S1.size) :: (q15, 64, #[.string ({ data := #[97] }), .string ({ data := #[49] }), .string ({ data := #[98] }), .string ({ data := #[50] })]) :: (Ll ++ X19)) w29)
 refine wl_mks (n := 1) (m := 1) (c := #[.string ({ data := #[98] })]) h30 9 (by kernel_rfl) (by kernel_rfl) ?_
 intro q31 w32 (h33 : HA ⟨w, m19 :: (s.r, .mp (eR rs19) nx19) :: []⟩ ((q31, 9, #[.string ({ data := #[98] })]) :: (q28, 64, #[.string ({ data := #[97] }), .string ({ data := #[51] })]) :: (s.q, 73, scell s.d.q s.r ((laidR S1.rows)) S1.size) :: (q15, 64, #[.string ({ data := #[97] }), .string ({ data := #[49] }), .string ({ data := #[98] }), .string ({ data := #[50] })]) :: (Ll ++ X19)) w32)
 have hB2 : (packL (applyR S1.rows wp2 wd2)).length ≤ (1000 + 28) + (frameB wp2 wd2).length := by rw [r1, w_r2]; have := w_p2; omega
 obtain ⟨e2, l2, r2, cs2, a2, b2, g2⟩ := do_ok w_c2 g1 hgd1 l1 (by rw [hrd1, w_f2]; decide) hB2
 have hrb2 : RB S1.rows 100 := RB.of g1.ro (by rw [r1]; decide)
 refine wl_callx (by kernel_rfl) enter17 #[.pointer (some ⟨s.q, 0, none⟩), .slice (some ⟨q28, 0, none⟩) 1 1, .slice (some ⟨q31, 0, none⟩) 1 1] (by kernel_rfl) (by have h9 := Do_any (hc19 _ _ ((q31, 9, #[.string ({ data := #[98] })]) :: (q28, 64, #[.string ({ data := #[97] }), .string ({ data := #[51] })]) :: (q15, 64, #[.string ({ data := #[97] }), .string ({ data := #[49] }), .string ({ data := #[98] }), .string ({ data := #[50] })]) :: Ll) _ ⟨_, _, hrs19, hK19, (HA.perm h33 (List.perm_middle (l₁ := ([(q31, 9, #[.string ({ data := #[98] })]), (q28, 64, #[.string ({ data := #[97] }), .string ({ data := #[51] })])] : BL))))⟩) hgd1 (by decide) hrb2 (by decide) (by decide) (po := some ⟨q28, 0, none⟩) (pc := 1) (do_ := some ⟨q31, 0, none⟩) (dc := 1) (ps := wp2) (ds := wd2) (PV.blk (ps := wp2) (List.mem_of_getElem? (i := 1) rfl)) (DV.blk (ds := wd2) (List.mem_of_getElem? (i := 0) rfl)) (by decide) (by decide) (by rw [g1.sz]; have h8 := g1.la; rw [g1.len] at h8; omega); rw [e2] at h9; exact h9) ?_
 rintro _ w34 ⟨rfl, hP2⟩
 refine ⟨_, rfl, ?_⟩
 have hgd2 := hgd1.doS wp2 wd2
 have hrd2 : roomD (DoS S1 wp2 wd2).1.D = 1048576 := (room_do hgd1 wp2 wd2).trans hrd1
 rw [r1, w_r2] at r2
 rw [w_f2] at g2
 generalize (DoS S1 wp2 wd2).1 = S2 at hP2 l2 r2 g2 hgd2 hrd2
 obtain ⟨m35, X35, hc35, rs35, nx35, hrs35, hK35, hH35⟩ := SH.opn hP2
 have h36 : HA ⟨w, m35 :: (s.r, .mp (eR rs35) nx35) :: []⟩ ((s.q, 73, scell s.d.q s.r ((laidR S2.rows)) S2.size) :: (q31, 9, #[.string ({ data := #[98] })]) :: (q28, 64, #[.string ({ data := #[97] }), .string ({ data := #[51] })]) :: (q15, 64, #[.string ({ data := #[97] }), .string ({ data := #[49] }), .string ({ data := #[98] }), .string ({ data := #[50] })]) :: (Ll ++ X35)) w34 := hH35
 refine zwv (iN .i64 0) ?_
 refine wl_nil ?_
 refine then_at (F := ⟨(.bool false :: pt s.q :: iN .i64 0 :: .string ({ data := #[49] }) :: .bool true :: .slice pl 2 cl :: iN .i64 0 :: un :: .tuple #[pt s.q, iN .i64 0] :: pt d.q :: .tuple #[pt s.q, iN .i64 0] :: pt s.q :: iN .i64 0 :: iN .i64 0 :: .bool false :: .bool false :: pt s.q :: .bool false :: .bool false :: .bool false :: pt s.q :: rwv ⟨{ data := #[97] }, { data := #[49] }⟩ :: rwv ⟨{ data := #[98] }, { data := #[50] }⟩ :: .slice (some ⟨q15, 0, none⟩) 2 2 :: iN .i64 0 :: .bool false :: .bool false :: .tuple #[.string ({ data := #[49] }), .bool true] :: pt s.q :: .tuple #[.string ({ data := #[49] }), .bool true] :: .string ({ data := #[49] }) :: .bool true :: pt s.q :: .slice pl 2 cl :: pt s.q :: rwv ⟨{ data := #[97] }, { data := #[51] }⟩ :: .slice (some ⟨q28, 0, none⟩) 1 1 :: .slice (some ⟨q31, 0, none⟩) 1 1 :: iN .i64 0 :: List.replicate 40 un).toArray, []⟩) (by kernel_rfl) ?_
 refine wp_seq ?_
 refine wl_region ?_
 refine zwv (.pointer (some ⟨s.q, 0, none⟩)) ?_
 refine wl_call (v := rwv ⟨{ data := #[97] }, { data := #[52] }⟩) h36 (by kernel_rfl) enter21 #[.string ({ data := #[97] }), .string ({ data := #[52] })] (by kernel_rfl) (row_any _ _ w34) ?_
 intro w37 h38
 refine wl_mks (n := 1) (m := 1) (c := #[.string ({ data := #[97] }), .string ({ data := #[52] })]) h38 64 (by kernel_rfl) (by kernel_rfl) ?_
 intro q39 w40 (h41 : HA ⟨w, m35 :: (s.r, .mp (eR rs35) nx35) :: []⟩ ((q39, 64, #[.string ({ data := #[97] }), .string ({ data := #[52] })]) :: (s.q, 73, scell s.d.q s.r ((laidR S2.rows)) S2.size) :: (q31, 9, #[.string ({ data := #[98] })]) :: (q28, 64, #[.string ({ data := #[97] }), .string ({ data := #[51] })]) :: (q15, 64, #[.string ({ data := #[97] }), .string ({ data := #[49] }), .string ({ data := #[98] }), .string ({ data := #[50] })]) :: (Ll ++ X35)) w40)
 refine wl_mks (n := 1) (m := 1) (c := #[.string ({ data := #[97] })]) h41 9 (by kernel_rfl) (by kernel_rfl) ?_
 intro q42 w43 (h44 : HA ⟨w, m35 :: (s.r, .mp (eR rs35) nx35) :: []⟩ ((q42, 9, #[.string ({ data := #[97] })]) :: (q39, 64, #[.string ({ data := #[97] }), .string ({ data := #[52] })]) :: (s.q, 73, scell s.d.q s.r ((laidR S2.rows)) S2.size) :: (q31, 9, #[.string ({ data := #[98] })]) :: (q28, 64, #[.string ({ data := #[97] }), .string ({ data := #[51] })]) :: (q15, 64, #[.string ({ data := #[97] }), .string ({ data := #[49] }), .string ({ data := #[98] }), .string ({ data := #[50] })]) :: (Ll ++ X35)) w43)
 have hB3 : (packL (applyR S2.rows wp3 wd3)).length ≤ ((1000 + 28) + 23) + (frameB wp3 wd3).length := by rw [r2, w_r3]; have := w_p3; omega
 obtain ⟨e3, l3, r3, cs3, a3, b3, g3⟩ := do_ok w_c3 g2 hgd2 l2 (by rw [hrd2, w_f3]; decide) hB3
 have hrb3 : RB S2.rows 100 := RB.of g2.ro (by rw [r2]; decide)
 refine wl_callx (by kernel_rfl) enter17 #[.pointer (some ⟨s.q, 0, none⟩), .slice (some ⟨q39, 0, none⟩) 1 1, .slice (some ⟨q42, 0, none⟩) 1 1] (by kernel_rfl) (by have h9 := Do_any (hc35 _ _ ((q42, 9, #[.string ({ data := #[97] })]) :: (q39, 64, #[.string ({ data := #[97] }), .string ({ data := #[52] })]) :: (q31, 9, #[.string ({ data := #[98] })]) :: (q28, 64, #[.string ({ data := #[97] }), .string ({ data := #[51] })]) :: (q15, 64, #[.string ({ data := #[97] }), .string ({ data := #[49] }), .string ({ data := #[98] }), .string ({ data := #[50] })]) :: Ll) _ ⟨_, _, hrs35, hK35, (HA.perm h44 (List.perm_middle (l₁ := ([(q42, 9, #[.string ({ data := #[97] })]), (q39, 64, #[.string ({ data := #[97] }), .string ({ data := #[52] })])] : BL))))⟩) hgd2 (by decide) hrb3 (by decide) (by decide) (po := some ⟨q39, 0, none⟩) (pc := 1) (do_ := some ⟨q42, 0, none⟩) (dc := 1) (ps := wp3) (ds := wd3) (PV.blk (ps := wp3) (List.mem_of_getElem? (i := 1) rfl)) (DV.blk (ds := wd3) (List.mem_of_getElem? (i := 0) rfl)) (by decide) (by decide) (by rw [g2.sz]; have h8 := g2.la; rw [g2.len] at h8; omega); rw [e3] at h9; exact h9) ?_
 rintro _ w45 ⟨rfl, hP3⟩
 refine ⟨_, rfl, ?_⟩
 have hgd3 := hgd2.doS wp3 wd3
 have hrd3 : roomD (DoS S2 wp3 wd3).1.D = 1048576 := (room_do hgd2 wp3 wd3).trans hrd2
 rw [r2, w_r3] at r3
 rw [w_f3] at g3
 generalize (DoS S2 wp3 wd3).1 = S3 at hP3 l3 r3 g3 hgd3 hrd3
 obtain ⟨m46, X46, hc46, rs46, nx46, hrs46, hK46, hH46⟩ := SH.opn hP3
 have h47 : HA ⟨w, m46 :: (s.r, .mp (eR rs46) nx46) :: []⟩ ((s.q, 73, scell s.d.q s.r ((laidR S3.rows)) S3.size) :: (q42, 9, #[.string ({ data := #[97] })]) :: (q39, 64, #[.string ({ data := #[97] }), .string ({ data := #[52] })]) :: (q31, 9, #[.string ({ data := #[98] })]) :: (q28, 64, #[.string ({ data := #[97] }), .string ({ data := #[51] })]) :: (q15, 64, #[.string ({ data := #[97] }), .string ({ data := #[49] }), .string ({ data := #[98] }), .string ({ data := #[50] })]) :: (Ll ++ X46)) w45 := hH46
 refine zwv (iN .i64 0) ?_
 refine wl_nil ?_
 refine then_at (F := ⟨(.bool false :: pt s.q :: iN .i64 0 :: .string ({ data := #[49] }) :: .bool true :: .slice pl 2 cl :: iN .i64 0 :: iN .i64 0 :: .tuple #[pt s.q, iN .i64 0] :: pt d.q :: .tuple #[pt s.q, iN .i64 0] :: pt s.q :: iN .i64 0 :: iN .i64 0 :: .bool false :: .bool false :: pt s.q :: .bool false :: .bool false :: .bool false :: pt s.q :: rwv ⟨{ data := #[97] }, { data := #[49] }⟩ :: rwv ⟨{ data := #[98] }, { data := #[50] }⟩ :: .slice (some ⟨q15, 0, none⟩) 2 2 :: iN .i64 0 :: .bool false :: .bool false :: .tuple #[.string ({ data := #[49] }), .bool true] :: pt s.q :: .tuple #[.string ({ data := #[49] }), .bool true] :: .string ({ data := #[49] }) :: .bool true :: pt s.q :: .slice pl 2 cl :: pt s.q :: rwv ⟨{ data := #[97] }, { data := #[51] }⟩ :: .slice (some ⟨q28, 0, none⟩) 1 1 :: .slice (some ⟨q31, 0, none⟩) 1 1 :: iN .i64 0 :: pt s.q :: rwv ⟨{ data := #[97] }, { data := #[52] }⟩ :: .slice (some ⟨q39, 0, none⟩) 1 1 :: .slice (some ⟨q42, 0, none⟩) 1 1 :: iN .i64 0 :: List.replicate 35 un).toArray, []⟩) (by kernel_rfl) ?_
 refine wp_seq ?_
 refine wl_region ?_
 refine zwv (.string ({ data := #[49] })) ?_
 refine zwx (.bool true) (run_eqs (s := { data := #[49] }) (t := { data := #[49] }) (by kernel_rfl) (by kernel_rfl) true (by decide)) ?_
 refine zwv (.bool true) ?_
 refine zwv (.bool true) ?_
 refine zwv (.bool true) ?_
 refine zwv (.bool true) ?_
 refine zwv (.slice pl 2 cl) ?_
 refine zwv (iN .i64 2) ?_
 refine zwx (.bool true) (run_eqi (k := .i64) (a := 2) (b := 2) (by kernel_rfl) (by kernel_rfl) true (by decide)) ?_
 refine zwv (.bool true) ?_
 refine zwv (.bool true) ?_
 refine zwv (.slice pl 2 cl) ?_
 refine zwx (.pointer (some (la.add 0))) (run_addr39 (o := pl) (a := la) (n := 2) (m := cl) (i := 0) hla (by kernel_rfl) (by kernel_rfl) (by decide)) ?_
 refine zwx (.string ({ data := #[97] })) (run_load_at (b := la.add 0) (fun w => Tryz.isAgg9 w) (by kernel_rfl) ((Row.keys (ds := [{ data := #[97] }, { data := #[98] }]) hRl (fun y hy => h47.blk y (by simp [hy]))).at (i := 0) rfl hla)) ?_
 refine zwx (.bool true) (run_eqs (s := { data := #[97] }) (t := { data := #[97] }) (by kernel_rfl) (by kernel_rfl) true (by decide)) ?_
 refine zwv (.bool true) ?_
 refine zwv (.bool true) ?_
 refine zwv (.slice pl 2 cl) ?_
 refine zwx (.pointer (some (la.add 1))) (run_addr39 (o := pl) (a := la) (n := 2) (m := cl) (i := 1) hla (by kernel_rfl) (by kernel_rfl) (by decide)) ?_
 refine zwx (.string ({ data := #[98] })) (run_load_at (b := la.add 1) (fun w => Tryz.isAgg9 w) (by kernel_rfl) ((Row.keys (ds := [{ data := #[97] }, { data := #[98] }]) hRl (fun y hy => h47.blk y (by simp [hy]))).at (i := 1) rfl hla)) ?_
 refine zwx (.bool true) (run_eqs (s := { data := #[98] }) (t := { data := #[98] }) (by kernel_rfl) (by kernel_rfl) true (by decide)) ?_
 refine zwv (.bool true) ?_
 refine zwv (.bool true) ?_
 refine zwv (iN .i64 0) ?_
 refine zwx (.bool true) (run_eqi (k := .i64) (a := 0) (b := 0) (by kernel_rfl) (by kernel_rfl) true (by decide)) ?_
 refine zwv (.bool true) ?_
 refine zwv (.bool true) ?_
 refine zwv (iN .i64 0) ?_
 refine zwx (.bool true) (run_eqi (k := .i64) (a := 0) (b := 0) (by kernel_rfl) (by kernel_rfl) true (by decide)) ?_
 refine zwv (.bool true) ?_
 refine zwv (.bool true) ?_
 refine zwv (.pointer (some ⟨s.q, 0, none⟩)) ?_
 refine wl_call (v := iN .i64 0) h47 (by kernel_rfl) enter26 #[.pointer (some ⟨s.q, 0, none⟩)] (by kernel_rfl) (by have h9 := len_S (hc46 _ _ ((q42, 9, #[.string ({ data := #[97] })]) :: (q39, 64, #[.string ({ data := #[97] }), .string ({ data := #[52] })]) :: (q31, 9, #[.string ({ data := #[98] })]) :: (q28, 64, #[.string ({ data := #[97] }), .string ({ data := #[51] })]) :: (q15, 64, #[.string ({ data := #[97] }), .string ({ data := #[49] }), .string ({ data := #[98] }), .string ({ data := #[50] })]) :: Ll) _ ⟨_, _, hrs46, hK46, h47⟩); rw [r3] at h9; exact h9) ?_
 intro w48 h49
 refine zwx (.bool true) (run_eqi (k := .i64) (a := 0) (b := 0) (by kernel_rfl) (by kernel_rfl) true (by decide)) ?_
 refine zwv (.bool true) ?_
 refine zwv (.bool true) ?_
 refine wl_nil ?_
 refine then_at (F := ⟨(.bool true :: pt s.q :: iN .i64 0 :: .string ({ data := #[49] }) :: .bool true :: .slice pl 2 cl :: iN .i64 0 :: iN .i64 0 :: .tuple #[pt s.q, iN .i64 0] :: pt d.q :: .tuple #[pt s.q, iN .i64 0] :: pt s.q :: iN .i64 0 :: iN .i64 0 :: .bool false :: .bool false :: pt s.q :: .bool false :: .bool false :: .bool false :: pt s.q :: rwv ⟨{ data := #[97] }, { data := #[49] }⟩ :: rwv ⟨{ data := #[98] }, { data := #[50] }⟩ :: .slice (some ⟨q15, 0, none⟩) 2 2 :: iN .i64 0 :: .bool false :: .bool false :: .tuple #[.string ({ data := #[49] }), .bool true] :: pt s.q :: .tuple #[.string ({ data := #[49] }), .bool true] :: .string ({ data := #[49] }) :: .bool true :: pt s.q :: .slice pl 2 cl :: pt s.q :: rwv ⟨{ data := #[97] }, { data := #[51] }⟩ :: .slice (some ⟨q28, 0, none⟩) 1 1 :: .slice (some ⟨q31, 0, none⟩) 1 1 :: iN .i64 0 :: pt s.q :: rwv ⟨{ data := #[97] }, { data := #[52] }⟩ :: .slice (some ⟨q39, 0, none⟩) 1 1 :: .slice (some ⟨q42, 0, none⟩) 1 1 :: iN .i64 0 :: .string ({ data := #[49] }) :: .bool true :: .bool true :: .bool true :: .bool true :: .bool true :: .slice pl 2 cl :: iN .i64 2 :: .bool true :: .bool true :: .bool true :: .slice pl 2 cl :: .pointer (some (la.add 0)) :: .string ({ data := #[97] }) :: .bool true :: .bool true :: .bool true :: .slice pl 2 cl :: .pointer (some (la.add 1)) :: .string ({ data := #[98] }) :: .bool true :: .bool true :: .bool true :: iN .i64 0 :: .bool true :: .bool true :: .bool true :: iN .i64 0 :: .bool true :: .bool true :: .bool true :: pt s.q :: iN .i64 0 :: .bool true :: .bool true :: List.replicate 0 un).toArray, []⟩) (by kernel_rfl) ?_
 refine wp_ret ?_
 repeat first | refine then_ret ?_ | refine block_ret ?_
 exact bodyPost_ret (v := .bool true) (by kernel_rfl) rfl ⟨rfl, h49.old.old⟩
end Go.Proofs.YtckmlaempffpjaaGreat
