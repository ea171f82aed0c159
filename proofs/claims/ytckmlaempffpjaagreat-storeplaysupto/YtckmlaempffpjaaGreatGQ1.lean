/-
 The reference's store: Get, without, with, Changed.
-/
import Derived.Test.YtckmlaempffpjaaGreatGRW
namespace Go.Proofs.YtckmlaempffpjaaGreat
set_option linter.unusedVariables false
set_option maxRecDepth 100000
set_option maxHeartbeats 4000000
open Go.RowKit Go.Proofs.Tryz
theorem rget_any {w : World} {o : Option Addr} {c : Nat} {ls : List Rw} (hP : RowsAt w o ls) (hl : ls.length ≤ 1000000) (key : ByteArray) :
  Calls prog 86 #[.slice o ls.length c, .string key] w fun e w' => e = .returned (.tuple #[.string (getR ls key).1, .bool (getR ls key).2]) ∧ Below w.heap.size w w' := by
 have H0 := HA.start w
 go_enter Tryz.func86, Tryz.ntmps86
 refine zsr (zv (zv (znt (wp_seq (zsr (zv (znt ?_)))))));refine wp_block ?_;refine zcn (fun Z0 k A w' => ∃ u1 : Nat → Value, A = pts Z0 [(4, u1 4), (5, u1 5), (6, i6 k), (7, u1 7), (8, u1 8), (9, u1 9), (10, u1 10), (11, u1 11), (12, u1 12), (13, u1 13), (14, u1 14), (15, u1 15), (16, u1 16), (17, u1 17), (18, u1 18), (19, u1 19), (20, u1 20), (21, u1 21), (22, u1 22), (23, u1 23), (24, u1 24)] ∧ (∀ j, j < k → ∀ y, ls[j]? = some y → y.k ≠ key) ∧ HA (bs w) [] w') ls.length ?_ ?_ ?_
 ·exact zey [] ⟨fun j hj => absurd hj (Nat.not_lt_zero j), H0⟩
 ·rintro k hk _ w2 ⟨u1, rfl, hne, hL⟩;obtain ⟨x, hx⟩ : ∃ x, ls[k]? = some x := ⟨_, List.getElem?_eq_getElem hk⟩;obtain ⟨oa, hoa, hx0, hx1⟩ := hP k x hx;rw [← aadd] at hx1;refine wp_seq (zsr (zv (zv (zv ?_))));refine zwu (run_lss (k := .i64) (a := k) (b := ls.length) true (dt (by omega))) ?_;refine znt (zct (wp_skip (zt (wp_seq ?_))));refine wp_block ?_;refine wp_seq ?_
  by_cases hkk : x.k = key
  ·refine wl_region (zv (zv ?_));refine zwu (v := .pointer (some (oa.add (k * 2)))) (run_addrT (o := o) (a := oa) (n := ls.length) (m := c) (i := k) hoa underlying30 sizeOf64 (by omega)) ?_;refine zv ?_;refine zwu (v := .string x.k) (run_load_at (b := (oa.add (k * 2)).add 0) isAgg9 (cell_old hL.old.old hx0)) ?_;refine zv ?_;refine zwu (run_eqs (s := x.k) (t := key) true (dt hkk)) ?_;refine znt (zct (zsr (zv (zv ?_))));refine zwu (v := .pointer (some (oa.add (k * 2)))) (run_addrT (o := o) (a := oa) (n := ls.length) (m := c) (i := k) hoa underlying30 sizeOf64 (by omega)) ?_;refine zv ?_;refine zwu (v := .string x.v) (run_load_at (b := (oa.add (k * 2)).add 1) isAgg9 (cell_old hL.old.old hx1)) ?_;refine zv (zv (znt ?_));refine wp_ret ?_
   repeat first|refine zrt ?_|refine block_ret ?_
   exact zb (v := .tuple #[.string x.v, .bool true]) ⟨by rw [get_hit hne hx hkk], hL.old.old⟩
  ·refine wl_region (zv (zv ?_));refine zwu (v := .pointer (some (oa.add (k * 2)))) (run_addrT (o := o) (a := oa) (n := ls.length) (m := c) (i := k) hoa underlying30 sizeOf64 (by omega)) ?_;refine zv ?_;refine zwu (v := .string x.k) (run_load_at (b := (oa.add (k * 2)).add 0) isAgg9 (cell_old hL.old.old hx0)) ?_;refine zv ?_;refine zwu (run_eqs (s := x.k) (t := key) false (df hkk)) ?_;refine znt (zcf (wp_skip ?_));refine block_normal ?_;refine zt (wl_region (zv ?_));refine zwu (run_add (k := .i64) (a := k) (b := 1) (by first | omega | (simp only [top]; omega))) ?_;refine zv (wl_nil ?_);exact then_I (zey [] ⟨fun j hj y hy => (by rcases Nat.lt_or_eq_of_le (Nat.le_of_lt_succ hj) with h9 | h9; exact hne j h9 y hy; subst h9; rw [hx] at hy; cases hy; exact hkk), hL⟩)
 ·rintro _ w3 ⟨u1, rfl, hne, hL⟩;refine wp_seq (zsr (zv (zv (zv ?_))));refine zwu (run_lss (k := .i64) (a := ls.length) (b := ls.length) false (df (by omega))) ?_;refine znt (zcf ?_);refine wp_exit ?_
  repeat first | refine then_exit ?_ | refine block_exit ?_ | refine block_exit_ne (by decide) ?_
  refine zt (zsr (zv (zv (znt ?_))));refine wp_ret ?_
  repeat first|refine zrt ?_|refine block_ret ?_
  exact zb (v := .tuple #[.string { data := #[] }, .bool false]) ⟨by rw [get_miss hne], hL.old.old⟩
theorem rwo_any {w : World} {o : Option Addr} {c : Nat} {ls : List Rw} (hP : RowsAt w o ls) (hl : ls.length ≤ 1000000) (key : ByteArray) :
  Calls prog 117 #[.slice o ls.length c, .string key] w fun e w' => ∃ v N, e = .returned v ∧ Row 64 2 v (dropR ls key).length (rcl (dropR ls key)) N ∧ HA (bs w) N w' := by
 have H0 := HA.start w
 go_enter Tryz.func117, Tryz.ntmps117
 refine zsr (zv (znt (zsr (zv (znt (wp_seq (zsr (zv (znt ?_)))))))));refine wp_block ?_;refine zcn (fun Z0 k A w' => ∃ u1 : Nat → Value, A = pts Z0 [(5, u1 5), (6, i6 k), (7, u1 7), (8, u1 8), (9, u1 9), (10, u1 10), (11, u1 11), (12, u1 12), (13, u1 13), (14, u1 14), (15, u1 15), (16, u1 16), (17, u1 17), (18, u1 18), (19, u1 19), (20, u1 20), (21, u1 21), (22, u1 22), (23, u1 23), (24, u1 24), (25, u1 25), (26, u1 26)] ∧ ∃ v N, Row 64 2 v (dropR (ls.take k) key).length (rcl (dropR (ls.take k) key)) N ∧ u1 5 = v ∧ HA (bs w) (N ++ []) w') ls.length ?_ ?_ ?_
 ·exact zey [(5, .slice none 0 0)] ⟨_, [], Row.nil 64 2, rfl, H0⟩
 ·rintro k hk _ w2 ⟨u1, rfl, v, N, hR, rfl, hL⟩;obtain ⟨x, hx⟩ : ∃ x, ls[k]? = some x := ⟨_, List.getElem?_eq_getElem hk⟩;obtain ⟨oa, hoa, hx0, hx1⟩ := hP k x hx;rw [← aadd] at hx1;have hdl : (dropR (ls.take k) key).length ≤ k := Nat.le_trans (List.length_filter_le _ _) (by rw [List.length_take]; omega);refine wp_seq (zsr (zv (zv (zv ?_))));refine zwu (run_lss (k := .i64) (a := k) (b := ls.length) true (dt (by omega))) ?_;refine znt (zct (wp_skip (zt (wp_seq ?_))));refine wp_block ?_;refine wp_seq ?_
  by_cases hkk : x.k = key
  ·refine wl_region (zv (zv ?_));refine zwu (v := .pointer (some (oa.add (k * 2)))) (run_addrT (o := o) (a := oa) (n := ls.length) (m := c) (i := k) hoa underlying30 sizeOf64 (by omega)) ?_;refine zv ?_;refine zwu (v := .string x.k) (run_load_at (b := (oa.add (k * 2)).add 0) isAgg9 (cell_old hL.old.old hx0)) ?_;refine zv ?_;refine zwu (run_nes (s := x.k) (t := key) false (dt hkk)) ?_;refine znt (zcf (wp_skip ?_));refine block_normal ?_;refine zt (wl_region (zv ?_));refine zwu (run_add (k := .i64) (a := k) (b := 1) (by first | omega | (simp only [top]; omega))) ?_;refine zv (wl_nil ?_);exact then_I (zey [(5, u1 5)] ⟨_, N, (by rw [drop_take hx, if_neg (fun h => h hkk), List.append_nil]; exact hR), rfl, hL⟩)
  ·refine wl_region (zv (zv ?_));refine zwu (v := .pointer (some (oa.add (k * 2)))) (run_addrT (o := o) (a := oa) (n := ls.length) (m := c) (i := k) hoa underlying30 sizeOf64 (by omega)) ?_;refine zv ?_;refine zwu (v := .string x.k) (run_load_at (b := (oa.add (k * 2)).add 0) isAgg9 (cell_old hL.old.old hx0)) ?_;refine zv ?_;refine zwu (run_nes (s := x.k) (t := key) true (df hkk)) ?_;refine znt (zct (wl_region (zv (zv (zv ?_)))));refine zwu (v := .pointer (some (oa.add (k * 2)))) (run_addrT (o := o) (a := oa) (n := ls.length) (m := c) (i := k) hoa underlying30 sizeOf64 (by omega)) ?_;refine zwu (v := rwv x) (run_loadT (a := (oa.add (k * 2))) (c := #[.string x.k, .string x.v]) (row_cells (cell_old hL.old.old hx0) (cell_old hL.old.old hx1)) underlying64 rfl) ?_;refine wl_mks (n := 1) (m := 1) (c := #[.string x.k, .string x.v]) hL 64 ?_;intro q3 w4 h5;have h6 := h5.perm (List.Perm.cons _ (perm_mv [] N []));refine wl_append (Lr := N) (L := [] ++ []) (m := 1) (c := 1) hR h6 (.agg #[.string { data := #[] }, .string { data := #[] }]) 32 underlying30 info64 rfl rfl (by unfold maxLen; omega) (by omega) ?_;intro v7 w8 N7 hR7 h9;have h10 : HA (bs w) (N7 ++ []) w8 := h9.perm (perm_mv [] N7 []).symm;refine zv (wl_nil ?_);refine block_normal ?_;refine zt (wl_region (zv ?_));refine zwu (run_add (k := .i64) (a := k) (b := 1) (by first | omega | (simp only [top]; omega))) ?_;refine zv (wl_nil ?_);exact then_I (zey [(5, v7)] ⟨_, N7, (by rw [drop_take hx, if_pos hkk, rcl_snoc, List.length_append]; exact hR7), rfl, h10⟩)
 ·rintro _ w11 ⟨u1, rfl, v, N, hR, rfl, hL⟩;refine wp_seq (zsr (zv (zv (zv ?_))));refine zwu (run_lss (k := .i64) (a := ls.length) (b := ls.length) false (df (by omega))) ?_;refine znt (zcf ?_);refine wp_exit ?_
  repeat first | refine then_exit ?_ | refine block_exit ?_ | refine block_exit_ne (by decide) ?_
  refine zt (zsr (zv (zv (znt ?_))));refine wp_ret ?_
  repeat first|refine zrt ?_|refine block_ret ?_
  exact zb (v := u1 5) ⟨_, N, rfl, (by have h9 := hR; rw [List.take_length] at h9; exact h9), by have h9 := hL; rw [List.append_nil] at h9; exact h9⟩
theorem l1_at {w : World} {l1 : List Rw} {p1 : Option Addr} {c1 k : Nat} {N1 : BL} {y : Rw} {oa : Addr} (hR : Row 64 2 (.slice p1 l1.length c1) l1.length (rcl l1) N1) (hy : l1[k]? = some y) (ho : p1 = some oa) (hw : ∀ z ∈ N1, Blk w z.1 z.2.1 z.2.2) : w.cell? (oa.add (k * 2)) = some (.string y.k) ∧ w.cell? ((oa.add (k * 2)).add 1) = some (.string y.v) := by
 rw [aadd];obtain ⟨a, ha, h1, h2⟩ := Row.rows hR hw k y hy;rw [ho] at ha
 cases ha
 exact ⟨h1, h2⟩
theorem rwi_any {w : World} {o : Option Addr} {c : Nat} {ls : List Rw} (hP : RowsAt w o ls) (hl : ls.length ≤ 1000000) (x : Rw) :
  Calls prog 116 #[.slice o ls.length c, rwv x] w fun e w' => ∃ v N, e = .returned v ∧ Row 64 2 v (withO ls x).length (rcl (withO ls x)) N ∧ HA (bs w) N w' := by
 have H0 := HA.start w
 go_enter Tryz.func116, Tryz.ntmps116
 refine zsr ?_;refine wl_make (c := #[.string x.k, .string x.v]) H0 64 ?_;intro q1 w2 h3;refine zv (znt (zsr (zv (zv ?_))));refine zwu (v := .string x.k) (run_load1 isAgg9 (((h3.get 0 rfl).cell 0).trans rfl)) ?_;refine wl_callx enter117 #[.slice o ls.length c, .string x.k] (rwo_any (hP.keep h3.old.old) hl x.k) ?_;rintro _ w4 ⟨v1, N1, rfl, hR1, hN1⟩;refine ⟨_, rfl, ?_⟩;obtain ⟨p1, c1, rfl⟩ := hR1.form;obtain ⟨l1, hl1⟩ : ∃ l, l = dropR ls x.k := ⟨_, rfl⟩;rw [← hl1] at hR1 ⊢;have hll : l1.length ≤ 1000000 := by rw [hl1]; exact Nat.le_trans (List.length_filter_le _ _) hl
 have h5 : HA (bs w) (N1 ++ [(q1, 64, #[.string x.k, .string x.v])]) w4 := HA.join h3 hN1;have h6 : HA (bs w) ((q1, 64, #[.string x.k, .string x.v]) :: (N1 ++ [])) w4 := h5.perm (by rw [List.append_nil]; exact List.perm_append_comm);refine zv (znt (zsr (zv (znt (zsr (zv (znt (wp_seq (zsr (zv ?_))))))))));refine znt ?_;refine wp_block ?_;refine zcn (fun Z0 k A w' => ∃ u7 : Nat → Value, A = pts Z0 [(5, u7 5), (6, u7 6), (7, i6 k), (12, u7 12), (13, u7 13), (14, u7 14), (15, u7 15), (16, u7 16), (17, u7 17), (18, u7 18), (19, u7 19), (20, u7 20), (21, u7 21), (22, u7 22), (23, u7 23), (24, u7 24), (25, u7 25), (26, u7 26), (27, u7 27), (28, u7 28), (29, u7 29), (30, u7 30), (31, u7 31), (32, u7 32), (33, u7 33), (34, u7 34), (35, u7 35), (36, u7 36), (37, u7 37), (38, u7 38), (39, u7 39), (40, u7 40)] ∧ ∃ v N, Row 64 2 v (rowO x (l1.take k)).1.length (rcl (rowO x (l1.take k)).1) N ∧ u7 5 = v ∧ u7 6 = .bool (rowO x (l1.take k)).2 ∧ HA (bs w) ((q1, 64, #[.string x.k, .string x.v]) :: (N ++ (N1 ++ []))) w') l1.length ?_ ?_ ?_
 ·exact zey [(5, .slice none 0 0), (6, .bool false)] ⟨_, [], Row.nil 64 2, rfl, rfl, h6⟩
 ·rintro k hk _ w8 ⟨u7, rfl, v, N, hR, rfl, hU, hL⟩;obtain ⟨y, hy⟩ : ∃ y, l1[k]? = some y := ⟨_, List.getElem?_eq_getElem hk⟩;have hgrow := rowO_len x (l1.take k);rw [List.length_take, Nat.min_eq_left (by omega)] at hgrow;have hRA := Row.rows hR1 (w := w8) (fun z hz => hL.blk z (by simp [hz]));obtain ⟨oa, hoa, _, _⟩ := hRA k y hy;rw [hU];refine wp_seq (zsr (zv (zv (zv ?_))));refine zwu (run_lss (k := .i64) (a := k) (b := l1.length) true (dt (by omega))) ?_;refine znt (zct (wp_skip (zt (wp_seq ?_))));refine wp_block ?_;refine wp_seq (wp_seq ?_)
  cases hput : (rowO x (l1.take k)).2
  ·by_cases hgt : bl x.k < bl y.k
   ·refine zrs ⟨(.slice p1 l1.length c1 :: rwv x :: un :: pt q1 :: .slice none 0 0 :: u7 5 :: .bool false :: i6 k :: .slice o ls.length c :: pt q1 :: .string x.k :: .slice p1 l1.length c1 :: i6 k :: .slice p1 l1.length c1 :: i6 l1.length :: .bool true :: u7 16 :: u7 17 :: .bool false :: .bool true :: .bool true :: .slice p1 l1.length c1 :: i6 k :: .pointer (some (oa.add (k * 2))) :: .pointer (some ((oa.add (k * 2)).add 0)) :: .string y.k :: pt q1 :: .string x.k :: .bool true :: .bool true :: u7 30 :: u7 31 :: u7 32 :: u7 33 :: u7 34 :: u7 35 :: u7 36 :: u7 37 :: u7 38 :: u7 39 :: u7 40 :: List.replicate 7 un).toArray, []⟩ (HA (bs w) ((q1, 64, #[.string x.k, .string x.v]) :: (N ++ (N1 ++ [])))) hL.drew ?_ ?_
    ·refine zsp (.bool false) ?_;refine zsp (.bool true) ?_;refine zsp (.bool true) ?_;refine zsp (.slice p1 l1.length c1) ?_;refine zsp (i6 k) ?_;refine zst (v := .pointer (some (oa.add (k * 2)))) (fun _ _ => (run_addrT (o := p1) (a := oa) (n := l1.length) (m := c1) (i := k) hoa underlying30 sizeOf64 (by omega))) ?_;refine zsp (.pointer (some ((oa.add (k * 2)).add 0))) ?_;refine zst (v := .string y.k) (fun w' h' => run_load_at (b := (oa.add (k * 2)).add 0) isAgg9 (l1_at hR1 hy hoa (fun z hz => h'.blk z (by simp [hz]))).1) ?_;refine zsp (pq q1) ?_;refine zst (v := .string x.k) (fun w' h' => run_load1 isAgg9 (((h'.get 0 rfl).cell 0).trans rfl)) ?_;refine zst (fun _ _ => (run_gts (s := y.k) (t := x.k) (by kernel_rfl) (by kernel_rfl) true (dt hgt))) ?_;refine zsp (.bool true) ?_;exact AllSure.nil
    intro w9 h10;refine zt (zct (zsr (zv ?_)));refine zwu (v := rwv x) (run_load_blk (h10.get 0 rfl) underlying64 rfl) ?_;refine wl_mks (n := 1) (m := 1) (c := #[.string x.k, .string x.v]) h10 64 ?_;intro q11 w12 h13;have h14 := h13.perm (List.Perm.cons _ (perm_mv [(q1, 64, #[.string x.k, .string x.v])] N (N1 ++ [])));refine wl_append (Lr := N) (L := [(q1, 64, #[.string x.k, .string x.v])] ++ (N1 ++ [])) (m := 1) (c := 1) hR h14 (.agg #[.string { data := #[] }, .string { data := #[] }]) 32 underlying30 info64 rfl rfl (by unfold maxLen; omega) (by omega) ?_;intro v15 w16 N15 hR15 h17;have h18 : HA (bs w) ((q1, 64, #[.string x.k, .string x.v]) :: (N15 ++ (N1 ++ []))) w16 := h17.perm (perm_mv [(q1, 64, #[.string x.k, .string x.v])] N15 (N1 ++ [])).symm;refine zv (znt (wl_region (zv (znt (wl_region (zv (zv (zv ?_))))))));refine zwu (v := .pointer (some (oa.add (k * 2)))) (run_addrT (o := p1) (a := oa) (n := l1.length) (m := c1) (i := k) hoa underlying30 sizeOf64 (by omega)) ?_;refine zwu (v := rwv y) (run_loadT (a := (oa.add (k * 2))) (c := #[.string y.k, .string y.v]) (row_cells (l1_at hR1 hy hoa (fun z hz => h18.blk z (by simp [hz]))).1 (l1_at hR1 hy hoa (fun z hz => h18.blk z (by simp [hz]))).2) underlying64 rfl) ?_;refine wl_mks (n := 1) (m := 1) (c := #[.string y.k, .string y.v]) h18 64 ?_;intro q19 w20 h21;have h22 := h21.perm (List.Perm.cons _ (perm_mv [(q1, 64, #[.string x.k, .string x.v])] N15 (N1 ++ [])));refine wl_append (Lr := N15) (L := [(q1, 64, #[.string x.k, .string x.v])] ++ (N1 ++ [])) (m := 1) (c := 1) hR15 h22 (.agg #[.string { data := #[] }, .string { data := #[] }]) 32 underlying30 info64 rfl rfl (by unfold maxLen; omega) (by omega) ?_;intro v23 w24 N23 hR23 h25;have h26 : HA (bs w) ((q1, 64, #[.string x.k, .string x.v]) :: (N23 ++ (N1 ++ []))) w24 := h25.perm (perm_mv [(q1, 64, #[.string x.k, .string x.v])] N23 (N1 ++ [])).symm;refine zv (wl_nil ?_);refine block_normal ?_;refine zt (wl_region (zv ?_));refine zwu (run_add (k := .i64) (a := k) (b := 1) (by first | omega | (simp only [top]; omega))) ?_;refine zv (wl_nil ?_);exact then_I (zey [(5, v23), (6, .bool true)] ⟨_, N23, (by rw [rowO_take hy, stpO, if_pos ⟨hput, hgt⟩]; show Row 64 2 _ (_ ++ [x] ++ [y]).length (rcl (_ ++ [x] ++ [y])) _; rw [rcl_snoc, rcl_snoc, List.length_append, List.length_append]; exact hR23), rfl, (by rw [rowO_take hy, stpO, if_pos ⟨hput, hgt⟩]; rfl), h26⟩)
   ·refine zrs ⟨(.slice p1 l1.length c1 :: rwv x :: un :: pt q1 :: .slice none 0 0 :: u7 5 :: .bool false :: i6 k :: .slice o ls.length c :: pt q1 :: .string x.k :: .slice p1 l1.length c1 :: i6 k :: .slice p1 l1.length c1 :: i6 l1.length :: .bool true :: u7 16 :: u7 17 :: .bool false :: .bool true :: .bool true :: .slice p1 l1.length c1 :: i6 k :: .pointer (some (oa.add (k * 2))) :: .pointer (some ((oa.add (k * 2)).add 0)) :: .string y.k :: pt q1 :: .string x.k :: .bool false :: .bool false :: u7 30 :: u7 31 :: u7 32 :: u7 33 :: u7 34 :: u7 35 :: u7 36 :: u7 37 :: u7 38 :: u7 39 :: u7 40 :: List.replicate 7 un).toArray, []⟩ (HA (bs w) ((q1, 64, #[.string x.k, .string x.v]) :: (N ++ (N1 ++ [])))) hL.drew ?_ ?_
    ·refine zsp (.bool false) ?_;refine zsp (.bool true) ?_;refine zsp (.bool true) ?_;refine zsp (.slice p1 l1.length c1) ?_;refine zsp (i6 k) ?_;refine zst (v := .pointer (some (oa.add (k * 2)))) (fun _ _ => (run_addrT (o := p1) (a := oa) (n := l1.length) (m := c1) (i := k) hoa underlying30 sizeOf64 (by omega))) ?_;refine zsp (.pointer (some ((oa.add (k * 2)).add 0))) ?_;refine zst (v := .string y.k) (fun w' h' => run_load_at (b := (oa.add (k * 2)).add 0) isAgg9 (l1_at hR1 hy hoa (fun z hz => h'.blk z (by simp [hz]))).1) ?_;refine zsp (pq q1) ?_;refine zst (v := .string x.k) (fun w' h' => run_load1 isAgg9 (((h'.get 0 rfl).cell 0).trans rfl)) ?_;refine zst (fun _ _ => (run_gts (s := y.k) (t := x.k) (by kernel_rfl) (by kernel_rfl) false (df hgt))) ?_;refine zsp (.bool false) ?_;exact AllSure.nil
    intro w27 h28;refine zt (zcf (wp_skip (zt (wl_region (zv (zv (zv ?_)))))));refine zwu (v := .pointer (some (oa.add (k * 2)))) (run_addrT (o := p1) (a := oa) (n := l1.length) (m := c1) (i := k) hoa underlying30 sizeOf64 (by omega)) ?_;refine zwu (v := rwv y) (run_loadT (a := (oa.add (k * 2))) (c := #[.string y.k, .string y.v]) (row_cells (l1_at hR1 hy hoa (fun z hz => h28.blk z (by simp [hz]))).1 (l1_at hR1 hy hoa (fun z hz => h28.blk z (by simp [hz]))).2) underlying64 rfl) ?_;refine wl_mks (n := 1) (m := 1) (c := #[.string y.k, .string y.v]) h28 64 ?_;intro q29 w30 h31;have h32 := h31.perm (List.Perm.cons _ (perm_mv [(q1, 64, #[.string x.k, .string x.v])] N (N1 ++ [])));refine wl_append (Lr := N) (L := [(q1, 64, #[.string x.k, .string x.v])] ++ (N1 ++ [])) (m := 1) (c := 1) hR h32 (.agg #[.string { data := #[] }, .string { data := #[] }]) 32 underlying30 info64 rfl rfl (by unfold maxLen; omega) (by omega) ?_;intro v33 w34 N33 hR33 h35;have h36 : HA (bs w) ((q1, 64, #[.string x.k, .string x.v]) :: (N33 ++ (N1 ++ []))) w34 := h35.perm (perm_mv [(q1, 64, #[.string x.k, .string x.v])] N33 (N1 ++ [])).symm;refine zv (wl_nil ?_);refine block_normal ?_;refine zt (wl_region (zv ?_));refine zwu (run_add (k := .i64) (a := k) (b := 1) (by first | omega | (simp only [top]; omega))) ?_;refine zv (wl_nil ?_);exact then_I (zey [(5, v33), (6, .bool false)] ⟨_, N33, (by rw [rowO_take hy, stpO, if_neg (fun h => hgt h.2)]; show Row 64 2 _ (_ ++ [y]).length (rcl (_ ++ [y])) _; rw [rcl_snoc, List.length_append]; exact hR33), rfl, (by rw [rowO_take hy, stpO, if_neg (fun h => hgt h.2)]; exact (congrArg Value.bool hput).symm), h36⟩)
  ·refine zrs ⟨(.slice p1 l1.length c1 :: rwv x :: un :: pt q1 :: .slice none 0 0 :: u7 5 :: .bool true :: i6 k :: .slice o ls.length c :: pt q1 :: .string x.k :: .slice p1 l1.length c1 :: i6 k :: .slice p1 l1.length c1 :: i6 l1.length :: .bool true :: u7 16 :: u7 17 :: .bool true :: .bool false :: .bool false :: un :: un :: un :: un :: un :: un :: un :: un :: .bool false :: u7 30 :: u7 31 :: u7 32 :: u7 33 :: u7 34 :: u7 35 :: u7 36 :: u7 37 :: u7 38 :: u7 39 :: u7 40 :: List.replicate 7 un).toArray, []⟩ (HA (bs w) ((q1, 64, #[.string x.k, .string x.v]) :: (N ++ (N1 ++ [])))) hL.drew ?_ ?_
   ·refine zsp (.bool true) ?_;refine zsp (.bool false) ?_;refine zsp (.bool false) ?_;refine zsk ?_;refine zsk ?_;refine zsk ?_;refine zsk ?_;refine zsk ?_;refine zsk ?_;refine zsk ?_;refine zsk ?_;refine zsp (.bool false) ?_;exact AllSure.nil
   intro w37 h38;refine zt (zcf (wp_skip (zt (wl_region (zv (zv (zv ?_)))))));refine zwu (v := .pointer (some (oa.add (k * 2)))) (run_addrT (o := p1) (a := oa) (n := l1.length) (m := c1) (i := k) hoa underlying30 sizeOf64 (by omega)) ?_;refine zwu (v := rwv y) (run_loadT (a := (oa.add (k * 2))) (c := #[.string y.k, .string y.v]) (row_cells (l1_at hR1 hy hoa (fun z hz => h38.blk z (by simp [hz]))).1 (l1_at hR1 hy hoa (fun z hz => h38.blk z (by simp [hz]))).2) underlying64 rfl) ?_;refine wl_mks (n := 1) (m := 1) (c := #[.string y.k, .string y.v]) h38 64 ?_;intro q39 w40 h41;have h42 := h41.perm (List.Perm.cons _ (perm_mv [(q1, 64, #[.string x.k, .string x.v])] N (N1 ++ [])));refine wl_append (Lr := N) (L := [(q1, 64, #[.string x.k, .string x.v])] ++ (N1 ++ [])) (m := 1) (c := 1) hR h42 (.agg #[.string { data := #[] }, .string { data := #[] }]) 32 underlying30 info64 rfl rfl (by unfold maxLen; omega) (by omega) ?_;intro v43 w44 N43 hR43 h45;have h46 : HA (bs w) ((q1, 64, #[.string x.k, .string x.v]) :: (N43 ++ (N1 ++ []))) w44 := h45.perm (perm_mv [(q1, 64, #[.string x.k, .string x.v])] N43 (N1 ++ [])).symm;refine zv (wl_nil ?_);refine block_normal ?_;refine zt (wl_region (zv ?_));refine zwu (run_add (k := .i64) (a := k) (b := 1) (by first | omega | (simp only [top]; omega))) ?_;refine zv (wl_nil ?_);exact then_I (zey [(5, v43), (6, .bool true)] ⟨_, N43, (by rw [rowO_take hy, stpO, if_neg (fun h => by rw [hput] at h; cases h.1)]; show Row 64 2 _ (_ ++ [y]).length (rcl (_ ++ [y])) _; rw [rcl_snoc, List.length_append]; exact hR43), rfl, (by rw [rowO_take hy, stpO, if_neg (fun h => by rw [hput] at h; cases h.1)]; exact (congrArg Value.bool hput).symm), h46⟩)
 ·rintro _ w47 ⟨u7, rfl, v, N, hR, rfl, hU, hL⟩;rw [hU];refine wp_seq (zsr (zv (zv (zv ?_))));refine zwu (run_lss (k := .i64) (a := l1.length) (b := l1.length) false (df (by omega))) ?_;refine znt (zcf ?_);refine wp_exit ?_
  repeat first | refine then_exit ?_ | refine block_exit ?_ | refine block_exit_ne (by decide) ?_
  refine zt (wp_seq (wp_seq ?_));have hgrow := rowO_len x l1;have hR2 := hR;rw [List.take_length] at hR2
  cases hput : (rowO x (l1.take l1.length)).2
  ·have hput2 := hput;rw [List.take_length] at hput2;refine wl_region (zv (zv (znt (zct (wl_region (zv ?_))))));refine zwu (v := rwv x) (run_load_blk (hL.get 0 rfl) underlying64 rfl) ?_;refine wl_mks (n := 1) (m := 1) (c := #[.string x.k, .string x.v]) hL 64 ?_;intro q48 w49 h50;have h51 := h50.perm (List.Perm.cons _ (perm_mv [(q1, 64, #[.string x.k, .string x.v])] N (N1 ++ [])));refine wl_append (Lr := N) (L := [(q1, 64, #[.string x.k, .string x.v])] ++ (N1 ++ [])) (m := 1) (c := 1) hR2 h51 (.agg #[.string { data := #[] }, .string { data := #[] }]) 32 underlying30 info64 rfl rfl (by unfold maxLen; omega) (by omega) ?_;intro v52 w53 N52 hR52 h54;have h55 : HA (bs w) ((q1, 64, #[.string x.k, .string x.v]) :: (N52 ++ (N1 ++ []))) w53 := h54.perm (perm_mv [(q1, 64, #[.string x.k, .string x.v])] N52 (N1 ++ [])).symm;refine zv (znt (zsr (zv (zv (znt ?_)))));refine wp_ret ?_
   repeat first|refine zrt ?_|refine block_ret ?_
   exact zb (v := v52) ⟨_, N52, rfl, (by rw [withO, ← hl1, insO, if_neg (by rw [hput2]; decide), rcl_snoc, List.length_append]; exact hR52), h55.sub (sk (List.sublist_append_left _ _))⟩
  ·have hput2 := hput;rw [List.take_length] at hput2;refine wl_region (zv (zv (znt (zcf (wp_skip (zt (zsr (zv (zv (znt ?_))))))))));refine wp_ret ?_
   repeat first|refine zrt ?_|refine block_ret ?_
   exact zb (v := u7 5) ⟨_, N, rfl, (by rw [withO, ← hl1, insO, if_pos hput2]; exact hR2), hL.sub (sk (List.sublist_append_left _ _))⟩
end Go.Proofs.YtckmlaempffpjaaGreat
namespace Go.Proofs.YtckmlaempffpjaaGreat
open Go.RowKit Go.Proofs.Tryz
def RVw (o : Option Addr) (c0 : Nat) (l0 : List Rw) (N : BL) (p : Option Addr) (c : Nat) (ls : List Rw) : Prop := (p = o ∧ c = c0 ∧ ls = l0) ∨ Row 64 2 (.slice p ls.length c) ls.length (rcl ls) N
theorem RVw.at {o p : Option Addr} {c0 c : Nat} {l0 ls : List Rw} {N : BL} {w w' : World} (hO : RowsAt w o l0) (h : RVw o c0 l0 N p c ls) (H : HA (bs w) N w') : RowsAt w' p ls := by
 rcases h with ⟨rfl, _, rfl⟩ | h
 ·exact hO.keep H.old.old
 ·exact Row.rows h H.blk
theorem insO_len (l : List Rw) (x : Rw) : (insO l x).length ≤ l.length + 1 := by
 have h := rowO_len x l
 unfold insO
 split
 ·exact h.1
 ·rename_i hc
  have hf : (rowO x l).2 = false := by cases hb : (rowO x l).2 with | true => exact absurd hb hc | false => rfl
  rw [List.length_append, h.2 hf];exact Nat.le_refl _
theorem withO_len (l : List Rw) (x : Rw) : (withO l x).length ≤ l.length + 1 := Nat.le_trans (insO_len _ _) (Nat.add_le_add_right (List.length_filter_le _ _) 1)
theorem withs_len (ps l : List Rw) : (ps.foldl withO l).length ≤ l.length + ps.length := by
 induction ps generalizing l with
 | nil => exact Nat.le_refl _
 | cons x ps ih =>
  have := ih (withO l x);have h2 := withO_len l x;rw [List.foldl_cons, List.length_cons]
  omega
theorem drops_len (ds : List ByteArray) (l : List Rw) : (ds.foldl dropR l).length ≤ l.length := by
 induction ds generalizing l with
 | nil => exact Nat.le_refl _
 | cons k ds ih => exact Nat.le_trans (ih _) (List.length_filter_le _ _)
theorem fold_take {α β : Type} (f : β → α → β) {l : List α} {k : Nat} {x : α} (b : β) (hx : l[k]? = some x) : (l.take (k + 1)).foldl f b = f ((l.take k).foldl f b) x := by
 rw [take_one hx, List.foldl_append]; rfl
theorem len_take_le {α : Type} (l : List α) (k : Nat) : (l.take k).length ≤ k := by rw [List.length_take]; omega
/-! may a change be -/
def lgP (x : Rw) : Bool := decide (64 < x.k.size) || decide (262144 < x.v.size)
def fl1 (n : Nat) (ps : List Rw) : Bool := decide (64 < n) || ps.any lgP
def fl2 (n : Nat) (ps : List Rw) (ds : List ByteArray) : Bool := fl1 n ps || ds.any fun k => decide (64 < k.size)
theorem fl1_take {n : Nat} {ps : List Rw} {k : Nat} {x : Rw} (hx : ps[k]? = some x) : fl1 n (ps.take (k + 1)) = (fl1 n (ps.take k) || lgP x) := by
 unfold fl1
 rw [take_one hx, List.any_append, Bool.or_assoc]
 simp
theorem fl2_take {n : Nat} {ps : List Rw} {ds : List ByteArray} {k : Nat} {x : ByteArray} (hx : ds[k]? = some x) : fl2 n ps (ds.take (k + 1)) = (fl2 n ps (ds.take k) || decide (64 < x.size)) := by
 unfold fl2
 rw [take_one hx, List.any_append, Bool.or_assoc]
 simp
theorem may_two {ps : List Rw} {ds : List ByteArray} {x : Rw} {k : Nat} (hx : ps[k]? = some x) (h0 : x.k.size = 0) : refR ps ds = 2 := by
 unfold refR
 refine if_pos (List.any_eq_true.2 ⟨x.k, ?_, decide_eq_true h0⟩);exact List.mem_append_left _ (List.mem_map.2 ⟨x, List.mem_of_getElem? hx, rfl⟩)
theorem may_twoD {ps : List Rw} {ds : List ByteArray} {x : ByteArray} {k : Nat} (hx : ds[k]? = some x) (h0 : x.size = 0) : refR ps ds = 2 := by
 unfold refR
 exact if_pos (List.any_eq_true.2 ⟨x, List.mem_append_right _ (List.mem_of_getElem? hx), decide_eq_true h0⟩)
theorem may_else {ps : List Rw} {ds : List ByteArray} (hp : ∀ j, j < ps.length → ∀ x, ps[j]? = some x → x.k.size ≠ 0) (hd : ∀ j, j < ds.length → ∀ x, ds[j]? = some x → x.size ≠ 0) : refR ps ds = if fl2 (ps.length + ds.length) ps ds = true then 3 else 0 := by
 unfold refR
 rw [if_neg]
 ·have e : (lng (ps.length + ds.length) (keysOf ps ds) || lngV ps) = fl2 (ps.length + ds.length) ps ds := by
   unfold lng lngV fl2 fl1 keysOf lgP
   rw [List.any_append, List.any_map];have e2 : (ps.any fun x => decide (64 < x.k.size) || decide (262144 < x.v.size)) = ((ps.any fun x => decide (64 < x.k.size)) || ps.any fun x => decide (262144 < x.v.size)) := by
    induction ps with
    | nil => rfl
    | cons y ps ih =>
     simp only [List.any_cons]
     rw [ih (fun j hj x hx => hp (j + 1) (by simpa using hj) x (by simpa using hx))]
     cases decide (64 < y.k.size) <;> cases decide (262144 < y.v.size) <;> cases (ps.any fun x => decide (64 < x.k.size)) <;> simp
   rw [e2];have e3 : (ps.any ((fun k : ByteArray => decide (64 < k.size)) ∘ fun x => x.k)) = ps.any fun x => decide (64 < x.k.size) := rfl
   rw [e3]
   cases decide (64 < ps.length + ds.length) <;> cases (ps.any fun x => decide (64 < x.k.size)) <;> cases (ps.any fun x => decide (262144 < x.v.size)) <;> cases (ds.any fun k => decide (64 < k.size)) <;> rfl
  rw [e]
 ·intro h;obtain ⟨y, hy, h0⟩ := List.any_eq_true.1 h;have h0 := of_decide_eq_true h0
  rcases List.mem_append.1 hy with h9 | h9
  ·obtain ⟨x, hx, rfl⟩ := List.mem_map.1 h9;obtain ⟨j, hj, e⟩ := List.mem_iff_getElem.1 hx;exact hp j hj x (by rw [← e]; exact List.getElem?_eq_getElem _) h0
  ·obtain ⟨j, hj, e⟩ := List.mem_iff_getElem.1 h9;exact hd j hj y (by rw [← e]; exact List.getElem?_eq_getElem _) h0
/-! texts laid -/
theorem pt_eq (t : ByteArray) : Wi.pt t.data.toList = ptB t := by
 unfold Wi.pt ptB bl
 rw [Array.length_toList]
 rfl
theorem rpt_any (l : List UInt8) (t : ByteArray) (hl : l.length ≤ 1000000000) (ht : t.size ≤ 1000000000) (w : World) : Calls prog 121 #[.string ⟨l.toArray⟩, .string t] w fun e w' => e = .returned (.string ⟨(l ++ ptB t).toArray⟩) ∧ Below w.heap.size w w' := by
 have h := Wi.RPutText_any w ⟨l.toArray⟩ t (by show l.toArray.size ≤ _; simpa using hl) ht;rw [pt_eq] at h;have e : (⟨l.toArray⟩ : ByteArray).data.toList = l := by simp
 rw [e] at h;exact h
theorem rpn_any (l : List UInt8) (n : Nat) (hl : l.length ≤ 1000000000) (w : World) : Calls prog 120 #[.string ⟨l.toArray⟩, i6 2, iN .u64 n] w fun e w' => e = .returned (.string ⟨(l ++ Wi.be n 2).toArray⟩) ∧ Below w.heap.size w w' := by
 have h := Wi.RPutNumber_any w ⟨l.toArray⟩ 2 n (by show l.toArray.size ≤ _; simpa using hl);have e : (⟨l.toArray⟩ : ByteArray).data.toList = l := by simp
 have e2 : Wi.wd 2 = 2 := rfl;rw [e, e2] at h;exact h
def fr1 (n : Nat) (ps : List Rw) : List UInt8 := Wi.be n 2 ++ ps.flatMap rowB
def fr2 (ps : List Rw) (m : Nat) (ds : List ByteArray) : List UInt8 := fr1 ps.length ps ++ Wi.be m 2 ++ ds.flatMap ptB
theorem fr1_take {n : Nat} {ps : List Rw} {k : Nat} {x : Rw} (hx : ps[k]? = some x) : fr1 n (ps.take (k + 1)) = fr1 n (ps.take k) ++ ptB x.k ++ ptB x.v := by
 unfold fr1
 rw [take_one hx, List.flatMap_append]
 simp [rowB, List.append_assoc]
theorem fr2_take {ps : List Rw} {m : Nat} {ds : List ByteArray} {k : Nat} {x : ByteArray} (hx : ds[k]? = some x) : fr2 ps m (ds.take (k + 1)) = fr2 ps m (ds.take k) ++ ptB x := by
 unfold fr2
 rw [take_one hx, List.flatMap_append]
 simp [List.append_assoc]
theorem fr2_body (ps : List Rw) (ds : List ByteArray) : fr2 ps ds.length ds = bodyB ps ds := rfl
theorem fr1_len (n : Nat) (ps : List Rw) (k : Nat) : (fr1 n (ps.take k)).length ≤ (fr1 n ps).length := by
 unfold fr1
 rw [List.length_append, List.length_append];have : ((ps.take k).flatMap rowB).length ≤ (ps.flatMap rowB).length := by
  conv => rhs; rw [← List.take_append_drop k ps, List.flatMap_append, List.length_append]
  omega
 omega
theorem fr2_len (ps : List Rw) (m : Nat) (ds : List ByteArray) (k : Nat) : (fr2 ps m (ds.take k)).length ≤ (fr2 ps m ds).length := by
 unfold fr2
 simp only [List.length_append]
 have : ((ds.take k).flatMap ptB).length ≤ (ds.flatMap ptB).length := by
  conv => rhs; rw [← List.take_append_drop k ds, List.flatMap_append, List.length_append]
  omega
 omega
end Go.Proofs.YtckmlaempffpjaaGreat
