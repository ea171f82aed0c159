/-
  The law's same.
-/
import Derived.Test.YtjedhnjjgmbcbaaRW
import Derived.Test.YtjedhnjjgmbcbaaD17
namespace Go.Proofs.Ytjedhnjjgmbcbaa
open Go.RowKit

section
variable {ρ : Operand → Value} {x y : Operand} {w : World} {dst : Option Tmp} {ty : TypeId} {pos : String} {aft : Array Edge} {gd : Option (Nat × Bool)}
theorem run_neqb {b : Bool} (hx : ρ x = .bool b) (hy : ρ y = .bool b) : (execOp ρ ⟨dst, .binOp .neq 4 x y 4, ty, pos, aft, gd⟩).run Try.prog w = .ok (.value (.bool false)) w := by
  cases b <;> simp only [execOp, hx, hy] <;> go_simp
theorem run_addr26p {p : Option Addr} {q n m a : Nat} (hp : p = some ⟨q, 0, none⟩) (hx : ρ x = .slice p n m) (hy : ρ y = iN .i64 a) (ha : a < n) : (execOp ρ ⟨dst, .indexAddr 26 x y, ty, pos, aft, gd⟩).run Try.prog w = .ok (.value (.pointer (some ⟨q, a, none⟩))) w := by
  subst hp
  exact run_addr_slice Try.underlying26 (fun w => Try.sizeOf3 w) hx hy ha
end
theorem RZL.at {p : Option Addr} {n c : Nat} {zs : List Nat} {N : BL} (h : RZL (.slice p n c) zs N) {k : Nat} (hk : k < zs.length) : ∃ g cur, p = some ⟨g, 0, none⟩ ∧ (g, 3, cur) ∈ N ∧ cur[k]? = some (iN .i64 (zs.getD k 0)) := by
  rcases h with ⟨_, rfl⟩ | ⟨g, cap, cur, h1, h2, _, _, h5⟩
  · simp at hk
  · cases h1
    refine ⟨g, cur, rfl, h2, ?_⟩
    have e : (cur.toList.take zs.length)[k]? = (zs.map (iN .i64 ·))[k]? := by rw [h5]
    rw [List.getElem?_take, if_pos hk, List.getElem?_map, List.getElem?_eq_getElem hk, Array.getElem?_toList] at e
    rw [e]
    simp [hk]
theorem Row.rtx {v : Value} {n : Nat} {l : List (List UInt8)} {Lr : BL} {w : World} (h : Row 9 1 v n (l.map encStr) Lr) (hn : n = l.length) (hB : ∀ y ∈ Lr, Blk w y.1 y.2.1 y.2.2) : ∃ o c, v = .slice o (l.map fun x => (⟨x.toArray⟩ : ByteArray)).length c ∧ RTx w o (l.map fun x => ⟨x.toArray⟩) := by
  subst hn
  rcases h.2 with ⟨rfl, h2, rfl⟩ | ⟨g, cap, cur, rfl, rfl, k1, k2, k3, k4⟩
  · have : l = [] := List.length_eq_zero_iff.1 h2
    subst this
    exact ⟨none, 0, rfl, .inl rfl⟩
  · refine ⟨_, cap, by rw [List.length_map], .inr ⟨g, cur, rfl, hB (g, 9, cur) (by simp), fun i hi => ?_⟩⟩
    rw [List.length_map] at hi
    rw [Nat.mul_one] at k4
    have e : (cur.toList.take l.length)[i]? = (l.map encStr)[i]? := by rw [k4]
    rw [List.getElem?_take, if_pos hi, List.getElem?_map, List.getElem?_eq_getElem hi, Array.getElem?_toList] at e
    rw [e]
    simp [hi, encStr]
theorem same_rows {v1 v2 : Value} {l : List (List UInt8)} {L1 L2 : BL} {w : World} (h1 : Row 9 1 v1 l.length (l.map encStr) L1) (h2 : Row 9 1 v2 l.length (l.map encStr) L2) (hB1 : ∀ y ∈ L1, Blk w y.1 y.2.1 y.2.2) (hB2 : ∀ y ∈ L2, Blk w y.1 y.2.1 y.2.2) (hl : l.length ≤ 1000000) :
    Calls Try.prog 56 #[v1, v2] w fun e w' => e = .returned (.bool true) ∧ Below w.heap.size w w' := by
  obtain ⟨o1, c1, rfl, r1⟩ := h1.rtx rfl hB1
  obtain ⟨o2, c2, rfl, r2⟩ := h2.rtx rfl hB2
  exact rsame_eq r1 r2 (by rw [List.length_map]; exact hl)
theorem listD_len (D : DS) (p : ByteArray) : (listD D p).length ≤ D.fs.length := by
  unfold listD lstL
  split
  · exact Nat.zero_le _
  · rw [List.length_mergeSort, List.length_map]
    exact List.length_filter_le _ _
theorem size_start {p : Option Addr} {c : Nat} {zs : List Nat} {Lr : BL} (h : Row 3 1 (.slice p zs.length c) zs.length (zs.map (iN .i64 ·)) Lr) : zs.length = 0 ∨ ∃ g cu, p = some ⟨g, 0, none⟩ ∧ Lr ++ [] = [(g, 3, cu)] ∧ zs.length ≤ cu.size ∧ ∀ j, 0 ≤ j → j < zs.length → cu[j]? = some (iN .i64 (zs.getD j 0)) := by
  rcases h.2 with ⟨h1, h2, rfl⟩ | ⟨g, cap, cur, h1, rfl, k1, k2, k3, k4⟩
  · exact .inl h2
  · cases h1
    rw [Nat.mul_one] at k3 k4
    refine .inr ⟨g, cur, rfl, rfl, by omega, fun j _ hj => ?_⟩
    have e : (cur.toList.take zs.length)[j]? = (zs.map (iN .i64 ·))[j]? := by rw [k4]
    rw [List.getElem?_take, if_pos hj, List.getElem?_map, List.getElem?_eq_getElem hj, Array.getElem?_toList] at e
    rw [e]
    simp [hj]
set_option linter.unusedVariables false in
set_option maxRecDepth 100000 in
set_option maxHeartbeats 2000000 in
theorem same_any {w0 : World} {M : ML} {d : Dk} {D : DS} {L : BL} {w : World} (hD : DH w0 M d D L w) {rm cf cz U n : Nat} {pf pz : Option Addr} {fs : List RF} {N : BL} (hT : Tw D rm fs D.down D.left D.sizes) (hF : RFL (.slice pf fs.length cf) fs N) (hZ : RZL (.slice pz D.sizes.length cz) D.sizes N) (hS : Stand w N) (hb : DB D U n) (hn : n ≤ 1000) (hU : U ≤ 1000000) (p : ByteArray) :
    Calls Try.prog 25 #[pt d.q, .agg #[iN .i64 rm, .slice pf fs.length cf, .bool D.down, iN .i64 D.left, .slice pz D.sizes.length cz], .string p] w fun e w' => e = .returned (.bool true) ∧ Below w.heap.size w w' := by
  have H0 := HA.start w
  have hRD : RD (.agg #[iN .i64 rm, .slice pf fs.length cf, .bool D.down, iN .i64 D.left, .slice pz D.sizes.length cz]) D rm N := ⟨_, _, _, _, _, _, _, _, rfl, hT, hF, hZ⟩
  have hct := hb.ct
  have hsz := hb.sz
  have hll := listD_len D { data := #[] }
  go_enter Try.func25, Try.ntmps25
  refine wp_seq ?_
  refine wl_region ?_
  refine wl_make (c := #[iN .i64 rm, .slice pf fs.length cf, .bool D.down, iN .i64 D.left, .slice pz D.sizes.length cz]) H0 28 (by kernel_rfl) (by kernel_rfl) ?_
  intro q1 w2 (h3 : HA (bs w) [(q1, 28, #[iN .i64 rm, .slice pf fs.length cf, .bool D.down, iN .i64 D.left, .slice pz D.sizes.length cz])] w2)
  refine wl_val (.bool false) (by kernel_rfl) (by kernel_rfl) ?_
  refine wl_nil ?_
  refine then_at rfl ?_
  refine wp_seq ?_
  refine wp_seq ?_
  refine wp_region_wx (HA (bs w) [(q1, 28, #[iN .i64 rm, .slice pf fs.length cf, .bool D.down, iN .i64 D.left, .slice pz D.sizes.length cz])]) (fun AQ w' => ∃ (vL8 : Value) (vr : Value), AQ = ⟨(pt d.q :: .agg #[iN .i64 rm, .slice pf fs.length cf, .bool D.down, iN .i64 D.left, .slice pz D.sizes.length cz] :: .string p :: un :: pt q1 :: un :: .bool false :: un :: un :: un :: un :: un :: un :: un :: un :: pt d.q :: .bool D.down :: .pointer (some ⟨q1, 2, none⟩) :: .bool D.down :: .bool false :: .bool false :: pt d.q :: iN .i64 (freeD D) :: .agg (#[iN .i64 rm, .slice pf fs.length cf, .bool D.down, iN .i64 D.left, .slice pz D.sizes.length cz]) :: iN .i64 (freeD D) :: .bool false :: .bool false :: .bool false :: pt d.q :: .string p :: vL8 :: .agg (#[iN .i64 rm, .slice pf fs.length cf, .bool D.down, iN .i64 D.left, .slice pz D.sizes.length cz]) :: .string p :: vr :: .bool true :: .bool false :: .bool false :: List.replicate 76 un).toArray, []⟩ ∧ HA (bs w) [(q1, 28, #[iN .i64 rm, .slice pf fs.length cf, .bool D.down, iN .i64 D.left, .slice pz D.sizes.length cz])] w') 22 (by kernel_rfl) (by kernel_rfl) (by kernel_rfl) (by kernel_rfl) (by kernel_rfl) (h3.drew) ?_ ?_
  · have h4 := h3.drew
    refine wx_pure (i := 0) (.pointer (some ⟨d.q, 0, none⟩)) rfl rfl (by kernel_rfl) (by kernel_rfl) (fun _ => (by kernel_rfl)) ?_
    refine wx_call (i := 1) (.bool D.down) (fun _ _ h hb => HA.keep _ _ h hb) rfl rfl (by kernel_rfl) (by kernel_rfl) enter27 #[.pointer (some ⟨d.q, 0, none⟩)] (by kernel_rfl) (fun w' h' => Down_any (hD.keep h'.old.old)) ?_
    refine wx_pure (i := 2) (.pointer (some ⟨q1, 2, none⟩)) rfl rfl (by kernel_rfl) (by kernel_rfl) (fun _ => (by kernel_rfl)) ?_
    refine wx_val (i := 3) (.bool D.down) rfl rfl (by kernel_rfl) (by kernel_rfl) (fun w' h' => run_load1 (fun w => Try.isAgg4 w) (by kernel_rfl) (((h'.get 0 rfl).cell 2).trans rfl)) ?_
    refine wx_pure (i := 4) (.bool false) rfl rfl (by kernel_rfl) (by kernel_rfl) (fun _ => (run_neqb (b := D.down) (by kernel_rfl) (by kernel_rfl))) ?_
    refine wx_pure (i := 5) (.bool false) rfl rfl (by kernel_rfl) (by kernel_rfl) (fun _ => (by kernel_rfl)) ?_
    refine wx_pure (i := 6) (.pointer (some ⟨d.q, 0, none⟩)) rfl rfl (by kernel_rfl) (by kernel_rfl) (fun _ => (by kernel_rfl)) ?_
    refine wx_call (i := 7) (iN .i64 (freeD D)) (fun _ _ h hb => HA.keep _ _ h hb) rfl rfl (by kernel_rfl) (by kernel_rfl) enter31 #[.pointer (some ⟨d.q, 0, none⟩)] (by kernel_rfl) (fun w' h' => Free_any (hD.keep h'.old.old)) ?_
    refine wx_val (i := 8) (.agg (#[iN .i64 rm, .slice pf fs.length cf, .bool D.down, iN .i64 D.left, .slice pz D.sizes.length cz])) rfl rfl (by kernel_rfl) (by kernel_rfl) (fun w' h' => run_load_blk (by kernel_rfl) (h'.get 0 rfl) Try.underlying28 rfl (by kernel_rfl)) ?_
    refine wx_call (i := 9) (iN .i64 (freeD D)) (fun _ _ h hb => HA.keep _ _ h hb) rfl rfl (by kernel_rfl) (by kernel_rfl) enter38 #[.agg (#[iN .i64 rm, .slice pf fs.length cf, .bool D.down, iN .i64 D.left, .slice pz D.sizes.length cz])] (by kernel_rfl) (fun w' h' => rFree hRD (hS.keep h'.old.old) hb hn hU) ?_
    refine wx_pure (i := 10) (.bool false) rfl rfl (by kernel_rfl) (by kernel_rfl) (fun _ => (run_nei (k := .i64) (a := freeD D) (b := freeD D) (by kernel_rfl) (by kernel_rfl) false (decide_eq_false (fun h => h rfl)))) ?_
    refine wx_pure (i := 11) (.bool false) rfl rfl (by kernel_rfl) (by kernel_rfl) (fun _ => (by kernel_rfl)) ?_
    refine wx_pure (i := 12) (.bool false) rfl rfl (by kernel_rfl) (by kernel_rfl) (fun _ => (by kernel_rfl)) ?_
    refine wx_pure (i := 13) (.pointer (some ⟨d.q, 0, none⟩)) rfl rfl (by kernel_rfl) (by kernel_rfl) (fun _ => (by kernel_rfl)) ?_
    refine wx_pure (i := 14) (.string p) rfl rfl (by kernel_rfl) (by kernel_rfl) (fun _ => (by kernel_rfl)) ?_
    refine wx_val (i := 16) (.agg (#[iN .i64 rm, .slice pf fs.length cf, .bool D.down, iN .i64 D.left, .slice pz D.sizes.length cz])) rfl rfl (by kernel_rfl) (by kernel_rfl) (fun w' h' => run_load_blk (by kernel_rfl) (h'.get 0 rfl) Try.underlying28 rfl (by kernel_rfl)) ?_
    refine wx_pure (i := 17) (.string p) rfl rfl (by kernel_rfl) (by kernel_rfl) (fun _ => (by kernel_rfl)) ?_
    refine wx_one 15 (by kernel_rfl) ?_
    refine ex_callx rfl (by kernel_rfl) h4 enter29 #[.pointer (some ⟨d.q, 0, none⟩), .string p] (by kernel_rfl) (fun w9 h10 => List_any (hD.keep h10.old.old) p hb (by omega)) ?_
    rintro w9 h10 _ w11 ⟨vL8, NL8, rfl, hRL8, hCL8⟩
    have h12 := (HA.join h10 hCL8).perm List.perm_middle
    refine ⟨_, rfl, _, .inr rfl, (HA.sub h12 (List.Sublist.cons_cons _ (List.nil_sublist _))), ?_⟩
    refine wx_one 18 (by kernel_rfl) ?_
    refine ex_callx rfl (by kernel_rfl) h12 enter57 #[.agg (#[iN .i64 rm, .slice pf fs.length cf, .bool D.down, iN .i64 D.left, .slice pz D.sizes.length cz]), .string p] (by kernel_rfl) (fun w13 h14 => rList hRD (hS.keep h14.old.old) hb hn hU p) ?_
    rintro w13 h14 _ w15 ⟨vr, Nr, rfl, hRr, hNr, hCr⟩
    have h16 := (HA.addL h14 hCr hNr).perm (List.perm_append_comm (l₂ := Nr))
    have h16 : HA (bs w) (Nr ++ ((q1, 28, #[iN .i64 rm, .slice pf fs.length cf, .bool D.down, iN .i64 D.left, .slice pz D.sizes.length cz]) :: (NL8 ++ []))) w15 := h16
    have h17 := h16.perm List.perm_middle
    refine ⟨_, rfl, _, .inr rfl, (HA.sub h17 (List.Sublist.cons_cons _ (List.nil_sublist _))), ?_⟩
    refine wx_one 19 (by kernel_rfl) ?_
    refine ex_callx rfl (by kernel_rfl) h17 enter56 #[vL8, vr] (by kernel_rfl) (fun w18 h19 => same_rows hRL8 hRr (fun y hy => h19.blk y (by simp [hy])) (fun y hy => h19.blk y (by simp [hy])) (by have := listD_len D p; have := hb.ct; omega)) ?_
    rintro w18 h19 _ w20 ⟨rfl, hbs⟩
    have h21 := HA.sub (HA.keep _ _ h19 hbs) (List.Sublist.cons_cons _ (List.nil_sublist _))
    refine ⟨_, rfl, _, .inr rfl, (HA.sub h21 (List.Sublist.cons_cons _ (List.nil_sublist _))), ?_⟩
    refine wx_pure (i := 20) (.bool false) rfl rfl (by kernel_rfl) (by kernel_rfl) (fun _ => (by kernel_rfl)) ?_
    refine wx_pure (i := 21) (.bool false) rfl rfl (by kernel_rfl) (by kernel_rfl) (fun _ => (by kernel_rfl)) ?_
    refine wx_end fun w22 hbx _ => ?_
    have h23 := HA.keep _ _ h21 hbx
    exact ⟨vL8, vr, by kernel_rfl, h23⟩
  · rintro _ w24 ⟨vL8, vr, rfl, h25⟩
    refine then_at rfl ?_
    refine wp_cond_false (by kernel_rfl) ?_
    refine wp_skip ?_
    refine then_at rfl ?_
    refine wp_seq ?_
    refine wl_region ?_
    refine wl_val (.pointer (some ⟨d.q, 0, none⟩)) (by kernel_rfl) (by kernel_rfl) ?_
    refine wl_callx (by kernel_rfl) enter29 #[.pointer (some ⟨d.q, 0, none⟩), .string ({ data := #[] })] (by kernel_rfl) (List_any (hD.keep h25.old.old) ({ data := #[] }) hb (by omega)) ?_
    rintro _ w27 ⟨vL26, NL26, rfl, hRL26, hCL26⟩
    refine ⟨_, rfl, ?_⟩
    have h28 := (HA.join h25 hCL26).perm List.perm_middle
    refine wl_val (vL26) (by kernel_rfl) (by kernel_rfl) ?_
    refine wl_nil ?_
    obtain ⟨p7, c7, hv7⟩ := hRL26.form
    subst hv7
    obtain ⟨l7, hl7⟩ : ∃ l, l = listD D { data := #[] } := ⟨_, rfl⟩
    rw [← hl7] at hRL26 ⊢
    have hl7n : l7.length ≤ 1000 := by rw [hl7]; omega
    refine then_at rfl ?_
    refine wp_seq ?_
    refine wp_seq ?_
    refine wl_region ?_
    refine wl_val (iN .i64 0) (by kernel_rfl) (by kernel_rfl) ?_
    refine wl_nil ?_
    refine then_at rfl ?_
    refine wp_block ?_
    refine wp_count (fun k A w' => ∃ u29 : Nat → Value, A = ⟨(pt d.q :: .agg #[iN .i64 rm, .slice pf fs.length cf, .bool D.down, iN .i64 D.left, .slice pz D.sizes.length cz] :: .string p :: un :: pt q1 :: un :: u29 6 :: .slice p7 l7.length c7 :: iN .i64 k :: u29 9 :: u29 10 :: u29 11 :: u29 12 :: un :: un :: pt d.q :: .bool D.down :: .pointer (some ⟨q1, 2, none⟩) :: .bool D.down :: .bool false :: .bool false :: pt d.q :: iN .i64 (freeD D) :: .agg (#[iN .i64 rm, .slice pf fs.length cf, .bool D.down, iN .i64 D.left, .slice pz D.sizes.length cz]) :: iN .i64 (freeD D) :: .bool false :: .bool false :: .bool false :: pt d.q :: .string p :: vL8 :: .agg (#[iN .i64 rm, .slice pf fs.length cf, .bool D.down, iN .i64 D.left, .slice pz D.sizes.length cz]) :: .string p :: vr :: .bool true :: .bool false :: .bool false :: pt d.q :: .slice p7 l7.length c7 :: u29 39 :: u29 40 :: u29 41 :: u29 42 :: u29 43 :: u29 44 :: u29 45 :: u29 46 :: u29 47 :: u29 48 :: u29 49 :: u29 50 :: u29 51 :: u29 52 :: u29 53 :: u29 54 :: u29 55 :: u29 56 :: u29 57 :: u29 58 :: u29 59 :: u29 60 :: u29 61 :: u29 62 :: u29 63 :: u29 64 :: u29 65 :: u29 66 :: u29 67 :: u29 68 :: u29 69 :: u29 70 :: u29 71 :: u29 72 :: u29 73 :: u29 74 :: u29 75 :: u29 76 :: u29 77 :: u29 78 :: u29 79 :: u29 80 :: u29 81 :: u29 82 :: u29 83 :: u29 84 :: u29 85 :: List.replicate 27 un).toArray, []⟩ ∧ HA (bs w) ((q1, 28, #[iN .i64 rm, .slice pf fs.length cf, .bool D.down, iN .i64 D.left, .slice pz D.sizes.length cz]) :: (NL26 ++ [])) w') l7.length ?_ ?_ ?_
    · exact ⟨fun ii => (([(6, .bool false), (9, undef), (10, undef), (11, undef), (12, undef), (39, undef), (40, undef), (41, undef), (42, undef), (43, undef), (44, undef), (45, undef), (46, undef), (47, undef), (48, undef), (49, undef), (50, undef), (51, undef), (52, undef), (53, undef), (54, undef), (55, undef), (56, undef), (57, undef), (58, undef), (59, undef), (60, undef), (61, undef), (62, undef), (63, undef), (64, undef), (65, undef), (66, undef), (67, undef), (68, undef), (69, undef), (70, undef), (71, undef), (72, undef), (73, undef), (74, undef), (75, undef), (76, undef), (77, undef), (78, undef), (79, undef), (80, undef), (81, undef), (82, undef), (83, undef), (84, undef), (85, undef)] : List (Nat × Value)).find? (·.1 == ii)).elim undef (·.2), by kernel_rfl, h28⟩
    · rintro k hk _ w30 ⟨u29, rfl, hL⟩
      obtain ⟨g, cur, hp7, hLr7, hcu⟩ := hRL26.at hk
      obtain ⟨x, hx⟩ : ∃ x : ByteArray, cur[k]? = some (.string x) := by rw [hcu, List.getElem?_map, List.getElem?_eq_getElem hk]; exact ⟨_, rfl⟩
      refine wp_seq ?_
      refine wp_seq ?_
      refine wl_region ?_
      refine wl_val (iN .i64 k) (by kernel_rfl) (by kernel_rfl) ?_
      refine wl_val (.slice p7 l7.length c7) (by kernel_rfl) (by kernel_rfl) ?_
      refine wl_val (iN .i64 l7.length) (by kernel_rfl) (by kernel_rfl) ?_
      refine wl_val (.bool true) (by kernel_rfl) (run_lss (k := .i64) (a := k) (b := l7.length) (by kernel_rfl) (by kernel_rfl) true (decide_eq_true (by omega))) ?_
      refine wl_nil ?_
      refine then_at (F := ⟨(pt d.q :: .agg #[iN .i64 rm, .slice pf fs.length cf, .bool D.down, iN .i64 D.left, .slice pz D.sizes.length cz] :: .string p :: un :: pt q1 :: un :: u29 6 :: .slice p7 l7.length c7 :: iN .i64 k :: u29 9 :: u29 10 :: u29 11 :: u29 12 :: un :: un :: pt d.q :: .bool D.down :: .pointer (some ⟨q1, 2, none⟩) :: .bool D.down :: .bool false :: .bool false :: pt d.q :: iN .i64 (freeD D) :: .agg (#[iN .i64 rm, .slice pf fs.length cf, .bool D.down, iN .i64 D.left, .slice pz D.sizes.length cz]) :: iN .i64 (freeD D) :: .bool false :: .bool false :: .bool false :: pt d.q :: .string p :: vL8 :: .agg (#[iN .i64 rm, .slice pf fs.length cf, .bool D.down, iN .i64 D.left, .slice pz D.sizes.length cz]) :: .string p :: vr :: .bool true :: .bool false :: .bool false :: pt d.q :: .slice p7 l7.length c7 :: iN .i64 k :: .slice p7 l7.length c7 :: iN .i64 l7.length :: .bool true :: u29 43 :: u29 44 :: u29 45 :: u29 46 :: u29 47 :: u29 48 :: u29 49 :: u29 50 :: u29 51 :: u29 52 :: u29 53 :: u29 54 :: u29 55 :: u29 56 :: u29 57 :: u29 58 :: u29 59 :: u29 60 :: u29 61 :: u29 62 :: u29 63 :: u29 64 :: u29 65 :: u29 66 :: u29 67 :: u29 68 :: u29 69 :: u29 70 :: u29 71 :: u29 72 :: u29 73 :: u29 74 :: u29 75 :: u29 76 :: u29 77 :: u29 78 :: u29 79 :: u29 80 :: u29 81 :: u29 82 :: u29 83 :: u29 84 :: u29 85 :: List.replicate 27 un).toArray, []⟩) (by kernel_rfl) ?_
      refine wp_cond_true (by kernel_rfl) ?_
      refine wp_skip ?_
      refine then_at rfl ?_
      refine wp_seq ?_
      refine wp_block ?_
      refine wp_seq ?_
      refine wl_region ?_
      refine wl_val (.pointer (some ⟨d.q, 0, none⟩)) (by kernel_rfl) (by kernel_rfl) ?_
      refine wl_val (.slice p7 l7.length c7) (by kernel_rfl) (by kernel_rfl) ?_
      refine wl_val (iN .i64 k) (by kernel_rfl) (by kernel_rfl) ?_
      refine wl_val (.pointer (some ⟨g, k, none⟩)) (by kernel_rfl) (run_addr50p (q := g) (n := l7.length) (m := c7) (a := k) hp7 (by kernel_rfl) (by kernel_rfl) hk) ?_
      refine wl_val (.string x) (by kernel_rfl) (run_load_at (b := ⟨g, k, none⟩) (fun w => Try.isAgg9 w) (by kernel_rfl) (((hL.blk (g, 9, cur) (by simp [hLr7])).cell k).trans hx)) ?_
      refine wl_call (v := .tuple #[.string ((readD D x).1), iN .i64 ((readD D x).2)]) hL (by kernel_rfl) enter23 #[.pointer (some ⟨d.q, 0, none⟩), .string x] (by kernel_rfl) (Read_any (hD.keep hL.old.old) x) ?_
      intro w31 h32
      refine wl_val (.tuple #[.string ((readD D x).1), iN .i64 ((readD D x).2)]) (by kernel_rfl) (by kernel_rfl) ?_
      refine wl_val (.string ((readD D x).1)) (by kernel_rfl) (by kernel_rfl) ?_
      refine wl_val (iN .i64 ((readD D x).2)) (by kernel_rfl) (by kernel_rfl) ?_
      refine wl_val (.string ((readD D x).1)) (by kernel_rfl) (by kernel_rfl) ?_
      refine wl_val (iN .i64 ((readD D x).2)) (by kernel_rfl) (by kernel_rfl) ?_
      refine wl_nil ?_
      refine then_at rfl ?_
      refine wp_seq ?_
      refine wp_region_sure ⟨(pt d.q :: .agg #[iN .i64 rm, .slice pf fs.length cf, .bool D.down, iN .i64 D.left, .slice pz D.sizes.length cz] :: .string p :: un :: pt q1 :: un :: u29 6 :: .slice p7 l7.length c7 :: iN .i64 k :: .string ((readD D x).1) :: iN .i64 ((readD D x).2) :: .string ((readD D x).1) :: iN .i64 ((readD D x).2) :: un :: un :: pt d.q :: .bool D.down :: .pointer (some ⟨q1, 2, none⟩) :: .bool D.down :: .bool false :: .bool false :: pt d.q :: iN .i64 (freeD D) :: .agg (#[iN .i64 rm, .slice pf fs.length cf, .bool D.down, iN .i64 D.left, .slice pz D.sizes.length cz]) :: iN .i64 (freeD D) :: .bool false :: .bool false :: .bool false :: pt d.q :: .string p :: vL8 :: .agg (#[iN .i64 rm, .slice pf fs.length cf, .bool D.down, iN .i64 D.left, .slice pz D.sizes.length cz]) :: .string p :: vr :: .bool true :: .bool false :: .bool false :: pt d.q :: .slice p7 l7.length c7 :: iN .i64 k :: .slice p7 l7.length c7 :: iN .i64 l7.length :: .bool true :: u29 43 :: u29 44 :: .tuple #[.string ((readD D x).1), iN .i64 ((readD D x).2)] :: pt d.q :: .slice p7 l7.length c7 :: iN .i64 k :: .pointer (some ⟨g, k, none⟩) :: .string x :: .tuple #[.string ((readD D x).1), iN .i64 ((readD D x).2)] :: .string ((readD D x).1) :: iN .i64 ((readD D x).2) :: .tuple #[.string ((readD D x).1), iN .i64 ((readD D x).2)] :: .agg (#[iN .i64 rm, .slice pf fs.length cf, .bool D.down, iN .i64 D.left, .slice pz D.sizes.length cz]) :: .slice p7 l7.length c7 :: iN .i64 k :: .pointer (some ⟨g, k, none⟩) :: .string x :: .tuple #[.string ((readD D x).1), iN .i64 ((readD D x).2)] :: .string ((readD D x).1) :: iN .i64 ((readD D x).2) :: u29 63 :: u29 64 :: u29 65 :: u29 66 :: u29 67 :: u29 68 :: u29 69 :: u29 70 :: u29 71 :: u29 72 :: u29 73 :: u29 74 :: u29 75 :: u29 76 :: u29 77 :: u29 78 :: u29 79 :: u29 80 :: u29 81 :: u29 82 :: u29 83 :: u29 84 :: u29 85 :: List.replicate 27 un).toArray, []⟩ (HA (bs w) ((q1, 28, #[iN .i64 rm, .slice pf fs.length cf, .bool D.down, iN .i64 D.left, .slice pz D.sizes.length cz]) :: (NL26 ++ []))) [.agg (#[iN .i64 rm, .slice pf fs.length cf, .bool D.down, iN .i64 D.left, .slice pz D.sizes.length cz]), .slice p7 l7.length c7, iN .i64 k, .pointer (some ⟨g, k, none⟩), .string x, .tuple #[.string ((readD D x).1), iN .i64 ((readD D x).2)], .tuple #[.string ((readD D x).1), iN .i64 ((readD D x).2)], .string ((readD D x).1), iN .i64 ((readD D x).2), .string ((readD D x).1), iN .i64 ((readD D x).2)] (by kernel_rfl) (by kernel_rfl) (by kernel_rfl) (by kernel_rfl) (fun _ _ _ h => h) h32.drew ?_ ?_
      · refine AllSure.cons (OpSure.take (v := .agg (#[iN .i64 rm, .slice pf fs.length cf, .bool D.down, iN .i64 D.left, .slice pz D.sizes.length cz])) (by kernel_rfl) (by kernel_rfl) (fun _ h => run_load_blk (by kernel_rfl) (h.get 0 rfl) Try.underlying28 rfl (by kernel_rfl))) ?_
        refine AllSure.cons (OpSure.take (v := .slice p7 l7.length c7) (by kernel_rfl) (by kernel_rfl) (fun _ _ => (by kernel_rfl))) ?_
        refine AllSure.cons (OpSure.take (v := iN .i64 k) (by kernel_rfl) (by kernel_rfl) (fun _ _ => (by kernel_rfl))) ?_
        refine AllSure.cons (OpSure.take (v := .pointer (some ⟨g, k, none⟩)) (by kernel_rfl) (by kernel_rfl) (fun _ _ => (run_addr50p (q := g) (n := l7.length) (m := c7) (a := k) hp7 (by kernel_rfl) (by kernel_rfl) hk))) ?_
        refine AllSure.cons (OpSure.take (v := .string x) (by kernel_rfl) (by kernel_rfl) (fun w' h' => run_load_at (b := ⟨g, k, none⟩) (fun w => Try.isAgg9 w) (by kernel_rfl) (((h'.blk (g, 9, cur) (by simp [hLr7])).cell k).trans hx))) ?_
        refine AllSure.cons (sure_call (v := .tuple #[.string ((readD D x).1), iN .i64 ((readD D x).2)]) (by kernel_rfl) (by kernel_rfl) enter24 HA.keep #[.agg (#[iN .i64 rm, .slice pf fs.length cf, .bool D.down, iN .i64 D.left, .slice pz D.sizes.length cz]), .string x] (by kernel_rfl) (fun w' h' => rRead hRD (hS.keep h'.old.old) hb hn hU x)) ?_
        refine AllSure.cons (OpSure.take (v := .tuple #[.string ((readD D x).1), iN .i64 ((readD D x).2)]) (by kernel_rfl) (by kernel_rfl) (fun _ _ => (by kernel_rfl))) ?_
        refine AllSure.cons (OpSure.take (v := .string ((readD D x).1)) (by kernel_rfl) (by kernel_rfl) (fun _ _ => (by kernel_rfl))) ?_
        refine AllSure.cons (OpSure.take (v := iN .i64 ((readD D x).2)) (by kernel_rfl) (by kernel_rfl) (fun _ _ => (by kernel_rfl))) ?_
        refine AllSure.cons (OpSure.take (v := .string ((readD D x).1)) (by kernel_rfl) (by kernel_rfl) (fun _ _ => (by kernel_rfl))) ?_
        refine AllSure.cons (OpSure.take (v := iN .i64 ((readD D x).2)) (by kernel_rfl) (by kernel_rfl) (fun _ _ => (by kernel_rfl))) ?_
        exact AllSure.nil
      intro w33 h34
      refine then_at rfl ?_
      refine wp_seq ?_
      refine wp_region_sure ⟨(pt d.q :: .agg #[iN .i64 rm, .slice pf fs.length cf, .bool D.down, iN .i64 D.left, .slice pz D.sizes.length cz] :: .string p :: un :: pt q1 :: un :: u29 6 :: .slice p7 l7.length c7 :: iN .i64 k :: .string ((readD D x).1) :: iN .i64 ((readD D x).2) :: .string ((readD D x).1) :: iN .i64 ((readD D x).2) :: un :: un :: pt d.q :: .bool D.down :: .pointer (some ⟨q1, 2, none⟩) :: .bool D.down :: .bool false :: .bool false :: pt d.q :: iN .i64 (freeD D) :: .agg (#[iN .i64 rm, .slice pf fs.length cf, .bool D.down, iN .i64 D.left, .slice pz D.sizes.length cz]) :: iN .i64 (freeD D) :: .bool false :: .bool false :: .bool false :: pt d.q :: .string p :: vL8 :: .agg (#[iN .i64 rm, .slice pf fs.length cf, .bool D.down, iN .i64 D.left, .slice pz D.sizes.length cz]) :: .string p :: vr :: .bool true :: .bool false :: .bool false :: pt d.q :: .slice p7 l7.length c7 :: iN .i64 k :: .slice p7 l7.length c7 :: iN .i64 l7.length :: .bool true :: u29 43 :: u29 44 :: .tuple #[.string ((readD D x).1), iN .i64 ((readD D x).2)] :: pt d.q :: .slice p7 l7.length c7 :: iN .i64 k :: .pointer (some ⟨g, k, none⟩) :: .string x :: .tuple #[.string ((readD D x).1), iN .i64 ((readD D x).2)] :: .string ((readD D x).1) :: iN .i64 ((readD D x).2) :: .tuple #[.string ((readD D x).1), iN .i64 ((readD D x).2)] :: .agg (#[iN .i64 rm, .slice pf fs.length cf, .bool D.down, iN .i64 D.left, .slice pz D.sizes.length cz]) :: .slice p7 l7.length c7 :: iN .i64 k :: .pointer (some ⟨g, k, none⟩) :: .string x :: .tuple #[.string ((readD D x).1), iN .i64 ((readD D x).2)] :: .string ((readD D x).1) :: iN .i64 ((readD D x).2) :: .string ((readD D x).1) :: .string ((readD D x).1) :: .bool false :: .bool false :: iN .i64 ((readD D x).2) :: iN .i64 ((readD D x).2) :: .bool false :: .bool false :: .bool false :: pt d.q :: .slice p7 l7.length c7 :: iN .i64 k :: .pointer (some ⟨g, k, none⟩) :: .string x :: iN .i64 (synD D x) :: .agg (#[iN .i64 rm, .slice pf fs.length cf, .bool D.down, iN .i64 D.left, .slice pz D.sizes.length cz]) :: .slice p7 l7.length c7 :: iN .i64 k :: .pointer (some ⟨g, k, none⟩) :: .string x :: iN .i64 (synD D x) :: .bool false :: .bool false :: List.replicate 27 un).toArray, []⟩ (HA (bs w) ((q1, 28, #[iN .i64 rm, .slice pf fs.length cf, .bool D.down, iN .i64 D.left, .slice pz D.sizes.length cz]) :: (NL26 ++ []))) [.string ((readD D x).1), .string ((readD D x).1), .bool false, .bool false, iN .i64 ((readD D x).2), iN .i64 ((readD D x).2), .bool false, .bool false, .bool false, .pointer (some ⟨d.q, 0, none⟩), .slice p7 l7.length c7, iN .i64 k, .pointer (some ⟨g, k, none⟩), .string x, iN .i64 (synD D x), .agg (#[iN .i64 rm, .slice pf fs.length cf, .bool D.down, iN .i64 D.left, .slice pz D.sizes.length cz]), .slice p7 l7.length c7, iN .i64 k, .pointer (some ⟨g, k, none⟩), .string x, iN .i64 (synD D x), .bool false, .bool false] (by kernel_rfl) (by kernel_rfl) (by kernel_rfl) (by kernel_rfl) (fun _ _ _ h => h) h34.drew ?_ ?_
      · refine AllSure.cons (OpSure.take (v := .string ((readD D x).1)) (by kernel_rfl) (by kernel_rfl) (fun _ _ => (by kernel_rfl))) ?_
        refine AllSure.cons (OpSure.take (v := .string ((readD D x).1)) (by kernel_rfl) (by kernel_rfl) (fun _ _ => (by kernel_rfl))) ?_
        refine AllSure.cons (OpSure.take (v := .bool false) (by kernel_rfl) (by kernel_rfl) (fun _ _ => (run_nes (s := (readD D x).1) (t := (readD D x).1) (by kernel_rfl) (by kernel_rfl) false (decide_eq_true rfl)))) ?_
        refine AllSure.cons (OpSure.take (v := .bool false) (by kernel_rfl) (by kernel_rfl) (fun _ _ => (by kernel_rfl))) ?_
        refine AllSure.cons (OpSure.take (v := iN .i64 ((readD D x).2)) (by kernel_rfl) (by kernel_rfl) (fun _ _ => (by kernel_rfl))) ?_
        refine AllSure.cons (OpSure.take (v := iN .i64 ((readD D x).2)) (by kernel_rfl) (by kernel_rfl) (fun _ _ => (by kernel_rfl))) ?_
        refine AllSure.cons (OpSure.take (v := .bool false) (by kernel_rfl) (by kernel_rfl) (fun _ _ => (run_nei (k := .i64) (a := (readD D x).2) (b := (readD D x).2) (by kernel_rfl) (by kernel_rfl) false (decide_eq_false (fun h => h rfl))))) ?_
        refine AllSure.cons (OpSure.take (v := .bool false) (by kernel_rfl) (by kernel_rfl) (fun _ _ => (by kernel_rfl))) ?_
        refine AllSure.cons (OpSure.take (v := .bool false) (by kernel_rfl) (by kernel_rfl) (fun _ _ => (by kernel_rfl))) ?_
        refine AllSure.cons (OpSure.take (v := .pointer (some ⟨d.q, 0, none⟩)) (by kernel_rfl) (by kernel_rfl) (fun _ _ => (by kernel_rfl))) ?_
        refine AllSure.cons (OpSure.take (v := .slice p7 l7.length c7) (by kernel_rfl) (by kernel_rfl) (fun _ _ => (by kernel_rfl))) ?_
        refine AllSure.cons (OpSure.take (v := iN .i64 k) (by kernel_rfl) (by kernel_rfl) (fun _ _ => (by kernel_rfl))) ?_
        refine AllSure.cons (OpSure.take (v := .pointer (some ⟨g, k, none⟩)) (by kernel_rfl) (by kernel_rfl) (fun _ _ => (run_addr50p (q := g) (n := l7.length) (m := c7) (a := k) hp7 (by kernel_rfl) (by kernel_rfl) hk))) ?_
        refine AllSure.cons (OpSure.take (v := .string x) (by kernel_rfl) (by kernel_rfl) (fun w' h' => run_load_at (b := ⟨g, k, none⟩) (fun w => Try.isAgg9 w) (by kernel_rfl) (((h'.blk (g, 9, cur) (by simp [hLr7])).cell k).trans hx))) ?_
        refine AllSure.cons (sure_call (v := iN .i64 (synD D x)) (by kernel_rfl) (by kernel_rfl) enter28 HA.keep #[.pointer (some ⟨d.q, 0, none⟩), .string x] (by kernel_rfl) (fun w' h' => Synced_any (hD.keep h'.old.old) x)) ?_
        refine AllSure.cons (OpSure.take (v := .agg (#[iN .i64 rm, .slice pf fs.length cf, .bool D.down, iN .i64 D.left, .slice pz D.sizes.length cz])) (by kernel_rfl) (by kernel_rfl) (fun _ h => run_load_blk (by kernel_rfl) (h.get 0 rfl) Try.underlying28 rfl (by kernel_rfl))) ?_
        refine AllSure.cons (OpSure.take (v := .slice p7 l7.length c7) (by kernel_rfl) (by kernel_rfl) (fun _ _ => (by kernel_rfl))) ?_
        refine AllSure.cons (OpSure.take (v := iN .i64 k) (by kernel_rfl) (by kernel_rfl) (fun _ _ => (by kernel_rfl))) ?_
        refine AllSure.cons (OpSure.take (v := .pointer (some ⟨g, k, none⟩)) (by kernel_rfl) (by kernel_rfl) (fun _ _ => (run_addr50p (q := g) (n := l7.length) (m := c7) (a := k) hp7 (by kernel_rfl) (by kernel_rfl) hk))) ?_
        refine AllSure.cons (OpSure.take (v := .string x) (by kernel_rfl) (by kernel_rfl) (fun w' h' => run_load_at (b := ⟨g, k, none⟩) (fun w => Try.isAgg9 w) (by kernel_rfl) (((h'.blk (g, 9, cur) (by simp [hLr7])).cell k).trans hx))) ?_
        refine AllSure.cons (sure_call (v := iN .i64 (synD D x)) (by kernel_rfl) (by kernel_rfl) enter58 HA.keep #[.agg (#[iN .i64 rm, .slice pf fs.length cf, .bool D.down, iN .i64 D.left, .slice pz D.sizes.length cz]), .string x] (by kernel_rfl) (fun w' h' => rSynced hRD (hS.keep h'.old.old) hb hn hU x)) ?_
        refine AllSure.cons (OpSure.take (v := .bool false) (by kernel_rfl) (by kernel_rfl) (fun _ _ => (run_nei (k := .i64) (a := synD D x) (b := synD D x) (by kernel_rfl) (by kernel_rfl) false (decide_eq_false (fun h => h rfl))))) ?_
        refine AllSure.cons (OpSure.take (v := .bool false) (by kernel_rfl) (by kernel_rfl) (fun _ _ => (by kernel_rfl))) ?_
        exact AllSure.nil
      intro w35 h36
      refine then_at rfl ?_
      refine wp_cond_false (by kernel_rfl) ?_
      refine wp_skip ?_
      refine block_normal ?_
      refine then_at rfl ?_
      refine wl_region ?_
      refine wl_val (iN .i64 k) (by kernel_rfl) (by kernel_rfl) ?_
      refine wl_val (iN .i64 (k + 1)) (by kernel_rfl) (run_add (k := .i64) (a := k) (b := 1) (by kernel_rfl) (by kernel_rfl) (by first | omega | (simp only [top]; omega))) ?_
      refine wl_val (iN .i64 (k + 1)) (by kernel_rfl) (by kernel_rfl) ?_
      refine wl_nil ?_
      exact then_I ⟨fun ii => (([(6, u29 6), (9, .string ((readD D x).1)), (10, iN .i64 ((readD D x).2)), (11, .string ((readD D x).1)), (12, iN .i64 ((readD D x).2)), (39, iN .i64 k), (40, .slice p7 l7.length c7), (41, iN .i64 l7.length), (42, .bool true), (43, iN .i64 k), (44, iN .i64 (k + 1)), (45, .tuple #[.string ((readD D x).1), iN .i64 ((readD D x).2)]), (46, .pointer (some ⟨d.q, 0, none⟩)), (47, .slice p7 l7.length c7), (48, iN .i64 k), (49, .pointer (some ⟨g, k, none⟩)), (50, .string x), (51, .tuple #[.string ((readD D x).1), iN .i64 ((readD D x).2)]), (52, .string ((readD D x).1)), (53, iN .i64 ((readD D x).2)), (54, .tuple #[.string ((readD D x).1), iN .i64 ((readD D x).2)]), (55, .agg (#[iN .i64 rm, .slice pf fs.length cf, .bool D.down, iN .i64 D.left, .slice pz D.sizes.length cz])), (56, .slice p7 l7.length c7), (57, iN .i64 k), (58, .pointer (some ⟨g, k, none⟩)), (59, .string x), (60, .tuple #[.string ((readD D x).1), iN .i64 ((readD D x).2)]), (61, .string ((readD D x).1)), (62, iN .i64 ((readD D x).2)), (63, .string ((readD D x).1)), (64, .string ((readD D x).1)), (65, .bool false), (66, .bool false), (67, iN .i64 ((readD D x).2)), (68, iN .i64 ((readD D x).2)), (69, .bool false), (70, .bool false), (71, .bool false), (72, .pointer (some ⟨d.q, 0, none⟩)), (73, .slice p7 l7.length c7), (74, iN .i64 k), (75, .pointer (some ⟨g, k, none⟩)), (76, .string x), (77, iN .i64 (synD D x)), (78, .agg (#[iN .i64 rm, .slice pf fs.length cf, .bool D.down, iN .i64 D.left, .slice pz D.sizes.length cz])), (79, .slice p7 l7.length c7), (80, iN .i64 k), (81, .pointer (some ⟨g, k, none⟩)), (82, .string x), (83, iN .i64 (synD D x)), (84, .bool false), (85, .bool false)] : List (Nat × Value)).find? (·.1 == ii)).elim undef (·.2), by kernel_rfl, h36⟩
    · rintro _ w37 ⟨u29, rfl, hL⟩
      refine wp_seq ?_
      refine wp_seq ?_
      refine wl_region ?_
      refine wl_val (iN .i64 l7.length) (by kernel_rfl) (by kernel_rfl) ?_
      refine wl_val (.slice p7 l7.length c7) (by kernel_rfl) (by kernel_rfl) ?_
      refine wl_val (iN .i64 l7.length) (by kernel_rfl) (by kernel_rfl) ?_
      refine wl_val (.bool false) (by kernel_rfl) (run_lss (k := .i64) (a := l7.length) (b := l7.length) (by kernel_rfl) (by kernel_rfl) false (decide_eq_false (by omega))) ?_
      refine wl_nil ?_
      refine then_at (F := ⟨(pt d.q :: .agg #[iN .i64 rm, .slice pf fs.length cf, .bool D.down, iN .i64 D.left, .slice pz D.sizes.length cz] :: .string p :: un :: pt q1 :: un :: u29 6 :: .slice p7 l7.length c7 :: iN .i64 l7.length :: u29 9 :: u29 10 :: u29 11 :: u29 12 :: un :: un :: pt d.q :: .bool D.down :: .pointer (some ⟨q1, 2, none⟩) :: .bool D.down :: .bool false :: .bool false :: pt d.q :: iN .i64 (freeD D) :: .agg (#[iN .i64 rm, .slice pf fs.length cf, .bool D.down, iN .i64 D.left, .slice pz D.sizes.length cz]) :: iN .i64 (freeD D) :: .bool false :: .bool false :: .bool false :: pt d.q :: .string p :: vL8 :: .agg (#[iN .i64 rm, .slice pf fs.length cf, .bool D.down, iN .i64 D.left, .slice pz D.sizes.length cz]) :: .string p :: vr :: .bool true :: .bool false :: .bool false :: pt d.q :: .slice p7 l7.length c7 :: iN .i64 l7.length :: .slice p7 l7.length c7 :: iN .i64 l7.length :: .bool false :: u29 43 :: u29 44 :: u29 45 :: u29 46 :: u29 47 :: u29 48 :: u29 49 :: u29 50 :: u29 51 :: u29 52 :: u29 53 :: u29 54 :: u29 55 :: u29 56 :: u29 57 :: u29 58 :: u29 59 :: u29 60 :: u29 61 :: u29 62 :: u29 63 :: u29 64 :: u29 65 :: u29 66 :: u29 67 :: u29 68 :: u29 69 :: u29 70 :: u29 71 :: u29 72 :: u29 73 :: u29 74 :: u29 75 :: u29 76 :: u29 77 :: u29 78 :: u29 79 :: u29 80 :: u29 81 :: u29 82 :: u29 83 :: u29 84 :: u29 85 :: List.replicate 27 un).toArray, []⟩) (by kernel_rfl) ?_
      refine wp_cond_false (by kernel_rfl) ?_
      refine wp_exit ?_
      repeat first | refine then_exit ?_ | refine block_exit ?_ | refine block_exit_ne (by decide) ?_
      refine then_at rfl ?_
      refine wp_seq ?_
      refine wl_region ?_
      refine wl_val (.pointer (some ⟨d.q, 0, none⟩)) (by kernel_rfl) (by kernel_rfl) ?_
      refine wl_callx (by kernel_rfl) enter30 #[.pointer (some ⟨d.q, 0, none⟩)] (by kernel_rfl) (Sizes_any (hD.keep hL.old.old) (by have := hb.sz; omega)) ?_
      rintro _ w38 ⟨v13, rfl, ho13, hbz⟩
      refine ⟨_, rfl, ?_⟩
      have ho13 := ho13
      obtain ⟨Ls, hRs, h39⟩ := HA.owned (HA.sub hL (List.Sublist.cons_cons _ (List.nil_sublist _)) : HA (bs w) [(q1, 28, #[iN .i64 rm, .slice pf fs.length cf, .bool D.down, iN .i64 D.left, .slice pz D.sizes.length cz])] _) hbz ho13
      have h40 : HA (bs w) ((q1, 28, #[iN .i64 rm, .slice pf fs.length cf, .bool D.down, iN .i64 D.left, .slice pz D.sizes.length cz]) :: (Ls ++ [])) w38 := h39.perm List.perm_middle
      obtain ⟨p13, c13, hv13⟩ := hRs.form
      subst hv13
      refine wl_val (.slice p13 D.sizes.length c13) (by kernel_rfl) (by kernel_rfl) ?_
      refine wl_nil ?_
      refine then_at rfl ?_
      refine wp_seq ?_
      refine wp_seq ?_
      refine wl_region ?_
      refine wl_val (.slice p13 D.sizes.length c13) (by kernel_rfl) (by kernel_rfl) ?_
      refine wl_val (iN .i64 D.sizes.length) (by kernel_rfl) (by kernel_rfl) ?_
      refine wl_val (.pointer (some ⟨q1, 4, none⟩)) (by kernel_rfl) (by kernel_rfl) ?_
      refine wl_val (.slice pz D.sizes.length cz) (by kernel_rfl) (run_load1 (fun w => Try.isAgg26 w) (by kernel_rfl) (((h40.get 0 rfl).cell 4).trans rfl)) ?_
      refine wl_val (iN .i64 D.sizes.length) (by kernel_rfl) (by kernel_rfl) ?_
      refine wl_val (.bool false) (by kernel_rfl) (run_nei (k := .i64) (a := D.sizes.length) (b := D.sizes.length) (by kernel_rfl) (by kernel_rfl) false (decide_eq_false (fun h => h rfl))) ?_
      refine wl_nil ?_
      refine then_at rfl ?_
      refine wp_cond_false (by kernel_rfl) ?_
      refine wp_skip ?_
      refine then_at rfl ?_
      refine wp_seq ?_
      refine wp_seq ?_
      refine wl_region ?_
      refine wl_val (iN .i64 0) (by kernel_rfl) (by kernel_rfl) ?_
      refine wl_nil ?_
      refine then_at rfl ?_
      refine wp_block ?_
      refine wp_count (fun k A w' => ∃ u41 : Nat → Value, A = ⟨(pt d.q :: .agg #[iN .i64 rm, .slice pf fs.length cf, .bool D.down, iN .i64 D.left, .slice pz D.sizes.length cz] :: .string p :: un :: pt q1 :: un :: u41 6 :: .slice p7 l7.length c7 :: iN .i64 l7.length :: u29 9 :: u29 10 :: u29 11 :: u29 12 :: .slice p13 D.sizes.length c13 :: iN .i64 k :: pt d.q :: .bool D.down :: .pointer (some ⟨q1, 2, none⟩) :: .bool D.down :: .bool false :: .bool false :: pt d.q :: iN .i64 (freeD D) :: .agg (#[iN .i64 rm, .slice pf fs.length cf, .bool D.down, iN .i64 D.left, .slice pz D.sizes.length cz]) :: iN .i64 (freeD D) :: .bool false :: .bool false :: .bool false :: pt d.q :: .string p :: vL8 :: .agg (#[iN .i64 rm, .slice pf fs.length cf, .bool D.down, iN .i64 D.left, .slice pz D.sizes.length cz]) :: .string p :: vr :: .bool true :: .bool false :: .bool false :: pt d.q :: .slice p7 l7.length c7 :: iN .i64 l7.length :: .slice p7 l7.length c7 :: iN .i64 l7.length :: .bool false :: u29 43 :: u29 44 :: u29 45 :: u29 46 :: u29 47 :: u29 48 :: u29 49 :: u29 50 :: u29 51 :: u29 52 :: u29 53 :: u29 54 :: u29 55 :: u29 56 :: u29 57 :: u29 58 :: u29 59 :: u29 60 :: u29 61 :: u29 62 :: u29 63 :: u29 64 :: u29 65 :: u29 66 :: u29 67 :: u29 68 :: u29 69 :: u29 70 :: u29 71 :: u29 72 :: u29 73 :: u29 74 :: u29 75 :: u29 76 :: u29 77 :: u29 78 :: u29 79 :: u29 80 :: u29 81 :: u29 82 :: u29 83 :: u29 84 :: u29 85 :: pt d.q :: .slice p13 D.sizes.length c13 :: .slice p13 D.sizes.length c13 :: iN .i64 D.sizes.length :: .pointer (some ⟨q1, 4, none⟩) :: .slice pz D.sizes.length cz :: iN .i64 D.sizes.length :: .bool false :: u41 94 :: u41 95 :: u41 96 :: u41 97 :: u41 98 :: u41 99 :: u41 100 :: u41 101 :: u41 102 :: u41 103 :: u41 104 :: u41 105 :: u41 106 :: u41 107 :: u41 108 :: u41 109 :: u41 110 :: u41 111 :: u41 112 :: List.replicate 0 un).toArray, []⟩ ∧ ∃ Lq, (D.sizes.length = 0 ∨ ∃ g cu, p13 = some ⟨g, 0, none⟩ ∧ Lq = [(g, 3, cu)] ∧ D.sizes.length ≤ cu.size ∧ ∀ j, k ≤ j → j < D.sizes.length → cu[j]? = some (iN .i64 (D.sizes.getD j 0))) ∧ HA (bs w) ((q1, 28, #[iN .i64 rm, .slice pf fs.length cf, .bool D.down, iN .i64 D.left, .slice pz D.sizes.length cz]) :: Lq) w') D.sizes.length ?_ ?_ ?_
      · exact ⟨fun ii => (([(6, u29 6), (94, undef), (95, undef), (96, undef), (97, undef), (98, undef), (99, undef), (100, undef), (101, undef), (102, undef), (103, undef), (104, undef), (105, undef), (106, undef), (107, undef), (108, undef), (109, undef), (110, undef), (111, undef), (112, undef)] : List (Nat × Value)).find? (·.1 == ii)).elim undef (·.2), by kernel_rfl, _, size_start hRs, h40⟩
      · rintro k hk _ w42 ⟨u41, rfl, Lq, hq, hL2⟩
        obtain ⟨g, cu, hpg, hLq, hcs, hcj⟩ := hq.resolve_left (by omega)
        subst hLq
        obtain ⟨gz, cuz, hpz, hgz, hcz⟩ := hZ.at hk
        refine wp_seq ?_
        refine wp_seq ?_
        refine wl_region ?_
        refine wl_val (iN .i64 k) (by kernel_rfl) (by kernel_rfl) ?_
        refine wl_val (.slice p13 D.sizes.length c13) (by kernel_rfl) (by kernel_rfl) ?_
        refine wl_val (iN .i64 D.sizes.length) (by kernel_rfl) (by kernel_rfl) ?_
        refine wl_val (.bool true) (by kernel_rfl) (run_lss (k := .i64) (a := k) (b := D.sizes.length) (by kernel_rfl) (by kernel_rfl) true (decide_eq_true (by omega))) ?_
        refine wl_nil ?_
        refine then_at (F := ⟨(pt d.q :: .agg #[iN .i64 rm, .slice pf fs.length cf, .bool D.down, iN .i64 D.left, .slice pz D.sizes.length cz] :: .string p :: un :: pt q1 :: un :: u41 6 :: .slice p7 l7.length c7 :: iN .i64 l7.length :: u29 9 :: u29 10 :: u29 11 :: u29 12 :: .slice p13 D.sizes.length c13 :: iN .i64 k :: pt d.q :: .bool D.down :: .pointer (some ⟨q1, 2, none⟩) :: .bool D.down :: .bool false :: .bool false :: pt d.q :: iN .i64 (freeD D) :: .agg (#[iN .i64 rm, .slice pf fs.length cf, .bool D.down, iN .i64 D.left, .slice pz D.sizes.length cz]) :: iN .i64 (freeD D) :: .bool false :: .bool false :: .bool false :: pt d.q :: .string p :: vL8 :: .agg (#[iN .i64 rm, .slice pf fs.length cf, .bool D.down, iN .i64 D.left, .slice pz D.sizes.length cz]) :: .string p :: vr :: .bool true :: .bool false :: .bool false :: pt d.q :: .slice p7 l7.length c7 :: iN .i64 l7.length :: .slice p7 l7.length c7 :: iN .i64 l7.length :: .bool false :: u29 43 :: u29 44 :: u29 45 :: u29 46 :: u29 47 :: u29 48 :: u29 49 :: u29 50 :: u29 51 :: u29 52 :: u29 53 :: u29 54 :: u29 55 :: u29 56 :: u29 57 :: u29 58 :: u29 59 :: u29 60 :: u29 61 :: u29 62 :: u29 63 :: u29 64 :: u29 65 :: u29 66 :: u29 67 :: u29 68 :: u29 69 :: u29 70 :: u29 71 :: u29 72 :: u29 73 :: u29 74 :: u29 75 :: u29 76 :: u29 77 :: u29 78 :: u29 79 :: u29 80 :: u29 81 :: u29 82 :: u29 83 :: u29 84 :: u29 85 :: pt d.q :: .slice p13 D.sizes.length c13 :: .slice p13 D.sizes.length c13 :: iN .i64 D.sizes.length :: .pointer (some ⟨q1, 4, none⟩) :: .slice pz D.sizes.length cz :: iN .i64 D.sizes.length :: .bool false :: iN .i64 k :: .slice p13 D.sizes.length c13 :: iN .i64 D.sizes.length :: .bool true :: u41 98 :: u41 99 :: u41 100 :: u41 101 :: u41 102 :: u41 103 :: u41 104 :: u41 105 :: u41 106 :: u41 107 :: u41 108 :: u41 109 :: u41 110 :: u41 111 :: u41 112 :: List.replicate 0 un).toArray, []⟩) (by kernel_rfl) ?_
        refine wp_cond_true (by kernel_rfl) ?_
        refine wp_skip ?_
        refine then_at rfl ?_
        refine wp_seq ?_
        refine wp_block ?_
        refine wp_seq ?_
        refine wp_seq ?_
        refine wp_region_sure ⟨(pt d.q :: .agg #[iN .i64 rm, .slice pf fs.length cf, .bool D.down, iN .i64 D.left, .slice pz D.sizes.length cz] :: .string p :: un :: pt q1 :: un :: u41 6 :: .slice p7 l7.length c7 :: iN .i64 l7.length :: u29 9 :: u29 10 :: u29 11 :: u29 12 :: .slice p13 D.sizes.length c13 :: iN .i64 k :: pt d.q :: .bool D.down :: .pointer (some ⟨q1, 2, none⟩) :: .bool D.down :: .bool false :: .bool false :: pt d.q :: iN .i64 (freeD D) :: .agg (#[iN .i64 rm, .slice pf fs.length cf, .bool D.down, iN .i64 D.left, .slice pz D.sizes.length cz]) :: iN .i64 (freeD D) :: .bool false :: .bool false :: .bool false :: pt d.q :: .string p :: vL8 :: .agg (#[iN .i64 rm, .slice pf fs.length cf, .bool D.down, iN .i64 D.left, .slice pz D.sizes.length cz]) :: .string p :: vr :: .bool true :: .bool false :: .bool false :: pt d.q :: .slice p7 l7.length c7 :: iN .i64 l7.length :: .slice p7 l7.length c7 :: iN .i64 l7.length :: .bool false :: u29 43 :: u29 44 :: u29 45 :: u29 46 :: u29 47 :: u29 48 :: u29 49 :: u29 50 :: u29 51 :: u29 52 :: u29 53 :: u29 54 :: u29 55 :: u29 56 :: u29 57 :: u29 58 :: u29 59 :: u29 60 :: u29 61 :: u29 62 :: u29 63 :: u29 64 :: u29 65 :: u29 66 :: u29 67 :: u29 68 :: u29 69 :: u29 70 :: u29 71 :: u29 72 :: u29 73 :: u29 74 :: u29 75 :: u29 76 :: u29 77 :: u29 78 :: u29 79 :: u29 80 :: u29 81 :: u29 82 :: u29 83 :: u29 84 :: u29 85 :: pt d.q :: .slice p13 D.sizes.length c13 :: .slice p13 D.sizes.length c13 :: iN .i64 D.sizes.length :: .pointer (some ⟨q1, 4, none⟩) :: .slice pz D.sizes.length cz :: iN .i64 D.sizes.length :: .bool false :: iN .i64 k :: .slice p13 D.sizes.length c13 :: iN .i64 D.sizes.length :: .bool true :: u41 98 :: u41 99 :: .slice p13 D.sizes.length c13 :: iN .i64 k :: .pointer (some ⟨g, k, none⟩) :: iN .i64 (D.sizes.getD k 0) :: .pointer (some ⟨q1, 4, none⟩) :: .slice pz D.sizes.length cz :: iN .i64 k :: .pointer (some ⟨gz, k, none⟩) :: iN .i64 (D.sizes.getD k 0) :: .bool false :: u41 110 :: u41 111 :: u41 112 :: List.replicate 0 un).toArray, []⟩ (HA (bs w) [(q1, 28, #[iN .i64 rm, .slice pf fs.length cf, .bool D.down, iN .i64 D.left, .slice pz D.sizes.length cz]), (g, 3, cu)]) [.slice p13 D.sizes.length c13, iN .i64 k, .pointer (some ⟨g, k, none⟩), iN .i64 (D.sizes.getD k 0), .pointer (some ⟨q1, 4, none⟩), .slice pz D.sizes.length cz, iN .i64 k, .pointer (some ⟨gz, k, none⟩), iN .i64 (D.sizes.getD k 0), .bool false] (by kernel_rfl) (by kernel_rfl) (by kernel_rfl) (by kernel_rfl) (fun _ _ _ h => h) hL2.drew ?_ ?_
        · refine AllSure.cons (OpSure.take (v := .slice p13 D.sizes.length c13) (by kernel_rfl) (by kernel_rfl) (fun _ _ => (by kernel_rfl))) ?_
          refine AllSure.cons (OpSure.take (v := iN .i64 k) (by kernel_rfl) (by kernel_rfl) (fun _ _ => (by kernel_rfl))) ?_
          refine AllSure.cons (OpSure.take (v := .pointer (some ⟨g, k, none⟩)) (by kernel_rfl) (by kernel_rfl) (fun _ _ => (run_addr26p (q := g) (n := D.sizes.length) (m := c13) (a := k) hpg (by kernel_rfl) (by kernel_rfl) hk))) ?_
          refine AllSure.cons (OpSure.take (v := iN .i64 (D.sizes.getD k 0)) (by kernel_rfl) (by kernel_rfl) (fun w' h' => run_load_at (b := ⟨g, k, none⟩) (fun w => Try.isAgg3 w) (by kernel_rfl) (((h'.blk (g, 3, cu) (by simp)).cell k).trans (hcj k (Nat.le_refl _) hk)))) ?_
          refine AllSure.cons (OpSure.take (v := .pointer (some ⟨q1, 4, none⟩)) (by kernel_rfl) (by kernel_rfl) (fun _ _ => (by kernel_rfl))) ?_
          refine AllSure.cons (OpSure.take (v := .slice pz D.sizes.length cz) (by kernel_rfl) (by kernel_rfl) (fun w' h' => run_load1 (fun w => Try.isAgg26 w) (by kernel_rfl) (((h'.get 0 rfl).cell 4).trans rfl))) ?_
          refine AllSure.cons (OpSure.take (v := iN .i64 k) (by kernel_rfl) (by kernel_rfl) (fun _ _ => (by kernel_rfl))) ?_
          refine AllSure.cons (OpSure.take (v := .pointer (some ⟨gz, k, none⟩)) (by kernel_rfl) (by kernel_rfl) (fun _ _ => (run_addr26p (q := gz) (n := D.sizes.length) (m := cz) (a := k) hpz (by kernel_rfl) (by kernel_rfl) hk))) ?_
          refine AllSure.cons (OpSure.take (v := iN .i64 (D.sizes.getD k 0)) (by kernel_rfl) (by kernel_rfl) (fun w' h' => run_load_at (b := ⟨gz, k, none⟩) (fun w => Try.isAgg3 w) (by kernel_rfl) ((((hS _ hgz).keep h'.old.old).cell k).trans hcz))) ?_
          refine AllSure.cons (OpSure.take (v := .bool false) (by kernel_rfl) (by kernel_rfl) (fun _ _ => (run_nei (k := .i64) (a := D.sizes.getD k 0) (b := D.sizes.getD k 0) (by kernel_rfl) (by kernel_rfl) false (decide_eq_false (fun h => h rfl))))) ?_
          exact AllSure.nil
        intro w43 h44
        refine then_at rfl ?_
        refine wp_cond_false (by kernel_rfl) ?_
        refine wp_skip ?_
        refine then_at rfl ?_
        refine wl_region ?_
        refine wl_val (.slice p13 D.sizes.length c13) (by kernel_rfl) (by kernel_rfl) ?_
        refine wl_val (iN .i64 k) (by kernel_rfl) (by kernel_rfl) ?_
        refine wl_val (.pointer (some ⟨g, k, none⟩)) (by kernel_rfl) (run_addr26p (q := g) (n := D.sizes.length) (m := c13) (a := k) hpg (by kernel_rfl) (by kernel_rfl) hk) ?_
        refine wl_putv (v := .int .i64 (-1)) h44 1 rfl k (by omega) (by kernel_rfl) (fun w => Try.sizeOf3 w) (by kernel_rfl) (by kernel_rfl) (by kernel_rfl) ?_
        intro w45 h46
        refine wl_nil ?_
        refine block_normal ?_
        refine then_at rfl ?_
        refine wl_region ?_
        refine wl_val (iN .i64 k) (by kernel_rfl) (by kernel_rfl) ?_
        refine wl_val (iN .i64 (k + 1)) (by kernel_rfl) (run_add (k := .i64) (a := k) (b := 1) (by kernel_rfl) (by kernel_rfl) (by first | omega | (simp only [top]; omega))) ?_
        refine wl_val (iN .i64 (k + 1)) (by kernel_rfl) (by kernel_rfl) ?_
        refine wl_nil ?_
        exact then_I ⟨fun ii => (([(6, u41 6), (94, iN .i64 k), (95, .slice p13 D.sizes.length c13), (96, iN .i64 D.sizes.length), (97, .bool true), (98, iN .i64 k), (99, iN .i64 (k + 1)), (100, .slice p13 D.sizes.length c13), (101, iN .i64 k), (102, .pointer (some ⟨g, k, none⟩)), (103, iN .i64 (D.sizes.getD k 0)), (104, .pointer (some ⟨q1, 4, none⟩)), (105, .slice pz D.sizes.length cz), (106, iN .i64 k), (107, .pointer (some ⟨gz, k, none⟩)), (108, iN .i64 (D.sizes.getD k 0)), (109, .bool false), (110, .slice p13 D.sizes.length c13), (111, iN .i64 k), (112, .pointer (some ⟨g, k, none⟩))] : List (Nat × Value)).find? (·.1 == ii)).elim undef (·.2), by kernel_rfl, _, .inr ⟨g, _, hpg, rfl, by rw [Array.size_setIfInBounds]; exact hcs, fun j h1 h2 => by rw [Array.getElem?_setIfInBounds_ne (by omega)]; exact hcj j (by omega) h2⟩, h46⟩
      · rintro _ w47 ⟨u41, rfl, Lq, hq, hL2⟩
        refine wp_seq ?_
        refine wp_seq ?_
        refine wl_region ?_
        refine wl_val (iN .i64 D.sizes.length) (by kernel_rfl) (by kernel_rfl) ?_
        refine wl_val (.slice p13 D.sizes.length c13) (by kernel_rfl) (by kernel_rfl) ?_
        refine wl_val (iN .i64 D.sizes.length) (by kernel_rfl) (by kernel_rfl) ?_
        refine wl_val (.bool false) (by kernel_rfl) (run_lss (k := .i64) (a := D.sizes.length) (b := D.sizes.length) (by kernel_rfl) (by kernel_rfl) false (decide_eq_false (by omega))) ?_
        refine wl_nil ?_
        refine then_at rfl ?_
        refine wp_cond_false (by kernel_rfl) ?_
        refine wp_exit ?_
        repeat first | refine then_exit ?_ | refine block_exit ?_ | refine block_exit_ne (by decide) ?_
        refine then_at (F := ⟨(pt d.q :: .agg #[iN .i64 rm, .slice pf fs.length cf, .bool D.down, iN .i64 D.left, .slice pz D.sizes.length cz] :: .string p :: un :: pt q1 :: un :: u41 6 :: .slice p7 l7.length c7 :: iN .i64 l7.length :: u29 9 :: u29 10 :: u29 11 :: u29 12 :: .slice p13 D.sizes.length c13 :: iN .i64 D.sizes.length :: pt d.q :: .bool D.down :: .pointer (some ⟨q1, 2, none⟩) :: .bool D.down :: .bool false :: .bool false :: pt d.q :: iN .i64 (freeD D) :: .agg (#[iN .i64 rm, .slice pf fs.length cf, .bool D.down, iN .i64 D.left, .slice pz D.sizes.length cz]) :: iN .i64 (freeD D) :: .bool false :: .bool false :: .bool false :: pt d.q :: .string p :: vL8 :: .agg (#[iN .i64 rm, .slice pf fs.length cf, .bool D.down, iN .i64 D.left, .slice pz D.sizes.length cz]) :: .string p :: vr :: .bool true :: .bool false :: .bool false :: pt d.q :: .slice p7 l7.length c7 :: iN .i64 l7.length :: .slice p7 l7.length c7 :: iN .i64 l7.length :: .bool false :: u29 43 :: u29 44 :: u29 45 :: u29 46 :: u29 47 :: u29 48 :: u29 49 :: u29 50 :: u29 51 :: u29 52 :: u29 53 :: u29 54 :: u29 55 :: u29 56 :: u29 57 :: u29 58 :: u29 59 :: u29 60 :: u29 61 :: u29 62 :: u29 63 :: u29 64 :: u29 65 :: u29 66 :: u29 67 :: u29 68 :: u29 69 :: u29 70 :: u29 71 :: u29 72 :: u29 73 :: u29 74 :: u29 75 :: u29 76 :: u29 77 :: u29 78 :: u29 79 :: u29 80 :: u29 81 :: u29 82 :: u29 83 :: u29 84 :: u29 85 :: pt d.q :: .slice p13 D.sizes.length c13 :: .slice p13 D.sizes.length c13 :: iN .i64 D.sizes.length :: .pointer (some ⟨q1, 4, none⟩) :: .slice pz D.sizes.length cz :: iN .i64 D.sizes.length :: .bool false :: iN .i64 D.sizes.length :: .slice p13 D.sizes.length c13 :: iN .i64 D.sizes.length :: .bool false :: u41 98 :: u41 99 :: u41 100 :: u41 101 :: u41 102 :: u41 103 :: u41 104 :: u41 105 :: u41 106 :: u41 107 :: u41 108 :: u41 109 :: u41 110 :: u41 111 :: u41 112 :: List.replicate 0 un).toArray, []⟩) (by kernel_rfl) ?_
        refine wp_seq ?_
        refine wl_region ?_
        refine wl_val (.bool true) (by kernel_rfl) (by kernel_rfl) ?_
        refine wl_nil ?_
        refine then_at rfl ?_
        refine wp_ret ?_
        repeat first | refine then_ret ?_ | refine block_ret ?_
        exact bodyPost_ret (v := .bool true) (by kernel_rfl) rfl ⟨rfl, hL2.old.old⟩
theorem same_ok {w0 : World} {M : ML} {d : Dk} {D : DS} {L : BL} {w : World} (hD : DH w0 M d D L w) {v : Value} {rm U n : Nat} {N : BL} (hR : RD v D rm N) (hS : Stand w N) (hb : DB D U n) (hn : n ≤ 1000) (hU : U ≤ 1000000) (p : ByteArray) :
    Calls Try.prog 25 #[pt d.q, v, .string p] w fun e w' => e = .returned (.bool true) ∧ Below w.heap.size w w' := by
  obtain ⟨fs, dn, lf, zs, pf, cf, pz, cz, rfl, hT, hF, hZ⟩ := hR
  have e1 := hT.edn
  have e2 := hT.elf
  have e3 := hT.sz
  subst e1 e2 e3
  exact same_any hD hT hF hZ hS hb hn hU p
end Go.Proofs.Ytjedhnjjgmbcbaa
