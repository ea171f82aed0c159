/-
 frame.
-/
import Derived.Test.YtckmlaempffpjaaGreatS7
namespace Go.Proofs.YtckmlaempffpjaaGreat
open Go.RowKit

/-- a text, with its length ahead -/
def ptB (s : ByteArray) : List UInt8 := Wi.be s.size 4 ++ bl s
def rowB (x : Rw) : List UInt8 := ptB x.k ++ ptB x.v
/-- a change's body, and its frame -/
def bodyB (ps : List Rw) (ds : List ByteArray) : List UInt8 := Wi.be ps.length 2 ++ ps.flatMap rowB ++ Wi.be ds.length 2 ++ ds.flatMap ptB
def frameB (ps : List Rw) (ds : List ByteArray) : List UInt8 := Wi.be (bodyB ps ds).length 4 ++ bodyB ps ds
theorem perm_bld (A B Lr : BL) (b : Nat × TypeId × Array Value) : (A ++ b :: (B ++ Lr)).Perm (b :: (Lr ++ (A ++ B))) := by
 refine List.perm_middle.trans (List.Perm.cons _ ?_)
 rw [← List.append_assoc]
 exact List.perm_append_comm
theorem bl_mk (l : List UInt8) : bl ⟨l.toArray⟩ = l := by simp [bl]
theorem flat_take {α : Type} {l : List α} {k : Nat} {x : α} (f : α → List UInt8) (h : l[k]? = some x) : (l.take (k + 1)).flatMap f = (l.take k).flatMap f ++ f x := by
 rw [take_snoc h, List.flatMap_append]
 simp
theorem flat_le {α : Type} (l : List α) (k : Nat) (f : α → List UInt8) : ((l.take k).flatMap f).length ≤ (l.flatMap f).length := by
 conv => rhs; rw [← List.take_append_drop k l]
 rw [List.flatMap_append, List.length_append]
 omega
theorem ptB_len (s : ByteArray) : (ptB s).length = 4 + s.size := by rw [ptB, List.length_append, Wi.be_length, bl_len]
theorem PutT (s : ByteArray) (hs : s.size ≤ 1000000000) (w : World) : Calls Tryz.prog 104 #[.string { data := #[] }, .string s] w fun e w' => e = .returned (.string ⟨(ptB s).toArray⟩) ∧ Below w.heap.size w w' := by
 have h := Wi.PutText_any w { data := #[] } s (by decide) hs
 refine h.mono ?_
 rintro e w' ⟨rfl, hb⟩
 refine ⟨?_, hb⟩
 show Ending.returned (.string ⟨([] ++ (Wi.be s.data.toList.length 4 ++ s.data.toList)).toArray⟩) = _
 rw [List.nil_append, show s.data.toList.length = s.size by rw [← bl_len]; rfl]
 rfl
theorem PutN (n m : Nat) (h1 : 1 ≤ m) (h8 : m ≤ 8) (w : World) : Calls Tryz.prog 103 #[.string { data := #[] }, iN .i64 m, iN .u64 n] w fun e w' => e = .returned (.string ⟨(Wi.be n m).toArray⟩) ∧ Below w.heap.size w w' := by
 have h := Wi.PutNumber_any w { data := #[] } (m : Int) n (by decide)
 rw [Wi.wd, if_neg (by omega), if_neg (by omega), Int.toNat_natCast] at h
 exact h
set_option linter.unusedSimpArgs false in
set_option linter.unusedVariables false in
set_option maxRecDepth 100000 in
set_option maxHeartbeats 2000000 in
theorem frame_any {po do_ : Option Addr} {pc dc : Nat} {ps : List Rw} {ds : List ByteArray} {w : World} (hP : RowsAt w po ps) (hD : KeysAt w do_ ds) (hpl : ps.length ≤ 1000000000) (hdl : ds.length ≤ 1000000000) (hb : (bodyB ps ds).length ≤ 1000000000) :
  Calls Tryz.prog 55 #[.agg #[.slice po ps.length pc, .slice do_ ds.length dc]] w fun e w' => e = .returned (.string ⟨(frameB ps ds).toArray⟩) ∧ Below w.heap.size w w' := by
 have H0 := HA.start w
 have hbl : (Wi.be ps.length 2).length + (ps.flatMap rowB).length + (Wi.be ds.length 2).length + (ds.flatMap ptB).length ≤ 1000000000 := by have h := hb; simp only [bodyB, List.length_append] at h; omega
 rw [Wi.be_length, Wi.be_length] at hbl
 go_enter Tryz.func55, Tryz.ntmps55
 refine wp_seq ?_
 refine wl_region ?_
 refine wl_make (c := #[.slice po ps.length pc, .slice do_ ds.length dc]) H0 100 (by kernel_rfl) (by kernel_rfl) ?_
 intro q1 w2 (h3 : HA (bs w) [(q1, 100, #[.slice po ps.length pc, .slice do_ ds.length dc])] w2)
 refine zwv (.string ({ data := #[] })) ?_
 refine wl_nil ?_
 refine then_at rfl ?_
 refine wp_seq ?_
 refine wl_region ?_
 refine wl_make (c := #[.pointer none, .slice none 0 0]) h3 147 (by kernel_rfl) (by kernel_rfl) ?_
 intro q4 w5 (h6 : HA (bs w) [(q4, 147, #[.pointer none, .slice none 0 0]), (q1, 100, #[.slice po ps.length pc, .slice do_ ds.length dc])] w5)
 refine wl_nil ?_
 refine then_at rfl ?_
 refine wp_seq ?_
 have h7 := h6
 clear h6
 generalize q4 = bb at h7 ⊢
 refine wl_region ?_
 refine zwv (.pointer (some ⟨q1, 0, none⟩)) ?_
 refine zwx (.slice po ps.length pc) (run_load1 (fun w => Tryz.isAgg30 w) (by kernel_rfl) (((h7.get 1 rfl).cell 0).trans rfl)) ?_
 refine zwv (iN .i64 ps.length) ?_
 refine zwx (iN .u64 ps.length) (run_conv .u64 Tryz.underlying3 Tryz.underlying119 (by kernel_rfl) (by simp only [top]; omega)) ?_
 refine wl_call (v := .string (⟨(Wi.be ps.length 2).toArray⟩)) h7 (by kernel_rfl) enter103 #[.string ({ data := #[] }), iN .i64 2, iN .u64 ps.length] (by kernel_rfl) (PutN ps.length 2 (by decide) (by decide) w5) ?_
 intro w8 h9
 have hq10 := h9.perm (perm_bld [] [(q1, 100, #[.slice po ps.length pc, .slice do_ ds.length dc])] [] (bb, 147, #[.pointer none, .slice none 0 0]))
 refine wl_callx (by kernel_rfl) enter98 #[.pointer (some ⟨bb, 0, none⟩), .string (⟨(Wi.be ps.length 2).toArray⟩)] (by kernel_rfl) (bwrite_any (.inl rfl) RowB.nil hq10 ⟨(Wi.be ps.length 2).toArray⟩ (by show [].length + ((Wi.be ps.length 2).toArray).size ≤ _; rw [List.size_toArray]; simp only [List.length_append, Wi.be_length, ptB_len, List.length_nil] at *; omega)) ?_
 rintro _ w11 ⟨rfl, vb10, Lb10, hRb10, hb_10⟩
 refine ⟨_, rfl, ?_⟩
 rw [bl_mk] at hRb10
 have h12 : HA (bs w) ((bb, 147, #[pt bb, vb10]) :: (q1, 100, #[.slice po ps.length pc, .slice do_ ds.length dc]) :: Lb10) w11 := hb_10.perm (perm_bld [] [(q1, 100, #[.slice po ps.length pc, .slice do_ ds.length dc])] Lb10 (bb, 147, #[pt bb, vb10])).symm
 refine wl_nil ?_
 refine then_at rfl ?_
 refine wp_seq ?_
 refine wp_seq ?_
 refine wl_region ?_
 refine zwv (.pointer (some ⟨q1, 0, none⟩)) ?_
 refine zwx (.slice po ps.length pc) (run_load1 (fun w => Tryz.isAgg30 w) (by kernel_rfl) (((h12.get 1 rfl).cell 0).trans rfl)) ?_
 refine zwv (iN .i64 ps.length) ?_
 refine zwv (iN .i64 0) ?_
 refine wl_nil ?_
 refine then_at rfl ?_
 refine wp_block ?_
 refine wp_count (fun k A w' => ∃ u13 : Nat → Value, A = ⟨(.agg #[.slice po ps.length pc, .slice do_ ds.length dc] :: pt q1 :: .string ({ data := #[] }) :: pt bb :: un :: u13 5 :: un :: un :: pt q1 :: .slice po ps.length pc :: iN .i64 ps.length :: iN .u64 ps.length :: .string (⟨(Wi.be ps.length 2).toArray⟩) :: .tuple #[iN .i64 ((⟨(Wi.be ps.length 2).toArray⟩ : ByteArray).size), .nilIface] :: pt q1 :: .slice po ps.length pc :: iN .i64 ps.length :: iN .i64 k :: u13 18 :: u13 19 :: u13 20 :: u13 21 :: u13 22 :: u13 23 :: u13 24 :: u13 25 :: u13 26 :: u13 27 :: u13 28 :: u13 29 :: List.replicate 19 un).toArray, []⟩ ∧ ∃ v Lr, RowB v (Wi.be ps.length 2 ++ (ps.take k).flatMap rowB) Lr ∧ HA (bs w) ((bb, 147, #[pt bb, v]) :: (q1, 100, #[.slice po ps.length pc, .slice do_ ds.length dc]) :: Lr) w') ps.length ?_ ?_ ?_
 ·exact ⟨fun ii => (([(5, undef), (18, undef), (19, undef), (20, undef), (21, undef), (22, undef), (23, undef), (24, undef), (25, undef), (26, undef), (27, undef), (28, undef), (29, undef)] : List (Nat × Value)).find? (·.1 == ii)).elim undef (·.2), by kernel_rfl, _, _, by have h9 := hRb10; simpa [List.append_assoc, List.take_length] using h9, h12.sub (List.Sublist.cons_cons _ (List.Sublist.cons_cons _ (List.Sublist.refl _)))⟩
 ·rintro k hk _ w14 ⟨u13, rfl, v, Lr, hR, hL⟩
  obtain ⟨x, hx⟩ : ∃ x, ps[k]? = some x := ⟨_, List.getElem?_eq_getElem hk⟩
  obtain ⟨pa, hpa, hpk0, hpv0⟩ := hP k x hx
  have hpk := cell_old hL.old.old hpk0
  have hpv := cell_old hL.old.old hpv0
  have hxr : (rowB x).length ≤ (ps.flatMap rowB).length := by have h1 := flat_take rowB hx; have h2 := flat_le ps (k + 1) rowB; rw [h1, List.length_append] at h2; omega
  have hxr2 : (rowB x).length = 4 + x.k.size + (4 + x.v.size) := by rw [rowB, List.length_append, ptB_len, ptB_len]
  have hfl := flat_le ps k rowB
  refine wp_seq ?_
  refine wl_region ?_
  refine zwx (.bool true) (run_lss (k := .i64) (a := k) (b := ps.length) (by kernel_rfl) (by kernel_rfl) true (decide_eq_true (by omega))) ?_
  refine wl_nil ?_
  refine then_at rfl ?_
  refine wp_seq ?_
  refine wp_cond_true (by kernel_rfl) ?_
  refine wp_skip ?_
  refine then_at rfl ?_
  refine wp_seq ?_
  refine wp_block ?_
  refine wp_seq ?_
  refine wl_region ?_
  refine wl_val (.pointer (some (pa.add (k * 2)))) (by kernel_rfl) (run_addr30 (a := pa) (n := ps.length) (m := pc) (i := k) hpa (by kernel_rfl) (by kernel_rfl) hk) ?_
  refine zwx (rwv x) (run_loadrow (by kernel_rfl) hpk hpv) ?_
  refine wl_make (c := #[.string ({ data := #[] }), .string ({ data := #[] })]) hL 64 (by kernel_rfl) (by kernel_rfl) ?_
  intro q15 w16 (h17 : HA (bs w) ((q15, 64, #[.string ({ data := #[] }), .string ({ data := #[] })]) :: (bb, 147, #[pt bb, v]) :: (q1, 100, #[.slice po ps.length pc, .slice do_ ds.length dc]) :: Lr) w16)
  refine wl_fill (c' := #[.string x.k, .string x.v]) h17 0 rfl (by kernel_rfl) (by kernel_rfl) (by kernel_rfl) rfl (by kernel_rfl) (by kernel_rfl) ?_
  intro w18 (h19 : HA (bs w) ((q15, 64, #[.string x.k, .string x.v]) :: (bb, 147, #[pt bb, v]) :: (q1, 100, #[.slice po ps.length pc, .slice do_ ds.length dc]) :: Lr) w18)
  refine wl_nil ?_
  refine then_at rfl ?_
  refine wp_seq ?_
  refine wl_region ?_
  refine zwv (.pointer (some ⟨q15, 0, none⟩)) ?_
  refine zwx (.string x.k) (run_load1 (fun w => Tryz.isAgg9 w) (by kernel_rfl) (((h19.get 0 rfl).cell 0).trans rfl)) ?_
  refine wl_call (v := .string (⟨(ptB x.k).toArray⟩)) h19 (by kernel_rfl) enter104 #[.string ({ data := #[] }), .string x.k] (by kernel_rfl) (PutT x.k (by omega) w18) ?_
  intro w20 h21
  have hq22 := h21.perm (perm_bld [(q15, 64, #[.string x.k, .string x.v])] [(q1, 100, #[.slice po ps.length pc, .slice do_ ds.length dc])] Lr (bb, 147, #[pt bb, v]))
  refine wl_callx (by kernel_rfl) enter98 #[.pointer (some ⟨bb, 0, none⟩), .string (⟨(ptB x.k).toArray⟩)] (by kernel_rfl) (bwrite_any (.inr rfl) hR hq22 ⟨(ptB x.k).toArray⟩ (by show (Wi.be ps.length 2 ++ (ps.take k).flatMap rowB).length + ((ptB x.k).toArray).size ≤ _; rw [List.size_toArray]; simp only [List.length_append, Wi.be_length, ptB_len, List.length_nil] at *; omega)) ?_
  rintro _ w23 ⟨rfl, vb22, Lb22, hRb22, hb_22⟩
  refine ⟨_, rfl, ?_⟩
  rw [bl_mk] at hRb22
  have h24 : HA (bs w) ((q15, 64, #[.string x.k, .string x.v]) :: (bb, 147, #[pt bb, vb22]) :: (q1, 100, #[.slice po ps.length pc, .slice do_ ds.length dc]) :: Lb22) w23 := hb_22.perm (perm_bld [(q15, 64, #[.string x.k, .string x.v])] [(q1, 100, #[.slice po ps.length pc, .slice do_ ds.length dc])] Lb22 (bb, 147, #[pt bb, vb22])).symm
  refine wl_nil ?_
  refine then_at rfl ?_
  refine wl_region ?_
  refine zwv (.pointer (some ⟨q15, 1, none⟩)) ?_
  refine zwx (.string x.v) (run_load1 (fun w => Tryz.isAgg9 w) (by kernel_rfl) (((h24.get 0 rfl).cell 1).trans rfl)) ?_
  refine wl_call (v := .string (⟨(ptB x.v).toArray⟩)) h24 (by kernel_rfl) enter104 #[.string ({ data := #[] }), .string x.v] (by kernel_rfl) (PutT x.v (by omega) w23) ?_
  intro w25 h26
  have hq27 := h26.perm (perm_bld [(q15, 64, #[.string x.k, .string x.v])] [(q1, 100, #[.slice po ps.length pc, .slice do_ ds.length dc])] Lb22 (bb, 147, #[pt bb, vb22]))
  refine wl_callx (by kernel_rfl) enter98 #[.pointer (some ⟨bb, 0, none⟩), .string (⟨(ptB x.v).toArray⟩)] (by kernel_rfl) (bwrite_any (.inr rfl) hRb22 hq27 ⟨(ptB x.v).toArray⟩ (by show ((Wi.be ps.length 2 ++ (ps.take k).flatMap rowB) ++ ptB x.k).length + ((ptB x.v).toArray).size ≤ _; rw [List.size_toArray]; simp only [List.length_append, Wi.be_length, ptB_len, List.length_nil] at *; omega)) ?_
  rintro _ w28 ⟨rfl, vb27, Lb27, hRb27, hb_27⟩
  refine ⟨_, rfl, ?_⟩
  rw [bl_mk] at hRb27
  have h29 : HA (bs w) ((q15, 64, #[.string x.k, .string x.v]) :: (bb, 147, #[pt bb, vb27]) :: (q1, 100, #[.slice po ps.length pc, .slice do_ ds.length dc]) :: Lb27) w28 := hb_27.perm (perm_bld [(q15, 64, #[.string x.k, .string x.v])] [(q1, 100, #[.slice po ps.length pc, .slice do_ ds.length dc])] Lb27 (bb, 147, #[pt bb, vb27])).symm
  refine wl_nil ?_
  refine block_normal ?_
  refine then_at rfl ?_
  refine wl_region ?_
  refine zwx (iN .i64 (k + 1)) (run_add (k := .i64) (a := k) (b := 1) (by kernel_rfl) (by kernel_rfl) (by first | omega | (simp only [top]; omega))) ?_
  refine zwv (iN .i64 (k + 1)) ?_
  refine wl_nil ?_
  exact then_I ⟨fun ii => (([(5, .pointer (some ⟨q15, 0, none⟩)), (18, .bool true), (19, .pointer (some (pa.add (k * 2)))), (20, rwv x), (21, .pointer (some ⟨q15, 0, none⟩)), (22, .string x.k), (23, .string (⟨(ptB x.k).toArray⟩)), (24, .tuple #[iN .i64 ((⟨(ptB x.k).toArray⟩ : ByteArray).size), .nilIface]), (25, .pointer (some ⟨q15, 1, none⟩)), (26, .string x.v), (27, .string (⟨(ptB x.v).toArray⟩)), (28, .tuple #[iN .i64 ((⟨(ptB x.v).toArray⟩ : ByteArray).size), .nilIface]), (29, iN .i64 (k + 1))] : List (Nat × Value)).find? (·.1 == ii)).elim undef (·.2), by kernel_rfl, vb27, Lb27, by rw [flat_take rowB hx, rowB]; have h9 := hRb27; simpa [List.append_assoc] using h9, h29.sub (List.Sublist.cons _ (List.Sublist.cons_cons _ (List.Sublist.cons_cons _ (List.Sublist.refl _))))⟩
 ·rintro _ w30 ⟨u13, rfl, v, Lr, hR, hL⟩
  have hfl := flat_le ps ps.length rowB
  refine wp_seq ?_
  refine wl_region ?_
  refine zwx (.bool false) (run_lss (k := .i64) (a := ps.length) (b := ps.length) (by kernel_rfl) (by kernel_rfl) false (decide_eq_false (by omega))) ?_
  refine wl_nil ?_
  refine then_at rfl ?_
  refine wp_seq ?_
  refine wp_cond_false (by kernel_rfl) ?_
  refine wp_exit ?_
  repeat first | refine then_exit ?_ | refine block_exit ?_ | refine block_exit_ne (by decide) ?_
  refine then_at rfl ?_
  refine wp_seq ?_
  refine wl_region ?_
  refine zwv (.pointer (some ⟨q1, 1, none⟩)) ?_
  refine zwx (.slice do_ ds.length dc) (run_load1 (fun w => Tryz.isAgg39 w) (by kernel_rfl) (((hL.get 1 rfl).cell 1).trans rfl)) ?_
  refine zwv (iN .i64 ds.length) ?_
  refine zwx (iN .u64 ds.length) (run_conv .u64 Tryz.underlying3 Tryz.underlying119 (by kernel_rfl) (by simp only [top]; omega)) ?_
  refine wl_call (v := .string (⟨(Wi.be ds.length 2).toArray⟩)) hL (by kernel_rfl) enter103 #[.string ({ data := #[] }), iN .i64 2, iN .u64 ds.length] (by kernel_rfl) (PutN ds.length 2 (by decide) (by decide) w30) ?_
  intro w31 h32
  have hq33 := h32.perm (perm_bld [] [(q1, 100, #[.slice po ps.length pc, .slice do_ ds.length dc])] Lr (bb, 147, #[pt bb, v]))
  refine wl_callx (by kernel_rfl) enter98 #[.pointer (some ⟨bb, 0, none⟩), .string (⟨(Wi.be ds.length 2).toArray⟩)] (by kernel_rfl) (bwrite_any (.inr rfl) hR hq33 ⟨(Wi.be ds.length 2).toArray⟩ (by show (Wi.be ps.length 2 ++ (ps.take ps.length).flatMap rowB).length + ((Wi.be ds.length 2).toArray).size ≤ _; rw [List.size_toArray]; simp only [List.length_append, Wi.be_length, ptB_len, List.length_nil] at *; omega)) ?_
  rintro _ w34 ⟨rfl, vb33, Lb33, hRb33, hb_33⟩
  refine ⟨_, rfl, ?_⟩
  rw [bl_mk] at hRb33
  have h35 : HA (bs w) ((bb, 147, #[pt bb, vb33]) :: (q1, 100, #[.slice po ps.length pc, .slice do_ ds.length dc]) :: Lb33) w34 := hb_33.perm (perm_bld [] [(q1, 100, #[.slice po ps.length pc, .slice do_ ds.length dc])] Lb33 (bb, 147, #[pt bb, vb33])).symm
  refine wl_nil ?_
  refine then_at rfl ?_
  refine wp_seq ?_
  refine wp_seq ?_
  refine wl_region ?_
  refine zwv (.pointer (some ⟨q1, 1, none⟩)) ?_
  refine zwx (.slice do_ ds.length dc) (run_load1 (fun w => Tryz.isAgg39 w) (by kernel_rfl) (((h35.get 1 rfl).cell 1).trans rfl)) ?_
  refine zwv (iN .i64 ds.length) ?_
  refine zwv (iN .i64 0) ?_
  refine wl_nil ?_
  refine then_at rfl ?_
  refine wp_block ?_
  refine wp_count (fun k A w' => ∃ u36 : Nat → Value, A = ⟨(.agg #[.slice po ps.length pc, .slice do_ ds.length dc] :: pt q1 :: .string ({ data := #[] }) :: pt bb :: un :: u13 5 :: un :: u36 7 :: pt q1 :: .slice po ps.length pc :: iN .i64 ps.length :: iN .u64 ps.length :: .string (⟨(Wi.be ps.length 2).toArray⟩) :: .tuple #[iN .i64 ((⟨(Wi.be ps.length 2).toArray⟩ : ByteArray).size), .nilIface] :: pt q1 :: .slice po ps.length pc :: iN .i64 ps.length :: iN .i64 ps.length :: .bool false :: u13 19 :: u13 20 :: u13 21 :: u13 22 :: u13 23 :: u13 24 :: u13 25 :: u13 26 :: u13 27 :: u13 28 :: u13 29 :: .pointer (some ⟨q1, 1, none⟩) :: .slice do_ ds.length dc :: iN .i64 ds.length :: iN .u64 ds.length :: .string (⟨(Wi.be ds.length 2).toArray⟩) :: .tuple #[iN .i64 ((⟨(Wi.be ds.length 2).toArray⟩ : ByteArray).size), .nilIface] :: .pointer (some ⟨q1, 1, none⟩) :: .slice do_ ds.length dc :: iN .i64 ds.length :: iN .i64 k :: u36 40 :: u36 41 :: u36 42 :: u36 43 :: u36 44 :: u36 45 :: u36 46 :: List.replicate 2 un).toArray, []⟩ ∧ ∃ v Lr, RowB v (Wi.be ps.length 2 ++ ps.flatMap rowB ++ Wi.be ds.length 2 ++ (ds.take k).flatMap ptB) Lr ∧ HA (bs w) ((bb, 147, #[pt bb, v]) :: (q1, 100, #[.slice po ps.length pc, .slice do_ ds.length dc]) :: Lr) w') ds.length ?_ ?_ ?_
  ·exact ⟨fun ii => (([(7, undef), (40, undef), (41, undef), (42, undef), (43, undef), (44, undef), (45, undef), (46, undef)] : List (Nat × Value)).find? (·.1 == ii)).elim undef (·.2), by kernel_rfl, _, _, by have h9 := hRb33; simpa [List.append_assoc, List.take_length] using h9, h35.sub (List.Sublist.cons_cons _ (List.Sublist.cons_cons _ (List.Sublist.refl _)))⟩
  ·rintro k hk _ w37 ⟨u36, rfl, v, Lr, hR, hL⟩
   obtain ⟨x, hx⟩ : ∃ x, ds[k]? = some x := ⟨_, List.getElem?_eq_getElem hk⟩
   obtain ⟨da, hda, hdk0⟩ := hD k x hx
   have hdk := cell_old hL.old.old hdk0
   have hxr : (ptB x).length ≤ (ds.flatMap ptB).length := by have h1 := flat_take ptB hx; have h2 := flat_le ds (k + 1) ptB; rw [h1, List.length_append] at h2; omega
   have hxr2 := ptB_len x
   have hfl := flat_le ds k ptB
   refine wp_seq ?_
   refine wl_region ?_
   refine zwx (.bool true) (run_lss (k := .i64) (a := k) (b := ds.length) (by kernel_rfl) (by kernel_rfl) true (decide_eq_true (by omega))) ?_
   refine wl_nil ?_
   refine then_at rfl ?_
   refine wp_seq ?_
   refine wp_cond_true (by kernel_rfl) ?_
   refine wp_skip ?_
   refine then_at rfl ?_
   refine wp_seq ?_
   refine wp_block ?_
   refine wp_seq ?_
   refine wl_region ?_
   refine zwx (.pointer (some (da.add k))) (run_addr39 (a := da) (n := ds.length) (m := dc) (i := k) hda (by kernel_rfl) (by kernel_rfl) hk) ?_
   refine zwx (.string x) (run_load_at (b := da.add k) (fun w => Tryz.isAgg9 w) (by kernel_rfl) hdk) ?_
   refine zwv (.string x) ?_
   refine wl_nil ?_
   refine then_at rfl ?_
   refine wl_region ?_
   refine zwv (.string x) ?_
   refine wl_call (v := .string (⟨(ptB x).toArray⟩)) hL (by kernel_rfl) enter104 #[.string ({ data := #[] }), .string x] (by kernel_rfl) (PutT x (by omega) w37) ?_
   intro w38 h39
   have hq40 := h39.perm (perm_bld [] [(q1, 100, #[.slice po ps.length pc, .slice do_ ds.length dc])] Lr (bb, 147, #[pt bb, v]))
   refine wl_callx (by kernel_rfl) enter98 #[.pointer (some ⟨bb, 0, none⟩), .string (⟨(ptB x).toArray⟩)] (by kernel_rfl) (bwrite_any (.inr rfl) hR hq40 ⟨(ptB x).toArray⟩ (by show (Wi.be ps.length 2 ++ ps.flatMap rowB ++ Wi.be ds.length 2 ++ (ds.take k).flatMap ptB).length + ((ptB x).toArray).size ≤ _; rw [List.size_toArray]; simp only [List.length_append, Wi.be_length, ptB_len, List.length_nil] at *; omega)) ?_
   rintro _ w41 ⟨rfl, vb40, Lb40, hRb40, hb_40⟩
   refine ⟨_, rfl, ?_⟩
   rw [bl_mk] at hRb40
   have h42 : HA (bs w) ((bb, 147, #[pt bb, vb40]) :: (q1, 100, #[.slice po ps.length pc, .slice do_ ds.length dc]) :: Lb40) w41 := hb_40.perm (perm_bld [] [(q1, 100, #[.slice po ps.length pc, .slice do_ ds.length dc])] Lb40 (bb, 147, #[pt bb, vb40])).symm
   refine wl_nil ?_
   refine block_normal ?_
   refine then_at rfl ?_
   refine wl_region ?_
   refine zwx (iN .i64 (k + 1)) (run_add (k := .i64) (a := k) (b := 1) (by kernel_rfl) (by kernel_rfl) (by first | omega | (simp only [top]; omega))) ?_
   refine zwv (iN .i64 (k + 1)) ?_
   refine wl_nil ?_
   exact then_I ⟨fun ii => (([(7, .string x), (40, .bool true), (41, .pointer (some (da.add k))), (42, .string x), (43, .string x), (44, .string (⟨(ptB x).toArray⟩)), (45, .tuple #[iN .i64 ((⟨(ptB x).toArray⟩ : ByteArray).size), .nilIface]), (46, iN .i64 (k + 1))] : List (Nat × Value)).find? (·.1 == ii)).elim undef (·.2), by kernel_rfl, vb40, Lb40, by rw [flat_take ptB hx]; have h9 := hRb40; simpa [List.append_assoc] using h9, h42.sub (List.Sublist.cons_cons _ (List.Sublist.cons_cons _ (List.Sublist.refl _)))⟩
  ·rintro _ w43 ⟨u36, rfl, v, Lr, hR, hL⟩
   have hfl := flat_le ds ds.length ptB
   refine wp_seq ?_
   refine wl_region ?_
   refine zwx (.bool false) (run_lss (k := .i64) (a := ds.length) (b := ds.length) (by kernel_rfl) (by kernel_rfl) false (decide_eq_false (by omega))) ?_
   refine wl_nil ?_
   refine then_at rfl ?_
   refine wp_seq ?_
   refine wp_cond_false (by kernel_rfl) ?_
   refine wp_exit ?_
   repeat first | refine then_exit ?_ | refine block_exit ?_ | refine block_exit_ne (by decide) ?_
   refine then_at rfl ?_
   refine wp_seq ?_
   have hRb2 : RowB v (bodyB ps ds) Lr := by have h9 := hR; rw [List.take_length] at h9; exact h9
   refine wl_region ?_
   have h44 := hL.perm (List.Perm.cons _ (List.perm_append_comm (l₁ := [_]) (l₂ := Lr)))
   refine wl_callx (by kernel_rfl) enter99 #[.pointer (some ⟨bb, 0, none⟩)] (by kernel_rfl) (by have h9 := bstr_any hRb2 (by omega) (fun e => absurd (congrArg List.length e) (by rw [bodyB]; simp only [List.length_append, Wi.be_length, List.length_nil]; omega)) h44; exact h9) ?_
   rintro _ w45 ⟨rfl, hstr⟩
   refine ⟨_, rfl, ?_⟩
   have h46 := hstr
   refine wl_call (v := .string (⟨(ptB ⟨(bodyB ps ds).toArray⟩).toArray⟩)) h46 (by kernel_rfl) enter104 #[.string ({ data := #[] }), .string (⟨(bodyB ps ds).toArray⟩)] (by kernel_rfl) (PutT _ (by show ((bodyB ps ds).toArray).size ≤ _; rw [List.size_toArray]; omega) w45) ?_
   intro w47 h48
   refine zwv (.string (⟨(ptB ⟨(bodyB ps ds).toArray⟩).toArray⟩)) ?_
   refine wl_nil ?_
   refine then_at rfl ?_
   refine wp_ret ?_
   repeat first | refine then_ret ?_ | refine block_ret ?_
   exact bodyPost_ret (v := .string ⟨(ptB ⟨(bodyB ps ds).toArray⟩).toArray⟩) (by kernel_rfl) rfl ⟨by rw [frameB, ptB, bl_mk]; rfl, h48.old.old⟩
end Go.Proofs.YtckmlaempffpjaaGreat
