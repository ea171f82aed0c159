/-
  Accept, Finish.
-/
import Derived.Test.YtcjjbpbehapjpaaGreatS5
set_option linter.unusedVariables false
namespace Go.Proofs.YtcjjbpbehapjpaaGreat
open Go.RowKit

theorem emp_app (t : ByteArray) : ({ data := #[] } : ByteArray) ++ t = t := by
  apply ByteArray.ext
  simp
theorem rt_yes0 {z : Base} {L : BL} {w : World} {b d : Nat} {cur : List UInt8} {v : Value} {bs : List UInt8} (hS : Rs.RdS d cur v bs) (H0 : HA z ((b, 200, #[.bool true, v]) :: (d, 5, bc cur) :: L) w) {pu pf : ByteArray} (h : rdTold bs = some (pu, pf)) :
    Calls Tryz.prog 63 #[.string { data := #[] }, pt b] w fun e w' => e = .returned (.tuple #[.agg #[.string (layT [pu] 1), .string pu, .string pf], .bool true]) ∧ HA z L w' := by
  have h2 := rt_yes hS H0 { data := #[] } (by decide) h
  rw [emp_app] at h2
  exact h2
set_option maxRecDepth 100000 in
set_option maxHeartbeats 2000000 in
theorem fi1 {w0 w : World} {M : ML} {p : Pr} {A : List Ent} {n : Nat} {L : BL} (H : PH w0 M p A n L w) {s u : ByteArray} (hs : s.size ≤ 65536) (hu : u.size ≤ 65536) (hf : A.length < 58000) {A' : List Ent} {x : Nat} (hm : mkA A 4 { data := #[] } [s, u] = (A', x)) {sc hl es0 ss0 th tp : ByteArray} {b0 : Nat} {b1 : Nat} {xc : Nat} (hb0 : (b0, 48, #[pt xc]) ∈ L) (hb1 : (b1, 120, #[.string th, .string u, .string tp]) ∈ L) (hxc : (xc, 89, #[pt p.q, .string sc, .string s, .string hl, .string es0, .string ss0]) ∈ L) :
    Calls Tryz.prog 66 #[pt b0, pt b1] w fun e w' => e = .returned (.tuple #[.string (txt x), iN .i64 0]) ∧ PH w0 M p A' n L w' := by
  obtain ⟨z0, X0, hcl0, hbe0, H0⟩ := PH.front H
  go_enter Tryz.func66, Tryz.ntmps66
  refine wp_seq (wl_region ?_)
  refine zv (.string ({ data := #[] })) ?_
  refine zv (iN .i64 0) ?_
  refine wl_nil (then_at rfl (wp_seq ?_))
  refine wp_region_wx (HA z0 (L ++ X0)) (fun AQ w' => ∃ (z7 : Base) (X8 : BL), AQ = ⟨(pt b0 :: pt b1 :: .string (txt x) :: iN .i64 0 :: pt xc :: pt xc :: pt xc :: pt xc :: pt p.q :: pt xc :: pt xc :: pt xc :: .pointer (some ⟨xc, 2, none⟩) :: .string s :: .pointer (some ⟨b1, 1, none⟩) :: .string u :: .tuple #[.string (txt x), iN .i64 0] :: .string (txt x) :: iN .i64 0 :: List.replicate 0 un).toArray, []⟩ ∧ (∀ (L' : BL) (w' : World), HA z7 (L' ++ X8) w' → PH w0 M p A' n L' w') ∧ (∀ (L' : BL) (w' : World), HA z7 L' w' → Below w0.heap.size w0 w') ∧ HA z7 (L ++ X8) w') 17 ky ky ky ky ky (H0.drew) ?_ ?_
  · have h1 := H0.drew
    refine wx_val (i := 0) (.pointer (some ⟨xc, 0, none⟩)) rfl rfl ky ky (fun w' h' => run_load1 (fun w => Tryz.isAgg48 w) ky (((h'.blk (b0, 48, #[pt xc]) (by simp [hb0])).cell 0).trans rfl)) ?_
    refine zp 1 (.pointer (some ⟨xc, 0, none⟩)) ?_
    refine zp 2 (.pointer (some ⟨xc, 0, none⟩)) ?_
    refine zp 3 (.pointer (some ⟨xc, 0, none⟩)) ?_
    refine wx_val (i := 4) (.pointer (some ⟨p.q, 0, none⟩)) rfl rfl ky ky (fun w' h' => run_load1 (fun w => Tryz.isAgg28 w) ky (((h'.blk (xc, 89, #[pt p.q, .string sc, .string s, .string hl, .string es0, .string ss0]) (by simp [hxc])).cell 0).trans rfl)) ?_
    refine wx_val (i := 5) (.pointer (some ⟨xc, 0, none⟩)) rfl rfl ky ky (fun w' h' => run_load1 (fun w => Tryz.isAgg48 w) ky (((h'.blk (b0, 48, #[pt xc]) (by simp [hb0])).cell 0).trans rfl)) ?_
    refine zp 6 (.pointer (some ⟨xc, 0, none⟩)) ?_
    refine zp 7 (.pointer (some ⟨xc, 0, none⟩)) ?_
    refine zp 8 (.pointer (some ⟨xc, 2, none⟩)) ?_
    refine wx_val (i := 9) (.string s) rfl rfl ky ky (fun w' h' => run_load1 (fun w => Tryz.isAgg9 w) ky (((h'.blk (xc, 89, #[pt p.q, .string sc, .string s, .string hl, .string es0, .string ss0]) (by simp [hxc])).cell 2).trans rfl)) ?_
    refine zp 10 (.pointer (some ⟨b1, 1, none⟩)) ?_
    refine wx_val (i := 11) (.string u) rfl rfl ky ky (fun w' h' => run_load1 (fun w => Tryz.isAgg9 w) ky (((h'.blk (b1, 120, #[.string th, .string u, .string tp]) (by simp [hb1])).cell 1).trans rfl)) ?_
    refine wx_one 12 ky ?_
    refine ex_callx rfl ky h1 enter39 #[.pointer (some ⟨p.q, 0, none⟩), .string s, .string u] ky (fun w4 h5 => Dh_E (hcl0 (L) _ h5) s u hs hu hf hm) ?_
    rintro w4 h5 _ w6 ⟨rfl, hD3⟩
    obtain ⟨z7, X8, hcl9, hbe10, h11⟩ := PH.front hD3
    have h12 : HA z7 (L ++ X8) w6 := h11
    refine ⟨_, rfl, _, .inl ky, h12, ?_⟩
    refine zp 13 (.string (txt x)) ?_
    refine zp 14 (iN .i64 0) ?_
    refine zp 15 (.string (txt x)) ?_
    refine zp 16 (iN .i64 0) ?_
    refine wx_end fun w13 hbx _ => ?_
    have h14 := HA.keep _ _ h12 hbx
    exact ⟨z7, X8, by kernel_rfl, hcl9, hbe10, h14⟩
  · rintro _ w15 ⟨z7, X8, rfl, hcl9, hbe10, h16⟩
    refine then_at rfl ?_
    refine wp_ret ?_
    repeat first | refine then_ret ?_ | refine block_ret ?_
    exact bodyPost_ret (v := .tuple #[.string (txt x), iN .i64 0]) ky rfl ⟨rfl, PH.sub (hcl9 (L) _ h16) (List.Sublist.refl _)⟩
set_option maxRecDepth 100000 in
set_option maxHeartbeats 2000000 in
theorem fi2 {w0 w : World} {M : ML} {p : Pr} {A : List Ent} {n : Nat} {L : BL} (H : PH w0 M p A n L w) {s u : ByteArray} (hs : s.size ≤ 65536) (hu : u.size ≤ 65536) (hf : A.length < 58000) {A' : List Ent} {x : Nat} (hm : mkA A 4 { data := #[] } [s, u] = (A', x)) {fr hl es0 ss0 th tp : ByteArray} {b0 : Nat} {b1 : Nat} {xc : Nat} (hb0 : (b0, 48, #[pt xc]) ∈ L) (hb1 : (b1, 120, #[.string th, .string u, .string tp]) ∈ L) (hxc : (xc, 89, #[pt p.q, .string s, .string fr, .string hl, .string es0, .string ss0]) ∈ L) :
    Calls Tryz.prog 67 #[pt b0, pt b1] w fun e w' => e = .returned (.tuple #[.string (txt x), iN .i64 0]) ∧ PH w0 M p A' n L w' := by
  obtain ⟨z0, X0, hcl0, hbe0, H0⟩ := PH.front H
  go_enter Tryz.func67, Tryz.ntmps67
  refine wp_seq (wl_region ?_)
  refine zv (.string ({ data := #[] })) ?_
  refine zv (iN .i64 0) ?_
  refine wl_nil (then_at rfl (wp_seq ?_))
  refine wp_region_wx (HA z0 (L ++ X0)) (fun AQ w' => ∃ (z7 : Base) (X8 : BL), AQ = ⟨(pt b0 :: pt b1 :: .string (txt x) :: iN .i64 0 :: pt xc :: pt xc :: pt xc :: pt xc :: pt p.q :: pt xc :: pt xc :: pt xc :: .pointer (some ⟨xc, 1, none⟩) :: .string s :: .pointer (some ⟨b1, 1, none⟩) :: .string u :: .tuple #[.string (txt x), iN .i64 0] :: .string (txt x) :: iN .i64 0 :: List.replicate 0 un).toArray, []⟩ ∧ (∀ (L' : BL) (w' : World), HA z7 (L' ++ X8) w' → PH w0 M p A' n L' w') ∧ (∀ (L' : BL) (w' : World), HA z7 L' w' → Below w0.heap.size w0 w') ∧ HA z7 (L ++ X8) w') 17 ky ky ky ky ky (H0.drew) ?_ ?_
  · have h1 := H0.drew
    refine wx_val (i := 0) (.pointer (some ⟨xc, 0, none⟩)) rfl rfl ky ky (fun w' h' => run_load1 (fun w => Tryz.isAgg48 w) ky (((h'.blk (b0, 48, #[pt xc]) (by simp [hb0])).cell 0).trans rfl)) ?_
    refine zp 1 (.pointer (some ⟨xc, 0, none⟩)) ?_
    refine zp 2 (.pointer (some ⟨xc, 0, none⟩)) ?_
    refine zp 3 (.pointer (some ⟨xc, 0, none⟩)) ?_
    refine wx_val (i := 4) (.pointer (some ⟨p.q, 0, none⟩)) rfl rfl ky ky (fun w' h' => run_load1 (fun w => Tryz.isAgg28 w) ky (((h'.blk (xc, 89, #[pt p.q, .string s, .string fr, .string hl, .string es0, .string ss0]) (by simp [hxc])).cell 0).trans rfl)) ?_
    refine wx_val (i := 5) (.pointer (some ⟨xc, 0, none⟩)) rfl rfl ky ky (fun w' h' => run_load1 (fun w => Tryz.isAgg48 w) ky (((h'.blk (b0, 48, #[pt xc]) (by simp [hb0])).cell 0).trans rfl)) ?_
    refine zp 6 (.pointer (some ⟨xc, 0, none⟩)) ?_
    refine zp 7 (.pointer (some ⟨xc, 0, none⟩)) ?_
    refine zp 8 (.pointer (some ⟨xc, 1, none⟩)) ?_
    refine wx_val (i := 9) (.string s) rfl rfl ky ky (fun w' h' => run_load1 (fun w => Tryz.isAgg9 w) ky (((h'.blk (xc, 89, #[pt p.q, .string s, .string fr, .string hl, .string es0, .string ss0]) (by simp [hxc])).cell 1).trans rfl)) ?_
    refine zp 10 (.pointer (some ⟨b1, 1, none⟩)) ?_
    refine wx_val (i := 11) (.string u) rfl rfl ky ky (fun w' h' => run_load1 (fun w => Tryz.isAgg9 w) ky (((h'.blk (b1, 120, #[.string th, .string u, .string tp]) (by simp [hb1])).cell 1).trans rfl)) ?_
    refine wx_one 12 ky ?_
    refine ex_callx rfl ky h1 enter39 #[.pointer (some ⟨p.q, 0, none⟩), .string s, .string u] ky (fun w4 h5 => Dh_E (hcl0 (L) _ h5) s u hs hu hf hm) ?_
    rintro w4 h5 _ w6 ⟨rfl, hD3⟩
    obtain ⟨z7, X8, hcl9, hbe10, h11⟩ := PH.front hD3
    have h12 : HA z7 (L ++ X8) w6 := h11
    refine ⟨_, rfl, _, .inl ky, h12, ?_⟩
    refine zp 13 (.string (txt x)) ?_
    refine zp 14 (iN .i64 0) ?_
    refine zp 15 (.string (txt x)) ?_
    refine zp 16 (iN .i64 0) ?_
    refine wx_end fun w13 hbx _ => ?_
    have h14 := HA.keep _ _ h12 hbx
    exact ⟨z7, X8, by kernel_rfl, hcl9, hbe10, h14⟩
  · rintro _ w15 ⟨z7, X8, rfl, hcl9, hbe10, h16⟩
    refine then_at rfl ?_
    refine wp_ret ?_
    repeat first | refine then_ret ?_ | refine block_ret ?_
    exact bodyPost_ret (v := .tuple #[.string (txt x), iN .i64 0]) ky rfl ⟨rfl, PH.sub (hcl9 (L) _ h16) (List.Sublist.refl _)⟩
set_option maxRecDepth 100000 in
set_option maxHeartbeats 2000000 in
theorem fi3 {w0 w : World} {M : ML} {p : Pr} {A : List Ent} {n : Nat} {L : BL} (H : PH w0 M p A n L w) {hello es ss head ee fs : ByteArray} (hh : hello.size ≤ 60000) (hes : es.size ≤ 10000) (hss : ss.size ≤ 10000) (hhe : head.size ≤ 60000) (hee : ee.size ≤ 10000) (hfs : fs.size ≤ 10000) (hf : A.length < 56000) {A1 A' : List Ent} {d : Nat} {k1 k2 k3 : ByteArray} (hd : mkA A 5 { data := #[100, 105, 103, 101, 115, 116] } [hello, head] = (A1, d)) (hl1 : A1.length < 57000) (hm : dv A1 (layT [es, ss, ee, fs] 4) (txt d) kI 3 = (A', [k1, k2, k3])) {sc fr tu tp : ByteArray} {b0 : Nat} {b1 : Nat} {b2 : Nat} {b3 : Nat} {xc : Nat} (hb0 : (b0, 48, #[pt xc]) ∈ L) (hb1 : (b1, 120, #[.string head, .string tu, .string tp]) ∈ L) (hb2 : (b2, 9, #[.string ee]) ∈ L) (hb3 : (b3, 9, #[.string fs]) ∈ L) (hxc : (xc, 89, #[pt p.q, .string sc, .string fr, .string hello, .string es, .string ss]) ∈ L) :
    Calls Tryz.prog 68 #[pt b0, pt b1, pt b2, pt b3] w fun e w' => e = .returned (.tuple #[.agg #[.string k1, .string k2, .string k3], iN .i64 0]) ∧ PH w0 M p A' n L w' := by
  obtain ⟨z0, X0, hcl0, hbe0, H0⟩ := PH.front H
  go_enter Tryz.func68, Tryz.ntmps68
  refine wp_seq (wl_region ?_)
  refine wl_make (c := #[.string ({ data := #[] }), .string ({ data := #[] }), .string ({ data := #[] })]) H0 126 ky ky ?_
  intro q1 w2 (h3 : HA z0 ((q1, 126, #[.string ({ data := #[] }), .string ({ data := #[] }), .string ({ data := #[] })]) :: (L ++ X0)) w2)
  refine zv (iN .i64 0) ?_
  refine wl_nil (then_at rfl (wp_seq ?_))
  refine wp_region_wx (HA z0 ((q1, 126, #[.string ({ data := #[] }), .string ({ data := #[] }), .string ({ data := #[] })]) :: (L ++ X0))) (fun AQ w' => ∃ (z10 : Base) (X11 : BL), AQ = ⟨(pt b0 :: pt b1 :: pt b2 :: pt b3 :: pt q1 :: iN .i64 0 :: pt xc :: pt xc :: .pointer (some ⟨xc, 3, none⟩) :: .agg #[.string hello, .string es, .string ss] :: pt xc :: pt xc :: pt xc :: pt xc :: pt p.q :: pt b1 :: .string head :: .string ee :: .string fs :: .tuple #[.agg #[.string k1, .string k2, .string k3], iN .i64 0] :: .agg #[.string k1, .string k2, .string k3] :: iN .i64 0 :: List.replicate 0 un).toArray, []⟩ ∧ (∀ (L' : BL) (w' : World), HA z10 (L' ++ X11) w' → PH w0 M p A' n L' w') ∧ (∀ (L' : BL) (w' : World), HA z10 L' w' → Below w0.heap.size w0 w') ∧ HA z10 ((q1, 126, #[.string k1, .string k2, .string k3]) :: (L ++ X11)) w') 18 ky ky ky ky ky (h3.drew) ?_ ?_
  · have h4 := h3.drew
    refine wx_val (i := 0) (.pointer (some ⟨xc, 0, none⟩)) rfl rfl ky ky (fun w' h' => run_load1 (fun w => Tryz.isAgg48 w) ky (((h'.blk (b0, 48, #[pt xc]) (by simp [hb0])).cell 0).trans rfl)) ?_
    refine zp 1 (.pointer (some ⟨xc, 0, none⟩)) ?_
    refine zp 2 (.pointer (some ⟨xc, 3, none⟩)) ?_
    refine wx_val (i := 3) (.agg #[.string hello, .string es, .string ss]) rfl rfl ky ky (fun w' h' => run_load_part (q := xc) (off := 3) (d := #[.string hello, .string es, .string ss]) ky (h'.blk (xc, 89, #[pt p.q, .string sc, .string fr, .string hello, .string es, .string ss]) (by simp [hxc])) Tryz.underlying87 rfl ky (by intro j hj; match j, hj with | 0, _ => rfl | 1, _ => rfl | 2, _ => rfl)) ?_
    refine wx_val (i := 4) (.pointer (some ⟨xc, 0, none⟩)) rfl rfl ky ky (fun w' h' => run_load1 (fun w => Tryz.isAgg48 w) ky (((h'.blk (b0, 48, #[pt xc]) (by simp [hb0])).cell 0).trans rfl)) ?_
    refine zp 5 (.pointer (some ⟨xc, 0, none⟩)) ?_
    refine zp 6 (.pointer (some ⟨xc, 0, none⟩)) ?_
    refine zp 7 (.pointer (some ⟨xc, 0, none⟩)) ?_
    refine wx_val (i := 8) (.pointer (some ⟨p.q, 0, none⟩)) rfl rfl ky ky (fun w' h' => run_load1 (fun w => Tryz.isAgg28 w) ky (((h'.blk (xc, 89, #[pt p.q, .string sc, .string fr, .string hello, .string es, .string ss]) (by simp [hxc])).cell 0).trans rfl)) ?_
    refine zp 9 (.pointer (some ⟨b1, 0, none⟩)) ?_
    refine wx_val (i := 10) (.string head) rfl rfl ky ky (fun w' h' => run_load1 (fun w => Tryz.isAgg9 w) ky (((h'.blk (b1, 120, #[.string head, .string tu, .string tp]) (by simp [hb1])).cell 0).trans rfl)) ?_
    refine wx_val (i := 11) (.string ee) rfl rfl ky ky (fun w' h' => run_load1 (fun w => Tryz.isAgg9 w) ky (((h'.blk (b2, 9, #[.string ee]) (by simp [hb2])).cell 0).trans rfl)) ?_
    refine wx_val (i := 12) (.string fs) rfl rfl ky ky (fun w' h' => run_load1 (fun w => Tryz.isAgg9 w) ky (((h'.blk (b3, 9, #[.string fs]) (by simp [hb3])).cell 0).trans rfl)) ?_
    refine wx_one 13 ky ?_
    refine ex_callx rfl ky h4 enter69 #[.agg #[.string hello, .string es, .string ss], .pointer (some ⟨p.q, 0, none⟩), .string head, .string ee, .string fs] ky (fun w7 h8 => keys_P (hcl0 ((q1, 126, #[.string ({ data := #[] }), .string ({ data := #[] }), .string ({ data := #[] })]) :: L) _ h8) hello es ss head ee fs hh hes hss hhe hee hfs hf hd hl1 hm) ?_
    rintro w7 h8 _ w9 ⟨rfl, hD6⟩
    obtain ⟨z10, X11, hcl12, hbe13, h14⟩ := PH.front hD6
    have h15 : HA z10 ((q1, 126, #[.string ({ data := #[] }), .string ({ data := #[] }), .string ({ data := #[] })]) :: (L ++ X11)) w9 := h14
    refine ⟨_, rfl, _, .inl ky, h15, ?_⟩
    refine zp 14 (.agg #[.string k1, .string k2, .string k3]) ?_
    refine zp 15 (iN .i64 0) ?_
    refine wx_one 16 ky ?_
    refine ex_skipT rfl ky h15 fun w16 h17 => ⟨_, run_store_blk (c' := #[.string k1, .string k2, .string k3]) ky ky (h17.get 0 rfl) rfl ky ky, ?_⟩
    have h18 : HA z10 ((q1, 126, #[.string k1, .string k2, .string k3]) :: (L ++ X11)) _ := h17.fill 0 rfl (c' := #[.string k1, .string k2, .string k3]) rfl
    refine ⟨_, .inl ky, h18, ?_⟩
    refine zp 17 (iN .i64 0) ?_
    refine wx_end fun w19 hbx _ => ?_
    have h20 := HA.keep _ _ h18 hbx
    exact ⟨z10, X11, by kernel_rfl, hcl12, hbe13, h20⟩
  · rintro _ w21 ⟨z10, X11, rfl, hcl12, hbe13, h22⟩
    refine then_at rfl ?_
    refine wp_ret ?_
    repeat first | refine then_ret ?_ | refine block_ret ?_
    exact bodyPost_ret (v := .tuple #[.agg #[.string k1, .string k2, .string k3], iN .i64 0]) (res_cell_tmp (p := 4) (r := 5) ky ky ky (h22.get 0 rfl) Tryz.underlying126 rfl ky) rfl ⟨rfl, PH.sub (hcl12 ((q1, 126, #[.string k1, .string k2, .string k3]) :: L) _ h22) (List.Sublist.cons _ (List.Sublist.refl _))⟩
set_option maxRecDepth 100000 in
set_option maxHeartbeats 2000000 in
theorem fi4_y {w0 w : World} {M : ML} {p : Pr} {A : List Ent} {n : Nat} {L : BL} (H : PH w0 M p A n L w) {key ad sealed u : ByteArray} (hk : key.size ≤ 65536) (had : ad.size ≤ 65536) (hse : sealed.size ≤ 65536) {out : ByteArray} (ho : opnA A key { data := #[] } ad sealed = some out) (hzo : out.size ≤ 1000000) (hj : n < 1000000) {sc fr hl es0 ss0 k1 k2 : ByteArray} {b0 : Nat} {b1 : Nat} {b2 : Nat} {xc : Nat} (hb0 : (b0, 48, #[pt xc]) ∈ L) (hb1 : (b1, 126, #[.string k1, .string k2, .string key]) ∈ L) (hb2 : (b2, 120, #[.string ad, .string u, .string sealed]) ∈ L) (hxc : (xc, 89, #[pt p.q, .string sc, .string fr, .string hl, .string es0, .string ss0]) ∈ L) :
    Calls Tryz.prog 70 #[pt b0, pt b1, pt b2] w fun e w' => e = .returned (.tuple #[.string out, iN .i64 0]) ∧ PH w0 M p A (n + 1) L w' := by
  obtain ⟨z0, X0, hcl0, hbe0, H0⟩ := PH.front H
  go_enter Tryz.func70, Tryz.ntmps70
  refine wp_seq (wl_region ?_)
  refine zv (.string ({ data := #[] })) ?_
  refine zv (iN .i64 0) ?_
  refine wl_nil (then_at rfl (wp_seq ?_))
  refine wp_region_wx (HA z0 (L ++ X0)) (fun AQ w' => ∃ (z7 : Base) (X8 : BL), AQ = ⟨(pt b0 :: pt b1 :: pt b2 :: .string out :: iN .i64 0 :: pt xc :: pt xc :: pt xc :: pt xc :: pt p.q :: .pointer (some ⟨b1, 2, none⟩) :: .string key :: pt b2 :: .string ad :: .pointer (some ⟨b2, 2, none⟩) :: .string sealed :: .tuple #[.string out, iN .i64 0] :: .string out :: iN .i64 0 :: List.replicate 0 un).toArray, []⟩ ∧ (∀ (L' : BL) (w' : World), HA z7 (L' ++ X8) w' → PH w0 M p A ((n + 1)) L' w') ∧ (∀ (L' : BL) (w' : World), HA z7 L' w' → Below w0.heap.size w0 w') ∧ HA z7 (L ++ X8) w') 16 ky ky ky ky ky (H0.drew) ?_ ?_
  · have h1 := H0.drew
    refine wx_val (i := 0) (.pointer (some ⟨xc, 0, none⟩)) rfl rfl ky ky (fun w' h' => run_load1 (fun w => Tryz.isAgg48 w) ky (((h'.blk (b0, 48, #[pt xc]) (by simp [hb0])).cell 0).trans rfl)) ?_
    refine zp 1 (.pointer (some ⟨xc, 0, none⟩)) ?_
    refine zp 2 (.pointer (some ⟨xc, 0, none⟩)) ?_
    refine zp 3 (.pointer (some ⟨xc, 0, none⟩)) ?_
    refine wx_val (i := 4) (.pointer (some ⟨p.q, 0, none⟩)) rfl rfl ky ky (fun w' h' => run_load1 (fun w => Tryz.isAgg28 w) ky (((h'.blk (xc, 89, #[pt p.q, .string sc, .string fr, .string hl, .string es0, .string ss0]) (by simp [hxc])).cell 0).trans rfl)) ?_
    refine zp 5 (.pointer (some ⟨b1, 2, none⟩)) ?_
    refine wx_val (i := 6) (.string key) rfl rfl ky ky (fun w' h' => run_load1 (fun w => Tryz.isAgg9 w) ky (((h'.blk (b1, 126, #[.string k1, .string k2, .string key]) (by simp [hb1])).cell 2).trans rfl)) ?_
    refine zp 7 (.pointer (some ⟨b2, 0, none⟩)) ?_
    refine wx_val (i := 8) (.string ad) rfl rfl ky ky (fun w' h' => run_load1 (fun w => Tryz.isAgg9 w) ky (((h'.blk (b2, 120, #[.string ad, .string u, .string sealed]) (by simp [hb2])).cell 0).trans rfl)) ?_
    refine zp 9 (.pointer (some ⟨b2, 2, none⟩)) ?_
    refine wx_val (i := 10) (.string sealed) rfl rfl ky ky (fun w' h' => run_load1 (fun w => Tryz.isAgg9 w) ky (((h'.blk (b2, 120, #[.string ad, .string u, .string sealed]) (by simp [hb2])).cell 2).trans rfl)) ?_
    refine wx_one 11 ky ?_
    refine ex_callx rfl ky h1 enter71 #[.pointer (some ⟨p.q, 0, none⟩), .string key, .string ({ data := #[] }), .string ad, .string sealed] ky (fun w4 h5 => Open_y (hcl0 (L) _ h5) key { data := #[] } ad sealed hk (by decide) had hse ho hzo hj) ?_
    rintro w4 h5 _ w6 ⟨rfl, hD3⟩
    obtain ⟨z7, X8, hcl9, hbe10, h11⟩ := PH.front hD3
    have h12 : HA z7 (L ++ X8) w6 := h11
    refine ⟨_, rfl, _, .inl ky, h12, ?_⟩
    refine zp 12 (.string out) ?_
    refine zp 13 (iN .i64 0) ?_
    refine zp 14 (.string out) ?_
    refine zp 15 (iN .i64 0) ?_
    refine wx_end fun w13 hbx _ => ?_
    have h14 := HA.keep _ _ h12 hbx
    exact ⟨z7, X8, by kernel_rfl, hcl9, hbe10, h14⟩
  · rintro _ w15 ⟨z7, X8, rfl, hcl9, hbe10, h16⟩
    refine then_at rfl ?_
    refine wp_ret ?_
    repeat first | refine then_ret ?_ | refine block_ret ?_
    exact bodyPost_ret (v := .tuple #[.string out, iN .i64 0]) ky rfl ⟨rfl, PH.sub (hcl9 (L) _ h16) (List.Sublist.refl _)⟩
set_option maxRecDepth 100000 in
set_option maxHeartbeats 2000000 in
theorem Finish_y {w0 w : World} {M : ML} {p : Pr} {A : List Ent} {n : Nat} {L : BL} (H : PH w0 M p A n L w) (reply : ByteArray) (hre : reply.size ≤ 60000) {xc : Nat} {sc fr hl es0 ss0 : ByteArray} (hxc : (xc, 89, #[pt p.q, .string sc, .string fr, .string hl, .string es0, .string ss0]) ∈ L) (hsc : sc.size ≤ 60000) (hfr : fr.size ≤ 60000) (hhl : hl.size ≤ 60000) (hes : es0.size ≤ 10000) (hss : ss0.size ≤ 10000) (hf : A.length < 50000) {pu pf : ByteArray} (h1 : rdTold (bl reply) = some (pu, pf)) (hpu : pu.size ≤ 16384) (hpf : pf.size ≤ 16384) {A2 A3 A4 A5 : List Ent} {ee fs d : Nat} {k1 k2 k3 : ByteArray} (hk3 : k3.size ≤ 60000) (f1 : mkA A 4 { data := #[] } [fr, pu] = (A2, ee)) (l2 : A2.length < 50000) (f2 : mkA A2 4 { data := #[] } [sc, pu] = (A3, fs)) (l3 : A3.length < 50000) (f3 : mkA A3 5 { data := #[100, 105, 103, 101, 115, 116] } [hl, layT [pu] 1] = (A4, d)) (l4 : A4.length < 50000) (f4 : dv A4 (layT [es0, ss0, txt ee, txt fs] 4) (txt d) kI 3 = (A5, [k1, k2, k3])) (l5 : A5.length < 50000) {out : ByteArray} (ho : opnA A5 k3 { data := #[] } (layT [pu] 1) pf = some out) (hzo : out.size ≤ 1000000) (hj : n < 1000000) :
    Calls Tryz.prog 21 #[pt xc, .string reply] w fun e w' => e = .returned (.tuple #[.string k1, .string k2, iN .i64 0]) ∧ PH w0 M p A5 (n + 1) L w' := by
  obtain ⟨z0, X0, hcl0, hbe0, H0⟩ := PH.front H
  go_enter Tryz.func21, Tryz.ntmps21
  refine wp_seq (wl_region ?_)
  refine wl_make (c := #[.pointer (some ⟨xc, 0, none⟩)]) H0 48 ky ky ?_
  intro q1 w2 (h3 : HA z0 ((q1, 48, #[.pointer (some ⟨xc, 0, none⟩)]) :: (L ++ X0)) w2)
  refine zv (.string ({ data := #[] })) ?_
  refine zv (.string ({ data := #[] })) ?_
  refine zv (iN .i64 0) ?_
  refine wl_nil (then_at rfl (wp_seq (wp_seq (wl_region ?_))))
  refine zu (.pointer (some ⟨xc, 0, none⟩)) (run_load1 (fun w => Tryz.isAgg48 w) ky (((h3.get 0 rfl).cell 0).trans rfl)) ?_
  refine zv (.bool false) ?_
  refine zv (.bool false) ?_
  refine zu (.pointer (some ⟨xc, 0, none⟩)) (run_load1 (fun w => Tryz.isAgg48 w) ky (((h3.get 0 rfl).cell 0).trans rfl)) ?_
  refine zv (.pointer (some ⟨xc, 0, none⟩)) ?_
  refine zv (.pointer (some ⟨xc, 0, none⟩)) ?_
  refine zv (.pointer (some ⟨xc, 0, none⟩)) ?_
  refine zu (.pointer (some ⟨p.q, 0, none⟩)) (run_load1 (fun w => Tryz.isAgg28 w) ky (((h3.blk (xc, 89, #[pt p.q, .string sc, .string fr, .string hl, .string es0, .string ss0]) (by simp [hxc])).cell 0).trans rfl)) ?_
  refine wl_call (v := .bool false) h3 ky enter35 #[.pointer (some ⟨p.q, 0, none⟩)] ky (snone_k (PH.kit (hcl0 ((q1, 48, #[.pointer (some ⟨xc, 0, none⟩)]) :: L) _ h3))) ?_
  intro w4 h5
  refine zv (.bool false) ?_
  refine wl_nil (then_at rfl ?_)
  refine wp_cond_false ky ?_
  refine wp_skip (then_at rfl (wp_seq (wl_region ?_)))
  refine zv (.string reply) ?_
  refine wl_callx ky enter64 #[.string reply] ky (Rs.New_h h5 reply (by omega)) ?_
  rintro _ w12 ⟨b6, d7, cur8, v9, rfl, hS10, h11⟩
  refine ⟨_, rfl, ?_⟩
  have h13 : HA z0 ((b6, 200, #[.bool true, v9]) :: (d7, 5, bc cur8) :: (q1, 48, #[.pointer (some ⟨xc, 0, none⟩)]) :: (L ++ X0)) w12 := h11
  refine wl_callx ky enter63 #[.string ({ data := #[] }), .pointer (some ⟨b6, 0, none⟩)] ky (rt_yes0 hS10 h13 h1) ?_
  rintro _ w15 ⟨rfl, h14⟩
  refine ⟨_, rfl, ?_⟩
  have h16 : HA z0 ((q1, 48, #[.pointer (some ⟨xc, 0, none⟩)]) :: (L ++ X0)) w15 := h14
  refine zv (.tuple #[.agg #[.string (layT [pu] 1), .string pu, .string pf], .bool true]) ?_
  refine zv (.agg #[.string (layT [pu] 1), .string pu, .string pf]) ?_
  refine zv (.bool true) ?_
  refine wl_make (c := #[.string ({ data := #[] }), .string ({ data := #[] }), .string ({ data := #[] })]) h16 120 ky ky ?_
  intro q17 w18 (h19 : HA z0 ((q17, 120, #[.string ({ data := #[] }), .string ({ data := #[] }), .string ({ data := #[] })]) :: (q1, 48, #[.pointer (some ⟨xc, 0, none⟩)]) :: (L ++ X0)) w18)
  refine wl_fill (c' := #[.string (layT [pu] 1), .string pu, .string pf]) h19 0 rfl ky ky ky rfl ky ky ?_
  intro w20 (h21 : HA z0 ((q17, 120, #[.string (layT [pu] 1), .string pu, .string pf]) :: (q1, 48, #[.pointer (some ⟨xc, 0, none⟩)]) :: (L ++ X0)) w20)
  refine zv (.bool true) ?_
  refine wl_nil (then_at rfl (wp_seq (wp_seq (wl_region ?_))))
  refine zv (.bool true) ?_
  refine zv (.bool false) ?_
  refine wl_nil (then_at rfl ?_)
  refine wp_cond_false ky ?_
  refine wp_skip (then_at rfl (wp_seq (wl_region ?_)))
  refine wl_make (c := #[iN .i64 0]) h21 29 ky ky ?_
  intro q22 w23 (h24 : HA z0 ((q22, 29, #[iN .i64 0]) :: (q17, 120, #[.string (layT [pu] 1), .string pu, .string pf]) :: (q1, 48, #[.pointer (some ⟨xc, 0, none⟩)]) :: (L ++ X0)) w23)
  refine wl_putv (v := iN .i64 0) h24 0 rfl 0 (by show 0 < 1; decide) ky (fun w => Tryz.sizeOf29 w) ky ky ky ?_
  intro w25 (h26 : HA z0 ((q22, 29, #[iN .i64 0]) :: (q17, 120, #[.string (layT [pu] 1), .string pu, .string pf]) :: (q1, 48, #[.pointer (some ⟨xc, 0, none⟩)]) :: (L ++ X0)) w25)
  refine wl_nil (then_at rfl (wp_seq (wl_region ?_)))
  refine wl_callx ky enter36 #[.pointer (some ⟨q22, 0, none⟩)] ky (kp_s h26) ?_
  rintro _ w29 ⟨kb27, rfl, h28⟩
  refine ⟨_, rfl, ?_⟩
  have h30 : HA z0 ((kb27, 107, #[pt q22]) :: (q22, 29, #[iN .i64 0]) :: (q17, 120, #[.string (layT [pu] 1), .string pu, .string pf]) :: (q1, 48, #[.pointer (some ⟨xc, 0, none⟩)]) :: (L ++ X0)) w29 := h28
  refine wl_callx ky enter65 #[.pointer (some ⟨q22, 0, none⟩)] ky (kp_k h30) ?_
  rintro _ w33 ⟨kb31, rfl, h32⟩
  refine ⟨_, rfl, ?_⟩
  have h34 : HA z0 ((kb31, 107, #[pt q22]) :: (kb27, 107, #[pt q22]) :: (q22, 29, #[iN .i64 0]) :: (q17, 120, #[.string (layT [pu] 1), .string pu, .string pf]) :: (q1, 48, #[.pointer (some ⟨xc, 0, none⟩)]) :: (L ++ X0)) w33 := h32
  refine zv (.func (.func 92) #[] #[pt kb27]) ?_
  refine zv (.func (.func 122) #[] #[pt kb31]) ?_
  refine wl_nil (then_at rfl (wp_seq (wl_region ?_)))
  refine zv (.func (.func 92) #[] #[pt kb27]) ?_
  refine zv (.func (.func 66) #[] #[.pointer (some ⟨q1, 0, none⟩), .pointer (some ⟨q17, 0, none⟩)]) ?_
  refine wl_callvx (cap := #[.pointer (some ⟨kb27, 0, none⟩)]) (args := #[.func (.func 66) #[] #[.pointer (some ⟨q1, 0, none⟩), .pointer (some ⟨q17, 0, none⟩)], .pointer (some ⟨kb27, 0, none⟩)]) ky enter92 ky ky (keep_s enter66 (PH.perm (hcl0 ((kb31, 107, #[pt q22]) :: (kb27, 107, #[pt q22]) :: (q22, 29, #[iN .i64 0]) :: (q17, 120, #[.string (layT [pu] 1), .string pu, .string pf]) :: (q1, 48, #[.pointer (some ⟨xc, 0, none⟩)]) :: L) _ h34) (List.Perm.trans (List.Perm.cons _ (List.Perm.swap _ _ _)) (List.Perm.trans (List.Perm.swap _ _ _) (List.Perm.cons _ (List.Perm.swap _ _ _))))) (fun w Lx hx HL => fi1 HL (by omega) (by omega) (by omega) f1 (hx _ (List.mem_of_getElem? (i := 2) rfl)) (hx _ (List.mem_of_getElem? (i := 1) rfl)) (hx _ (List.mem_cons_of_mem _ (List.mem_cons_of_mem _ (List.mem_cons_of_mem _ hxc)))))) ?_
  rintro _ w36 ⟨rfl, hD35⟩
  refine ⟨_, rfl, ?_⟩
  obtain ⟨z37, X38, hcl39, hbe40, h41⟩ := PH.front hD35
  have h42 : HA z37 ((q22, 29, #[iN .i64 0]) :: (kb27, 107, #[pt q22]) :: (kb31, 107, #[pt q22]) :: (q17, 120, #[.string (layT [pu] 1), .string pu, .string pf]) :: (q1, 48, #[.pointer (some ⟨xc, 0, none⟩)]) :: (L ++ X38)) w36 := h41
  refine wl_make (c := #[.string ({ data := #[] })]) h42 9 ky ky ?_
  intro q43 w44 (h45 : HA z37 ((q43, 9, #[.string ({ data := #[] })]) :: (q22, 29, #[iN .i64 0]) :: (kb27, 107, #[pt q22]) :: (kb31, 107, #[pt q22]) :: (q17, 120, #[.string (layT [pu] 1), .string pu, .string pf]) :: (q1, 48, #[.pointer (some ⟨xc, 0, none⟩)]) :: (L ++ X38)) w44)
  refine wl_putv (v := .string (txt ee)) h45 0 rfl 0 (by show 0 < 1; decide) ky (fun w => Tryz.sizeOf9 w) ky ky ky ?_
  intro w46 (h47 : HA z37 ((q43, 9, #[.string (txt ee)]) :: (q22, 29, #[iN .i64 0]) :: (kb27, 107, #[pt q22]) :: (kb31, 107, #[pt q22]) :: (q17, 120, #[.string (layT [pu] 1), .string pu, .string pf]) :: (q1, 48, #[.pointer (some ⟨xc, 0, none⟩)]) :: (L ++ X38)) w46)
  refine wl_nil (then_at rfl (wp_seq (wl_region ?_)))
  refine zv (.func (.func 92) #[] #[pt kb27]) ?_
  refine zv (.func (.func 67) #[] #[.pointer (some ⟨q1, 0, none⟩), .pointer (some ⟨q17, 0, none⟩)]) ?_
  refine wl_callvx (cap := #[.pointer (some ⟨kb27, 0, none⟩)]) (args := #[.func (.func 67) #[] #[.pointer (some ⟨q1, 0, none⟩), .pointer (some ⟨q17, 0, none⟩)], .pointer (some ⟨kb27, 0, none⟩)]) ky enter92 ky ky (keep_s enter67 (PH.perm (hcl39 ((q43, 9, #[.string (txt ee)]) :: (q22, 29, #[iN .i64 0]) :: (kb27, 107, #[pt q22]) :: (kb31, 107, #[pt q22]) :: (q17, 120, #[.string (layT [pu] 1), .string pu, .string pf]) :: (q1, 48, #[.pointer (some ⟨xc, 0, none⟩)]) :: L) _ h47) (List.Perm.trans (List.Perm.swap _ _ _) (List.Perm.cons _ (List.Perm.swap _ _ _)))) (fun w Lx hx HL => fi2 HL (by omega) (by omega) (by omega) f2 (hx _ (List.mem_of_getElem? (i := 3) rfl)) (hx _ (List.mem_of_getElem? (i := 2) rfl)) (hx _ (List.mem_cons_of_mem _ (List.mem_cons_of_mem _ (List.mem_cons_of_mem _ (List.mem_cons_of_mem _ hxc))))))) ?_
  rintro _ w49 ⟨rfl, hD48⟩
  refine ⟨_, rfl, ?_⟩
  obtain ⟨z50, X51, hcl52, hbe53, h54⟩ := PH.front hD48
  have h55 : HA z50 ((q22, 29, #[iN .i64 0]) :: (kb27, 107, #[pt q22]) :: (q43, 9, #[.string (txt ee)]) :: (kb31, 107, #[pt q22]) :: (q17, 120, #[.string (layT [pu] 1), .string pu, .string pf]) :: (q1, 48, #[.pointer (some ⟨xc, 0, none⟩)]) :: (L ++ X51)) w49 := h54
  refine wl_make (c := #[.string ({ data := #[] })]) h55 9 ky ky ?_
  intro q56 w57 (h58 : HA z50 ((q56, 9, #[.string ({ data := #[] })]) :: (q22, 29, #[iN .i64 0]) :: (kb27, 107, #[pt q22]) :: (q43, 9, #[.string (txt ee)]) :: (kb31, 107, #[pt q22]) :: (q17, 120, #[.string (layT [pu] 1), .string pu, .string pf]) :: (q1, 48, #[.pointer (some ⟨xc, 0, none⟩)]) :: (L ++ X51)) w57)
  refine wl_putv (v := .string (txt fs)) h58 0 rfl 0 (by show 0 < 1; decide) ky (fun w => Tryz.sizeOf9 w) ky ky ky ?_
  intro w59 (h60 : HA z50 ((q56, 9, #[.string (txt fs)]) :: (q22, 29, #[iN .i64 0]) :: (kb27, 107, #[pt q22]) :: (q43, 9, #[.string (txt ee)]) :: (kb31, 107, #[pt q22]) :: (q17, 120, #[.string (layT [pu] 1), .string pu, .string pf]) :: (q1, 48, #[.pointer (some ⟨xc, 0, none⟩)]) :: (L ++ X51)) w59)
  refine wl_nil (then_at rfl (wp_seq (wl_region ?_)))
  refine zv (.func (.func 122) #[] #[pt kb31]) ?_
  refine zv (.func (.func 68) #[] #[.pointer (some ⟨q1, 0, none⟩), .pointer (some ⟨q17, 0, none⟩), .pointer (some ⟨q43, 0, none⟩), .pointer (some ⟨q56, 0, none⟩)]) ?_
  refine wl_callvx (cap := #[.pointer (some ⟨kb31, 0, none⟩)]) (args := #[.func (.func 68) #[] #[.pointer (some ⟨q1, 0, none⟩), .pointer (some ⟨q17, 0, none⟩), .pointer (some ⟨q43, 0, none⟩), .pointer (some ⟨q56, 0, none⟩)], .pointer (some ⟨kb31, 0, none⟩)]) ky enter122 ky ky (keep_k enter68 (PH.perm (hcl52 ((q56, 9, #[.string (txt fs)]) :: (q22, 29, #[iN .i64 0]) :: (kb27, 107, #[pt q22]) :: (q43, 9, #[.string (txt ee)]) :: (kb31, 107, #[pt q22]) :: (q17, 120, #[.string (layT [pu] 1), .string pu, .string pf]) :: (q1, 48, #[.pointer (some ⟨xc, 0, none⟩)]) :: L) _ h60) (List.Perm.trans (List.Perm.swap _ _ _) (List.Perm.trans (List.Perm.cons _ (List.Perm.cons _ (List.Perm.cons _ (List.Perm.swap _ _ _)))) (List.Perm.trans (List.Perm.cons _ (List.Perm.cons _ (List.Perm.swap _ _ _))) (List.Perm.cons _ (List.Perm.swap _ _ _)))))) (fun w Lx hx HL => fi3 HL (by omega) (by omega) (by omega) (by have := lay1_le hpu; omega) (by rw [txt_size]; decide) (by rw [txt_size]; decide) (by omega) f3 (by omega) f4 (hx _ (List.mem_of_getElem? (i := 4) rfl)) (hx _ (List.mem_of_getElem? (i := 3) rfl)) (hx _ (List.mem_of_getElem? (i := 2) rfl)) (hx _ (List.mem_of_getElem? (i := 0) rfl)) (hx _ (List.mem_cons_of_mem _ (List.mem_cons_of_mem _ (List.mem_cons_of_mem _ (List.mem_cons_of_mem _ (List.mem_cons_of_mem _ hxc)))))))) ?_
  rintro _ w62 ⟨rfl, hD61⟩
  refine ⟨_, rfl, ?_⟩
  obtain ⟨z63, X64, hcl65, hbe66, h67⟩ := PH.front hD61
  have h68 : HA z63 ((q22, 29, #[iN .i64 0]) :: (kb31, 107, #[pt q22]) :: (q56, 9, #[.string (txt fs)]) :: (kb27, 107, #[pt q22]) :: (q43, 9, #[.string (txt ee)]) :: (q17, 120, #[.string (layT [pu] 1), .string pu, .string pf]) :: (q1, 48, #[.pointer (some ⟨xc, 0, none⟩)]) :: (L ++ X64)) w62 := h67
  refine wl_make (c := #[.string ({ data := #[] }), .string ({ data := #[] }), .string ({ data := #[] })]) h68 126 ky ky ?_
  intro q69 w70 (h71 : HA z63 ((q69, 126, #[.string ({ data := #[] }), .string ({ data := #[] }), .string ({ data := #[] })]) :: (q22, 29, #[iN .i64 0]) :: (kb31, 107, #[pt q22]) :: (q56, 9, #[.string (txt fs)]) :: (kb27, 107, #[pt q22]) :: (q43, 9, #[.string (txt ee)]) :: (q17, 120, #[.string (layT [pu] 1), .string pu, .string pf]) :: (q1, 48, #[.pointer (some ⟨xc, 0, none⟩)]) :: (L ++ X64)) w70)
  refine wl_fill (c' := #[.string k1, .string k2, .string k3]) h71 0 rfl ky ky ky rfl ky ky ?_
  intro w72 (h73 : HA z63 ((q69, 126, #[.string k1, .string k2, .string k3]) :: (q22, 29, #[iN .i64 0]) :: (kb31, 107, #[pt q22]) :: (q56, 9, #[.string (txt fs)]) :: (kb27, 107, #[pt q22]) :: (q43, 9, #[.string (txt ee)]) :: (q17, 120, #[.string (layT [pu] 1), .string pu, .string pf]) :: (q1, 48, #[.pointer (some ⟨xc, 0, none⟩)]) :: (L ++ X64)) w72)
  refine wl_nil (then_at rfl (wp_seq (wl_region ?_)))
  refine zv (.func (.func 92) #[] #[pt kb27]) ?_
  refine zv (.func (.func 70) #[] #[.pointer (some ⟨q1, 0, none⟩), .pointer (some ⟨q69, 0, none⟩), .pointer (some ⟨q17, 0, none⟩)]) ?_
  refine wl_callvx (cap := #[.pointer (some ⟨kb27, 0, none⟩)]) (args := #[.func (.func 70) #[] #[.pointer (some ⟨q1, 0, none⟩), .pointer (some ⟨q69, 0, none⟩), .pointer (some ⟨q17, 0, none⟩)], .pointer (some ⟨kb27, 0, none⟩)]) ky enter92 ky ky (keep_s enter70 (PH.perm (hcl65 ((q69, 126, #[.string k1, .string k2, .string k3]) :: (q22, 29, #[iN .i64 0]) :: (kb31, 107, #[pt q22]) :: (q56, 9, #[.string (txt fs)]) :: (kb27, 107, #[pt q22]) :: (q43, 9, #[.string (txt ee)]) :: (q17, 120, #[.string (layT [pu] 1), .string pu, .string pf]) :: (q1, 48, #[.pointer (some ⟨xc, 0, none⟩)]) :: L) _ h73) (List.Perm.trans (List.Perm.swap _ _ _) (List.Perm.trans (List.Perm.cons _ (List.Perm.cons _ (List.Perm.cons _ (List.Perm.swap _ _ _)))) (List.Perm.trans (List.Perm.cons _ (List.Perm.cons _ (List.Perm.swap _ _ _))) (List.Perm.cons _ (List.Perm.swap _ _ _)))))) (fun w Lx hx HL => fi4_y HL (by omega) (by have := lay1_le hpu; omega) (by omega) ho hzo hj (hx _ (List.mem_of_getElem? (i := 5) rfl)) (hx _ (List.mem_of_getElem? (i := 0) rfl)) (hx _ (List.mem_of_getElem? (i := 4) rfl)) (hx _ (List.mem_cons_of_mem _ (List.mem_cons_of_mem _ (List.mem_cons_of_mem _ (List.mem_cons_of_mem _ (List.mem_cons_of_mem _ (List.mem_cons_of_mem _ hxc))))))))) ?_
  rintro _ w75 ⟨rfl, hD74⟩
  refine ⟨_, rfl, ?_⟩
  obtain ⟨z76, X77, hcl78, hbe79, h80⟩ := PH.front hD74
  have h81 : HA z76 ((q22, 29, #[iN .i64 0]) :: (kb27, 107, #[pt q22]) :: (q69, 126, #[.string k1, .string k2, .string k3]) :: (kb31, 107, #[pt q22]) :: (q56, 9, #[.string (txt fs)]) :: (q43, 9, #[.string (txt ee)]) :: (q17, 120, #[.string (layT [pu] 1), .string pu, .string pf]) :: (q1, 48, #[.pointer (some ⟨xc, 0, none⟩)]) :: (L ++ X77)) w75 := h80
  refine wl_nil ?_
  refine then_at (F := ⟨(pt xc :: .string reply :: pt q1 :: un :: .string ({ data := #[] }) :: .string ({ data := #[] }) :: iN .i64 0 :: pt q17 :: .bool true :: pt q22 :: .func (.func 92) #[] #[pt kb27] :: .func (.func 122) #[] #[pt kb31] :: pt q43 :: pt q56 :: pt q69 :: pt xc :: .bool false :: .bool false :: pt xc :: pt xc :: pt xc :: pt xc :: pt p.q :: .bool false :: .bool false :: .tuple #[.agg #[.string (layT [pu] 1), .string pu, .string pf], .bool true] :: .string reply :: pt b6 :: .tuple #[.agg #[.string (layT [pu] 1), .string pu, .string pf], .bool true] :: .agg #[.string (layT [pu] 1), .string pu, .string pf] :: .bool true :: .bool true :: .bool false :: .func (.func 92) #[] #[pt kb27] :: .func (.func 122) #[] #[pt kb31] :: .func (.func 92) #[] #[pt kb27] :: .func (.func 66) #[] #[pt q1, pt q17] :: .string (txt ee) :: .func (.func 92) #[] #[pt kb27] :: .func (.func 67) #[] #[pt q1, pt q17] :: .string (txt fs) :: .func (.func 122) #[] #[pt kb31] :: .func (.func 68) #[] #[pt q1, pt q17, pt q43, pt q56] :: .agg #[.string k1, .string k2, .string k3] :: .func (.func 92) #[] #[pt kb27] :: .func (.func 70) #[] #[pt q1, pt q69, pt q17] :: .string out :: List.replicate 7 un).toArray, []⟩) ky ?_
  refine wp_seq (wp_seq (wl_region ?_))
  refine zu (iN .i64 0) (run_load1 (fun w => Tryz.isAgg29 w) ky (((h81.get 0 rfl).cell 0).trans rfl)) ?_
  refine zu (.bool false) (run_nei (k := .i64) (a := 0) (b := 0) ky ky false (by decide)) ?_
  refine wl_nil (then_at rfl ?_)
  refine wp_cond_false ky ?_
  refine wp_skip (then_at rfl (wp_seq ?_))
  refine wp_region_wx (HA z76 ((q22, 29, #[iN .i64 0]) :: (kb27, 107, #[pt q22]) :: (q69, 126, #[.string k1, .string k2, .string k3]) :: (kb31, 107, #[pt q22]) :: (q56, 9, #[.string (txt fs)]) :: (q43, 9, #[.string (txt ee)]) :: (q17, 120, #[.string (layT [pu] 1), .string pu, .string pf]) :: (q1, 48, #[.pointer (some ⟨xc, 0, none⟩)]) :: (L ++ X77))) (fun AQ w' => AQ = ⟨(pt xc :: .string reply :: pt q1 :: un :: .string k1 :: .string k2 :: iN .i64 0 :: pt q17 :: .bool true :: pt q22 :: .func (.func 92) #[] #[pt kb27] :: .func (.func 122) #[] #[pt kb31] :: pt q43 :: pt q56 :: pt q69 :: pt xc :: .bool false :: .bool false :: pt xc :: pt xc :: pt xc :: pt xc :: pt p.q :: .bool false :: .bool false :: .tuple #[.agg #[.string (layT [pu] 1), .string pu, .string pf], .bool true] :: .string reply :: pt b6 :: .tuple #[.agg #[.string (layT [pu] 1), .string pu, .string pf], .bool true] :: .agg #[.string (layT [pu] 1), .string pu, .string pf] :: .bool true :: .bool true :: .bool false :: .func (.func 92) #[] #[pt kb27] :: .func (.func 122) #[] #[pt kb31] :: .func (.func 92) #[] #[pt kb27] :: .func (.func 66) #[] #[pt q1, pt q17] :: .string (txt ee) :: .func (.func 92) #[] #[pt kb27] :: .func (.func 67) #[] #[pt q1, pt q17] :: .string (txt fs) :: .func (.func 122) #[] #[pt kb31] :: .func (.func 68) #[] #[pt q1, pt q17, pt q43, pt q56] :: .agg #[.string k1, .string k2, .string k3] :: .func (.func 92) #[] #[pt kb27] :: .func (.func 70) #[] #[pt q1, pt q69, pt q17] :: .string out :: iN .i64 0 :: .bool false :: un :: pt q69 :: .string k1 :: .pointer (some ⟨q69, 1, none⟩) :: .string k2 :: List.replicate 0 un).toArray, []⟩ ∧ HA z76 ((q22, 29, #[iN .i64 0]) :: (kb27, 107, #[pt q22]) :: (q69, 126, #[.string k1, .string k2, .string k3]) :: (kb31, 107, #[pt q22]) :: (q56, 9, #[.string (txt fs)]) :: (q43, 9, #[.string (txt ee)]) :: (q17, 120, #[.string (layT [pu] 1), .string pu, .string pf]) :: (q1, 48, #[.pointer (some ⟨xc, 0, none⟩)]) :: (L ++ X77)) w') 7 ky ky ky ky ky (h81.drew) ?_ ?_
  · have h82 := h81.drew
    refine zp 0 (.pointer (some ⟨q69, 0, none⟩)) ?_
    refine wx_val (i := 1) (.string k1) rfl rfl ky ky (fun w' h' => run_load1 (fun w => Tryz.isAgg9 w) ky (((h'.get 2 rfl).cell 0).trans rfl)) ?_
    refine zp 2 (.pointer (some ⟨q69, 1, none⟩)) ?_
    refine wx_val (i := 3) (.string k2) rfl rfl ky ky (fun w' h' => run_load1 (fun w => Tryz.isAgg9 w) ky (((h'.get 2 rfl).cell 1).trans rfl)) ?_
    refine zp 4 (.string k1) ?_
    refine zp 5 (.string k2) ?_
    refine zp 6 (iN .i64 0) ?_
    refine wx_end fun w83 hbx _ => ?_
    have h84 := HA.keep _ _ h82 hbx
    exact ⟨by kernel_rfl, h84⟩
  · rintro _ w85 ⟨rfl, h86⟩
    refine then_at rfl ?_
    refine wp_ret ?_
    repeat first | refine then_ret ?_ | refine block_ret ?_
    exact bodyPost_ret (v := .tuple #[.string k1, .string k2, iN .i64 0]) ky rfl ⟨rfl, PH.sub (hcl78 ((q22, 29, #[iN .i64 0]) :: (kb27, 107, #[pt q22]) :: (q69, 126, #[.string k1, .string k2, .string k3]) :: (kb31, 107, #[pt q22]) :: (q56, 9, #[.string (txt fs)]) :: (q43, 9, #[.string (txt ee)]) :: (q17, 120, #[.string (layT [pu] 1), .string pu, .string pf]) :: (q1, 48, #[.pointer (some ⟨xc, 0, none⟩)]) :: L) _ h86) (List.Sublist.cons _ (List.Sublist.cons _ (List.Sublist.cons _ (List.Sublist.cons _ (List.Sublist.cons _ (List.Sublist.cons _ (List.Sublist.cons _ (List.Sublist.cons _ (List.Sublist.refl _)))))))))⟩
set_option maxRecDepth 100000 in
set_option maxHeartbeats 2000000 in
theorem Accept_y {w0 w : World} {M : ML} {p : Pr} {A : List Ent} {n : Nat} {L : BL} (H : PH w0 M p A n L w) (secret : ByteArray) (pubs : List ByteArray) (pb cc : Nat) (hpb : (pb, 9, strc pubs) ∈ L) (hello draw : ByteArray) (hh : hello.size ≤ 60000) {fr : Nat} {pu pf : ByteArray} (h1 : rdHello hello = some (fr, pu, pf)) (hfr : fr < 65536) (hlt : fr < pubs.length) {client : ByteArray} (hc : pubs.getD fr ByteArray.empty = client) (hne : ¬ client = { data := #[] }) (hsec : secret.size ≤ 60000) (hcl : client.size ≤ 60000) (hpu : pu.size ≤ 16384) (hpf : pf.size ≤ 16384) (hf : A.length < 50000) {A2 A3 A4 : List Ent} {es ss : Nat} {key : ByteArray} (hkey : key.size ≤ 60000) (e1 : mkA A 4 { data := #[] } [secret, pu] = (A2, es)) (l2 : A2.length < 50000) (e2 : mkA A2 4 { data := #[] } [secret, client] = (A3, ss)) (l3 : A3.length < 50000) (e3 : dv A3 (layT [txt es, txt ss] 2) { data := #[] } hI 1 = (A4, [key])) (l4 : A4.length < 50000) {out : ByteArray} (ho : opnA A4 key { data := #[] } (adrT fr ++ layT [pu] 1) pf = some out) (hzo : out.size ≤ 1000000) (hj : n < 900000) {B2 B3 B4 B5 B6 B7 : List Ent} {pq ee fs d pr : Nat} {k1 k2 k3 : ByteArray} (hk3 : k3.size ≤ 60000) (a1 : mkA (frA A4) 3 { data := #[] } [txt A4.length] = (B2, pq)) (m2 : B2.length < 50000) (a2 : mkA B2 4 { data := #[] } [txt A4.length, pu] = (B3, ee)) (m3 : B3.length < 50000) (a3 : mkA B3 4 { data := #[] } [txt A4.length, client] = (B4, fs)) (m4 : B4.length < 50000) (a4 : mkA B4 5 { data := #[100, 105, 103, 101, 115, 116] } [hello, layT [txt pq] 1] = (B5, d)) (m5 : B5.length < 50000) (a5 : dv B5 (layT [txt es, txt ss, txt ee, txt fs] 4) (txt d) kI 3 = (B6, [k1, k2, k3])) (m6 : B6.length < 50000) (a6 : mkA B6 6 { data := #[] } [k3, { data := #[] }, layT [txt pq] 1, { data := #[] }] = (B7, pr)) :
    Calls Tryz.prog 18 #[pt p.q, .string secret, .slice (some ⟨pb, 0, none⟩) pubs.length cc, .string hello, .string draw] w fun e w' => e = .returned (.tuple #[iN .i64 fr, .string (layT [txt pq] 1 ++ layT [txt pr] 1), .string k2, .string k1, iN .i64 0]) ∧ PH w0 M p B7 (n + 1 + 1) L w' := by
  obtain ⟨z0, X0, hcl0, hbe0, H0⟩ := PH.front H
  go_enter Tryz.func18, Tryz.ntmps18
  refine wp_seq (wl_region ?_)
  refine zv (iN .i64 0) ?_
  refine zv (.string ({ data := #[] })) ?_
  refine zv (.string ({ data := #[] })) ?_
  refine zv (.string ({ data := #[] })) ?_
  refine zv (iN .i64 0) ?_
  refine wl_nil (then_at rfl (wp_seq (wp_seq (wl_region ?_))))
  refine zv (.pointer (some ⟨p.q, 0, none⟩)) ?_
  refine wl_call (v := .bool false) H0 ky enter35 #[.pointer (some ⟨p.q, 0, none⟩)] ky (snone_k (PH.kit (hcl0 (L) _ H0))) ?_
  intro w1 h2
  refine wl_nil (then_at rfl ?_)
  refine wp_cond_false ky ?_
  refine wp_skip (then_at rfl (wp_seq (wl_region ?_)))
  refine zv (.string hello) ?_
  refine wl_call (v := .tuple #[iN .i64 fr, .agg #[.string ((adrT fr ++ layT [pu] 1)), .string pu, .string pf], .bool true]) h2 ky enter54 #[.string hello] ky (rh_yes hello (by omega) h1) ?_
  intro w3 h4
  refine zv (.tuple #[iN .i64 fr, .agg #[.string ((adrT fr ++ layT [pu] 1)), .string pu, .string pf], .bool true]) ?_
  refine zv (iN .i64 fr) ?_
  refine zv (.agg #[.string ((adrT fr ++ layT [pu] 1)), .string pu, .string pf]) ?_
  refine zv (.bool true) ?_
  refine wl_make (c := #[.string ({ data := #[] }), .string ({ data := #[] }), .string ({ data := #[] })]) h4 120 ky ky ?_
  intro q5 w6 (h7 : HA z0 ((q5, 120, #[.string ({ data := #[] }), .string ({ data := #[] }), .string ({ data := #[] })]) :: (L ++ X0)) w6)
  refine zv (iN .i64 fr) ?_
  refine wl_fill (c' := #[.string ((adrT fr ++ layT [pu] 1)), .string pu, .string pf]) h7 0 rfl ky ky ky rfl ky ky ?_
  intro w8 (h9 : HA z0 ((q5, 120, #[.string ((adrT fr ++ layT [pu] 1)), .string pu, .string pf]) :: (L ++ X0)) w8)
  refine zv (.bool true) ?_
  refine wl_nil (then_at rfl (wp_seq (wp_seq (wl_region ?_))))
  refine zv (.bool true) ?_
  refine zv (.bool false) ?_
  refine wl_nil (then_at rfl ?_)
  refine wp_cond_false ky ?_
  refine wp_skip (then_at rfl (wp_seq (wp_seq (wl_region ?_))))
  refine zv (iN .i64 fr) ?_
  refine zv (.slice (some ⟨pb, 0, none⟩) pubs.length cc) ?_
  refine zv (iN .i64 pubs.length) ?_
  refine zu (.bool false) (run_geq (k := .i64) (a := fr) (b := pubs.length) ky ky false (decide_eq_false (by omega))) ?_
  refine zv (.bool false) ?_
  refine zv (.slice (some ⟨pb, 0, none⟩) pubs.length cc) ?_
  refine zv (iN .i64 fr) ?_
  refine zu (.pointer (some ⟨pb, fr, none⟩)) (run_addr_slice (q := pb) (n := pubs.length) (m := cc) (a := fr) Tryz.underlying58 (fun w => Tryz.sizeOf9 w) ky ky (by omega)) ?_
  refine zu (.string client) (run_load1 (fun w => Tryz.isAgg9 w) ky (((h9.blk (pb, 9, strc pubs) (by simp [hpb])).cell fr).trans ((PreS.strc pubs fr hlt).trans (by rw [hc])))) ?_
  refine zu (.bool false) (run_eqs (s := client) (t := { data := #[] }) ky ky false (decide_eq_false hne)) ?_
  refine zv (.bool false) ?_
  refine wl_nil (then_at rfl ?_)
  refine wp_cond_false ky ?_
  refine wp_skip (then_at rfl (wp_seq ?_))
  refine wp_region_wx (HA z0 ((q5, 120, #[.string ((adrT fr ++ layT [pu] 1)), .string pu, .string pf]) :: (L ++ X0))) (fun AQ w' => ∃ (z16 : Base) (X17 : BL) (q24 : Nat), AQ = ⟨(pt p.q :: .string secret :: .slice (some ⟨pb, 0, none⟩) pubs.length cc :: .string hello :: .string draw :: un :: un :: un :: un :: un :: iN .i64 fr :: .string ({ data := #[] }) :: .string ({ data := #[] }) :: .string ({ data := #[] }) :: iN .i64 0 :: pt q5 :: .bool true :: pt q24 :: un :: pt p.q :: .bool false :: .tuple #[iN .i64 fr, .agg #[.string ((adrT fr ++ layT [pu] 1)), .string pu, .string pf], .bool true] :: .string hello :: .tuple #[iN .i64 fr, .agg #[.string ((adrT fr ++ layT [pu] 1)), .string pu, .string pf], .bool true] :: iN .i64 fr :: .agg #[.string ((adrT fr ++ layT [pu] 1)), .string pu, .string pf] :: .bool true :: .bool true :: .bool false :: iN .i64 fr :: .slice (some ⟨pb, 0, none⟩) pubs.length cc :: iN .i64 pubs.length :: .bool false :: .bool false :: .slice (some ⟨pb, 0, none⟩) pubs.length cc :: iN .i64 fr :: .pointer (some ⟨pb, fr, none⟩) :: .string client :: .bool false :: .bool false :: .tuple #[.agg #[.string hello, .string (txt es), .string (txt ss)], iN .i64 0] :: pt p.q :: .string secret :: .slice (some ⟨pb, 0, none⟩) pubs.length cc :: iN .i64 fr :: .pointer (some ⟨pb, fr, none⟩) :: .string client :: .string hello :: .agg (#[.string ((adrT fr ++ layT [pu] 1)), .string pu, .string pf]) :: .tuple #[.agg #[.string hello, .string (txt es), .string (txt ss)], iN .i64 0] :: .agg #[.string hello, .string (txt es), .string (txt ss)] :: iN .i64 0 :: List.replicate 26 un).toArray, []⟩ ∧ (∀ (L' : BL) (w' : World), HA z16 (L' ++ X17) w' → PH w0 M p A4 ((n + 1)) L' w') ∧ (∀ (L' : BL) (w' : World), HA z16 L' w' → Below w0.heap.size w0 w') ∧ HA z16 ((q24, 87, #[.string hello, .string (txt es), .string (txt ss)]) :: (q5, 120, #[.string ((adrT fr ++ layT [pu] 1)), .string pu, .string pf]) :: (L ++ X17)) w') 15 ky ky ky ky ky (h9.drew) ?_ ?_
  · have h10 := h9.drew
    refine zp 0 (.pointer (some ⟨p.q, 0, none⟩)) ?_
    refine zp 1 (.string secret) ?_
    refine zp 2 (.slice (some ⟨pb, 0, none⟩) pubs.length cc) ?_
    refine zp 3 (iN .i64 fr) ?_
    refine wx_pure (i := 4) (.pointer (some ⟨pb, fr, none⟩)) rfl rfl ky ky (fun _ => (run_addr_slice (q := pb) (n := pubs.length) (m := cc) (a := fr) Tryz.underlying58 (fun w => Tryz.sizeOf9 w) ky ky (by omega))) ?_
    refine wx_val (i := 5) (.string client) rfl rfl ky ky (fun w' h' => run_load1 (fun w => Tryz.isAgg9 w) ky (((h'.blk (pb, 9, strc pubs) (by simp [hpb])).cell fr).trans ((PreS.strc pubs fr hlt).trans (by rw [hc])))) ?_
    refine zp 6 (.string hello) ?_
    refine wx_val (i := 7) (.agg (#[.string ((adrT fr ++ layT [pu] 1)), .string pu, .string pf])) rfl rfl ky ky (fun w' h' => run_load_blk ky (h'.get 0 rfl) Tryz.underlying120 rfl ky) ?_
    refine wx_two 8 12 ky ?_ ?_
    · refine ex_callx rfl ky h10 enter55 #[.pointer (some ⟨p.q, 0, none⟩), .string secret, .string client, .string hello, .agg (#[.string ((adrT fr ++ layT [pu] 1)), .string pu, .string pf])] ky (fun w13 h14 => heard_y (hcl0 ((q5, 120, #[.string ((adrT fr ++ layT [pu] 1)), .string pu, .string pf]) :: L) _ h14) secret client hello (adrT fr ++ layT [pu] 1) pu pf hsec hcl (by rw [ByteArray.size_append, adrT_size]; have := lay1_le hpu; omega) (by omega) (by omega) hf hkey e1 l2 e2 l3 e3 l4 ho hzo (by omega)) ?_
      rintro w13 h14 _ w15 ⟨rfl, hD12⟩
      obtain ⟨z16, X17, hcl18, hbe19, h20⟩ := PH.front hD12
      have h21 : HA z16 ((q5, 120, #[.string ((adrT fr ++ layT [pu] 1)), .string pu, .string pf]) :: (L ++ X17)) w15 := h20
      refine ⟨_, rfl, _, .inl ky, h21, ?_⟩
      refine zp 9 (.tuple #[.agg #[.string hello, .string (txt es), .string (txt ss)], iN .i64 0]) ?_
      refine zp 10 (.agg #[.string hello, .string (txt es), .string (txt ss)]) ?_
      refine zp 11 (iN .i64 0) ?_
      refine wx_one 12 ky ?_
      refine ex_makeT (c := #[.string ({ data := #[] }), .string ({ data := #[] }), .string ({ data := #[] })]) rfl ky h21 87 (fun q => .pointer (some ⟨q, 0, none⟩)) (fun _ => ky) ?_
      intro q24 w22 (h23 : HA z16 ((q24, 87, #[.string ({ data := #[] }), .string ({ data := #[] }), .string ({ data := #[] })]) :: (q5, 120, #[.string ((adrT fr ++ layT [pu] 1)), .string pu, .string pf]) :: (L ++ X17)) w22)
      refine ⟨_, .inr rfl, (HA.sub h23 (List.Sublist.cons _ (List.Sublist.cons_cons _ (List.Sublist.refl _)))), ?_⟩
      refine wx_one 13 ky ?_
      refine ex_skipT rfl ky h23 fun w25 h26 => ⟨_, run_store_blk (c' := #[.string hello, .string (txt es), .string (txt ss)]) ky ky (h26.get 0 rfl) rfl ky ky, ?_⟩
      have h27 : HA z16 ((q24, 87, #[.string hello, .string (txt es), .string (txt ss)]) :: (q5, 120, #[.string ((adrT fr ++ layT [pu] 1)), .string pu, .string pf]) :: (L ++ X17)) _ := h26.fill 0 rfl (c' := #[.string hello, .string (txt es), .string (txt ss)]) rfl
      refine ⟨_, .inl ky, h27, ?_⟩
      refine zp 14 (iN .i64 0) ?_
      refine wx_end fun w28 hbx _ => ?_
      have h29 := HA.keep _ _ h27 hbx
      exact ⟨z16, X17, q24, by kernel_rfl, hcl18, hbe19, h29⟩
    · refine ex_makeT (c := #[.string ({ data := #[] }), .string ({ data := #[] }), .string ({ data := #[] })]) rfl ky h10 87 (fun q => .pointer (some ⟨q, 0, none⟩)) (fun _ => ky) ?_
      intro q32 w30 (h31 : HA z0 ((q32, 87, #[.string ({ data := #[] }), .string ({ data := #[] }), .string ({ data := #[] })]) :: (q5, 120, #[.string ((adrT fr ++ layT [pu] 1)), .string pu, .string pf]) :: (L ++ X0)) w30)
      refine ⟨_, .inr rfl, (HA.sub h31 (List.Sublist.cons _ (List.Sublist.cons_cons _ (List.Sublist.refl _)))), ?_⟩
      refine wx_one 8 ky ?_
      refine ex_callx rfl ky h31 enter55 #[.pointer (some ⟨p.q, 0, none⟩), .string secret, .string client, .string hello, .agg (#[.string ((adrT fr ++ layT [pu] 1)), .string pu, .string pf])] ky (fun w35 h36 => heard_y (hcl0 ((q32, 87, #[.string ({ data := #[] }), .string ({ data := #[] }), .string ({ data := #[] })]) :: (q5, 120, #[.string ((adrT fr ++ layT [pu] 1)), .string pu, .string pf]) :: L) _ h36) secret client hello (adrT fr ++ layT [pu] 1) pu pf hsec hcl (by rw [ByteArray.size_append, adrT_size]; have := lay1_le hpu; omega) (by omega) (by omega) hf hkey e1 l2 e2 l3 e3 l4 ho hzo (by omega)) ?_
      rintro w35 h36 _ w37 ⟨rfl, hD34⟩
      obtain ⟨z38, X39, hcl40, hbe41, h42⟩ := PH.front hD34
      have h43 : HA z38 ((q32, 87, #[.string ({ data := #[] }), .string ({ data := #[] }), .string ({ data := #[] })]) :: (q5, 120, #[.string ((adrT fr ++ layT [pu] 1)), .string pu, .string pf]) :: (L ++ X39)) w37 := h42
      refine ⟨_, rfl, _, .inl ky, h43, ?_⟩
      refine zp 9 (.tuple #[.agg #[.string hello, .string (txt es), .string (txt ss)], iN .i64 0]) ?_
      refine zp 10 (.agg #[.string hello, .string (txt es), .string (txt ss)]) ?_
      refine zp 11 (iN .i64 0) ?_
      refine wx_one 13 ky ?_
      refine ex_skipT rfl ky h43 fun w44 h45 => ⟨_, run_store_blk (c' := #[.string hello, .string (txt es), .string (txt ss)]) ky ky (h45.get 0 rfl) rfl ky ky, ?_⟩
      have h46 : HA z38 ((q32, 87, #[.string hello, .string (txt es), .string (txt ss)]) :: (q5, 120, #[.string ((adrT fr ++ layT [pu] 1)), .string pu, .string pf]) :: (L ++ X39)) _ := h45.fill 0 rfl (c' := #[.string hello, .string (txt es), .string (txt ss)]) rfl
      refine ⟨_, .inl ky, h46, ?_⟩
      refine zp 14 (iN .i64 0) ?_
      refine wx_end fun w47 hbx _ => ?_
      have h48 := HA.keep _ _ h46 hbx
      exact ⟨z38, X39, q32, by kernel_rfl, hcl40, hbe41, h48⟩
  · rintro _ w49 ⟨z16, X17, q24, rfl, hcl18, hbe19, h50⟩
    refine then_at rfl (wp_seq (wp_seq (wl_region ?_)))
    refine zv (iN .i64 0) ?_
    refine zu (.bool false) (run_nei (k := .i64) (a := 0) (b := 0) ky ky false (by decide)) ?_
    refine wl_nil (then_at rfl ?_)
    refine wp_cond_false ky ?_
    refine wp_skip (then_at rfl (wp_seq ?_))
    refine wp_region_wx (HA z16 ((q24, 87, #[.string hello, .string (txt es), .string (txt ss)]) :: (q5, 120, #[.string ((adrT fr ++ layT [pu] 1)), .string pu, .string pf]) :: (L ++ X17))) (fun AQ w' => ∃ (z57 : Base) (X58 : BL) (q65 : Nat), AQ = ⟨(pt p.q :: .string secret :: .slice (some ⟨pb, 0, none⟩) pubs.length cc :: .string hello :: .string draw :: un :: un :: un :: un :: un :: iN .i64 fr :: .string ((layT [txt pq] 1 ++ layT [txt pr] 1)) :: .string ({ data := #[] }) :: .string ({ data := #[] }) :: iN .i64 0 :: pt q5 :: .bool true :: pt q24 :: pt q65 :: pt p.q :: .bool false :: .tuple #[iN .i64 fr, .agg #[.string ((adrT fr ++ layT [pu] 1)), .string pu, .string pf], .bool true] :: .string hello :: .tuple #[iN .i64 fr, .agg #[.string ((adrT fr ++ layT [pu] 1)), .string pu, .string pf], .bool true] :: iN .i64 fr :: .agg #[.string ((adrT fr ++ layT [pu] 1)), .string pu, .string pf] :: .bool true :: .bool true :: .bool false :: iN .i64 fr :: .slice (some ⟨pb, 0, none⟩) pubs.length cc :: iN .i64 pubs.length :: .bool false :: .bool false :: .slice (some ⟨pb, 0, none⟩) pubs.length cc :: iN .i64 fr :: .pointer (some ⟨pb, fr, none⟩) :: .string client :: .bool false :: .bool false :: .tuple #[.agg #[.string hello, .string (txt es), .string (txt ss)], iN .i64 0] :: pt p.q :: .string secret :: .slice (some ⟨pb, 0, none⟩) pubs.length cc :: iN .i64 fr :: .pointer (some ⟨pb, fr, none⟩) :: .string client :: .string hello :: .agg (#[.string ((adrT fr ++ layT [pu] 1)), .string pu, .string pf]) :: .tuple #[.agg #[.string hello, .string (txt es), .string (txt ss)], iN .i64 0] :: .agg #[.string hello, .string (txt es), .string (txt ss)] :: iN .i64 0 :: iN .i64 0 :: .bool false :: un :: .tuple #[.string ((layT [txt pq] 1 ++ layT [txt pr] 1)), .agg #[.string k1, .string k2, .string k3], iN .i64 0] :: .agg (#[.string hello, .string (txt es), .string (txt ss)]) :: pt p.q :: .pointer (some ⟨q5, 1, none⟩) :: .string pu :: .slice (some ⟨pb, 0, none⟩) pubs.length cc :: iN .i64 fr :: .pointer (some ⟨pb, fr, none⟩) :: .string client :: .string draw :: .tuple #[.string ((layT [txt pq] 1 ++ layT [txt pr] 1)), .agg #[.string k1, .string k2, .string k3], iN .i64 0] :: .string ((layT [txt pq] 1 ++ layT [txt pr] 1)) :: .agg #[.string k1, .string k2, .string k3] :: iN .i64 0 :: List.replicate 9 un).toArray, []⟩ ∧ (∀ (L' : BL) (w' : World), HA z57 (L' ++ X58) w' → PH w0 M p B7 ((n + 1 + 1)) L' w') ∧ (∀ (L' : BL) (w' : World), HA z57 L' w' → Below w0.heap.size w0 w') ∧ HA z57 ((q65, 126, #[.string k1, .string k2, .string k3]) :: (q24, 87, #[.string hello, .string (txt es), .string (txt ss)]) :: (q5, 120, #[.string ((adrT fr ++ layT [pu] 1)), .string pu, .string pf]) :: (L ++ X58)) w') 18 ky ky ky ky ky (h50.drew) ?_ ?_
    · have h51 := h50.drew
      refine wx_val (i := 0) (.agg (#[.string hello, .string (txt es), .string (txt ss)])) rfl rfl ky ky (fun w' h' => run_load_blk ky (h'.get 0 rfl) Tryz.underlying87 rfl ky) ?_
      refine zp 1 (.pointer (some ⟨p.q, 0, none⟩)) ?_
      refine zp 2 (.pointer (some ⟨q5, 1, none⟩)) ?_
      refine wx_val (i := 3) (.string pu) rfl rfl ky ky (fun w' h' => run_load1 (fun w => Tryz.isAgg9 w) ky (((h'.get 1 rfl).cell 1).trans rfl)) ?_
      refine zp 4 (.slice (some ⟨pb, 0, none⟩) pubs.length cc) ?_
      refine zp 5 (iN .i64 fr) ?_
      refine wx_pure (i := 6) (.pointer (some ⟨pb, fr, none⟩)) rfl rfl ky ky (fun _ => (run_addr_slice (q := pb) (n := pubs.length) (m := cc) (a := fr) Tryz.underlying58 (fun w => Tryz.sizeOf9 w) ky ky (by omega))) ?_
      refine wx_val (i := 7) (.string client) rfl rfl ky ky (fun w' h' => run_load1 (fun w => Tryz.isAgg9 w) ky (((h'.blk (pb, 9, strc pubs) (by simp [hpb])).cell fr).trans ((PreS.strc pubs fr hlt).trans (by rw [hc])))) ?_
      refine zp 8 (.string draw) ?_
      refine wx_two 9 14 ky ?_ ?_
      · refine ex_callx rfl ky h51 enter56 #[.agg (#[.string hello, .string (txt es), .string (txt ss)]), .pointer (some ⟨p.q, 0, none⟩), .string pu, .string client, .string draw] ky (fun w54 h55 => answered_P (hcl18 ((q24, 87, #[.string hello, .string (txt es), .string (txt ss)]) :: (q5, 120, #[.string ((adrT fr ++ layT [pu] 1)), .string pu, .string pf]) :: L) _ h55) hello (txt es) (txt ss) pu client draw hh (by rw [txt_size]; decide) (by rw [txt_size]; decide) (by omega) hcl l4 (by omega) hk3 a1 m2 a2 m3 a3 m4 a4 m5 a5 m6 a6) ?_
        rintro w54 h55 _ w56 ⟨rfl, hD53⟩
        obtain ⟨z57, X58, hcl59, hbe60, h61⟩ := PH.front hD53
        have h62 : HA z57 ((q24, 87, #[.string hello, .string (txt es), .string (txt ss)]) :: (q5, 120, #[.string ((adrT fr ++ layT [pu] 1)), .string pu, .string pf]) :: (L ++ X58)) w56 := h61
        refine ⟨_, rfl, _, .inl ky, h62, ?_⟩
        refine zp 10 (.tuple #[.string ((layT [txt pq] 1 ++ layT [txt pr] 1)), .agg #[.string k1, .string k2, .string k3], iN .i64 0]) ?_
        refine zp 11 (.string ((layT [txt pq] 1 ++ layT [txt pr] 1))) ?_
        refine zp 12 (.agg #[.string k1, .string k2, .string k3]) ?_
        refine zp 13 (iN .i64 0) ?_
        refine wx_one 14 ky ?_
        refine ex_makeT (c := #[.string ({ data := #[] }), .string ({ data := #[] }), .string ({ data := #[] })]) rfl ky h62 126 (fun q => .pointer (some ⟨q, 0, none⟩)) (fun _ => ky) ?_
        intro q65 w63 (h64 : HA z57 ((q65, 126, #[.string ({ data := #[] }), .string ({ data := #[] }), .string ({ data := #[] })]) :: (q24, 87, #[.string hello, .string (txt es), .string (txt ss)]) :: (q5, 120, #[.string ((adrT fr ++ layT [pu] 1)), .string pu, .string pf]) :: (L ++ X58)) w63)
        refine ⟨_, .inr rfl, (HA.sub h64 (List.Sublist.cons _ (List.Sublist.cons_cons _ (List.Sublist.cons_cons _ (List.Sublist.refl _))))), ?_⟩
        refine zp 15 (.string ((layT [txt pq] 1 ++ layT [txt pr] 1))) ?_
        refine wx_one 16 ky ?_
        refine ex_skipT rfl ky h64 fun w66 h67 => ⟨_, run_store_blk (c' := #[.string k1, .string k2, .string k3]) ky ky (h67.get 0 rfl) rfl ky ky, ?_⟩
        have h68 : HA z57 ((q65, 126, #[.string k1, .string k2, .string k3]) :: (q24, 87, #[.string hello, .string (txt es), .string (txt ss)]) :: (q5, 120, #[.string ((adrT fr ++ layT [pu] 1)), .string pu, .string pf]) :: (L ++ X58)) _ := h67.fill 0 rfl (c' := #[.string k1, .string k2, .string k3]) rfl
        refine ⟨_, .inl ky, h68, ?_⟩
        refine zp 17 (iN .i64 0) ?_
        refine wx_end fun w69 hbx _ => ?_
        have h70 := HA.keep _ _ h68 hbx
        exact ⟨z57, X58, q65, by kernel_rfl, hcl59, hbe60, h70⟩
      · refine ex_makeT (c := #[.string ({ data := #[] }), .string ({ data := #[] }), .string ({ data := #[] })]) rfl ky h51 126 (fun q => .pointer (some ⟨q, 0, none⟩)) (fun _ => ky) ?_
        intro q73 w71 (h72 : HA z16 ((q73, 126, #[.string ({ data := #[] }), .string ({ data := #[] }), .string ({ data := #[] })]) :: (q24, 87, #[.string hello, .string (txt es), .string (txt ss)]) :: (q5, 120, #[.string ((adrT fr ++ layT [pu] 1)), .string pu, .string pf]) :: (L ++ X17)) w71)
        refine ⟨_, .inr rfl, (HA.sub h72 (List.Sublist.cons _ (List.Sublist.cons_cons _ (List.Sublist.cons_cons _ (List.Sublist.refl _))))), ?_⟩
        refine wx_one 9 ky ?_
        refine ex_callx rfl ky h72 enter56 #[.agg (#[.string hello, .string (txt es), .string (txt ss)]), .pointer (some ⟨p.q, 0, none⟩), .string pu, .string client, .string draw] ky (fun w76 h77 => answered_P (hcl18 ((q73, 126, #[.string ({ data := #[] }), .string ({ data := #[] }), .string ({ data := #[] })]) :: (q24, 87, #[.string hello, .string (txt es), .string (txt ss)]) :: (q5, 120, #[.string ((adrT fr ++ layT [pu] 1)), .string pu, .string pf]) :: L) _ h77) hello (txt es) (txt ss) pu client draw hh (by rw [txt_size]; decide) (by rw [txt_size]; decide) (by omega) hcl l4 (by omega) hk3 a1 m2 a2 m3 a3 m4 a4 m5 a5 m6 a6) ?_
        rintro w76 h77 _ w78 ⟨rfl, hD75⟩
        obtain ⟨z79, X80, hcl81, hbe82, h83⟩ := PH.front hD75
        have h84 : HA z79 ((q73, 126, #[.string ({ data := #[] }), .string ({ data := #[] }), .string ({ data := #[] })]) :: (q24, 87, #[.string hello, .string (txt es), .string (txt ss)]) :: (q5, 120, #[.string ((adrT fr ++ layT [pu] 1)), .string pu, .string pf]) :: (L ++ X80)) w78 := h83
        refine ⟨_, rfl, _, .inl ky, h84, ?_⟩
        refine zp 10 (.tuple #[.string ((layT [txt pq] 1 ++ layT [txt pr] 1)), .agg #[.string k1, .string k2, .string k3], iN .i64 0]) ?_
        refine zp 11 (.string ((layT [txt pq] 1 ++ layT [txt pr] 1))) ?_
        refine zp 12 (.agg #[.string k1, .string k2, .string k3]) ?_
        refine zp 13 (iN .i64 0) ?_
        refine zp 15 (.string ((layT [txt pq] 1 ++ layT [txt pr] 1))) ?_
        refine wx_one 16 ky ?_
        refine ex_skipT rfl ky h84 fun w85 h86 => ⟨_, run_store_blk (c' := #[.string k1, .string k2, .string k3]) ky ky (h86.get 0 rfl) rfl ky ky, ?_⟩
        have h87 : HA z79 ((q73, 126, #[.string k1, .string k2, .string k3]) :: (q24, 87, #[.string hello, .string (txt es), .string (txt ss)]) :: (q5, 120, #[.string ((adrT fr ++ layT [pu] 1)), .string pu, .string pf]) :: (L ++ X80)) _ := h86.fill 0 rfl (c' := #[.string k1, .string k2, .string k3]) rfl
        refine ⟨_, .inl ky, h87, ?_⟩
        refine zp 17 (iN .i64 0) ?_
        refine wx_end fun w88 hbx _ => ?_
        have h89 := HA.keep _ _ h87 hbx
        exact ⟨z79, X80, q73, by kernel_rfl, hcl81, hbe82, h89⟩
    · rintro _ w90 ⟨z57, X58, q65, rfl, hcl59, hbe60, h91⟩
      refine then_at (F := ⟨(pt p.q :: .string secret :: .slice (some ⟨pb, 0, none⟩) pubs.length cc :: .string hello :: .string draw :: un :: un :: un :: un :: un :: iN .i64 fr :: .string ((layT [txt pq] 1 ++ layT [txt pr] 1)) :: .string ({ data := #[] }) :: .string ({ data := #[] }) :: iN .i64 0 :: pt q5 :: .bool true :: pt q24 :: pt q65 :: pt p.q :: .bool false :: .tuple #[iN .i64 fr, .agg #[.string ((adrT fr ++ layT [pu] 1)), .string pu, .string pf], .bool true] :: .string hello :: .tuple #[iN .i64 fr, .agg #[.string ((adrT fr ++ layT [pu] 1)), .string pu, .string pf], .bool true] :: iN .i64 fr :: .agg #[.string ((adrT fr ++ layT [pu] 1)), .string pu, .string pf] :: .bool true :: .bool true :: .bool false :: iN .i64 fr :: .slice (some ⟨pb, 0, none⟩) pubs.length cc :: iN .i64 pubs.length :: .bool false :: .bool false :: .slice (some ⟨pb, 0, none⟩) pubs.length cc :: iN .i64 fr :: .pointer (some ⟨pb, fr, none⟩) :: .string client :: .bool false :: .bool false :: .tuple #[.agg #[.string hello, .string (txt es), .string (txt ss)], iN .i64 0] :: pt p.q :: .string secret :: .slice (some ⟨pb, 0, none⟩) pubs.length cc :: iN .i64 fr :: .pointer (some ⟨pb, fr, none⟩) :: .string client :: .string hello :: .agg (#[.string ((adrT fr ++ layT [pu] 1)), .string pu, .string pf]) :: .tuple #[.agg #[.string hello, .string (txt es), .string (txt ss)], iN .i64 0] :: .agg #[.string hello, .string (txt es), .string (txt ss)] :: iN .i64 0 :: iN .i64 0 :: .bool false :: un :: .tuple #[.string ((layT [txt pq] 1 ++ layT [txt pr] 1)), .agg #[.string k1, .string k2, .string k3], iN .i64 0] :: .agg (#[.string hello, .string (txt es), .string (txt ss)]) :: pt p.q :: .pointer (some ⟨q5, 1, none⟩) :: .string pu :: .slice (some ⟨pb, 0, none⟩) pubs.length cc :: iN .i64 fr :: .pointer (some ⟨pb, fr, none⟩) :: .string client :: .string draw :: .tuple #[.string ((layT [txt pq] 1 ++ layT [txt pr] 1)), .agg #[.string k1, .string k2, .string k3], iN .i64 0] :: .string ((layT [txt pq] 1 ++ layT [txt pr] 1)) :: .agg #[.string k1, .string k2, .string k3] :: iN .i64 0 :: List.replicate 9 un).toArray, []⟩) ky ?_
      refine wp_seq (wp_seq (wl_region ?_))
      refine zv (iN .i64 0) ?_
      refine zu (.bool false) (run_nei (k := .i64) (a := 0) (b := 0) ky ky false (by decide)) ?_
      refine wl_nil (then_at rfl ?_)
      refine wp_cond_false ky ?_
      refine wp_skip (then_at rfl (wp_seq ?_))
      refine wp_region_wxo2 0 1 (iN .i64 fr) (.string ((layT [txt pq] 1 ++ layT [txt pr] 1))) rfl ky ky rfl ky ky (S := HA z57 ((q65, 126, #[.string k1, .string k2, .string k3]) :: (q24, 87, #[.string hello, .string (txt es), .string (txt ss)]) :: (q5, 120, #[.string ((adrT fr ++ layT [pu] 1)), .string pu, .string pf]) :: (L ++ X58))) (J := fun AQ w' => AQ = ⟨(pt p.q :: .string secret :: .slice (some ⟨pb, 0, none⟩) pubs.length cc :: .string hello :: .string draw :: un :: un :: un :: un :: un :: iN .i64 fr :: .string ((layT [txt pq] 1 ++ layT [txt pr] 1)) :: .string k2 :: .string k1 :: iN .i64 0 :: pt q5 :: .bool true :: pt q24 :: pt q65 :: pt p.q :: .bool false :: .tuple #[iN .i64 fr, .agg #[.string ((adrT fr ++ layT [pu] 1)), .string pu, .string pf], .bool true] :: .string hello :: .tuple #[iN .i64 fr, .agg #[.string ((adrT fr ++ layT [pu] 1)), .string pu, .string pf], .bool true] :: iN .i64 fr :: .agg #[.string ((adrT fr ++ layT [pu] 1)), .string pu, .string pf] :: .bool true :: .bool true :: .bool false :: iN .i64 fr :: .slice (some ⟨pb, 0, none⟩) pubs.length cc :: iN .i64 pubs.length :: .bool false :: .bool false :: .slice (some ⟨pb, 0, none⟩) pubs.length cc :: iN .i64 fr :: .pointer (some ⟨pb, fr, none⟩) :: .string client :: .bool false :: .bool false :: .tuple #[.agg #[.string hello, .string (txt es), .string (txt ss)], iN .i64 0] :: pt p.q :: .string secret :: .slice (some ⟨pb, 0, none⟩) pubs.length cc :: iN .i64 fr :: .pointer (some ⟨pb, fr, none⟩) :: .string client :: .string hello :: .agg (#[.string ((adrT fr ++ layT [pu] 1)), .string pu, .string pf]) :: .tuple #[.agg #[.string hello, .string (txt es), .string (txt ss)], iN .i64 0] :: .agg #[.string hello, .string (txt es), .string (txt ss)] :: iN .i64 0 :: iN .i64 0 :: .bool false :: un :: .tuple #[.string ((layT [txt pq] 1 ++ layT [txt pr] 1)), .agg #[.string k1, .string k2, .string k3], iN .i64 0] :: .agg (#[.string hello, .string (txt es), .string (txt ss)]) :: pt p.q :: .pointer (some ⟨q5, 1, none⟩) :: .string pu :: .slice (some ⟨pb, 0, none⟩) pubs.length cc :: iN .i64 fr :: .pointer (some ⟨pb, fr, none⟩) :: .string client :: .string draw :: .tuple #[.string ((layT [txt pq] 1 ++ layT [txt pr] 1)), .agg #[.string k1, .string k2, .string k3], iN .i64 0] :: .string ((layT [txt pq] 1 ++ layT [txt pr] 1)) :: .agg #[.string k1, .string k2, .string k3] :: iN .i64 0 :: iN .i64 0 :: .bool false :: un :: iN .i64 fr :: .string ((layT [txt pq] 1 ++ layT [txt pr] 1)) :: .pointer (some ⟨q65, 1, none⟩) :: .string k2 :: pt q65 :: .string k1 :: List.replicate 0 un).toArray, []⟩ ∧ HA z57 ((q65, 126, #[.string k1, .string k2, .string k3]) :: (q24, 87, #[.string hello, .string (txt es), .string (txt ss)]) :: (q5, 120, #[.string ((adrT fr ++ layT [pu] 1)), .string pu, .string pf]) :: (L ++ X58)) w') (n := 11) ky ky ky ky ky (h91.drew) ?_ ?_
      · have h92 := h91.drew
        refine zp 0 (iN .i64 fr) ?_
        refine zp 1 (.string ((layT [txt pq] 1 ++ layT [txt pr] 1))) ?_
        refine zp 2 (.pointer (some ⟨q65, 1, none⟩)) ?_
        refine wx_val (i := 3) (.string k2) rfl rfl ky ky (fun w' h' => run_load1 (fun w => Tryz.isAgg9 w) ky (((h'.get 0 rfl).cell 1).trans rfl)) ?_
        refine zp 4 (.pointer (some ⟨q65, 0, none⟩)) ?_
        refine wx_val (i := 5) (.string k1) rfl rfl ky ky (fun w' h' => run_load1 (fun w => Tryz.isAgg9 w) ky (((h'.get 0 rfl).cell 0).trans rfl)) ?_
        refine zp 6 (iN .i64 fr) ?_
        refine zp 7 (.string ((layT [txt pq] 1 ++ layT [txt pr] 1))) ?_
        refine zp 8 (.string k2) ?_
        refine zp 9 (.string k1) ?_
        refine zp 10 (iN .i64 0) ?_
        refine wx_end fun w93 hbx _ => ?_
        have h94 := HA.keep _ _ h92 hbx
        exact ⟨by kernel_rfl, h94⟩
      · rintro _ w95 ⟨rfl, h96⟩
        refine then_at rfl ?_
        refine wp_ret ?_
        repeat first | refine then_ret ?_ | refine block_ret ?_
        exact bodyPost_ret (v := .tuple #[iN .i64 fr, .string (layT [txt pq] 1 ++ layT [txt pr] 1), .string k2, .string k1, iN .i64 0]) ky rfl ⟨rfl, PH.sub (hcl59 ((q65, 126, #[.string k1, .string k2, .string k3]) :: (q24, 87, #[.string hello, .string (txt es), .string (txt ss)]) :: (q5, 120, #[.string ((adrT fr ++ layT [pu] 1)), .string pu, .string pf]) :: L) _ h96) (List.Sublist.cons _ (List.Sublist.cons _ (List.Sublist.cons _ (List.Sublist.refl _))))⟩
end Go.Proofs.YtcjjbpbehapjpaaGreat
