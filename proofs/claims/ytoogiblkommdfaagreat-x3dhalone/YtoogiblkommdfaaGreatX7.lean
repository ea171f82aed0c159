/-
  The reference's EncodeBundle and DecodeBundle.
-/
import Derived.Test.YtoogiblkommdfaaGreatX6
set_option linter.unusedVariables false
namespace Go.Proofs.YtoogiblkommdfaaGreat
open Go.RowKit

theorem bu_nat {x : Bu} (hM : MayX x) : x = mkB x.u.toNat x.d.toNat x.sg x.dh x.pi.toNat x.pr x.ps x.oi.toNat x.on := by
  obtain ⟨a, b, c, d, e, f, g, h, i⟩ := x
  have h1 := hM.u0; have h2 := hM.d0; have h3 := hM.p0; have h4 := hM.o0
  simp only at h1 h2 h3 h4
  unfold mkB
  simp only [Int.toNat_of_nonneg h1, Int.toNat_of_nonneg h2, Int.toNat_of_nonneg (show 0 ≤ e by omega), Int.toNat_of_nonneg h4]
theorem be1 (v : Nat) : (Wi.be v (Wi.wd 1)).length = 1 := by rw [Wi.be_length]; rfl
theorem be4 (v : Nat) : (Wi.be v (Wi.wd 4)).length = 4 := by rw [Wi.be_length]; rfl
theorem pt_len (s : ByteArray) : (Wi.pt s.data.toList).length = 4 + s.size := by
  rw [Wi.pt, List.length_append, Wi.be_length, Array.length_toList]; rfl
/-- a bundle's bytes, a list -/
def encL (u d : Nat) (sg dh : ByteArray) (pi : Nat) (pr ps : ByteArray) (oi : Nat) (on : ByteArray) : List UInt8 := Wi.be u (Wi.wd 1) ++ Wi.be d (Wi.wd 1) ++ Wi.pt sg.data.toList ++ Wi.pt dh.data.toList ++ Wi.be pi (Wi.wd 4) ++ Wi.pt pr.data.toList ++ Wi.pt ps.data.toList ++ Wi.be oi (Wi.wd 4) ++ Wi.pt on.data.toList
theorem encB_eq (u d : Nat) (sg dh : ByteArray) (pi : Nat) (pr ps : ByteArray) (oi : Nat) (on : ByteArray) : encB (mkB u d sg dh pi pr ps oi on) = ⟨(encL u d sg dh pi pr ps oi on).toArray⟩ := by
  apply ByteArray.ext
  unfold encB encL mkB layT nbT
  simp [layT, ByteArray.empty, ByteArray.emptyWithCapacity]
/-- bytes of a list -/
def bsA (l : List UInt8) : ByteArray := ⟨l.toArray⟩
theorem rpn_E {w : World} {l l' : List UInt8} {k v : Nat} (h : l ++ Wi.be v (Wi.wd k) = l') (hz : l.length ≤ 1000000) :
    Calls Tryz.prog 42 #[.string (bsA l), iN .i64 k, iN .u64 v] w fun e w' => e = .returned (.string (bsA l')) ∧ Below w.heap.size w w' := by
  subst h
  exact Wi.RPutNumber_any w (bsA l) k v (by show l.toArray.size ≤ _; rw [List.size_toArray]; omega)
theorem rpt_E {w : World} {l l' : List UInt8} {s : ByteArray} (h : l ++ Wi.pt s.data.toList = l') (hz : l.length ≤ 1000000) (hs : s.size ≤ 16384) :
    Calls Tryz.prog 43 #[.string (bsA l), .string s] w fun e w' => e = .returned (.string (bsA l')) ∧ Below w.heap.size w w' := by
  subst h
  exact Wi.RPutText_any w (bsA l) s (by show l.toArray.size ≤ _; rw [List.size_toArray]; omega) (by omega)
set_option maxRecDepth 100000 in
set_option maxHeartbeats 2000000 in
theorem renc_n {w : World} (x : Bu) (hx : mayX x = false) :
    Calls Tryz.prog 11 #[.agg (buC x)] w fun e w' => e = .returned (.tuple #[.string { data := #[] }, iN .i64 2]) ∧ Below w.heap.size w w' := by
  have H0 := HA.start w
  go_enter Tryz.func11, Tryz.ntmps11
  refine wp_seq (wl_region ?_)
  refine wl_make (c := buC x) H0 23 ky ky ?_
  intro q1 w2 (h3 : HA (bs w) [(q1, 23, buC x)] w2)
  refine zv (.string ({ data := #[] })) ?_
  refine zv (iN .i64 0) ?_
  refine wl_nil (then_at rfl (wp_seq (wp_seq (wl_region ?_))))
  refine wl_load h3 0 rfl ky ky Tryz.underlying23 rfl ky ?_
  refine wl_call (v := .bool false) h3 ky enter41 #[.agg (buC x)] ky (rmay_any x hx) ?_
  intro w4 h5
  refine zv (.bool true) ?_
  refine wl_nil (then_at rfl ?_)
  refine wp_cond_true ky ?_
  refine wp_seq (wl_region ?_)
  refine zv (.string ({ data := #[] })) ?_
  refine zv (iN .i64 2) ?_
  refine wl_nil (then_at rfl ?_)
  refine wp_ret ?_
  repeat first | refine then_ret ?_ | refine block_ret ?_
  exact bodyPost_ret (v := .tuple #[.string { data := #[] }, iN .i64 2]) ky rfl ⟨rfl, h5.old.old⟩
set_option maxRecDepth 100000 in
set_option maxHeartbeats 2000000 in
theorem renc_y {w : World} (u d : Nat) (sg dh : ByteArray) (pi : Nat) (pr ps : ByteArray) (oi : Nat) (on : ByteArray) (hx : mayX (mkB u d sg dh pi pr ps oi on) = true) (hu : u ≤ 2) (hd : d ≤ 1) (hp : pi ≤ 1073741824) (ho : oi ≤ 1073741824) (hsg : sg.size ≤ 16384) (hdh : dh.size ≤ 16384) (hpr : pr.size ≤ 16384) (hps : ps.size ≤ 16384) (hon : on.size ≤ 16384) {l1 l2 l3 l4 l5 l6 l7 l8 l9 : List UInt8} (k1 : ([] : List UInt8) ++ Wi.be u (Wi.wd 1) = l1) (z1 : l1.length ≤ 1000000) (k2 : l1 ++ Wi.be d (Wi.wd 1) = l2) (z2 : l2.length ≤ 1000000) (k3 : l2 ++ Wi.pt sg.data.toList = l3) (z3 : l3.length ≤ 1000000) (k4 : l3 ++ Wi.pt dh.data.toList = l4) (z4 : l4.length ≤ 1000000) (k5 : l4 ++ Wi.be pi (Wi.wd 4) = l5) (z5 : l5.length ≤ 1000000) (k6 : l5 ++ Wi.pt pr.data.toList = l6) (z6 : l6.length ≤ 1000000) (k7 : l6 ++ Wi.pt ps.data.toList = l7) (z7 : l7.length ≤ 1000000) (k8 : l7 ++ Wi.be oi (Wi.wd 4) = l8) (z8 : l8.length ≤ 1000000) (k9 : l8 ++ Wi.pt on.data.toList = l9) (z9 : l9.length ≤ 1000000) :
    Calls Tryz.prog 11 #[.agg (buC (mkB u d sg dh pi pr ps oi on))] w fun e w' => e = .returned (.tuple #[.string (bsA l9), iN .i64 0]) ∧ Below w.heap.size w w' := by
  have H0 := HA.start w
  go_enter Tryz.func11, Tryz.ntmps11
  refine wp_seq (wl_region ?_)
  refine wl_make (c := buC (mkB u d sg dh pi pr ps oi on)) H0 23 ky ky ?_
  intro q1 w2 (h3 : HA (bs w) [(q1, 23, buC (mkB u d sg dh pi pr ps oi on))] w2)
  refine zv (.string ({ data := #[] })) ?_
  refine zv (iN .i64 0) ?_
  refine wl_nil (then_at rfl (wp_seq (wp_seq (wl_region ?_))))
  refine wl_load h3 0 rfl ky ky Tryz.underlying23 rfl ky ?_
  refine wl_call (v := .bool true) h3 ky enter41 #[.agg (buC (mkB u d sg dh pi pr ps oi on))] ky (rmay_any (mkB u d sg dh pi pr ps oi on) hx) ?_
  intro w4 h5
  refine zv (.bool false) ?_
  refine wl_nil (then_at rfl ?_)
  refine wp_cond_false ky ?_
  refine wp_skip (then_at rfl (wp_seq ?_))
  refine wp_region_wx (HA (bs w) [(q1, 23, buC (mkB u d sg dh pi pr ps oi on))]) (fun AQ w' => AQ = ⟨(.agg (buC (mkB u d sg dh pi pr ps oi on)) :: pt q1 :: .string ({ data := #[] }) :: iN .i64 0 :: .string ((bsA l2)) :: .agg (buC (mkB u d sg dh pi pr ps oi on)) :: .bool true :: .bool false :: pt q1 :: iN .i64 u :: iN .u64 u :: .string ((bsA l1)) :: .pointer (some ⟨q1, 1, none⟩) :: iN .i64 d :: iN .u64 d :: .string ((bsA l2)) :: List.replicate 28 un).toArray, []⟩ ∧ HA (bs w) [(q1, 23, buC (mkB u d sg dh pi pr ps oi on))] w') 9 ky ky ky ky ky (h5.drew) ?_ ?_
  · have h6 := h5.drew
    refine zp 0 (.pointer (some ⟨q1, 0, none⟩)) ?_
    refine wx_val (i := 1) (iN .i64 u) rfl rfl ky ky (fun w' h' => run_load1 (fun w => Tryz.isAgg3 w) ky (((h'.get 0 rfl).cell 0).trans rfl)) ?_
    refine wx_pure (i := 2) (iN .u64 u) rfl rfl ky ky (fun _ => (run_conv .u64 Tryz.underlying3 Tryz.underlying95 ky (by simp only [top]; omega))) ?_
    refine wx_call (i := 3) (.string ((bsA l1))) (fun _ _ h hb => HA.keep _ _ h hb) rfl rfl ky ky enter42 #[.string ({ data := #[] }), iN .i64 1, iN .u64 u] ky (fun w' h' => rpn_E k1 (by decide)) ?_
    refine zp 4 (.pointer (some ⟨q1, 1, none⟩)) ?_
    refine wx_val (i := 5) (iN .i64 d) rfl rfl ky ky (fun w' h' => run_load1 (fun w => Tryz.isAgg3 w) ky (((h'.get 0 rfl).cell 1).trans rfl)) ?_
    refine wx_pure (i := 6) (iN .u64 d) rfl rfl ky ky (fun _ => (run_conv .u64 Tryz.underlying3 Tryz.underlying95 ky (by simp only [top]; omega))) ?_
    refine wx_call (i := 7) (.string ((bsA l2))) (fun _ _ h hb => HA.keep _ _ h hb) rfl rfl ky ky enter42 #[.string ((bsA l1)), iN .i64 1, iN .u64 d] ky (fun w' h' => rpn_E k2 z1) ?_
    refine zp 8 (.string ((bsA l2))) ?_
    refine wx_end fun w7 hbx _ => ?_
    have h8 := HA.keep _ _ h6 hbx
    exact ⟨by kernel_rfl, h8⟩
  · rintro _ w9 ⟨rfl, h10⟩
    refine then_at rfl (wp_seq ?_)
    refine wp_region_wxo 0 (.string ((bsA l2))) rfl ky ky (S := HA (bs w) [(q1, 23, buC (mkB u d sg dh pi pr ps oi on))]) (J := fun AQ w' => AQ = ⟨(.agg (buC (mkB u d sg dh pi pr ps oi on)) :: pt q1 :: .string ({ data := #[] }) :: iN .i64 0 :: .string ((bsA l4)) :: .agg (buC (mkB u d sg dh pi pr ps oi on)) :: .bool true :: .bool false :: pt q1 :: iN .i64 u :: iN .u64 u :: .string ((bsA l1)) :: .pointer (some ⟨q1, 1, none⟩) :: iN .i64 d :: iN .u64 d :: .string ((bsA l2)) :: .string ((bsA l2)) :: .pointer (some ⟨q1, 2, none⟩) :: .string sg :: .string ((bsA l3)) :: .pointer (some ⟨q1, 3, none⟩) :: .string dh :: .string ((bsA l4)) :: List.replicate 21 un).toArray, []⟩ ∧ HA (bs w) [(q1, 23, buC (mkB u d sg dh pi pr ps oi on))] w') (n := 8) ky ky ky ky ky (h10.drew) ?_ ?_
    · have h11 := h10.drew
      refine zp 0 (.string ((bsA l2))) ?_
      refine zp 1 (.pointer (some ⟨q1, 2, none⟩)) ?_
      refine wx_val (i := 2) (.string sg) rfl rfl ky ky (fun w' h' => run_load1 (fun w => Tryz.isAgg9 w) ky (((h'.get 0 rfl).cell 2).trans rfl)) ?_
      refine wx_call (i := 3) (.string ((bsA l3))) (fun _ _ h hb => HA.keep _ _ h hb) rfl rfl ky ky enter43 #[.string ((bsA l2)), .string sg] ky (fun w' h' => rpt_E k3 z2 hsg) ?_
      refine zp 4 (.pointer (some ⟨q1, 3, none⟩)) ?_
      refine wx_val (i := 5) (.string dh) rfl rfl ky ky (fun w' h' => run_load1 (fun w => Tryz.isAgg9 w) ky (((h'.get 0 rfl).cell 3).trans rfl)) ?_
      refine wx_call (i := 6) (.string ((bsA l4))) (fun _ _ h hb => HA.keep _ _ h hb) rfl rfl ky ky enter43 #[.string ((bsA l3)), .string dh] ky (fun w' h' => rpt_E k4 z3 hdh) ?_
      refine zp 7 (.string ((bsA l4))) ?_
      refine wx_end fun w12 hbx _ => ?_
      have h13 := HA.keep _ _ h11 hbx
      exact ⟨by kernel_rfl, h13⟩
    · rintro _ w14 ⟨rfl, h15⟩
      refine then_at rfl (wp_seq (wl_region ?_))
      refine zv (.string ((bsA l4))) ?_
      refine zv (.pointer (some ⟨q1, 4, none⟩)) ?_
      refine zu (iN .i64 pi) (run_load1 (fun w => Tryz.isAgg3 w) ky (((h15.get 0 rfl).cell 4).trans rfl)) ?_
      refine zu (iN .u64 pi) (run_conv .u64 Tryz.underlying3 Tryz.underlying95 ky (by simp only [top]; omega)) ?_
      refine wl_call (v := .string ((bsA l5))) h15 ky enter42 #[.string ((bsA l4)), iN .i64 4, iN .u64 pi] ky (rpn_E k5 z4) ?_
      intro w16 h17
      refine zv (.string ((bsA l5))) ?_
      refine wl_nil (then_at rfl (wp_seq ?_))
      refine wp_region_wxo 0 (.string ((bsA l5))) rfl ky ky (S := HA (bs w) [(q1, 23, buC (mkB u d sg dh pi pr ps oi on))]) (J := fun AQ w' => AQ = ⟨(.agg (buC (mkB u d sg dh pi pr ps oi on)) :: pt q1 :: .string ({ data := #[] }) :: iN .i64 0 :: .string ((bsA l7)) :: .agg (buC (mkB u d sg dh pi pr ps oi on)) :: .bool true :: .bool false :: pt q1 :: iN .i64 u :: iN .u64 u :: .string ((bsA l1)) :: .pointer (some ⟨q1, 1, none⟩) :: iN .i64 d :: iN .u64 d :: .string ((bsA l2)) :: .string ((bsA l2)) :: .pointer (some ⟨q1, 2, none⟩) :: .string sg :: .string ((bsA l3)) :: .pointer (some ⟨q1, 3, none⟩) :: .string dh :: .string ((bsA l4)) :: .string ((bsA l4)) :: .pointer (some ⟨q1, 4, none⟩) :: iN .i64 pi :: iN .u64 pi :: .string ((bsA l5)) :: .string ((bsA l5)) :: .pointer (some ⟨q1, 5, none⟩) :: .string pr :: .string ((bsA l6)) :: .pointer (some ⟨q1, 6, none⟩) :: .string ps :: .string ((bsA l7)) :: List.replicate 9 un).toArray, []⟩ ∧ HA (bs w) [(q1, 23, buC (mkB u d sg dh pi pr ps oi on))] w') (n := 8) ky ky ky ky ky (h17.drew) ?_ ?_
      · have h18 := h17.drew
        refine zp 0 (.string ((bsA l5))) ?_
        refine zp 1 (.pointer (some ⟨q1, 5, none⟩)) ?_
        refine wx_val (i := 2) (.string pr) rfl rfl ky ky (fun w' h' => run_load1 (fun w => Tryz.isAgg9 w) ky (((h'.get 0 rfl).cell 5).trans rfl)) ?_
        refine wx_call (i := 3) (.string ((bsA l6))) (fun _ _ h hb => HA.keep _ _ h hb) rfl rfl ky ky enter43 #[.string ((bsA l5)), .string pr] ky (fun w' h' => rpt_E k6 z5 hpr) ?_
        refine zp 4 (.pointer (some ⟨q1, 6, none⟩)) ?_
        refine wx_val (i := 5) (.string ps) rfl rfl ky ky (fun w' h' => run_load1 (fun w => Tryz.isAgg9 w) ky (((h'.get 0 rfl).cell 6).trans rfl)) ?_
        refine wx_call (i := 6) (.string ((bsA l7))) (fun _ _ h hb => HA.keep _ _ h hb) rfl rfl ky ky enter43 #[.string ((bsA l6)), .string ps] ky (fun w' h' => rpt_E k7 z6 hps) ?_
        refine zp 7 (.string ((bsA l7))) ?_
        refine wx_end fun w19 hbx _ => ?_
        have h20 := HA.keep _ _ h18 hbx
        exact ⟨by kernel_rfl, h20⟩
      · rintro _ w21 ⟨rfl, h22⟩
        refine then_at rfl (wp_seq (wl_region ?_))
        refine zv (.string ((bsA l7))) ?_
        refine zv (.pointer (some ⟨q1, 7, none⟩)) ?_
        refine zu (iN .i64 oi) (run_load1 (fun w => Tryz.isAgg3 w) ky (((h22.get 0 rfl).cell 7).trans rfl)) ?_
        refine zu (iN .u64 oi) (run_conv .u64 Tryz.underlying3 Tryz.underlying95 ky (by simp only [top]; omega)) ?_
        refine wl_call (v := .string ((bsA l8))) h22 ky enter42 #[.string ((bsA l7)), iN .i64 4, iN .u64 oi] ky (rpn_E k8 z7) ?_
        intro w23 h24
        refine zv (.string ((bsA l8))) ?_
        refine wl_nil (then_at rfl (wp_seq (wl_region ?_)))
        refine zv (.string ((bsA l8))) ?_
        refine zv (.pointer (some ⟨q1, 8, none⟩)) ?_
        refine zu (.string on) (run_load1 (fun w => Tryz.isAgg9 w) ky (((h24.get 0 rfl).cell 8).trans rfl)) ?_
        refine wl_call (v := .string ((bsA l9))) h24 ky enter43 #[.string ((bsA l8)), .string on] ky (rpt_E k9 z8 hon) ?_
        intro w25 h26
        refine zv (.string ((bsA l9))) ?_
        refine zv (iN .i64 0) ?_
        refine wl_nil (then_at rfl ?_)
        refine wp_ret ?_
        repeat first | refine then_ret ?_ | refine block_ret ?_
        exact bodyPost_ret (v := .tuple #[.string (bsA l9), iN .i64 0]) ky rfl ⟨rfl, h26.old.old⟩
theorem renc_any {w : World} (x : Bu) :
    Calls Tryz.prog 11 #[.agg (buC x)] w fun e w' => e = .returned (.tuple #[.string (encA x).1, iN .i64 (encA x).2]) ∧ Below w.heap.size w w' := by
  unfold encA
  rcases h : mayX x with _ | _
  · exact renc_n x h
  · have hM := mayX_iff h
    have h1 := hM.u0; have h2 := hM.d0; have h3 := hM.p0; have h4 := hM.o0; have h5 := hM.u1; have h6 := hM.d1; have h7 := hM.p1; have h8 := hM.o1
    have e := bu_nat hM
    have hsz : (encL x.u.toNat x.d.toNat x.sg x.dh x.pi.toNat x.pr x.ps x.oi.toNat x.on).length ≤ 1000000 := by
      have a1 := hM.sg; have a2 := hM.dh; have a3 := hM.pr; have a4 := hM.ps; have a5 := hM.on
      unfold encL
      simp only [List.length_append, be1, be4, pt_len]
      omega
    have r := renc_y (w := w) x.u.toNat x.d.toNat x.sg x.dh x.pi.toNat x.pr x.ps x.oi.toNat x.on (by rw [← e]; exact h) (by omega) (by omega) (by omega) (by omega) hM.sg hM.dh hM.pr hM.ps hM.on rfl (Nat.le_trans (by unfold encL; simp only [List.length_append, be1, be4, pt_len, List.length_nil]; omega) hsz) rfl (Nat.le_trans (by unfold encL; simp only [List.length_append, be1, be4, pt_len, List.length_nil]; omega) hsz) rfl (Nat.le_trans (by unfold encL; simp only [List.length_append, be1, be4, pt_len, List.length_nil]; omega) hsz) rfl (Nat.le_trans (by unfold encL; simp only [List.length_append, be1, be4, pt_len, List.length_nil]; omega) hsz) rfl (Nat.le_trans (by unfold encL; simp only [List.length_append, be1, be4, pt_len, List.length_nil]; omega) hsz) rfl (Nat.le_trans (by unfold encL; simp only [List.length_append, be1, be4, pt_len, List.length_nil]; omega) hsz) rfl (Nat.le_trans (by unfold encL; simp only [List.length_append, be1, be4, pt_len, List.length_nil]; omega) hsz) rfl (Nat.le_trans (by unfold encL; simp only [List.length_append, be1, be4, pt_len, List.length_nil]; omega) hsz) rfl (Nat.le_trans (by unfold encL; simp only [List.length_append, be1, be4, pt_len, List.length_nil]; omega) hsz)
    rw [show encB x = bsA (encL x.u.toNat x.d.toNat x.sg x.dh x.pi.toNat x.pr x.ps x.oi.toNat x.on) from by
      have := encB_eq x.u.toNat x.d.toNat x.sg x.dh x.pi.toNat x.pr x.ps x.oi.toNat x.on
      rw [← e] at this
      exact this]
    rw [← e] at r
    exact r
namespace Rs
theorem rN_E {z : Base} {L : BL} {w : World} {b : Nat} {s : ByteArray} (H : HA z ((b, 163, #[.string s]) :: L) w) {m : Nat} (h1 : 1 ≤ m) (h8 : m ≤ 8) {x : Nat} {o : Bool} {r : List UInt8} (h : nxn m (bl s) = (x, o, r)) :
    Calls Tryz.prog 51 #[pt b, iN .i64 m] w fun e w' => e = .returned (.tuple #[iN .u64 x, .bool o]) ∧ ∃ s', bl s' = r ∧ s'.size ≤ s.size ∧ HA z ((b, 163, #[.string s']) :: L) w' := by
  unfold nxn at h
  split at h
  · next hc =>
    obtain ⟨rfl, g⟩ := Prod.mk.inj h
    obtain ⟨rfl, rfl⟩ := Prod.mk.inj g
    rw [bl_len] at hc
    refine (Wi.rNumber_yes w b m s ((H.get 0 rfl).cell 0) ((H.get 0 rfl).free 0 Nat.zero_lt_one) h1 h8 hc).mono ?_
    rintro e w' ⟨rfl, rfl⟩
    refine ⟨rfl, s.extract m s.size, Wi.ext_drop s m, ?_, H.put 0 rfl 0 (.string (s.extract m s.size))⟩
    rw [ByteArray.size_extract]; omega
  · next hc =>
    obtain ⟨rfl, g⟩ := Prod.mk.inj h
    obtain ⟨rfl, rfl⟩ := Prod.mk.inj g
    rw [bl_len] at hc
    refine (Wi.rNumber_no w b m s ((H.get 0 rfl).cell 0) (by omega)).mono ?_
    rintro e w' ⟨rfl, rfl⟩
    exact ⟨rfl, s, rfl, Nat.le_refl _, H⟩
theorem rT_E {z : Base} {L : BL} {w : World} {b : Nat} {s : ByteArray} (hs : s.size ≤ 140737488351232) (H : HA z ((b, 163, #[.string s]) :: L) w) {x : ByteArray} {o : Bool} {r : List UInt8} (h : nxt 16384 (bl s) = (x, o, r)) :
    Calls Tryz.prog 52 #[pt b, iN .i64 16384] w fun e w' => e = .returned (.tuple #[.string x, .bool o]) ∧ ∃ s', bl s' = r ∧ s'.size ≤ s.size ∧ HA z ((b, 163, #[.string s']) :: L) w' := by
  unfold nxt at h
  split at h
  · next hc =>
    obtain ⟨rfl, g⟩ := Prod.mk.inj h
    obtain ⟨rfl, rfl⟩ := Prod.mk.inj g
    rw [bl_len] at hc
    refine (Wi.rText_yes w b 16384 s ((H.get 0 rfl).cell 0) ((H.get 0 rfl).free 0 Nat.zero_lt_one) hs hc.1 hc.2.1 hc.2.2 (by decide)).mono ?_
    rintro e w' ⟨rfl, rfl⟩
    refine ⟨?_, s.extract (4 + Wi.val (s.data.toList.take 4)) s.size, Wi.ext_drop s _, ?_, H.put 0 rfl 0 (.string (s.extract (4 + Wi.val (s.data.toList.take 4)) s.size))⟩
    · refine congrArg (fun q => Ending.returned (.tuple #[.string q, .bool true])) ?_
      apply ByteArray.ext
      apply Array.ext'
      rw [Wi.ext_mid]
      rfl
    · rw [ByteArray.size_extract]; omega
  · next hc =>
    obtain ⟨rfl, g⟩ := Prod.mk.inj h
    obtain ⟨rfl, rfl⟩ := Prod.mk.inj g
    rw [bl_len] at hc
    refine (Wi.rText_no w b 16384 s ((H.get 0 rfl).cell 0) hs (by decide) (by decide) (show _ ∨ _ ∨ (16384 : Int) < Wi.val ((bl s).take 4) ∨ s.size < 4 + Wi.val ((bl s).take 4) by omega)).mono ?_
    rintro e w' ⟨rfl, rfl⟩
    exact ⟨rfl, s, rfl, Nat.le_refl _, H⟩
end Rs
theorem rNew_h {z : Base} {L : BL} {w : World} (H : HA z L w) (s : ByteArray) :
    Calls Tryz.prog 50 #[.string s] w fun e w' => ∃ b, e = .returned (pt b) ∧ HA z ((b, 163, #[.string s]) :: L) w' := by
  refine (Wi.rNew_any w s).mono ?_
  rintro e w' ⟨rfl, rfl⟩
  exact ⟨_, rfl, H.make 163 #[.string s]⟩
theorem toB {P : Program} {f : FuncId} {args : Array Value} {w : World} {E : Ending} (h : Calls P f args w fun e w' => e = E ∧ w' = w) : Calls P f args w fun e w' => e = E ∧ Below w.heap.size w w' := h.mono fun _ _ h => ⟨h.1, by rw [h.2]; exact Below.refl _ _⟩
set_option maxRecDepth 100000 in
set_option maxHeartbeats 2000000 in
theorem rdb_l {w : World} (s : ByteArray) (hs : s.size ≤ 140737488351232) {u dv pi oi : Nat} {sg dh pr ps on : ByteArray} {o1 o2 o3 o4 o5 o6 o7 o8 o9 : Bool} {r1 r2 r3 r4 r5 r6 r7 r8 r9 : List UInt8} (i1 : Rs.nxn 1 (bl s) = (u, o1, r1)) (i2 : Rs.nxn 1 r1 = (dv, o2, r2)) (i3 : Rs.nxt 16384 r2 = (sg, o3, r3)) (i4 : Rs.nxt 16384 r3 = (dh, o4, r4)) (i5 : Rs.nxn 4 r4 = (pi, o5, r5)) (i6 : Rs.nxt 16384 r5 = (pr, o6, r6)) (i7 : Rs.nxt 16384 r6 = (ps, o7, r7)) (i8 : Rs.nxn 4 r7 = (oi, o8, r8)) (i9 : Rs.nxt 16384 r8 = (on, o9, r9)) {res : Bu × Nat} (hres : (if (((((((((true && o1) && o2) && o3) && o4) && o5) && o6) && o7) && o8) && o9) = true ∧ r9.length = 0 ∧ mayX (mkB u dv sg dh pi pr ps oi on) = true then ((mkB u dv sg dh pi pr ps oi on), 0) else (bu0, 4)) = res) :
    Calls Tryz.prog 13 #[.string s] w fun e w' => e = .returned (.tuple #[.agg (buC res.1), iN .i64 res.2]) ∧ Below w.heap.size w w' := by
  have H0 := HA.start w
  go_enter Tryz.func13, Tryz.ntmps13
  refine wp_seq (wl_region ?_)
  refine wl_make (c := #[iN .i64 0, iN .i64 0, .string ({ data := #[] }), .string ({ data := #[] }), iN .i64 0, .string ({ data := #[] }), .string ({ data := #[] }), iN .i64 0, .string ({ data := #[] })]) H0 23 ky ky ?_
  intro q1 w2 (h3 : HA (bs w) [(q1, 23, #[iN .i64 0, iN .i64 0, .string ({ data := #[] }), .string ({ data := #[] }), iN .i64 0, .string ({ data := #[] }), .string ({ data := #[] }), iN .i64 0, .string ({ data := #[] })])] w2)
  refine zv (iN .i64 0) ?_
  refine wl_nil (then_at rfl (wp_seq (wl_region ?_)))
  refine zv (.string s) ?_
  refine wl_callx ky enter50 #[.string s] ky (rNew_h h3 s) ?_
  rintro _ w6 ⟨b4, rfl, h5⟩
  refine ⟨_, rfl, ?_⟩
  have h7 : HA (bs w) [(b4, 163, #[.string s]), (q1, 23, #[iN .i64 0, iN .i64 0, .string ({ data := #[] }), .string ({ data := #[] }), iN .i64 0, .string ({ data := #[] }), .string ({ data := #[] }), iN .i64 0, .string ({ data := #[] })])] w6 := h5
  refine zv (.pointer (some ⟨b4, 0, none⟩)) ?_
  refine wl_nil (then_at rfl (wp_seq (wl_region ?_)))
  refine zv (.pointer (some ⟨b4, 0, none⟩)) ?_
  refine wl_callx ky enter51 #[.pointer (some ⟨b4, 0, none⟩), iN .i64 1] ky (Rs.rN_E h7 (by decide) (by decide) i1) ?_
  rintro _ w12 ⟨rfl, s8, he9, hl10, h11⟩
  refine ⟨_, rfl, ?_⟩
  have h13 : HA (bs w) [(b4, 163, #[.string s8]), (q1, 23, #[iN .i64 0, iN .i64 0, .string ({ data := #[] }), .string ({ data := #[] }), iN .i64 0, .string ({ data := #[] }), .string ({ data := #[] }), iN .i64 0, .string ({ data := #[] })])] w12 := h11
  have hz14 : s8.size ≤ 140737488351232 := Nat.le_trans hl10 hs
  refine zv (.tuple #[iN .u64 u, .bool o1]) ?_
  refine zv (iN .u64 u) ?_
  refine zv (.bool o1) ?_
  refine zv (iN .u64 u) ?_
  refine zv (.bool o1) ?_
  refine wl_nil (then_at rfl (wp_seq (wl_region ?_)))
  refine zv (.pointer (some ⟨b4, 0, none⟩)) ?_
  refine wl_callx ky enter51 #[.pointer (some ⟨b4, 0, none⟩), iN .i64 1] ky (Rs.rN_E h13 (by decide) (by decide) (show Rs.nxn 1 (bl s8) = (dv, o2, r2) by rw [he9]; exact i2)) ?_
  rintro _ w19 ⟨rfl, s15, he16, hl17, h18⟩
  refine ⟨_, rfl, ?_⟩
  have h20 : HA (bs w) [(b4, 163, #[.string s15]), (q1, 23, #[iN .i64 0, iN .i64 0, .string ({ data := #[] }), .string ({ data := #[] }), iN .i64 0, .string ({ data := #[] }), .string ({ data := #[] }), iN .i64 0, .string ({ data := #[] })])] w19 := h18
  have hz21 : s15.size ≤ 140737488351232 := Nat.le_trans hl17 hz14
  refine zv (.tuple #[iN .u64 dv, .bool o2]) ?_
  refine zv (iN .u64 dv) ?_
  refine zv (.bool o2) ?_
  refine zv (iN .u64 dv) ?_
  refine zv (.bool o2) ?_
  refine wl_nil (then_at rfl (wp_seq (wl_region ?_)))
  refine zv (.pointer (some ⟨b4, 0, none⟩)) ?_
  refine wl_callx ky enter52 #[.pointer (some ⟨b4, 0, none⟩), iN .i64 16384] ky (Rs.rT_E hz21 h20 (show Rs.nxt 16384 (bl s15) = (sg, o3, r3) by rw [he16]; exact i3)) ?_
  rintro _ w26 ⟨rfl, s22, he23, hl24, h25⟩
  refine ⟨_, rfl, ?_⟩
  have h27 : HA (bs w) [(b4, 163, #[.string s22]), (q1, 23, #[iN .i64 0, iN .i64 0, .string ({ data := #[] }), .string ({ data := #[] }), iN .i64 0, .string ({ data := #[] }), .string ({ data := #[] }), iN .i64 0, .string ({ data := #[] })])] w26 := h25
  have hz28 : s22.size ≤ 140737488351232 := Nat.le_trans hl24 hz21
  refine zv (.tuple #[.string sg, .bool o3]) ?_
  refine zv (.string sg) ?_
  refine zv (.bool o3) ?_
  refine zv (.string sg) ?_
  refine zv (.bool o3) ?_
  refine wl_nil (then_at rfl (wp_seq (wl_region ?_)))
  refine zv (.pointer (some ⟨b4, 0, none⟩)) ?_
  refine wl_callx ky enter52 #[.pointer (some ⟨b4, 0, none⟩), iN .i64 16384] ky (Rs.rT_E hz28 h27 (show Rs.nxt 16384 (bl s22) = (dh, o4, r4) by rw [he23]; exact i4)) ?_
  rintro _ w33 ⟨rfl, s29, he30, hl31, h32⟩
  refine ⟨_, rfl, ?_⟩
  have h34 : HA (bs w) [(b4, 163, #[.string s29]), (q1, 23, #[iN .i64 0, iN .i64 0, .string ({ data := #[] }), .string ({ data := #[] }), iN .i64 0, .string ({ data := #[] }), .string ({ data := #[] }), iN .i64 0, .string ({ data := #[] })])] w33 := h32
  have hz35 : s29.size ≤ 140737488351232 := Nat.le_trans hl31 hz28
  refine zv (.tuple #[.string dh, .bool o4]) ?_
  refine zv (.string dh) ?_
  refine zv (.bool o4) ?_
  refine zv (.string dh) ?_
  refine zv (.bool o4) ?_
  refine wl_nil (then_at rfl (wp_seq (wl_region ?_)))
  refine zv (.pointer (some ⟨b4, 0, none⟩)) ?_
  refine wl_callx ky enter51 #[.pointer (some ⟨b4, 0, none⟩), iN .i64 4] ky (Rs.rN_E h34 (by decide) (by decide) (show Rs.nxn 4 (bl s29) = (pi, o5, r5) by rw [he30]; exact i5)) ?_
  rintro _ w40 ⟨rfl, s36, he37, hl38, h39⟩
  refine ⟨_, rfl, ?_⟩
  have h41 : HA (bs w) [(b4, 163, #[.string s36]), (q1, 23, #[iN .i64 0, iN .i64 0, .string ({ data := #[] }), .string ({ data := #[] }), iN .i64 0, .string ({ data := #[] }), .string ({ data := #[] }), iN .i64 0, .string ({ data := #[] })])] w40 := h39
  have hz42 : s36.size ≤ 140737488351232 := Nat.le_trans hl38 hz35
  refine zv (.tuple #[iN .u64 pi, .bool o5]) ?_
  refine zv (iN .u64 pi) ?_
  refine zv (.bool o5) ?_
  refine zv (iN .u64 pi) ?_
  refine zv (.bool o5) ?_
  refine wl_nil (then_at rfl (wp_seq (wl_region ?_)))
  refine zv (.pointer (some ⟨b4, 0, none⟩)) ?_
  refine wl_callx ky enter52 #[.pointer (some ⟨b4, 0, none⟩), iN .i64 16384] ky (Rs.rT_E hz42 h41 (show Rs.nxt 16384 (bl s36) = (pr, o6, r6) by rw [he37]; exact i6)) ?_
  rintro _ w47 ⟨rfl, s43, he44, hl45, h46⟩
  refine ⟨_, rfl, ?_⟩
  have h48 : HA (bs w) [(b4, 163, #[.string s43]), (q1, 23, #[iN .i64 0, iN .i64 0, .string ({ data := #[] }), .string ({ data := #[] }), iN .i64 0, .string ({ data := #[] }), .string ({ data := #[] }), iN .i64 0, .string ({ data := #[] })])] w47 := h46
  have hz49 : s43.size ≤ 140737488351232 := Nat.le_trans hl45 hz42
  refine zv (.tuple #[.string pr, .bool o6]) ?_
  refine zv (.string pr) ?_
  refine zv (.bool o6) ?_
  refine zv (.string pr) ?_
  refine zv (.bool o6) ?_
  refine wl_nil (then_at rfl (wp_seq (wl_region ?_)))
  refine zv (.pointer (some ⟨b4, 0, none⟩)) ?_
  refine wl_callx ky enter52 #[.pointer (some ⟨b4, 0, none⟩), iN .i64 16384] ky (Rs.rT_E hz49 h48 (show Rs.nxt 16384 (bl s43) = (ps, o7, r7) by rw [he44]; exact i7)) ?_
  rintro _ w54 ⟨rfl, s50, he51, hl52, h53⟩
  refine ⟨_, rfl, ?_⟩
  have h55 : HA (bs w) [(b4, 163, #[.string s50]), (q1, 23, #[iN .i64 0, iN .i64 0, .string ({ data := #[] }), .string ({ data := #[] }), iN .i64 0, .string ({ data := #[] }), .string ({ data := #[] }), iN .i64 0, .string ({ data := #[] })])] w54 := h53
  have hz56 : s50.size ≤ 140737488351232 := Nat.le_trans hl52 hz49
  refine zv (.tuple #[.string ps, .bool o7]) ?_
  refine zv (.string ps) ?_
  refine zv (.bool o7) ?_
  refine zv (.string ps) ?_
  refine zv (.bool o7) ?_
  refine wl_nil (then_at rfl (wp_seq (wl_region ?_)))
  refine zv (.pointer (some ⟨b4, 0, none⟩)) ?_
  refine wl_callx ky enter51 #[.pointer (some ⟨b4, 0, none⟩), iN .i64 4] ky (Rs.rN_E h55 (by decide) (by decide) (show Rs.nxn 4 (bl s50) = (oi, o8, r8) by rw [he51]; exact i8)) ?_
  rintro _ w61 ⟨rfl, s57, he58, hl59, h60⟩
  refine ⟨_, rfl, ?_⟩
  have h62 : HA (bs w) [(b4, 163, #[.string s57]), (q1, 23, #[iN .i64 0, iN .i64 0, .string ({ data := #[] }), .string ({ data := #[] }), iN .i64 0, .string ({ data := #[] }), .string ({ data := #[] }), iN .i64 0, .string ({ data := #[] })])] w61 := h60
  have hz63 : s57.size ≤ 140737488351232 := Nat.le_trans hl59 hz56
  refine zv (.tuple #[iN .u64 oi, .bool o8]) ?_
  refine zv (iN .u64 oi) ?_
  refine zv (.bool o8) ?_
  refine zv (iN .u64 oi) ?_
  refine zv (.bool o8) ?_
  refine wl_nil (then_at rfl (wp_seq (wl_region ?_)))
  refine zv (.pointer (some ⟨b4, 0, none⟩)) ?_
  refine wl_callx ky enter52 #[.pointer (some ⟨b4, 0, none⟩), iN .i64 16384] ky (Rs.rT_E hz63 h62 (show Rs.nxt 16384 (bl s57) = (on, o9, r9) by rw [he58]; exact i9)) ?_
  rintro _ w68 ⟨rfl, s64, he65, hl66, h67⟩
  refine ⟨_, rfl, ?_⟩
  have h69 : HA (bs w) [(b4, 163, #[.string s64]), (q1, 23, #[iN .i64 0, iN .i64 0, .string ({ data := #[] }), .string ({ data := #[] }), iN .i64 0, .string ({ data := #[] }), .string ({ data := #[] }), iN .i64 0, .string ({ data := #[] })])] w68 := h67
  have hz70 : s64.size ≤ 140737488351232 := Nat.le_trans hl66 hz63
  refine zv (.tuple #[.string on, .bool o9]) ?_
  refine zv (.string on) ?_
  refine zv (.bool o9) ?_
  refine zv (.string on) ?_
  refine zv (.bool o9) ?_
  refine wl_nil (then_at rfl (wp_seq (wl_region ?_)))
  refine zv (iN .u64 u) ?_
  refine zu (iN .i64 u) (run_conv .i64 Tryz.underlying95 Tryz.underlying3 ky (by simp only [top]; have := Rs.nxn_lt (by decide) i1; have := Rs.nxn_lt (by decide) i2; have := Rs.nxn_lt (by decide) i5; have := Rs.nxn_lt (by decide) i8; omega)) ?_
  refine zv (iN .u64 dv) ?_
  refine zu (iN .i64 dv) (run_conv .i64 Tryz.underlying95 Tryz.underlying3 ky (by simp only [top]; have := Rs.nxn_lt (by decide) i1; have := Rs.nxn_lt (by decide) i2; have := Rs.nxn_lt (by decide) i5; have := Rs.nxn_lt (by decide) i8; omega)) ?_
  refine zv (.string sg) ?_
  refine zv (.string dh) ?_
  refine zv (iN .u64 pi) ?_
  refine zu (iN .i64 pi) (run_conv .i64 Tryz.underlying95 Tryz.underlying3 ky (by simp only [top]; have := Rs.nxn_lt (by decide) i1; have := Rs.nxn_lt (by decide) i2; have := Rs.nxn_lt (by decide) i5; have := Rs.nxn_lt (by decide) i8; omega)) ?_
  refine zv (.string pr) ?_
  refine zv (.string ps) ?_
  refine zv (iN .u64 oi) ?_
  refine zu (iN .i64 oi) (run_conv .i64 Tryz.underlying95 Tryz.underlying3 ky (by simp only [top]; have := Rs.nxn_lt (by decide) i1; have := Rs.nxn_lt (by decide) i2; have := Rs.nxn_lt (by decide) i5; have := Rs.nxn_lt (by decide) i8; omega)) ?_
  refine zv (.string on) ?_
  refine zv (.agg (buC (mkB u dv sg dh pi pr ps oi on))) ?_
  refine wl_make (c := #[iN .i64 0, iN .i64 0, .string ({ data := #[] }), .string ({ data := #[] }), iN .i64 0, .string ({ data := #[] }), .string ({ data := #[] }), iN .i64 0, .string ({ data := #[] })]) h69 23 ky ky ?_
  intro q71 w72 (h73 : HA (bs w) [(q71, 23, #[iN .i64 0, iN .i64 0, .string ({ data := #[] }), .string ({ data := #[] }), iN .i64 0, .string ({ data := #[] }), .string ({ data := #[] }), iN .i64 0, .string ({ data := #[] })]), (b4, 163, #[.string s64]), (q1, 23, #[iN .i64 0, iN .i64 0, .string ({ data := #[] }), .string ({ data := #[] }), iN .i64 0, .string ({ data := #[] }), .string ({ data := #[] }), iN .i64 0, .string ({ data := #[] })])] w72)
  refine wl_fill (c' := buC (mkB u dv sg dh pi pr ps oi on)) h73 0 rfl ky ky ky rfl ky ky ?_
  intro w74 (h75 : HA (bs w) [(q71, 23, buC (mkB u dv sg dh pi pr ps oi on)), (b4, 163, #[.string s64]), (q1, 23, #[iN .i64 0, iN .i64 0, .string ({ data := #[] }), .string ({ data := #[] }), iN .i64 0, .string ({ data := #[] }), .string ({ data := #[] }), iN .i64 0, .string ({ data := #[] })])] w74)
  refine wl_nil ?_
  refine then_at (F := ⟨(.string s :: un :: pt q1 :: iN .i64 0 :: pt b4 :: iN .u64 u :: .bool o1 :: iN .u64 dv :: .bool o2 :: .string sg :: .bool o3 :: .string dh :: .bool o4 :: iN .u64 pi :: .bool o5 :: .string pr :: .bool o6 :: .string ps :: .bool o7 :: iN .u64 oi :: .bool o8 :: .string on :: .bool o9 :: pt q71 :: .string s :: pt b4 :: .tuple #[iN .u64 u, .bool o1] :: pt b4 :: .tuple #[iN .u64 u, .bool o1] :: iN .u64 u :: .bool o1 :: .tuple #[iN .u64 dv, .bool o2] :: pt b4 :: .tuple #[iN .u64 dv, .bool o2] :: iN .u64 dv :: .bool o2 :: .tuple #[.string sg, .bool o3] :: pt b4 :: .tuple #[.string sg, .bool o3] :: .string sg :: .bool o3 :: .tuple #[.string dh, .bool o4] :: pt b4 :: .tuple #[.string dh, .bool o4] :: .string dh :: .bool o4 :: .tuple #[iN .u64 pi, .bool o5] :: pt b4 :: .tuple #[iN .u64 pi, .bool o5] :: iN .u64 pi :: .bool o5 :: .tuple #[.string pr, .bool o6] :: pt b4 :: .tuple #[.string pr, .bool o6] :: .string pr :: .bool o6 :: .tuple #[.string ps, .bool o7] :: pt b4 :: .tuple #[.string ps, .bool o7] :: .string ps :: .bool o7 :: .tuple #[iN .u64 oi, .bool o8] :: pt b4 :: .tuple #[iN .u64 oi, .bool o8] :: iN .u64 oi :: .bool o8 :: .tuple #[.string on, .bool o9] :: pt b4 :: .tuple #[.string on, .bool o9] :: .string on :: .bool o9 :: iN .u64 u :: iN .i64 u :: iN .u64 dv :: iN .i64 dv :: .string sg :: .string dh :: iN .u64 pi :: iN .i64 pi :: .string pr :: .string ps :: iN .u64 oi :: iN .i64 oi :: .string on :: .agg (buC (mkB u dv sg dh pi pr ps oi on)) :: List.replicate 46 un).toArray, []⟩) ky ?_
  refine wp_seq (wp_seq ?_)
  rcases o1 with _ | _
  · refine wl_region ?_
    refine zv (.bool false) ?_
    refine zv (.bool true) ?_
    refine zv (.bool true) ?_
    refine wl_skip ky ?_
    refine wl_skip ky ?_
    refine zv (.bool true) ?_
    refine zv (.bool true) ?_
    refine wl_skip ky ?_
    refine wl_skip ky ?_
    refine zv (.bool true) ?_
    refine zv (.bool true) ?_
    refine wl_skip ky ?_
    refine wl_skip ky ?_
    refine zv (.bool true) ?_
    refine zv (.bool true) ?_
    refine wl_skip ky ?_
    refine wl_skip ky ?_
    refine zv (.bool true) ?_
    refine zv (.bool true) ?_
    refine wl_skip ky ?_
    refine wl_skip ky ?_
    refine zv (.bool true) ?_
    refine zv (.bool true) ?_
    refine wl_skip ky ?_
    refine wl_skip ky ?_
    refine zv (.bool true) ?_
    refine zv (.bool true) ?_
    refine wl_skip ky ?_
    refine wl_skip ky ?_
    refine zv (.bool true) ?_
    refine zv (.bool true) ?_
    refine wl_skip ky ?_
    refine wl_skip ky ?_
    refine zv (.bool true) ?_
    refine zv (.bool true) ?_
    refine wl_skip ky ?_
    refine wl_skip ky ?_
    refine wl_skip ky ?_
    refine zv (.bool true) ?_
    refine zv (.bool true) ?_
    refine wl_skip ky ?_
    refine wl_skip ky ?_
    refine wl_skip ky ?_
    refine zv (.bool true) ?_
    refine wl_nil (then_at rfl ?_)
    refine wp_cond_true ky ?_
    refine wp_seq (wl_region ?_)
    refine zv (.agg (buC bu0)) ?_
    refine wl_fill (c' := buC bu0) h75 2 rfl ky ky ky rfl ky ky ?_
    intro w76 (h77 : HA (bs w) [(q71, 23, buC (mkB u dv sg dh pi pr ps oi on)), (b4, 163, #[.string s64]), (q1, 23, buC bu0)] w76)
    refine zv (iN .i64 4) ?_
    refine wl_nil (then_at rfl ?_)
    refine wp_ret ?_
    repeat first | refine then_ret ?_ | refine block_ret ?_
    exact bodyPost_ret (v := .tuple #[.agg (buC bu0), iN .i64 4]) (res_cell_tmp (p := 2) (r := 3) ky ky ky (h77.get 2 rfl) Tryz.underlying23 rfl ky) rfl ⟨by rw [show res = (bu0, 4) from (by rw [← hres, if_neg (by simp)])], h77.old.old⟩
  · rcases o2 with _ | _
    · refine wl_region ?_
      refine zv (.bool true) ?_
      refine zv (.bool false) ?_
      refine zv (.bool false) ?_
      refine zv (.bool false) ?_
      refine zv (.bool true) ?_
      refine zv (.bool true) ?_
      refine zv (.bool true) ?_
      refine wl_skip ky ?_
      refine wl_skip ky ?_
      refine zv (.bool true) ?_
      refine zv (.bool true) ?_
      refine wl_skip ky ?_
      refine wl_skip ky ?_
      refine zv (.bool true) ?_
      refine zv (.bool true) ?_
      refine wl_skip ky ?_
      refine wl_skip ky ?_
      refine zv (.bool true) ?_
      refine zv (.bool true) ?_
      refine wl_skip ky ?_
      refine wl_skip ky ?_
      refine zv (.bool true) ?_
      refine zv (.bool true) ?_
      refine wl_skip ky ?_
      refine wl_skip ky ?_
      refine zv (.bool true) ?_
      refine zv (.bool true) ?_
      refine wl_skip ky ?_
      refine wl_skip ky ?_
      refine zv (.bool true) ?_
      refine zv (.bool true) ?_
      refine wl_skip ky ?_
      refine wl_skip ky ?_
      refine zv (.bool true) ?_
      refine zv (.bool true) ?_
      refine wl_skip ky ?_
      refine wl_skip ky ?_
      refine wl_skip ky ?_
      refine zv (.bool true) ?_
      refine zv (.bool true) ?_
      refine wl_skip ky ?_
      refine wl_skip ky ?_
      refine wl_skip ky ?_
      refine zv (.bool true) ?_
      refine wl_nil (then_at rfl ?_)
      refine wp_cond_true ky ?_
      refine wp_seq (wl_region ?_)
      refine zv (.agg (buC bu0)) ?_
      refine wl_fill (c' := buC bu0) h75 2 rfl ky ky ky rfl ky ky ?_
      intro w78 (h79 : HA (bs w) [(q71, 23, buC (mkB u dv sg dh pi pr ps oi on)), (b4, 163, #[.string s64]), (q1, 23, buC bu0)] w78)
      refine zv (iN .i64 4) ?_
      refine wl_nil (then_at rfl ?_)
      refine wp_ret ?_
      repeat first | refine then_ret ?_ | refine block_ret ?_
      exact bodyPost_ret (v := .tuple #[.agg (buC bu0), iN .i64 4]) (res_cell_tmp (p := 2) (r := 3) ky ky ky (h79.get 2 rfl) Tryz.underlying23 rfl ky) rfl ⟨by rw [show res = (bu0, 4) from (by rw [← hres, if_neg (by simp)])], h79.old.old⟩
    · rcases o3 with _ | _
      · refine wl_region ?_
        refine zv (.bool true) ?_
        refine zv (.bool false) ?_
        refine zv (.bool false) ?_
        refine zv (.bool true) ?_
        refine zv (.bool false) ?_
        refine zv (.bool false) ?_
        refine zv (.bool false) ?_
        refine zv (.bool false) ?_
        refine zv (.bool true) ?_
        refine zv (.bool true) ?_
        refine zv (.bool true) ?_
        refine wl_skip ky ?_
        refine wl_skip ky ?_
        refine zv (.bool true) ?_
        refine zv (.bool true) ?_
        refine wl_skip ky ?_
        refine wl_skip ky ?_
        refine zv (.bool true) ?_
        refine zv (.bool true) ?_
        refine wl_skip ky ?_
        refine wl_skip ky ?_
        refine zv (.bool true) ?_
        refine zv (.bool true) ?_
        refine wl_skip ky ?_
        refine wl_skip ky ?_
        refine zv (.bool true) ?_
        refine zv (.bool true) ?_
        refine wl_skip ky ?_
        refine wl_skip ky ?_
        refine zv (.bool true) ?_
        refine zv (.bool true) ?_
        refine wl_skip ky ?_
        refine wl_skip ky ?_
        refine zv (.bool true) ?_
        refine zv (.bool true) ?_
        refine wl_skip ky ?_
        refine wl_skip ky ?_
        refine wl_skip ky ?_
        refine zv (.bool true) ?_
        refine zv (.bool true) ?_
        refine wl_skip ky ?_
        refine wl_skip ky ?_
        refine wl_skip ky ?_
        refine zv (.bool true) ?_
        refine wl_nil (then_at rfl ?_)
        refine wp_cond_true ky ?_
        refine wp_seq (wl_region ?_)
        refine zv (.agg (buC bu0)) ?_
        refine wl_fill (c' := buC bu0) h75 2 rfl ky ky ky rfl ky ky ?_
        intro w80 (h81 : HA (bs w) [(q71, 23, buC (mkB u dv sg dh pi pr ps oi on)), (b4, 163, #[.string s64]), (q1, 23, buC bu0)] w80)
        refine zv (iN .i64 4) ?_
        refine wl_nil (then_at rfl ?_)
        refine wp_ret ?_
        repeat first | refine then_ret ?_ | refine block_ret ?_
        exact bodyPost_ret (v := .tuple #[.agg (buC bu0), iN .i64 4]) (res_cell_tmp (p := 2) (r := 3) ky ky ky (h81.get 2 rfl) Tryz.underlying23 rfl ky) rfl ⟨by rw [show res = (bu0, 4) from (by rw [← hres, if_neg (by simp)])], h81.old.old⟩
      · rcases o4 with _ | _
        · refine wl_region ?_
          refine zv (.bool true) ?_
          refine zv (.bool false) ?_
          refine zv (.bool false) ?_
          refine zv (.bool true) ?_
          refine zv (.bool false) ?_
          refine zv (.bool false) ?_
          refine zv (.bool false) ?_
          refine zv (.bool true) ?_
          refine zv (.bool false) ?_
          refine zv (.bool false) ?_
          refine zv (.bool false) ?_
          refine zv (.bool false) ?_
          refine zv (.bool true) ?_
          refine zv (.bool true) ?_
          refine zv (.bool true) ?_
          refine wl_skip ky ?_
          refine wl_skip ky ?_
          refine zv (.bool true) ?_
          refine zv (.bool true) ?_
          refine wl_skip ky ?_
          refine wl_skip ky ?_
          refine zv (.bool true) ?_
          refine zv (.bool true) ?_
          refine wl_skip ky ?_
          refine wl_skip ky ?_
          refine zv (.bool true) ?_
          refine zv (.bool true) ?_
          refine wl_skip ky ?_
          refine wl_skip ky ?_
          refine zv (.bool true) ?_
          refine zv (.bool true) ?_
          refine wl_skip ky ?_
          refine wl_skip ky ?_
          refine zv (.bool true) ?_
          refine zv (.bool true) ?_
          refine wl_skip ky ?_
          refine wl_skip ky ?_
          refine wl_skip ky ?_
          refine zv (.bool true) ?_
          refine zv (.bool true) ?_
          refine wl_skip ky ?_
          refine wl_skip ky ?_
          refine wl_skip ky ?_
          refine zv (.bool true) ?_
          refine wl_nil (then_at rfl ?_)
          refine wp_cond_true ky ?_
          refine wp_seq (wl_region ?_)
          refine zv (.agg (buC bu0)) ?_
          refine wl_fill (c' := buC bu0) h75 2 rfl ky ky ky rfl ky ky ?_
          intro w82 (h83 : HA (bs w) [(q71, 23, buC (mkB u dv sg dh pi pr ps oi on)), (b4, 163, #[.string s64]), (q1, 23, buC bu0)] w82)
          refine zv (iN .i64 4) ?_
          refine wl_nil (then_at rfl ?_)
          refine wp_ret ?_
          repeat first | refine then_ret ?_ | refine block_ret ?_
          exact bodyPost_ret (v := .tuple #[.agg (buC bu0), iN .i64 4]) (res_cell_tmp (p := 2) (r := 3) ky ky ky (h83.get 2 rfl) Tryz.underlying23 rfl ky) rfl ⟨by rw [show res = (bu0, 4) from (by rw [← hres, if_neg (by simp)])], h83.old.old⟩
        · rcases o5 with _ | _
          · refine wl_region ?_
            refine zv (.bool true) ?_
            refine zv (.bool false) ?_
            refine zv (.bool false) ?_
            refine zv (.bool true) ?_
            refine zv (.bool false) ?_
            refine zv (.bool false) ?_
            refine zv (.bool false) ?_
            refine zv (.bool true) ?_
            refine zv (.bool false) ?_
            refine zv (.bool false) ?_
            refine zv (.bool false) ?_
            refine zv (.bool true) ?_
            refine zv (.bool false) ?_
            refine zv (.bool false) ?_
            refine zv (.bool false) ?_
            refine zv (.bool false) ?_
            refine zv (.bool true) ?_
            refine zv (.bool true) ?_
            refine zv (.bool true) ?_
            refine wl_skip ky ?_
            refine wl_skip ky ?_
            refine zv (.bool true) ?_
            refine zv (.bool true) ?_
            refine wl_skip ky ?_
            refine wl_skip ky ?_
            refine zv (.bool true) ?_
            refine zv (.bool true) ?_
            refine wl_skip ky ?_
            refine wl_skip ky ?_
            refine zv (.bool true) ?_
            refine zv (.bool true) ?_
            refine wl_skip ky ?_
            refine wl_skip ky ?_
            refine zv (.bool true) ?_
            refine zv (.bool true) ?_
            refine wl_skip ky ?_
            refine wl_skip ky ?_
            refine wl_skip ky ?_
            refine zv (.bool true) ?_
            refine zv (.bool true) ?_
            refine wl_skip ky ?_
            refine wl_skip ky ?_
            refine wl_skip ky ?_
            refine zv (.bool true) ?_
            refine wl_nil (then_at rfl ?_)
            refine wp_cond_true ky ?_
            refine wp_seq (wl_region ?_)
            refine zv (.agg (buC bu0)) ?_
            refine wl_fill (c' := buC bu0) h75 2 rfl ky ky ky rfl ky ky ?_
            intro w84 (h85 : HA (bs w) [(q71, 23, buC (mkB u dv sg dh pi pr ps oi on)), (b4, 163, #[.string s64]), (q1, 23, buC bu0)] w84)
            refine zv (iN .i64 4) ?_
            refine wl_nil (then_at rfl ?_)
            refine wp_ret ?_
            repeat first | refine then_ret ?_ | refine block_ret ?_
            exact bodyPost_ret (v := .tuple #[.agg (buC bu0), iN .i64 4]) (res_cell_tmp (p := 2) (r := 3) ky ky ky (h85.get 2 rfl) Tryz.underlying23 rfl ky) rfl ⟨by rw [show res = (bu0, 4) from (by rw [← hres, if_neg (by simp)])], h85.old.old⟩
          · rcases o6 with _ | _
            · refine wl_region ?_
              refine zv (.bool true) ?_
              refine zv (.bool false) ?_
              refine zv (.bool false) ?_
              refine zv (.bool true) ?_
              refine zv (.bool false) ?_
              refine zv (.bool false) ?_
              refine zv (.bool false) ?_
              refine zv (.bool true) ?_
              refine zv (.bool false) ?_
              refine zv (.bool false) ?_
              refine zv (.bool false) ?_
              refine zv (.bool true) ?_
              refine zv (.bool false) ?_
              refine zv (.bool false) ?_
              refine zv (.bool false) ?_
              refine zv (.bool true) ?_
              refine zv (.bool false) ?_
              refine zv (.bool false) ?_
              refine zv (.bool false) ?_
              refine zv (.bool false) ?_
              refine zv (.bool true) ?_
              refine zv (.bool true) ?_
              refine zv (.bool true) ?_
              refine wl_skip ky ?_
              refine wl_skip ky ?_
              refine zv (.bool true) ?_
              refine zv (.bool true) ?_
              refine wl_skip ky ?_
              refine wl_skip ky ?_
              refine zv (.bool true) ?_
              refine zv (.bool true) ?_
              refine wl_skip ky ?_
              refine wl_skip ky ?_
              refine zv (.bool true) ?_
              refine zv (.bool true) ?_
              refine wl_skip ky ?_
              refine wl_skip ky ?_
              refine wl_skip ky ?_
              refine zv (.bool true) ?_
              refine zv (.bool true) ?_
              refine wl_skip ky ?_
              refine wl_skip ky ?_
              refine wl_skip ky ?_
              refine zv (.bool true) ?_
              refine wl_nil (then_at rfl ?_)
              refine wp_cond_true ky ?_
              refine wp_seq (wl_region ?_)
              refine zv (.agg (buC bu0)) ?_
              refine wl_fill (c' := buC bu0) h75 2 rfl ky ky ky rfl ky ky ?_
              intro w86 (h87 : HA (bs w) [(q71, 23, buC (mkB u dv sg dh pi pr ps oi on)), (b4, 163, #[.string s64]), (q1, 23, buC bu0)] w86)
              refine zv (iN .i64 4) ?_
              refine wl_nil ?_
              refine then_at (F := ⟨(.string s :: un :: pt q1 :: iN .i64 4 :: pt b4 :: iN .u64 u :: .bool true :: iN .u64 dv :: .bool true :: .string sg :: .bool true :: .string dh :: .bool true :: iN .u64 pi :: .bool true :: .string pr :: .bool false :: .string ps :: .bool o7 :: iN .u64 oi :: .bool o8 :: .string on :: .bool o9 :: pt q71 :: .string s :: pt b4 :: .tuple #[iN .u64 u, .bool true] :: pt b4 :: .tuple #[iN .u64 u, .bool true] :: iN .u64 u :: .bool true :: .tuple #[iN .u64 dv, .bool true] :: pt b4 :: .tuple #[iN .u64 dv, .bool true] :: iN .u64 dv :: .bool true :: .tuple #[.string sg, .bool true] :: pt b4 :: .tuple #[.string sg, .bool true] :: .string sg :: .bool true :: .tuple #[.string dh, .bool true] :: pt b4 :: .tuple #[.string dh, .bool true] :: .string dh :: .bool true :: .tuple #[iN .u64 pi, .bool true] :: pt b4 :: .tuple #[iN .u64 pi, .bool true] :: iN .u64 pi :: .bool true :: .tuple #[.string pr, .bool false] :: pt b4 :: .tuple #[.string pr, .bool false] :: .string pr :: .bool false :: .tuple #[.string ps, .bool o7] :: pt b4 :: .tuple #[.string ps, .bool o7] :: .string ps :: .bool o7 :: .tuple #[iN .u64 oi, .bool o8] :: pt b4 :: .tuple #[iN .u64 oi, .bool o8] :: iN .u64 oi :: .bool o8 :: .tuple #[.string on, .bool o9] :: pt b4 :: .tuple #[.string on, .bool o9] :: .string on :: .bool o9 :: iN .u64 u :: iN .i64 u :: iN .u64 dv :: iN .i64 dv :: .string sg :: .string dh :: iN .u64 pi :: iN .i64 pi :: .string pr :: .string ps :: iN .u64 oi :: iN .i64 oi :: .string on :: .agg (buC (mkB u dv sg dh pi pr ps oi on)) :: .bool true :: .bool false :: .bool false :: .bool true :: .bool false :: .bool false :: .bool false :: .bool true :: .bool false :: .bool false :: .bool false :: .bool true :: .bool false :: .bool false :: .bool false :: .bool true :: .bool false :: .bool false :: .bool false :: .bool false :: .bool true :: .bool true :: .bool true :: un :: un :: .bool true :: .bool true :: un :: un :: .bool true :: .bool true :: un :: un :: .bool true :: .bool true :: un :: un :: un :: .bool true :: .bool true :: un :: un :: un :: .bool true :: .agg (buC bu0) :: List.replicate 1 un).toArray, []⟩) ky ?_
              refine wp_ret ?_
              repeat first | refine then_ret ?_ | refine block_ret ?_
              exact bodyPost_ret (v := .tuple #[.agg (buC bu0), iN .i64 4]) (res_cell_tmp (p := 2) (r := 3) ky ky ky (h87.get 2 rfl) Tryz.underlying23 rfl ky) rfl ⟨by rw [show res = (bu0, 4) from (by rw [← hres, if_neg (by simp)])], h87.old.old⟩
            · rcases o7 with _ | _
              · refine wl_region ?_
                refine zv (.bool true) ?_
                refine zv (.bool false) ?_
                refine zv (.bool false) ?_
                refine zv (.bool true) ?_
                refine zv (.bool false) ?_
                refine zv (.bool false) ?_
                refine zv (.bool false) ?_
                refine zv (.bool true) ?_
                refine zv (.bool false) ?_
                refine zv (.bool false) ?_
                refine zv (.bool false) ?_
                refine zv (.bool true) ?_
                refine zv (.bool false) ?_
                refine zv (.bool false) ?_
                refine zv (.bool false) ?_
                refine zv (.bool true) ?_
                refine zv (.bool false) ?_
                refine zv (.bool false) ?_
                refine zv (.bool false) ?_
                refine zv (.bool true) ?_
                refine zv (.bool false) ?_
                refine zv (.bool false) ?_
                refine zv (.bool false) ?_
                refine zv (.bool false) ?_
                refine zv (.bool true) ?_
                refine zv (.bool true) ?_
                refine zv (.bool true) ?_
                refine wl_skip ky ?_
                refine wl_skip ky ?_
                refine zv (.bool true) ?_
                refine zv (.bool true) ?_
                refine wl_skip ky ?_
                refine wl_skip ky ?_
                refine zv (.bool true) ?_
                refine zv (.bool true) ?_
                refine wl_skip ky ?_
                refine wl_skip ky ?_
                refine wl_skip ky ?_
                refine zv (.bool true) ?_
                refine zv (.bool true) ?_
                refine wl_skip ky ?_
                refine wl_skip ky ?_
                refine wl_skip ky ?_
                refine zv (.bool true) ?_
                refine wl_nil (then_at rfl ?_)
                refine wp_cond_true ky ?_
                refine wp_seq (wl_region ?_)
                refine zv (.agg (buC bu0)) ?_
                refine wl_fill (c' := buC bu0) h75 2 rfl ky ky ky rfl ky ky ?_
                intro w88 (h89 : HA (bs w) [(q71, 23, buC (mkB u dv sg dh pi pr ps oi on)), (b4, 163, #[.string s64]), (q1, 23, buC bu0)] w88)
                refine zv (iN .i64 4) ?_
                refine wl_nil (then_at rfl ?_)
                refine wp_ret ?_
                repeat first | refine then_ret ?_ | refine block_ret ?_
                exact bodyPost_ret (v := .tuple #[.agg (buC bu0), iN .i64 4]) (res_cell_tmp (p := 2) (r := 3) ky ky ky (h89.get 2 rfl) Tryz.underlying23 rfl ky) rfl ⟨by rw [show res = (bu0, 4) from (by rw [← hres, if_neg (by simp)])], h89.old.old⟩
              · rcases o8 with _ | _
                · refine wl_region ?_
                  refine zv (.bool true) ?_
                  refine zv (.bool false) ?_
                  refine zv (.bool false) ?_
                  refine zv (.bool true) ?_
                  refine zv (.bool false) ?_
                  refine zv (.bool false) ?_
                  refine zv (.bool false) ?_
                  refine zv (.bool true) ?_
                  refine zv (.bool false) ?_
                  refine zv (.bool false) ?_
                  refine zv (.bool false) ?_
                  refine zv (.bool true) ?_
                  refine zv (.bool false) ?_
                  refine zv (.bool false) ?_
                  refine zv (.bool false) ?_
                  refine zv (.bool true) ?_
                  refine zv (.bool false) ?_
                  refine zv (.bool false) ?_
                  refine zv (.bool false) ?_
                  refine zv (.bool true) ?_
                  refine zv (.bool false) ?_
                  refine zv (.bool false) ?_
                  refine zv (.bool false) ?_
                  refine zv (.bool true) ?_
                  refine zv (.bool false) ?_
                  refine zv (.bool false) ?_
                  refine zv (.bool false) ?_
                  refine zv (.bool false) ?_
                  refine zv (.bool true) ?_
                  refine zv (.bool true) ?_
                  refine zv (.bool true) ?_
                  refine wl_skip ky ?_
                  refine wl_skip ky ?_
                  refine zv (.bool true) ?_
                  refine zv (.bool true) ?_
                  refine wl_skip ky ?_
                  refine wl_skip ky ?_
                  refine wl_skip ky ?_
                  refine zv (.bool true) ?_
                  refine zv (.bool true) ?_
                  refine wl_skip ky ?_
                  refine wl_skip ky ?_
                  refine wl_skip ky ?_
                  refine zv (.bool true) ?_
                  refine wl_nil (then_at rfl ?_)
                  refine wp_cond_true ky ?_
                  refine wp_seq (wl_region ?_)
                  refine zv (.agg (buC bu0)) ?_
                  refine wl_fill (c' := buC bu0) h75 2 rfl ky ky ky rfl ky ky ?_
                  intro w90 (h91 : HA (bs w) [(q71, 23, buC (mkB u dv sg dh pi pr ps oi on)), (b4, 163, #[.string s64]), (q1, 23, buC bu0)] w90)
                  refine zv (iN .i64 4) ?_
                  refine wl_nil (then_at rfl ?_)
                  refine wp_ret ?_
                  repeat first | refine then_ret ?_ | refine block_ret ?_
                  exact bodyPost_ret (v := .tuple #[.agg (buC bu0), iN .i64 4]) (res_cell_tmp (p := 2) (r := 3) ky ky ky (h91.get 2 rfl) Tryz.underlying23 rfl ky) rfl ⟨by rw [show res = (bu0, 4) from (by rw [← hres, if_neg (by simp)])], h91.old.old⟩
                · rcases o9 with _ | _
                  · refine wl_region ?_
                    refine zv (.bool true) ?_
                    refine zv (.bool false) ?_
                    refine zv (.bool false) ?_
                    refine zv (.bool true) ?_
                    refine zv (.bool false) ?_
                    refine zv (.bool false) ?_
                    refine zv (.bool false) ?_
                    refine zv (.bool true) ?_
                    refine zv (.bool false) ?_
                    refine zv (.bool false) ?_
                    refine zv (.bool false) ?_
                    refine zv (.bool true) ?_
                    refine zv (.bool false) ?_
                    refine zv (.bool false) ?_
                    refine zv (.bool false) ?_
                    refine zv (.bool true) ?_
                    refine zv (.bool false) ?_
                    refine zv (.bool false) ?_
                    refine zv (.bool false) ?_
                    refine zv (.bool true) ?_
                    refine zv (.bool false) ?_
                    refine zv (.bool false) ?_
                    refine zv (.bool false) ?_
                    refine zv (.bool true) ?_
                    refine zv (.bool false) ?_
                    refine zv (.bool false) ?_
                    refine zv (.bool false) ?_
                    refine zv (.bool true) ?_
                    refine zv (.bool false) ?_
                    refine zv (.bool false) ?_
                    refine zv (.bool false) ?_
                    refine zv (.bool false) ?_
                    refine zv (.bool true) ?_
                    refine zv (.bool true) ?_
                    refine zv (.bool true) ?_
                    refine wl_skip ky ?_
                    refine wl_skip ky ?_
                    refine wl_skip ky ?_
                    refine zv (.bool true) ?_
                    refine zv (.bool true) ?_
                    refine wl_skip ky ?_
                    refine wl_skip ky ?_
                    refine wl_skip ky ?_
                    refine zv (.bool true) ?_
                    refine wl_nil (then_at rfl ?_)
                    refine wp_cond_true ky ?_
                    refine wp_seq (wl_region ?_)
                    refine zv (.agg (buC bu0)) ?_
                    refine wl_fill (c' := buC bu0) h75 2 rfl ky ky ky rfl ky ky ?_
                    intro w92 (h93 : HA (bs w) [(q71, 23, buC (mkB u dv sg dh pi pr ps oi on)), (b4, 163, #[.string s64]), (q1, 23, buC bu0)] w92)
                    refine zv (iN .i64 4) ?_
                    refine wl_nil (then_at rfl ?_)
                    refine wp_ret ?_
                    repeat first | refine then_ret ?_ | refine block_ret ?_
                    exact bodyPost_ret (v := .tuple #[.agg (buC bu0), iN .i64 4]) (res_cell_tmp (p := 2) (r := 3) ky ky ky (h93.get 2 rfl) Tryz.underlying23 rfl ky) rfl ⟨by rw [show res = (bu0, 4) from (by rw [← hres, if_neg (by simp)])], h93.old.old⟩
                  · have hcl : s64.size = r9.length := by rw [← he65, bl_len]
                    by_cases hl : r9.length = 0
                    · rcases hx : mayX (mkB u dv sg dh pi pr ps oi on) with _ | _
                      · refine wl_region ?_
                        refine zv (.bool true) ?_
                        refine zv (.bool false) ?_
                        refine zv (.bool false) ?_
                        refine zv (.bool true) ?_
                        refine zv (.bool false) ?_
                        refine zv (.bool false) ?_
                        refine zv (.bool false) ?_
                        refine zv (.bool true) ?_
                        refine zv (.bool false) ?_
                        refine zv (.bool false) ?_
                        refine zv (.bool false) ?_
                        refine zv (.bool true) ?_
                        refine zv (.bool false) ?_
                        refine zv (.bool false) ?_
                        refine zv (.bool false) ?_
                        refine zv (.bool true) ?_
                        refine zv (.bool false) ?_
                        refine zv (.bool false) ?_
                        refine zv (.bool false) ?_
                        refine zv (.bool true) ?_
                        refine zv (.bool false) ?_
                        refine zv (.bool false) ?_
                        refine zv (.bool false) ?_
                        refine zv (.bool true) ?_
                        refine zv (.bool false) ?_
                        refine zv (.bool false) ?_
                        refine zv (.bool false) ?_
                        refine zv (.bool true) ?_
                        refine zv (.bool false) ?_
                        refine zv (.bool false) ?_
                        refine zv (.bool false) ?_
                        refine zv (.bool true) ?_
                        refine zv (.bool false) ?_
                        refine zv (.bool false) ?_
                        refine zv (.bool false) ?_
                        refine zv (.pointer (some ⟨b4, 0, none⟩)) ?_
                        refine wl_call (v := iN .i64 s64.size) h75 ky enter53 #[.pointer (some ⟨b4, 0, none⟩)] ky (toB ((Wi.rLeft_any w74 b4 s64 ((h75.get 1 rfl).cell 0)))) ?_
                        intro w94 h95
                        refine zu (.bool false) (run_gtr (k := .i64) (a := s64.size) (b := 0) ky ky false (decide_eq_false (by omega))) ?_
                        refine zv (.bool false) ?_
                        refine zv (.bool false) ?_
                        refine wl_load h95 0 rfl ky ky Tryz.underlying23 rfl ky ?_
                        refine wl_call (v := .bool false) h95 ky enter41 #[.agg (buC (mkB u dv sg dh pi pr ps oi on))] ky (rmay_any (mkB u dv sg dh pi pr ps oi on) hx) ?_
                        intro w96 h97
                        refine zv (.bool true) ?_
                        refine zv (.bool true) ?_
                        refine wl_nil (then_at rfl ?_)
                        refine wp_cond_true ky ?_
                        refine wp_seq (wl_region ?_)
                        refine zv (.agg (buC bu0)) ?_
                        refine wl_fill (c' := buC bu0) h97 2 rfl ky ky ky rfl ky ky ?_
                        intro w98 (h99 : HA (bs w) [(q71, 23, buC (mkB u dv sg dh pi pr ps oi on)), (b4, 163, #[.string s64]), (q1, 23, buC bu0)] w98)
                        refine zv (iN .i64 4) ?_
                        refine wl_nil (then_at rfl ?_)
                        refine wp_ret ?_
                        repeat first | refine then_ret ?_ | refine block_ret ?_
                        exact bodyPost_ret (v := .tuple #[.agg (buC bu0), iN .i64 4]) (res_cell_tmp (p := 2) (r := 3) ky ky ky (h99.get 2 rfl) Tryz.underlying23 rfl ky) rfl ⟨by rw [show res = (bu0, 4) from (by rw [← hres, if_neg (fun h => by rw [hx] at h; cases h.2.2)])], h99.old.old⟩
                      · refine wl_region ?_
                        refine zv (.bool true) ?_
                        refine zv (.bool false) ?_
                        refine zv (.bool false) ?_
                        refine zv (.bool true) ?_
                        refine zv (.bool false) ?_
                        refine zv (.bool false) ?_
                        refine zv (.bool false) ?_
                        refine zv (.bool true) ?_
                        refine zv (.bool false) ?_
                        refine zv (.bool false) ?_
                        refine zv (.bool false) ?_
                        refine zv (.bool true) ?_
                        refine zv (.bool false) ?_
                        refine zv (.bool false) ?_
                        refine zv (.bool false) ?_
                        refine zv (.bool true) ?_
                        refine zv (.bool false) ?_
                        refine zv (.bool false) ?_
                        refine zv (.bool false) ?_
                        refine zv (.bool true) ?_
                        refine zv (.bool false) ?_
                        refine zv (.bool false) ?_
                        refine zv (.bool false) ?_
                        refine zv (.bool true) ?_
                        refine zv (.bool false) ?_
                        refine zv (.bool false) ?_
                        refine zv (.bool false) ?_
                        refine zv (.bool true) ?_
                        refine zv (.bool false) ?_
                        refine zv (.bool false) ?_
                        refine zv (.bool false) ?_
                        refine zv (.bool true) ?_
                        refine zv (.bool false) ?_
                        refine zv (.bool false) ?_
                        refine zv (.bool false) ?_
                        refine zv (.pointer (some ⟨b4, 0, none⟩)) ?_
                        refine wl_call (v := iN .i64 s64.size) h75 ky enter53 #[.pointer (some ⟨b4, 0, none⟩)] ky (toB ((Wi.rLeft_any w74 b4 s64 ((h75.get 1 rfl).cell 0)))) ?_
                        intro w100 h101
                        refine zu (.bool false) (run_gtr (k := .i64) (a := s64.size) (b := 0) ky ky false (decide_eq_false (by omega))) ?_
                        refine zv (.bool false) ?_
                        refine zv (.bool false) ?_
                        refine wl_load h101 0 rfl ky ky Tryz.underlying23 rfl ky ?_
                        refine wl_call (v := .bool true) h101 ky enter41 #[.agg (buC (mkB u dv sg dh pi pr ps oi on))] ky (rmay_any (mkB u dv sg dh pi pr ps oi on) hx) ?_
                        intro w102 h103
                        refine zv (.bool false) ?_
                        refine zv (.bool false) ?_
                        refine wl_nil (then_at rfl ?_)
                        refine wp_cond_false ky ?_
                        refine wp_skip (then_at rfl (wp_seq (wl_region ?_)))
                        refine wl_load h103 0 rfl ky ky Tryz.underlying23 rfl ky ?_
                        refine wl_fill (c' := buC (mkB u dv sg dh pi pr ps oi on)) h103 2 rfl ky ky ky rfl ky ky ?_
                        intro w104 (h105 : HA (bs w) [(q71, 23, buC (mkB u dv sg dh pi pr ps oi on)), (b4, 163, #[.string s64]), (q1, 23, buC (mkB u dv sg dh pi pr ps oi on))] w104)
                        refine zv (iN .i64 0) ?_
                        refine wl_nil (then_at rfl ?_)
                        refine wp_ret ?_
                        repeat first | refine then_ret ?_ | refine block_ret ?_
                        exact bodyPost_ret (v := .tuple #[.agg (buC (mkB u dv sg dh pi pr ps oi on)), iN .i64 0]) (res_cell_tmp (p := 2) (r := 3) ky ky ky (h105.get 2 rfl) Tryz.underlying23 rfl ky) rfl ⟨by rw [show res = ((mkB u dv sg dh pi pr ps oi on), 0) from (by rw [← hres, if_pos ⟨rfl, hl, hx⟩])], h105.old.old⟩
                    · refine wl_region ?_
                      refine zv (.bool true) ?_
                      refine zv (.bool false) ?_
                      refine zv (.bool false) ?_
                      refine zv (.bool true) ?_
                      refine zv (.bool false) ?_
                      refine zv (.bool false) ?_
                      refine zv (.bool false) ?_
                      refine zv (.bool true) ?_
                      refine zv (.bool false) ?_
                      refine zv (.bool false) ?_
                      refine zv (.bool false) ?_
                      refine zv (.bool true) ?_
                      refine zv (.bool false) ?_
                      refine zv (.bool false) ?_
                      refine zv (.bool false) ?_
                      refine zv (.bool true) ?_
                      refine zv (.bool false) ?_
                      refine zv (.bool false) ?_
                      refine zv (.bool false) ?_
                      refine zv (.bool true) ?_
                      refine zv (.bool false) ?_
                      refine zv (.bool false) ?_
                      refine zv (.bool false) ?_
                      refine zv (.bool true) ?_
                      refine zv (.bool false) ?_
                      refine zv (.bool false) ?_
                      refine zv (.bool false) ?_
                      refine zv (.bool true) ?_
                      refine zv (.bool false) ?_
                      refine zv (.bool false) ?_
                      refine zv (.bool false) ?_
                      refine zv (.bool true) ?_
                      refine zv (.bool false) ?_
                      refine zv (.bool false) ?_
                      refine zv (.bool false) ?_
                      refine zv (.pointer (some ⟨b4, 0, none⟩)) ?_
                      refine wl_call (v := iN .i64 s64.size) h75 ky enter53 #[.pointer (some ⟨b4, 0, none⟩)] ky (toB ((Wi.rLeft_any w74 b4 s64 ((h75.get 1 rfl).cell 0)))) ?_
                      intro w106 h107
                      refine zu (.bool true) (run_gtr (k := .i64) (a := s64.size) (b := 0) ky ky true (decide_eq_true (by omega))) ?_
                      refine zv (.bool true) ?_
                      refine zv (.bool true) ?_
                      refine wl_skip ky ?_
                      refine wl_skip ky ?_
                      refine wl_skip ky ?_
                      refine zv (.bool true) ?_
                      refine wl_nil ?_
                      refine then_at (F := ⟨(.string s :: un :: pt q1 :: iN .i64 0 :: pt b4 :: iN .u64 u :: .bool true :: iN .u64 dv :: .bool true :: .string sg :: .bool true :: .string dh :: .bool true :: iN .u64 pi :: .bool true :: .string pr :: .bool true :: .string ps :: .bool true :: iN .u64 oi :: .bool true :: .string on :: .bool true :: pt q71 :: .string s :: pt b4 :: .tuple #[iN .u64 u, .bool true] :: pt b4 :: .tuple #[iN .u64 u, .bool true] :: iN .u64 u :: .bool true :: .tuple #[iN .u64 dv, .bool true] :: pt b4 :: .tuple #[iN .u64 dv, .bool true] :: iN .u64 dv :: .bool true :: .tuple #[.string sg, .bool true] :: pt b4 :: .tuple #[.string sg, .bool true] :: .string sg :: .bool true :: .tuple #[.string dh, .bool true] :: pt b4 :: .tuple #[.string dh, .bool true] :: .string dh :: .bool true :: .tuple #[iN .u64 pi, .bool true] :: pt b4 :: .tuple #[iN .u64 pi, .bool true] :: iN .u64 pi :: .bool true :: .tuple #[.string pr, .bool true] :: pt b4 :: .tuple #[.string pr, .bool true] :: .string pr :: .bool true :: .tuple #[.string ps, .bool true] :: pt b4 :: .tuple #[.string ps, .bool true] :: .string ps :: .bool true :: .tuple #[iN .u64 oi, .bool true] :: pt b4 :: .tuple #[iN .u64 oi, .bool true] :: iN .u64 oi :: .bool true :: .tuple #[.string on, .bool true] :: pt b4 :: .tuple #[.string on, .bool true] :: .string on :: .bool true :: iN .u64 u :: iN .i64 u :: iN .u64 dv :: iN .i64 dv :: .string sg :: .string dh :: iN .u64 pi :: iN .i64 pi :: .string pr :: .string ps :: iN .u64 oi :: iN .i64 oi :: .string on :: .agg (buC (mkB u dv sg dh pi pr ps oi on)) :: .bool true :: .bool false :: .bool false :: .bool true :: .bool false :: .bool false :: .bool false :: .bool true :: .bool false :: .bool false :: .bool false :: .bool true :: .bool false :: .bool false :: .bool false :: .bool true :: .bool false :: .bool false :: .bool false :: .bool true :: .bool false :: .bool false :: .bool false :: .bool true :: .bool false :: .bool false :: .bool false :: .bool true :: .bool false :: .bool false :: .bool false :: .bool true :: .bool false :: .bool false :: .bool false :: pt b4 :: iN .i64 s64.size :: .bool true :: .bool true :: .bool true :: un :: un :: un :: .bool true :: List.replicate 2 un).toArray, []⟩) ky ?_
                      refine wp_cond_true ky ?_
                      refine wp_seq (wl_region ?_)
                      refine zv (.agg (buC bu0)) ?_
                      refine wl_fill (c' := buC bu0) h107 2 rfl ky ky ky rfl ky ky ?_
                      intro w108 (h109 : HA (bs w) [(q71, 23, buC (mkB u dv sg dh pi pr ps oi on)), (b4, 163, #[.string s64]), (q1, 23, buC bu0)] w108)
                      refine zv (iN .i64 4) ?_
                      refine wl_nil (then_at rfl ?_)
                      refine wp_ret ?_
                      repeat first | refine then_ret ?_ | refine block_ret ?_
                      exact bodyPost_ret (v := .tuple #[.agg (buC bu0), iN .i64 4]) (res_cell_tmp (p := 2) (r := 3) ky ky ky (h109.get 2 rfl) Tryz.underlying23 rfl ky) rfl ⟨by rw [show res = (bu0, 4) from (by rw [← hres, if_neg (fun h => hl h.2.1)])], h109.old.old⟩
set_option maxRecDepth 100000 in
theorem rdec_any {w : World} (s : ByteArray) (hs : s.size ≤ 140737488351232) :
    Calls Tryz.prog 13 #[.string s] w fun e w' => e = .returned (.tuple #[.agg (buC (decA s).1), iN .i64 (decA s).2]) ∧ Below w.heap.size w w' := by
  obtain ⟨x1, o1, r1, i1⟩ : ∃ x o r, Rs.nxn 1 (bl s) = (x, o, r) := ⟨_, _, _, rfl⟩
  obtain ⟨x2, o2, r2, i2⟩ : ∃ x o r, Rs.nxn 1 r1 = (x, o, r) := ⟨_, _, _, rfl⟩
  obtain ⟨x3, o3, r3, i3⟩ : ∃ x o r, Rs.nxt 16384 r2 = (x, o, r) := ⟨_, _, _, rfl⟩
  obtain ⟨x4, o4, r4, i4⟩ : ∃ x o r, Rs.nxt 16384 r3 = (x, o, r) := ⟨_, _, _, rfl⟩
  obtain ⟨x5, o5, r5, i5⟩ : ∃ x o r, Rs.nxn 4 r4 = (x, o, r) := ⟨_, _, _, rfl⟩
  obtain ⟨x6, o6, r6, i6⟩ : ∃ x o r, Rs.nxt 16384 r5 = (x, o, r) := ⟨_, _, _, rfl⟩
  obtain ⟨x7, o7, r7, i7⟩ : ∃ x o r, Rs.nxt 16384 r6 = (x, o, r) := ⟨_, _, _, rfl⟩
  obtain ⟨x8, o8, r8, i8⟩ : ∃ x o r, Rs.nxn 4 r7 = (x, o, r) := ⟨_, _, _, rfl⟩
  obtain ⟨x9, o9, r9, i9⟩ : ∃ x o r, Rs.nxt 16384 r8 = (x, o, r) := ⟨_, _, _, rfl⟩
  have e : rdB (bl s) = (mkB x1 x2 x3 x4 x5 x6 x7 x8 x9, (((((((((true && o1) && o2) && o3) && o4) && o5) && o6) && o7) && o8) && o9), r9) := by
    unfold rdB
    simp only [i1, i2, i3, i4, i5, i6, i7, i8, i9]
  refine rdb_l s hs i1 i2 i3 i4 i5 i6 i7 i8 i9 ?_
  unfold decA
  rw [e]
end Go.Proofs.YtoogiblkommdfaaGreat
