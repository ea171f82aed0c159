/-
  The reference's EncodeBundle and DecodeBundle.
-/
import Derived.Test.YtiogegoepgkjlaaX6
set_option maxRecDepth 100000
set_option linter.unusedVariables false
namespace Go.Proofs.Ytiogegoepgkjlaa
open Go.RowKit

theorem bu_nat {x : Bu} (hM : MayX x) : x = mkB x.u.toNat x.d.toNat x.sg x.dh x.pi.toNat x.pr x.ps x.oi.toNat x.on := by
  obtain ⟨a, b, c, d, e, f, g, h, i⟩ := x
  have h1 := hM.u0; have h2 := hM.d0; have h3 := hM.p0; have h4 := hM.o0
  simp only at h1 h2 h3 h4
  unfold mkB
  simp only [Int.toNat_of_nonneg h1, Int.toNat_of_nonneg h2, Int.toNat_of_nonneg (show 0 ≤ e by omega), Int.toNat_of_nonneg h4]
theorem be1 (v : Nat) : (Wi.be v (Wi.wd 1)).length = 1 := by rw [Wi.be_length]; rfl
theorem be4 (v : Nat) : (Wi.be v (Wi.wd 4)).length = 4 := by rw [Wi.be_length]; rfl
theorem pt_len (s : ByteArray) : (Wi.pt s.data.toList).length = 4 + s.size := by
  rw [Wi.pt, List.length_append, Wi.be_length, Array.length_toList]; rfl
/-- a bundle's bytes, a list -/
def encL (u d : Nat) (sg dh : ByteArray) (pi : Nat) (pr ps : ByteArray) (oi : Nat) (on : ByteArray) : List UInt8 := Wi.be u (Wi.wd 1) ++ Wi.be d (Wi.wd 1) ++ Wi.pt sg.data.toList ++ Wi.pt dh.data.toList ++ Wi.be pi (Wi.wd 4) ++ Wi.pt pr.data.toList ++ Wi.pt ps.data.toList ++ Wi.be oi (Wi.wd 4) ++ Wi.pt on.data.toList
theorem encB_eq (u d : Nat) (sg dh : ByteArray) (pi : Nat) (pr ps : ByteArray) (oi : Nat) (on : ByteArray) : encB (mkB u d sg dh pi pr ps oi on) = ⟨(encL u d sg dh pi pr ps oi on).toArray⟩ := by
  apply ByteArray.ext
  unfold encB encL mkB layT nbT
  simp [layT, ByteArray.empty, ByteArray.emptyWithCapacity]
/-- bytes of a list -/
def bsA (l : List UInt8) : ByteArray := ⟨l.toArray⟩
theorem rpn_E {w : World} {l l' : List UInt8} {k v : Nat} (h : l ++ Wi.be v (Wi.wd k) = l') (hz : l.length ≤ 1000000) :
    Calls Try.prog 80 #[.string (bsA l), iN .i64 k, iN .u64 v] w fun e w' => e = .returned (.string (bsA l')) ∧ Below w.heap.size w w' := by
  subst h
  exact Wi.RPutNumber_any w (bsA l) k v (by show l.toArray.size ≤ _; rw [List.size_toArray]; omega)
theorem rpt_E {w : World} {l l' : List UInt8} {s : ByteArray} (h : l ++ Wi.pt s.data.toList = l') (hz : l.length ≤ 1000000) (hs : s.size ≤ 16384) :
    Calls Try.prog 81 #[.string (bsA l), .string s] w fun e w' => e = .returned (.string (bsA l')) ∧ Below w.heap.size w w' := by
  subst h
  exact Wi.RPutText_any w (bsA l) s (by show l.toArray.size ≤ _; rw [List.size_toArray]; omega) (by omega)
set_option maxHeartbeats 2000000 in
theorem renc_n {w : World} (x : Bu) (hx : mayX x = false) :
    Calls Try.prog 40 #[.agg (buC x)] w fun e w' => e = .returned (.tuple #[.string { data := #[] }, iN .i64 2]) ∧ Below w.heap.size w w' := by
  have H0 := HA.start w
  go_enter Try.func40, Try.ntmps40
  refine wp_seq (wl_region (wl_make (c := buC x) H0 27 ky ky ?_))
  intro q1 w2 (h3 : HA (bs w) [(q1, 27, buC x)] w2)
  refine zv (.string ({ data := #[] })) (zv (iN .i64 0) (wl_nil (then_at rfl (wp_seq (wp_seq (wl_region (wl_load h3 0 rfl ky ky Try.underlying27 rfl ky (zl (.bool false) h3 enter82 _ (rmay_any x hx) (fun w4 h5 => (zv (.bool true) (wl_nil (then_at rfl (wp_cond_true ky (wp_seq (wl_region (zv (.string ({ data := #[] })) (zv (iN .i64 2) (wl_nil (then_at rfl (wp_ret ?_))))))))))))))))))))
  repeat first|refine tr ?_|refine block_ret ?_
  exact bodyPost_ret (v := .tuple #[.string { data := #[] }, iN .i64 2]) ky rfl ⟨rfl, h5.old.old⟩
set_option maxHeartbeats 2000000 in
theorem renc_y {w : World} (u d : Nat) (sg dh : ByteArray) (pi : Nat) (pr ps : ByteArray) (oi : Nat) (on : ByteArray) (hx : mayX (mkB u d sg dh pi pr ps oi on) = true) (hu : u ≤ 2) (hd : d ≤ 1) (hp : pi ≤ 1073741824) (ho : oi ≤ 1073741824) (hsg : sg.size ≤ 16384) (hdh : dh.size ≤ 16384) (hpr : pr.size ≤ 16384) (hps : ps.size ≤ 16384) (hon : on.size ≤ 16384) {l1 l2 l3 l4 l5 l6 l7 l8 l9 : List UInt8} (k1 : ([] : List UInt8) ++ Wi.be u (Wi.wd 1) = l1) (z1 : l1.length ≤ 1000000) (k2 : l1 ++ Wi.be d (Wi.wd 1) = l2) (z2 : l2.length ≤ 1000000) (k3 : l2 ++ Wi.pt sg.data.toList = l3) (z3 : l3.length ≤ 1000000) (k4 : l3 ++ Wi.pt dh.data.toList = l4) (z4 : l4.length ≤ 1000000) (k5 : l4 ++ Wi.be pi (Wi.wd 4) = l5) (z5 : l5.length ≤ 1000000) (k6 : l5 ++ Wi.pt pr.data.toList = l6) (z6 : l6.length ≤ 1000000) (k7 : l6 ++ Wi.pt ps.data.toList = l7) (z7 : l7.length ≤ 1000000) (k8 : l7 ++ Wi.be oi (Wi.wd 4) = l8) (z8 : l8.length ≤ 1000000) (k9 : l8 ++ Wi.pt on.data.toList = l9) (z9 : l9.length ≤ 1000000) :
    Calls Try.prog 40 #[.agg (buC (mkB u d sg dh pi pr ps oi on))] w fun e w' => e = .returned (.tuple #[.string (bsA l9), iN .i64 0]) ∧ Below w.heap.size w w' := by
  have H0 := HA.start w
  go_enter Try.func40, Try.ntmps40
  refine wp_seq (wl_region (wl_make (c := buC (mkB u d sg dh pi pr ps oi on)) H0 27 ky ky ?_))
  intro q1 w2 (h3 : HA (bs w) [(q1, 27, buC (mkB u d sg dh pi pr ps oi on))] w2)
  refine zv (.string ({ data := #[] })) (zv (iN .i64 0) (wl_nil (then_at rfl (wp_seq (wp_seq (wl_region (wl_load h3 0 rfl ky ky Try.underlying27 rfl ky (zl (.bool true) h3 enter82 _ (rmay_any (mkB u d sg dh pi pr ps oi on) hx) (fun w4 h5 => (zv (.bool false) (wl_nil (then_at rfl (wp_cond_false ky (wp_skip (then_at rfl (wp_seq ?_))))))))))))))))
  refine wp_region_wxh h5 (fun AQ w' => AQ = ⟨(.agg (buC (mkB u d sg dh pi pr ps oi on)) :: pt q1 :: .string ({ data := #[] }) :: iN .i64 0 :: .string ((bsA l2)) :: .agg (buC (mkB u d sg dh pi pr ps oi on)) :: .bool true :: .bool false :: pt q1 :: iN .i64 u :: iN .u64 u :: .string ((bsA l1)) :: .pointer (some ⟨q1, 1, none⟩) :: iN .i64 d :: iN .u64 d :: .string ((bsA l2)) :: List.replicate 28 un).toArray, []⟩ ∧ HA (bs w) [(q1, 27, buC (mkB u d sg dh pi pr ps oi on))] w') 9 ky ky ky ky ky ?_ ?_
  {have h6 := h5.drew
   refine zp 0 (.pointer (some ⟨q1, 0, none⟩)) (zx 1 (iN .i64 u) rfl (fun w' h' => run_load1 (fun w => Try.isAgg3 w) ky (((h'.get 0 rfl).cell 0).trans rfl)) (zq 2 (iN .u64 u) rfl (fun _ => (run_conv .u64 Try.underlying3 Try.underlying22 ky (by simp only [top]; omega))) (zc 3 (.string ((bsA l1))) rfl enter80 _ (fun w' h' => rpn_E k1 (by decide)) (zp 4 (.pointer (some ⟨q1, 1, none⟩)) (zx 5 (iN .i64 d) rfl (fun w' h' => run_load1 (fun w => Try.isAgg3 w) ky (((h'.get 0 rfl).cell 1).trans rfl)) (zq 6 (iN .u64 d) rfl (fun _ => (run_conv .u64 Try.underlying3 Try.underlying22 ky (by simp only [top]; omega))) (zc 7 (.string ((bsA l2))) rfl enter80 _ (fun w' h' => rpn_E k2 z1) (zp 8 (.string ((bsA l2))) ?_))))))))
   refine wx_end fun w7 hbx _ => ?_
   have h8 := HA.keep _ _ h6 hbx
   exact ⟨by kernel_rfl, h8⟩}
  {rintro _ w9 ⟨rfl, h10⟩
   refine then_at rfl (wp_seq ?_)
   refine wp_region_wxo 0 (.string ((bsA l2))) rfl ky ky (S := HA (bs w) [(q1, 27, buC (mkB u d sg dh pi pr ps oi on))]) (J := fun AQ w' => AQ = ⟨(.agg (buC (mkB u d sg dh pi pr ps oi on)) :: pt q1 :: .string ({ data := #[] }) :: iN .i64 0 :: .string ((bsA l4)) :: .agg (buC (mkB u d sg dh pi pr ps oi on)) :: .bool true :: .bool false :: pt q1 :: iN .i64 u :: iN .u64 u :: .string ((bsA l1)) :: .pointer (some ⟨q1, 1, none⟩) :: iN .i64 d :: iN .u64 d :: .string ((bsA l2)) :: .string ((bsA l2)) :: .pointer (some ⟨q1, 2, none⟩) :: .string sg :: .string ((bsA l3)) :: .pointer (some ⟨q1, 3, none⟩) :: .string dh :: .string ((bsA l4)) :: List.replicate 21 un).toArray, []⟩ ∧ HA (bs w) [(q1, 27, buC (mkB u d sg dh pi pr ps oi on))] w') (n := 8) ky ky ky ky ky (h10.drew) ?_ ?_
   {have h11 := h10.drew
    refine zp 0 (.string ((bsA l2))) (zp 1 (.pointer (some ⟨q1, 2, none⟩)) (zx 2 (.string sg) rfl (fun w' h' => run_load1 (fun w => Try.isAgg9 w) ky (((h'.get 0 rfl).cell 2).trans rfl)) (zc 3 (.string ((bsA l3))) rfl enter81 _ (fun w' h' => rpt_E k3 z2 hsg) (zp 4 (.pointer (some ⟨q1, 3, none⟩)) (zx 5 (.string dh) rfl (fun w' h' => run_load1 (fun w => Try.isAgg9 w) ky (((h'.get 0 rfl).cell 3).trans rfl)) (zc 6 (.string ((bsA l4))) rfl enter81 _ (fun w' h' => rpt_E k4 z3 hdh) (zp 7 (.string ((bsA l4))) ?_)))))))
    refine wx_end fun w12 hbx _ => ?_
    have h13 := HA.keep _ _ h11 hbx
    exact ⟨by kernel_rfl, h13⟩}
   {rintro _ w14 ⟨rfl, h15⟩
    refine then_at rfl (wp_seq (wl_region ?_))
    refine zv (.string ((bsA l4))) (zv (.pointer (some ⟨q1, 4, none⟩)) (zu (iN .i64 pi) (run_load1 (fun w => Try.isAgg3 w) ky (((h15.get 0 rfl).cell 4).trans rfl)) (zu (iN .u64 pi) (run_conv .u64 Try.underlying3 Try.underlying22 ky (by simp only [top]; omega)) (zl (.string ((bsA l5))) h15 enter80 _ (rpn_E k5 z4) (fun w16 h17 => (zv (.string ((bsA l5))) (wl_nil (then_at rfl (wp_seq ?_)))))))))
    refine wp_region_wxo 0 (.string ((bsA l5))) rfl ky ky (S := HA (bs w) [(q1, 27, buC (mkB u d sg dh pi pr ps oi on))]) (J := fun AQ w' => AQ = ⟨(.agg (buC (mkB u d sg dh pi pr ps oi on)) :: pt q1 :: .string ({ data := #[] }) :: iN .i64 0 :: .string ((bsA l7)) :: .agg (buC (mkB u d sg dh pi pr ps oi on)) :: .bool true :: .bool false :: pt q1 :: iN .i64 u :: iN .u64 u :: .string ((bsA l1)) :: .pointer (some ⟨q1, 1, none⟩) :: iN .i64 d :: iN .u64 d :: .string ((bsA l2)) :: .string ((bsA l2)) :: .pointer (some ⟨q1, 2, none⟩) :: .string sg :: .string ((bsA l3)) :: .pointer (some ⟨q1, 3, none⟩) :: .string dh :: .string ((bsA l4)) :: .string ((bsA l4)) :: .pointer (some ⟨q1, 4, none⟩) :: iN .i64 pi :: iN .u64 pi :: .string ((bsA l5)) :: .string ((bsA l5)) :: .pointer (some ⟨q1, 5, none⟩) :: .string pr :: .string ((bsA l6)) :: .pointer (some ⟨q1, 6, none⟩) :: .string ps :: .string ((bsA l7)) :: List.replicate 9 un).toArray, []⟩ ∧ HA (bs w) [(q1, 27, buC (mkB u d sg dh pi pr ps oi on))] w') (n := 8) ky ky ky ky ky (h17.drew) ?_ ?_
    {have h18 := h17.drew
     refine zp 0 (.string ((bsA l5))) (zp 1 (.pointer (some ⟨q1, 5, none⟩)) (zx 2 (.string pr) rfl (fun w' h' => run_load1 (fun w => Try.isAgg9 w) ky (((h'.get 0 rfl).cell 5).trans rfl)) (zc 3 (.string ((bsA l6))) rfl enter81 _ (fun w' h' => rpt_E k6 z5 hpr) (zp 4 (.pointer (some ⟨q1, 6, none⟩)) (zx 5 (.string ps) rfl (fun w' h' => run_load1 (fun w => Try.isAgg9 w) ky (((h'.get 0 rfl).cell 6).trans rfl)) (zc 6 (.string ((bsA l7))) rfl enter81 _ (fun w' h' => rpt_E k7 z6 hps) (zp 7 (.string ((bsA l7))) ?_)))))))
     refine wx_end fun w19 hbx _ => ?_
     have h20 := HA.keep _ _ h18 hbx
     exact ⟨by kernel_rfl, h20⟩}
    {rintro _ w21 ⟨rfl, h22⟩
     refine then_at rfl (wp_seq (wl_region ?_))
     refine zv (.string ((bsA l7))) (zv (.pointer (some ⟨q1, 7, none⟩)) (zu (iN .i64 oi) (run_load1 (fun w => Try.isAgg3 w) ky (((h22.get 0 rfl).cell 7).trans rfl)) (zu (iN .u64 oi) (run_conv .u64 Try.underlying3 Try.underlying22 ky (by simp only [top]; omega)) (zl (.string ((bsA l8))) h22 enter80 _ (rpn_E k8 z7) (fun w23 h24 => (zv (.string ((bsA l8))) (wl_nil (then_at rfl (wp_seq (wl_region (zv (.string ((bsA l8))) (zv (.pointer (some ⟨q1, 8, none⟩)) (zu (.string on) (run_load1 (fun w => Try.isAgg9 w) ky (((h24.get 0 rfl).cell 8).trans rfl)) (zl (.string ((bsA l9))) h24 enter81 _ (rpt_E k9 z8 hon) (fun w25 h26 => (zv (.string ((bsA l9))) (zv (iN .i64 0) (wl_nil (then_at rfl (wp_ret ?_))))))))))))))))))))
     repeat first|refine tr ?_|refine block_ret ?_
     exact bodyPost_ret (v := .tuple #[.string (bsA l9), iN .i64 0]) ky rfl ⟨rfl, h26.old.old⟩}}}
theorem renc_any {w : World} (x : Bu) :
    Calls Try.prog 40 #[.agg (buC x)] w fun e w' => e = .returned (.tuple #[.string (encA x).1, iN .i64 (encA x).2]) ∧ Below w.heap.size w w' := by
  unfold encA
  rcases h : mayX x with _ | _
  · exact renc_n x h
  · have hM := mayX_iff h
    have h1 := hM.u0; have h2 := hM.d0; have h3 := hM.p0; have h4 := hM.o0; have h5 := hM.u1; have h6 := hM.d1; have h7 := hM.p1; have h8 := hM.o1
    have e := bu_nat hM
    have hsz : (encL x.u.toNat x.d.toNat x.sg x.dh x.pi.toNat x.pr x.ps x.oi.toNat x.on).length ≤ 1000000 := by
      have a1 := hM.sg; have a2 := hM.dh; have a3 := hM.pr; have a4 := hM.ps; have a5 := hM.on
      unfold encL
      simp only [List.length_append, be1, be4, pt_len]
      omega
    have r := renc_y (w := w) x.u.toNat x.d.toNat x.sg x.dh x.pi.toNat x.pr x.ps x.oi.toNat x.on (by rw [← e]; exact h) (by omega) (by omega) (by omega) (by omega) hM.sg hM.dh hM.pr hM.ps hM.on rfl (Nat.le_trans (by unfold encL; simp only [List.length_append, be1, be4, pt_len, List.length_nil]; omega) hsz) rfl (Nat.le_trans (by unfold encL; simp only [List.length_append, be1, be4, pt_len, List.length_nil]; omega) hsz) rfl (Nat.le_trans (by unfold encL; simp only [List.length_append, be1, be4, pt_len, List.length_nil]; omega) hsz) rfl (Nat.le_trans (by unfold encL; simp only [List.length_append, be1, be4, pt_len, List.length_nil]; omega) hsz) rfl (Nat.le_trans (by unfold encL; simp only [List.length_append, be1, be4, pt_len, List.length_nil]; omega) hsz) rfl (Nat.le_trans (by unfold encL; simp only [List.length_append, be1, be4, pt_len, List.length_nil]; omega) hsz) rfl (Nat.le_trans (by unfold encL; simp only [List.length_append, be1, be4, pt_len, List.length_nil]; omega) hsz) rfl (Nat.le_trans (by unfold encL; simp only [List.length_append, be1, be4, pt_len, List.length_nil]; omega) hsz) rfl (Nat.le_trans (by unfold encL; simp only [List.length_append, be1, be4, pt_len, List.length_nil]; omega) hsz)
    rw [show encB x = bsA (encL x.u.toNat x.d.toNat x.sg x.dh x.pi.toNat x.pr x.ps x.oi.toNat x.on) from by
      have := encB_eq x.u.toNat x.d.toNat x.sg x.dh x.pi.toNat x.pr x.ps x.oi.toNat x.on
      rw [← e] at this
      exact this]
    rw [← e] at r
    exact r
namespace Rs
theorem rN_E {z : Base} {L : BL} {w : World} {b : Nat} {s : ByteArray} (H : HA z ((b, 116, #[.string s]) :: L) w) {m : Nat} (h1 : 1 ≤ m) (h8 : m ≤ 8) {x : Nat} {o : Bool} {r : List UInt8} (h : nxn m (bl s) = (x, o, r)) :
    Calls Try.prog 50 #[pt b, iN .i64 m] w fun e w' => e = .returned (.tuple #[iN .u64 x, .bool o]) ∧ ∃ s', bl s' = r ∧ s'.size ≤ s.size ∧ HA z ((b, 116, #[.string s']) :: L) w' := by
  unfold nxn at h
  split at h
  · next hc =>
    obtain ⟨rfl, g⟩ := Prod.mk.inj h
    obtain ⟨rfl, rfl⟩ := Prod.mk.inj g
    rw [bl_len] at hc
    refine (Wi.rNumber_yes w b m s ((H.get 0 rfl).cell 0) ((H.get 0 rfl).free 0 Nat.zero_lt_one) h1 h8 hc).mono ?_
    rintro e w' ⟨rfl, rfl⟩
    refine ⟨rfl, s.extract m s.size, Wi.ext_drop s m, ?_, H.put 0 rfl 0 (.string (s.extract m s.size))⟩
    rw [ByteArray.size_extract]; omega
  · next hc =>
    obtain ⟨rfl, g⟩ := Prod.mk.inj h
    obtain ⟨rfl, rfl⟩ := Prod.mk.inj g
    rw [bl_len] at hc
    refine (Wi.rNumber_no w b m s ((H.get 0 rfl).cell 0) (by omega)).mono ?_
    rintro e w' ⟨rfl, rfl⟩
    exact ⟨rfl, s, rfl, Nat.le_refl _, H⟩
theorem rT_E {z : Base} {L : BL} {w : World} {b : Nat} {s : ByteArray} (hs : s.size ≤ 140737488351232) (H : HA z ((b, 116, #[.string s]) :: L) w) {x : ByteArray} {o : Bool} {r : List UInt8} (h : nxt 16384 (bl s) = (x, o, r)) :
    Calls Try.prog 91 #[pt b, iN .i64 16384] w fun e w' => e = .returned (.tuple #[.string x, .bool o]) ∧ ∃ s', bl s' = r ∧ s'.size ≤ s.size ∧ HA z ((b, 116, #[.string s']) :: L) w' := by
  unfold nxt at h
  split at h
  · next hc =>
    obtain ⟨rfl, g⟩ := Prod.mk.inj h
    obtain ⟨rfl, rfl⟩ := Prod.mk.inj g
    rw [bl_len] at hc
    refine (Wi.rText_yes w b 16384 s ((H.get 0 rfl).cell 0) ((H.get 0 rfl).free 0 Nat.zero_lt_one) hs hc.1 hc.2.1 hc.2.2 (by decide)).mono ?_
    rintro e w' ⟨rfl, rfl⟩
    refine ⟨?_, s.extract (4 + Wi.val (s.data.toList.take 4)) s.size, Wi.ext_drop s _, ?_, H.put 0 rfl 0 (.string (s.extract (4 + Wi.val (s.data.toList.take 4)) s.size))⟩
    · refine congrArg (fun q => Ending.returned (.tuple #[.string q, .bool true])) ?_
      apply ByteArray.ext
      apply Array.ext'
      rw [Wi.ext_mid]
      rfl
    · rw [ByteArray.size_extract]; omega
  · next hc =>
    obtain ⟨rfl, g⟩ := Prod.mk.inj h
    obtain ⟨rfl, rfl⟩ := Prod.mk.inj g
    rw [bl_len] at hc
    refine (Wi.rText_no w b 16384 s ((H.get 0 rfl).cell 0) hs (by decide) (by decide) (show _ ∨ _ ∨ (16384 : Int) < Wi.val ((bl s).take 4) ∨ s.size < 4 + Wi.val ((bl s).take 4) by omega)).mono ?_
    rintro e w' ⟨rfl, rfl⟩
    exact ⟨rfl, s, rfl, Nat.le_refl _, H⟩
end Rs
theorem rNew_h {z : Base} {L : BL} {w : World} (H : HA z L w) (s : ByteArray) :
    Calls Try.prog 49 #[.string s] w fun e w' => ∃ b, e = .returned (pt b) ∧ HA z ((b, 116, #[.string s]) :: L) w' := by
  refine (Wi.rNew_any w s).mono ?_
  rintro e w' ⟨rfl, rfl⟩
  exact ⟨_, rfl, H.make 116 #[.string s]⟩
theorem toB {P : Program} {f : FuncId} {args : Array Value} {w : World} {E : Ending} (h : Calls P f args w fun e w' => e = E ∧ w' = w) : Calls P f args w fun e w' => e = E ∧ Below w.heap.size w w' := h.mono fun _ _ h => ⟨h.1, by rw [h.2]; exact Below.refl _ _⟩
set_option maxHeartbeats 2000000 in
theorem rdb_l {w : World} (s : ByteArray) (hs : s.size ≤ 140737488351232) {u dv pi oi : Nat} {sg dh pr ps on : ByteArray} {o1 o2 o3 o4 o5 o6 o7 o8 o9 : Bool} {r1 r2 r3 r4 r5 r6 r7 r8 r9 : List UInt8} (i1 : Rs.nxn 1 (bl s) = (u, o1, r1)) (i2 : Rs.nxn 1 r1 = (dv, o2, r2)) (i3 : Rs.nxt 16384 r2 = (sg, o3, r3)) (i4 : Rs.nxt 16384 r3 = (dh, o4, r4)) (i5 : Rs.nxn 4 r4 = (pi, o5, r5)) (i6 : Rs.nxt 16384 r5 = (pr, o6, r6)) (i7 : Rs.nxt 16384 r6 = (ps, o7, r7)) (i8 : Rs.nxn 4 r7 = (oi, o8, r8)) (i9 : Rs.nxt 16384 r8 = (on, o9, r9)) {res : Bu × Nat} (hres : (if (((((((((true && o1) && o2) && o3) && o4) && o5) && o6) && o7) && o8) && o9) = true ∧ r9.length = 0 ∧ mayX (mkB u dv sg dh pi pr ps oi on) = true then ((mkB u dv sg dh pi pr ps oi on), 0) else (bu0, 4)) = res) :
    Calls Try.prog 54 #[.string s] w fun e w' => e = .returned (.tuple #[.agg (buC res.1), iN .i64 res.2]) ∧ Below w.heap.size w w' := by
  have H0 := HA.start w
  go_enter Try.func54, Try.ntmps54
  refine wp_seq (wl_region (wl_make (c := #[iN .i64 0, iN .i64 0, .string ({ data := #[] }), .string ({ data := #[] }), iN .i64 0, .string ({ data := #[] }), .string ({ data := #[] }), iN .i64 0, .string ({ data := #[] })]) H0 27 ky ky ?_))
  intro q1 w2 (h3 : HA (bs w) [(q1, 27, #[iN .i64 0, iN .i64 0, .string ({ data := #[] }), .string ({ data := #[] }), iN .i64 0, .string ({ data := #[] }), .string ({ data := #[] }), iN .i64 0, .string ({ data := #[] })])] w2)
  refine zv (iN .i64 0) (wl_nil (then_at rfl (wp_seq (wl_region (zv (.string s) ?_)))))
  refine wl_callx ky enter49 _ ky (rNew_h h3 s) ?_
  rintro _ w6 ⟨b4, rfl, h5⟩
  refine ⟨_, rfl, ?_⟩
  have h7 := h5
  refine zv (.pointer (some ⟨b4, 0, none⟩)) (wl_nil (then_at rfl (wp_seq (wl_region (zv (.pointer (some ⟨b4, 0, none⟩)) ?_)))))
  refine wl_callx ky enter50 _ ky (Rs.rN_E h7 (by decide) (by decide) i1) ?_
  rintro _ w12 ⟨rfl, s8, he9, hl10, h11⟩
  refine ⟨_, rfl, ?_⟩
  have h13 := h11
  have hz14 : s8.size ≤ 140737488351232 := Nat.le_trans hl10 hs
  refine zv (.tuple #[iN .u64 u, .bool o1]) (zv (iN .u64 u) (zv (.bool o1) (zv (iN .u64 u) (zv (.bool o1) (wl_nil (then_at rfl (wp_seq (wl_region (zv (.pointer (some ⟨b4, 0, none⟩)) ?_)))))))))
  refine wl_callx ky enter50 _ ky (Rs.rN_E h13 (by decide) (by decide) (show Rs.nxn 1 (bl s8) = (dv, o2, r2) by rw [he9]; exact i2)) ?_
  rintro _ w19 ⟨rfl, s15, he16, hl17, h18⟩
  refine ⟨_, rfl, ?_⟩
  have h20 := h18
  have hz21 : s15.size ≤ 140737488351232 := Nat.le_trans hl17 hz14
  refine zv (.tuple #[iN .u64 dv, .bool o2]) (zv (iN .u64 dv) (zv (.bool o2) (zv (iN .u64 dv) (zv (.bool o2) (wl_nil (then_at rfl (wp_seq (wl_region (zv (.pointer (some ⟨b4, 0, none⟩)) ?_)))))))))
  refine wl_callx ky enter91 _ ky (Rs.rT_E hz21 h20 (show Rs.nxt 16384 (bl s15) = (sg, o3, r3) by rw [he16]; exact i3)) ?_
  rintro _ w26 ⟨rfl, s22, he23, hl24, h25⟩
  refine ⟨_, rfl, ?_⟩
  have h27 := h25
  have hz28 : s22.size ≤ 140737488351232 := Nat.le_trans hl24 hz21
  refine zv (.tuple #[.string sg, .bool o3]) (zv (.string sg) (zv (.bool o3) (zv (.string sg) (zv (.bool o3) (wl_nil (then_at rfl (wp_seq (wl_region (zv (.pointer (some ⟨b4, 0, none⟩)) ?_)))))))))
  refine wl_callx ky enter91 _ ky (Rs.rT_E hz28 h27 (show Rs.nxt 16384 (bl s22) = (dh, o4, r4) by rw [he23]; exact i4)) ?_
  rintro _ w33 ⟨rfl, s29, he30, hl31, h32⟩
  refine ⟨_, rfl, ?_⟩
  have h34 := h32
  have hz35 : s29.size ≤ 140737488351232 := Nat.le_trans hl31 hz28
  refine zv (.tuple #[.string dh, .bool o4]) (zv (.string dh) (zv (.bool o4) (zv (.string dh) (zv (.bool o4) (wl_nil (then_at rfl (wp_seq (wl_region (zv (.pointer (some ⟨b4, 0, none⟩)) ?_)))))))))
  refine wl_callx ky enter50 _ ky (Rs.rN_E h34 (by decide) (by decide) (show Rs.nxn 4 (bl s29) = (pi, o5, r5) by rw [he30]; exact i5)) ?_
  rintro _ w40 ⟨rfl, s36, he37, hl38, h39⟩
  refine ⟨_, rfl, ?_⟩
  have h41 := h39
  have hz42 : s36.size ≤ 140737488351232 := Nat.le_trans hl38 hz35
  refine zv (.tuple #[iN .u64 pi, .bool o5]) (zv (iN .u64 pi) (zv (.bool o5) (zv (iN .u64 pi) (zv (.bool o5) (wl_nil (then_at rfl (wp_seq (wl_region (zv (.pointer (some ⟨b4, 0, none⟩)) ?_)))))))))
  refine wl_callx ky enter91 _ ky (Rs.rT_E hz42 h41 (show Rs.nxt 16384 (bl s36) = (pr, o6, r6) by rw [he37]; exact i6)) ?_
  rintro _ w47 ⟨rfl, s43, he44, hl45, h46⟩
  refine ⟨_, rfl, ?_⟩
  have h48 := h46
  have hz49 : s43.size ≤ 140737488351232 := Nat.le_trans hl45 hz42
  refine zv (.tuple #[.string pr, .bool o6]) (zv (.string pr) (zv (.bool o6) (zv (.string pr) (zv (.bool o6) (wl_nil (then_at rfl (wp_seq (wl_region (zv (.pointer (some ⟨b4, 0, none⟩)) ?_)))))))))
  refine wl_callx ky enter91 _ ky (Rs.rT_E hz49 h48 (show Rs.nxt 16384 (bl s43) = (ps, o7, r7) by rw [he44]; exact i7)) ?_
  rintro _ w54 ⟨rfl, s50, he51, hl52, h53⟩
  refine ⟨_, rfl, ?_⟩
  have h55 := h53
  have hz56 : s50.size ≤ 140737488351232 := Nat.le_trans hl52 hz49
  refine zv (.tuple #[.string ps, .bool o7]) (zv (.string ps) (zv (.bool o7) (zv (.string ps) (zv (.bool o7) (wl_nil (then_at rfl (wp_seq (wl_region (zv (.pointer (some ⟨b4, 0, none⟩)) ?_)))))))))
  refine wl_callx ky enter50 _ ky (Rs.rN_E h55 (by decide) (by decide) (show Rs.nxn 4 (bl s50) = (oi, o8, r8) by rw [he51]; exact i8)) ?_
  rintro _ w61 ⟨rfl, s57, he58, hl59, h60⟩
  refine ⟨_, rfl, ?_⟩
  have h62 := h60
  have hz63 : s57.size ≤ 140737488351232 := Nat.le_trans hl59 hz56
  refine zv (.tuple #[iN .u64 oi, .bool o8]) (zv (iN .u64 oi) (zv (.bool o8) (zv (iN .u64 oi) (zv (.bool o8) (wl_nil (then_at rfl (wp_seq (wl_region (zv (.pointer (some ⟨b4, 0, none⟩)) ?_)))))))))
  refine wl_callx ky enter91 _ ky (Rs.rT_E hz63 h62 (show Rs.nxt 16384 (bl s57) = (on, o9, r9) by rw [he58]; exact i9)) ?_
  rintro _ w68 ⟨rfl, s64, he65, hl66, h67⟩
  refine ⟨_, rfl, ?_⟩
  have h69 := h67
  have hz70 : s64.size ≤ 140737488351232 := Nat.le_trans hl66 hz63
  refine zv (.tuple #[.string on, .bool o9]) (zv (.string on) (zv (.bool o9) (zv (.string on) (zv (.bool o9) (wl_nil (then_at rfl (wp_seq (wl_region (zv (iN .u64 u) (zu (iN .i64 u) (run_conv .i64 Try.underlying22 Try.underlying3 ky (by simp only [top]; have := Rs.nxn_lt (by decide) i1; have := Rs.nxn_lt (by decide) i2; have := Rs.nxn_lt (by decide) i5; have := Rs.nxn_lt (by decide) i8; omega)) (zv (iN .u64 dv) (zu (iN .i64 dv) (run_conv .i64 Try.underlying22 Try.underlying3 ky (by simp only [top]; have := Rs.nxn_lt (by decide) i1; have := Rs.nxn_lt (by decide) i2; have := Rs.nxn_lt (by decide) i5; have := Rs.nxn_lt (by decide) i8; omega)) (zv (.string sg) (zv (.string dh) (zv (iN .u64 pi) (zu (iN .i64 pi) (run_conv .i64 Try.underlying22 Try.underlying3 ky (by simp only [top]; have := Rs.nxn_lt (by decide) i1; have := Rs.nxn_lt (by decide) i2; have := Rs.nxn_lt (by decide) i5; have := Rs.nxn_lt (by decide) i8; omega)) (zv (.string pr) (zv (.string ps) (zv (iN .u64 oi) (zu (iN .i64 oi) (run_conv .i64 Try.underlying22 Try.underlying3 ky (by simp only [top]; have := Rs.nxn_lt (by decide) i1; have := Rs.nxn_lt (by decide) i2; have := Rs.nxn_lt (by decide) i5; have := Rs.nxn_lt (by decide) i8; omega)) (zv (.string on) (zv (.agg (buC (mkB u dv sg dh pi pr ps oi on))) (wl_make (c := #[iN .i64 0, iN .i64 0, .string ({ data := #[] }), .string ({ data := #[] }), iN .i64 0, .string ({ data := #[] }), .string ({ data := #[] }), iN .i64 0, .string ({ data := #[] })]) h69 27 ky ky ?_)))))))))))))))))))))))
  intro q71 w72 (h73 : HA (bs w) [(q71, 27, #[iN .i64 0, iN .i64 0, .string ({ data := #[] }), .string ({ data := #[] }), iN .i64 0, .string ({ data := #[] }), .string ({ data := #[] }), iN .i64 0, .string ({ data := #[] })]), (b4, 116, #[.string s64]), (q1, 27, #[iN .i64 0, iN .i64 0, .string ({ data := #[] }), .string ({ data := #[] }), iN .i64 0, .string ({ data := #[] }), .string ({ data := #[] }), iN .i64 0, .string ({ data := #[] })])] w72)
  refine wl_fill (c' := buC (mkB u dv sg dh pi pr ps oi on)) h73 0 rfl ky ky ky rfl ky ky (fun w74 h75 => (wl_nil (then_at rfl (wp_seq (wp_seq ?_)))))
  rcases o1 with _ | _
  {refine wl_region (zv (.bool false) (zv (.bool true) (zv (.bool true) (zk (zk (zv (.bool true) (zv (.bool true) (zk (zk (zv (.bool true) (zv (.bool true) (zk (zk (zv (.bool true) (zv (.bool true) (zk (zk (zv (.bool true) (zv (.bool true) (zk (zk (zv (.bool true) (zv (.bool true) ?_)))))))))))))))))))))))
   refine zk (zk (zv (.bool true) (zv (.bool true) (zk (zk (zv (.bool true) (zv (.bool true) (zk (zk (zv (.bool true) (zv (.bool true) (zk (zk (zk (zv (.bool true) (zv (.bool true) (zk (zk (zk (zv (.bool true) (wl_nil (then_at rfl (wp_cond_true ky (wp_seq (wl_region ?_)))))))))))))))))))))))))
   refine zv (.agg (buC bu0)) (wl_fill (c' := buC bu0) h75 2 rfl ky ky ky rfl ky ky (fun w76 h77 => (zv (iN .i64 4) (wl_nil (then_at rfl (wp_ret ?_))))))
   repeat first|refine tr ?_|refine block_ret ?_
   exact bodyPost_ret (v := .tuple #[.agg (buC bu0), iN .i64 4]) (res_cell_tmp (p := 2) (r := 3) ky ky ky (h77.get 2 rfl) Try.underlying27 rfl ky) rfl ⟨by rw [show res = (bu0, 4) from (by rw [← hres, if_neg (by simp)])], h77.old.old⟩}
  {rcases o2 with _ | _
   {refine wl_region (zv (.bool true) (zv (.bool false) (zv (.bool false) (zv (.bool false) (zv (.bool true) (zv (.bool true) (zv (.bool true) (zk (zk (zv (.bool true) (zv (.bool true) (zk (zk (zv (.bool true) (zv (.bool true) (zk (zk (zv (.bool true) (zv (.bool true) (zk (zk (zv (.bool true) (zv (.bool true) ?_)))))))))))))))))))))))
    refine zk (zk (zv (.bool true) (zv (.bool true) (zk (zk (zv (.bool true) (zv (.bool true) (zk (zk (zv (.bool true) (zv (.bool true) (zk (zk (zk (zv (.bool true) (zv (.bool true) (zk (zk (zk (zv (.bool true) (wl_nil (then_at rfl (wp_cond_true ky (wp_seq (wl_region ?_)))))))))))))))))))))))))
    refine zv (.agg (buC bu0)) (wl_fill (c' := buC bu0) h75 2 rfl ky ky ky rfl ky ky (fun w78 h79 => (zv (iN .i64 4) (wl_nil (then_at rfl (wp_ret ?_))))))
    repeat first|refine tr ?_|refine block_ret ?_
    exact bodyPost_ret (v := .tuple #[.agg (buC bu0), iN .i64 4]) (res_cell_tmp (p := 2) (r := 3) ky ky ky (h79.get 2 rfl) Try.underlying27 rfl ky) rfl ⟨by rw [show res = (bu0, 4) from (by rw [← hres, if_neg (by simp)])], h79.old.old⟩}
   {rcases o3 with _ | _
    {refine wl_region (zv (.bool true) (zv (.bool false) (zv (.bool false) (zv (.bool true) (zv (.bool false) (zv (.bool false) (zv (.bool false) (zv (.bool false) (zv (.bool true) (zv (.bool true) (zv (.bool true) (zk (zk (zv (.bool true) (zv (.bool true) (zk (zk (zv (.bool true) (zv (.bool true) (zk (zk (zv (.bool true) (zv (.bool true) ?_)))))))))))))))))))))))
     refine zk (zk (zv (.bool true) (zv (.bool true) (zk (zk (zv (.bool true) (zv (.bool true) (zk (zk (zv (.bool true) (zv (.bool true) (zk (zk (zk (zv (.bool true) (zv (.bool true) (zk (zk (zk (zv (.bool true) (wl_nil (then_at rfl (wp_cond_true ky (wp_seq (wl_region ?_)))))))))))))))))))))))))
     refine zv (.agg (buC bu0)) (wl_fill (c' := buC bu0) h75 2 rfl ky ky ky rfl ky ky (fun w80 h81 => (zv (iN .i64 4) (wl_nil (then_at rfl (wp_ret ?_))))))
     repeat first|refine tr ?_|refine block_ret ?_
     exact bodyPost_ret (v := .tuple #[.agg (buC bu0), iN .i64 4]) (res_cell_tmp (p := 2) (r := 3) ky ky ky (h81.get 2 rfl) Try.underlying27 rfl ky) rfl ⟨by rw [show res = (bu0, 4) from (by rw [← hres, if_neg (by simp)])], h81.old.old⟩}
    {rcases o4 with _ | _
     {refine wl_region (zv (.bool true) (zv (.bool false) (zv (.bool false) (zv (.bool true) (zv (.bool false) (zv (.bool false) (zv (.bool false) (zv (.bool true) (zv (.bool false) (zv (.bool false) (zv (.bool false) (zv (.bool false) (zv (.bool true) (zv (.bool true) (zv (.bool true) (zk (zk (zv (.bool true) (zv (.bool true) (zk (zk (zv (.bool true) (zv (.bool true) ?_)))))))))))))))))))))))
      refine zk (zk (zv (.bool true) (zv (.bool true) (zk (zk (zv (.bool true) (zv (.bool true) (zk (zk (zv (.bool true) (zv (.bool true) (zk (zk (zk (zv (.bool true) (zv (.bool true) (zk (zk (zk (zv (.bool true) (wl_nil (then_at rfl (wp_cond_true ky (wp_seq (wl_region ?_)))))))))))))))))))))))))
      refine zv (.agg (buC bu0)) (wl_fill (c' := buC bu0) h75 2 rfl ky ky ky rfl ky ky (fun w82 h83 => (zv (iN .i64 4) (wl_nil (then_at rfl (wp_ret ?_))))))
      repeat first|refine tr ?_|refine block_ret ?_
      exact bodyPost_ret (v := .tuple #[.agg (buC bu0), iN .i64 4]) (res_cell_tmp (p := 2) (r := 3) ky ky ky (h83.get 2 rfl) Try.underlying27 rfl ky) rfl ⟨by rw [show res = (bu0, 4) from (by rw [← hres, if_neg (by simp)])], h83.old.old⟩}
     {rcases o5 with _ | _
      {refine wl_region (zv (.bool true) (zv (.bool false) (zv (.bool false) (zv (.bool true) (zv (.bool false) (zv (.bool false) (zv (.bool false) (zv (.bool true) (zv (.bool false) (zv (.bool false) (zv (.bool false) (zv (.bool true) (zv (.bool false) (zv (.bool false) (zv (.bool false) (zv (.bool false) (zv (.bool true) (zv (.bool true) (zv (.bool true) (zk (zk (zv (.bool true) (zv (.bool true) ?_)))))))))))))))))))))))
       refine zk (zk (zv (.bool true) (zv (.bool true) (zk (zk (zv (.bool true) (zv (.bool true) (zk (zk (zv (.bool true) (zv (.bool true) (zk (zk (zk (zv (.bool true) (zv (.bool true) (zk (zk (zk (zv (.bool true) (wl_nil (then_at rfl (wp_cond_true ky (wp_seq (wl_region ?_)))))))))))))))))))))))))
       refine zv (.agg (buC bu0)) (wl_fill (c' := buC bu0) h75 2 rfl ky ky ky rfl ky ky (fun w84 h85 => (zv (iN .i64 4) (wl_nil (then_at rfl (wp_ret ?_))))))
       repeat first|refine tr ?_|refine block_ret ?_
       exact bodyPost_ret (v := .tuple #[.agg (buC bu0), iN .i64 4]) (res_cell_tmp (p := 2) (r := 3) ky ky ky (h85.get 2 rfl) Try.underlying27 rfl ky) rfl ⟨by rw [show res = (bu0, 4) from (by rw [← hres, if_neg (by simp)])], h85.old.old⟩}
      {rcases o6 with _ | _
       {refine wl_region (zv (.bool true) (zv (.bool false) (zv (.bool false) (zv (.bool true) (zv (.bool false) (zv (.bool false) (zv (.bool false) (zv (.bool true) (zv (.bool false) (zv (.bool false) (zv (.bool false) (zv (.bool true) (zv (.bool false) (zv (.bool false) (zv (.bool false) (zv (.bool true) (zv (.bool false) (zv (.bool false) (zv (.bool false) (zv (.bool false) (zv (.bool true) (zv (.bool true) (zv (.bool true) ?_)))))))))))))))))))))))
        refine zk (zk (zv (.bool true) (zv (.bool true) (zk (zk (zv (.bool true) (zv (.bool true) (zk (zk (zv (.bool true) (zv (.bool true) (zk (zk (zk (zv (.bool true) (zv (.bool true) (zk (zk (zk (zv (.bool true) (wl_nil (then_at rfl (wp_cond_true ky (wp_seq (wl_region ?_)))))))))))))))))))))))))
        refine zv (.agg (buC bu0)) (wl_fill (c' := buC bu0) h75 2 rfl ky ky ky rfl ky ky (fun w86 h87 => (zv (iN .i64 4) (wl_nil (then_at rfl (wp_ret ?_))))))
        repeat first|refine tr ?_|refine block_ret ?_
        exact bodyPost_ret (v := .tuple #[.agg (buC bu0), iN .i64 4]) (res_cell_tmp (p := 2) (r := 3) ky ky ky (h87.get 2 rfl) Try.underlying27 rfl ky) rfl ⟨by rw [show res = (bu0, 4) from (by rw [← hres, if_neg (by simp)])], h87.old.old⟩}
       {rcases o7 with _ | _
        {refine wl_region (zv (.bool true) (zv (.bool false) (zv (.bool false) (zv (.bool true) (zv (.bool false) (zv (.bool false) (zv (.bool false) (zv (.bool true) (zv (.bool false) (zv (.bool false) (zv (.bool false) (zv (.bool true) (zv (.bool false) (zv (.bool false) (zv (.bool false) (zv (.bool true) (zv (.bool false) (zv (.bool false) (zv (.bool false) (zv (.bool true) (zv (.bool false) (zv (.bool false) (zv (.bool false) ?_)))))))))))))))))))))))
         refine zv (.bool false) (zv (.bool true) (zv (.bool true) (zv (.bool true) (zk (zk (zv (.bool true) (zv (.bool true) (zk (zk (zv (.bool true) (zv (.bool true) (zk (zk (zk (zv (.bool true) (zv (.bool true) (zk (zk (zk (zv (.bool true) (wl_nil (then_at rfl (wp_cond_true ky (wp_seq (wl_region ?_)))))))))))))))))))))))))
         refine zv (.agg (buC bu0)) (wl_fill (c' := buC bu0) h75 2 rfl ky ky ky rfl ky ky (fun w88 h89 => (zv (iN .i64 4) (wl_nil (then_at rfl (wp_ret ?_))))))
         repeat first|refine tr ?_|refine block_ret ?_
         exact bodyPost_ret (v := .tuple #[.agg (buC bu0), iN .i64 4]) (res_cell_tmp (p := 2) (r := 3) ky ky ky (h89.get 2 rfl) Try.underlying27 rfl ky) rfl ⟨by rw [show res = (bu0, 4) from (by rw [← hres, if_neg (by simp)])], h89.old.old⟩}
        {rcases o8 with _ | _
         {refine wl_region (zv (.bool true) (zv (.bool false) (zv (.bool false) (zv (.bool true) (zv (.bool false) (zv (.bool false) (zv (.bool false) (zv (.bool true) (zv (.bool false) (zv (.bool false) (zv (.bool false) (zv (.bool true) (zv (.bool false) (zv (.bool false) (zv (.bool false) (zv (.bool true) (zv (.bool false) (zv (.bool false) (zv (.bool false) (zv (.bool true) (zv (.bool false) (zv (.bool false) (zv (.bool false) ?_)))))))))))))))))))))))
          refine zv (.bool true) (zv (.bool false) (zv (.bool false) (zv (.bool false) (zv (.bool false) (zv (.bool true) (zv (.bool true) (zv (.bool true) (zk (zk (zv (.bool true) (zv (.bool true) (zk (zk (zk (zv (.bool true) (zv (.bool true) (zk (zk (zk (zv (.bool true) (wl_nil (then_at rfl (wp_cond_true ky (wp_seq (wl_region ?_)))))))))))))))))))))))))
          refine zv (.agg (buC bu0)) (wl_fill (c' := buC bu0) h75 2 rfl ky ky ky rfl ky ky (fun w90 h91 => (zv (iN .i64 4) (wl_nil (then_at rfl (wp_ret ?_))))))
          repeat first|refine tr ?_|refine block_ret ?_
          exact bodyPost_ret (v := .tuple #[.agg (buC bu0), iN .i64 4]) (res_cell_tmp (p := 2) (r := 3) ky ky ky (h91.get 2 rfl) Try.underlying27 rfl ky) rfl ⟨by rw [show res = (bu0, 4) from (by rw [← hres, if_neg (by simp)])], h91.old.old⟩}
         {rcases o9 with _ | _
          {refine wl_region (zv (.bool true) (zv (.bool false) (zv (.bool false) (zv (.bool true) (zv (.bool false) (zv (.bool false) (zv (.bool false) (zv (.bool true) (zv (.bool false) (zv (.bool false) (zv (.bool false) (zv (.bool true) (zv (.bool false) (zv (.bool false) (zv (.bool false) (zv (.bool true) (zv (.bool false) (zv (.bool false) (zv (.bool false) (zv (.bool true) (zv (.bool false) (zv (.bool false) (zv (.bool false) ?_)))))))))))))))))))))))
           refine zv (.bool true) (zv (.bool false) (zv (.bool false) (zv (.bool false) (zv (.bool true) (zv (.bool false) (zv (.bool false) (zv (.bool false) (zv (.bool false) (zv (.bool true) (zv (.bool true) (zv (.bool true) (zk (zk (zk (zv (.bool true) (zv (.bool true) (zk (zk (zk (zv (.bool true) (wl_nil (then_at rfl (wp_cond_true ky (wp_seq (wl_region ?_)))))))))))))))))))))))))
           refine zv (.agg (buC bu0)) (wl_fill (c' := buC bu0) h75 2 rfl ky ky ky rfl ky ky (fun w92 h93 => (zv (iN .i64 4) (wl_nil (then_at rfl (wp_ret ?_))))))
           repeat first|refine tr ?_|refine block_ret ?_
           exact bodyPost_ret (v := .tuple #[.agg (buC bu0), iN .i64 4]) (res_cell_tmp (p := 2) (r := 3) ky ky ky (h93.get 2 rfl) Try.underlying27 rfl ky) rfl ⟨by rw [show res = (bu0, 4) from (by rw [← hres, if_neg (by simp)])], h93.old.old⟩}
          {have hcl : s64.size = r9.length := by rw [← he65, bl_len]
           by_cases hl : r9.length = 0
           {rcases hx : mayX (mkB u dv sg dh pi pr ps oi on) with _ | _
            {refine wl_region (zv (.bool true) (zv (.bool false) (zv (.bool false) (zv (.bool true) (zv (.bool false) (zv (.bool false) (zv (.bool false) (zv (.bool true) (zv (.bool false) (zv (.bool false) (zv (.bool false) (zv (.bool true) (zv (.bool false) (zv (.bool false) (zv (.bool false) (zv (.bool true) (zv (.bool false) (zv (.bool false) (zv (.bool false) (zv (.bool true) (zv (.bool false) (zv (.bool false) (zv (.bool false) ?_)))))))))))))))))))))))
             refine zv (.bool true) (zv (.bool false) (zv (.bool false) (zv (.bool false) (zv (.bool true) (zv (.bool false) (zv (.bool false) (zv (.bool false) (zv (.bool true) (zv (.bool false) (zv (.bool false) (zv (.bool false) (zv (.pointer (some ⟨b4, 0, none⟩)) (zl (iN .i64 s64.size) h75 enter92 #[.pointer (some ⟨b4, 0, none⟩)] (toB ((Wi.rLeft_any w74 b4 s64 ((h75.get 1 rfl).cell 0)))) (fun w94 h95 => (zu (.bool false) (run_gtr (k := .i64) (a := s64.size) (b := 0) ky ky false (decide_eq_false (by omega))) (zv (.bool false) (zv (.bool false) (wl_load h95 0 rfl ky ky Try.underlying27 rfl ky (zl (.bool false) h95 enter82 _ (rmay_any (mkB u dv sg dh pi pr ps oi on) hx) (fun w96 h97 => (zv (.bool true) (zv (.bool true) (wl_nil (then_at rfl ?_))))))))))))))))))))))))
             refine wp_cond_true ky (wp_seq (wl_region (zv (.agg (buC bu0)) (wl_fill (c' := buC bu0) h97 2 rfl ky ky ky rfl ky ky (fun w98 h99 => (zv (iN .i64 4) (wl_nil (then_at rfl (wp_ret ?_)))))))))
             repeat first|refine tr ?_|refine block_ret ?_
             exact bodyPost_ret (v := .tuple #[.agg (buC bu0), iN .i64 4]) (res_cell_tmp (p := 2) (r := 3) ky ky ky (h99.get 2 rfl) Try.underlying27 rfl ky) rfl ⟨by rw [show res = (bu0, 4) from (by rw [← hres, if_neg (fun h => by rw [hx] at h; cases h.2.2)])], h99.old.old⟩}
            {refine wl_region (zv (.bool true) (zv (.bool false) (zv (.bool false) (zv (.bool true) (zv (.bool false) (zv (.bool false) (zv (.bool false) (zv (.bool true) (zv (.bool false) (zv (.bool false) (zv (.bool false) (zv (.bool true) (zv (.bool false) (zv (.bool false) (zv (.bool false) (zv (.bool true) (zv (.bool false) (zv (.bool false) (zv (.bool false) (zv (.bool true) (zv (.bool false) (zv (.bool false) (zv (.bool false) ?_)))))))))))))))))))))))
             refine zv (.bool true) (zv (.bool false) (zv (.bool false) (zv (.bool false) (zv (.bool true) (zv (.bool false) (zv (.bool false) (zv (.bool false) (zv (.bool true) (zv (.bool false) (zv (.bool false) (zv (.bool false) (zv (.pointer (some ⟨b4, 0, none⟩)) (zl (iN .i64 s64.size) h75 enter92 #[.pointer (some ⟨b4, 0, none⟩)] (toB ((Wi.rLeft_any w74 b4 s64 ((h75.get 1 rfl).cell 0)))) (fun w100 h101 => (zu (.bool false) (run_gtr (k := .i64) (a := s64.size) (b := 0) ky ky false (decide_eq_false (by omega))) (zv (.bool false) (zv (.bool false) (wl_load h101 0 rfl ky ky Try.underlying27 rfl ky (zl (.bool true) h101 enter82 _ (rmay_any (mkB u dv sg dh pi pr ps oi on) hx) (fun w102 h103 => (zv (.bool false) (zv (.bool false) (wl_nil (then_at rfl ?_))))))))))))))))))))))))
             refine wp_cond_false ky (wp_skip (then_at rfl (wp_seq (wl_region (wl_load h103 0 rfl ky ky Try.underlying27 rfl ky (wl_fill (c' := buC (mkB u dv sg dh pi pr ps oi on)) h103 2 rfl ky ky ky rfl ky ky (fun w104 h105 => (zv (iN .i64 0) (wl_nil (then_at rfl (wp_ret ?_)))))))))))
             repeat first|refine tr ?_|refine block_ret ?_
             exact bodyPost_ret (v := .tuple #[.agg (buC (mkB u dv sg dh pi pr ps oi on)), iN .i64 0]) (res_cell_tmp (p := 2) (r := 3) ky ky ky (h105.get 2 rfl) Try.underlying27 rfl ky) rfl ⟨by rw [show res = ((mkB u dv sg dh pi pr ps oi on), 0) from (by rw [← hres, if_pos ⟨rfl, hl, hx⟩])], h105.old.old⟩}}
           {refine wl_region (zv (.bool true) (zv (.bool false) (zv (.bool false) (zv (.bool true) (zv (.bool false) (zv (.bool false) (zv (.bool false) (zv (.bool true) (zv (.bool false) (zv (.bool false) (zv (.bool false) (zv (.bool true) (zv (.bool false) (zv (.bool false) (zv (.bool false) (zv (.bool true) (zv (.bool false) (zv (.bool false) (zv (.bool false) (zv (.bool true) (zv (.bool false) (zv (.bool false) (zv (.bool false) ?_)))))))))))))))))))))))
            refine zv (.bool true) (zv (.bool false) (zv (.bool false) (zv (.bool false) (zv (.bool true) (zv (.bool false) (zv (.bool false) (zv (.bool false) (zv (.bool true) (zv (.bool false) (zv (.bool false) (zv (.bool false) (zv (.pointer (some ⟨b4, 0, none⟩)) (zl (iN .i64 s64.size) h75 enter92 #[.pointer (some ⟨b4, 0, none⟩)] (toB ((Wi.rLeft_any w74 b4 s64 ((h75.get 1 rfl).cell 0)))) (fun w106 h107 => (zu (.bool true) (run_gtr (k := .i64) (a := s64.size) (b := 0) ky ky true (decide_eq_true (by omega))) (zv (.bool true) (zv (.bool true) (zk (zk (zk (zv (.bool true) (wl_nil (then_at rfl (wp_cond_true ky ?_))))))))))))))))))))))))
            refine wp_seq (wl_region (zv (.agg (buC bu0)) (wl_fill (c' := buC bu0) h107 2 rfl ky ky ky rfl ky ky (fun w108 h109 => (zv (iN .i64 4) (wl_nil (then_at rfl (wp_ret ?_))))))))
            repeat first|refine tr ?_|refine block_ret ?_
            exact bodyPost_ret (v := .tuple #[.agg (buC bu0), iN .i64 4]) (res_cell_tmp (p := 2) (r := 3) ky ky ky (h109.get 2 rfl) Try.underlying27 rfl ky) rfl ⟨by rw [show res = (bu0, 4) from (by rw [← hres, if_neg (fun h => hl h.2.1)])], h109.old.old⟩}}}}}}}}}}
theorem rdec_any {w : World} (s : ByteArray) (hs : s.size ≤ 140737488351232) :
    Calls Try.prog 54 #[.string s] w fun e w' => e = .returned (.tuple #[.agg (buC (decA s).1), iN .i64 (decA s).2]) ∧ Below w.heap.size w w' := by
  obtain ⟨x1, o1, r1, i1⟩ : ∃ x o r, Rs.nxn 1 (bl s) = (x, o, r) := ⟨_, _, _, rfl⟩
  obtain ⟨x2, o2, r2, i2⟩ : ∃ x o r, Rs.nxn 1 r1 = (x, o, r) := ⟨_, _, _, rfl⟩
  obtain ⟨x3, o3, r3, i3⟩ : ∃ x o r, Rs.nxt 16384 r2 = (x, o, r) := ⟨_, _, _, rfl⟩
  obtain ⟨x4, o4, r4, i4⟩ : ∃ x o r, Rs.nxt 16384 r3 = (x, o, r) := ⟨_, _, _, rfl⟩
  obtain ⟨x5, o5, r5, i5⟩ : ∃ x o r, Rs.nxn 4 r4 = (x, o, r) := ⟨_, _, _, rfl⟩
  obtain ⟨x6, o6, r6, i6⟩ : ∃ x o r, Rs.nxt 16384 r5 = (x, o, r) := ⟨_, _, _, rfl⟩
  obtain ⟨x7, o7, r7, i7⟩ : ∃ x o r, Rs.nxt 16384 r6 = (x, o, r) := ⟨_, _, _, rfl⟩
  obtain ⟨x8, o8, r8, i8⟩ : ∃ x o r, Rs.nxn 4 r7 = (x, o, r) := ⟨_, _, _, rfl⟩
  obtain ⟨x9, o9, r9, i9⟩ : ∃ x o r, Rs.nxt 16384 r8 = (x, o, r) := ⟨_, _, _, rfl⟩
  have e : rdB (bl s) = (mkB x1 x2 x3 x4 x5 x6 x7 x8 x9, (((((((((true && o1) && o2) && o3) && o4) && o5) && o6) && o7) && o8) && o9), r9) := by
    unfold rdB
    simp only [i1, i2, i3, i4, i5, i6, i7, i8, i9]
  refine rdb_l s hs i1 i2 i3 i4 i5 i6 i7 i8 i9 ?_
  unfold decA
  rw [e]
end Go.Proofs.Ytiogegoepgkjlaa
