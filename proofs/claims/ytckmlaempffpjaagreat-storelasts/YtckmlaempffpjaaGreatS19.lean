/-
 Do.
-/
import Derived.Test.YtckmlaempffpjaaGreatGK
namespace Go.Proofs.YtckmlaempffpjaaGreat
open Go.RowKit

theorem SH.drop1 {w0 : World} {M : ML} {s : Sk} {S : SS} {x : Nat × TypeId × Array Value} {L : BL} {w : World} (h : SH w0 M s S (x :: L) w) : SH w0 M s S L w := by
 obtain ⟨rs, nx, h1, h2, H⟩ := h
 exact ⟨rs, nx, h1, h2, DH.drop (A := [x]) (by
  obtain ⟨fl, n2, v, Lr, g1, g2, g3, H⟩ := H
  exact ⟨fl, n2, v, Lr, g1, g2, g3, H.perm (List.Perm.cons _ (List.Perm.append_left _ (List.Perm.append_left _ (List.Perm.swap _ _ _))))⟩)⟩
theorem PV.cons {w0 : World} {L : BL} {o : Option Addr} {ps : List Rw} (h : PV w0 L o ps) (x : Nat × TypeId × Array Value) : PV w0 (x :: L) o ps := fun M A w H => h M (A ++ [x]) w (by rw [List.append_assoc]; exact H)
theorem DV.cons {w0 : World} {L : BL} {o : Option Addr} {ds : List ByteArray} (h : DV w0 L o ds) (x : Nat × TypeId × Array Value) : DV w0 (x :: L) o ds := fun M A w H => h M (A ++ [x]) w (by rw [List.append_assoc]; exact H)
/-- what may be is small -/
theorem ref_ok {ps : List Rw} {ds : List ByteArray} (h : refR ps ds = 0) : RB ps 64 ∧ ps.length + ds.length ≤ 64 ∧ (∀ k ∈ keysOf ps ds, k.size ≠ 0 ∧ k.size ≤ 64) := by
 unfold refR at h
 split at h
 ·cases h
 ·rename_i h0
  split at h
  ·cases h
  ·rename_i h1
   have hl : lng (ps.length + ds.length) (keysOf ps ds) = false ∧ lngV ps = false := by
    cases e1 : lng (ps.length + ds.length) (keysOf ps ds) <;> cases e2 : lngV ps <;> simp [e1, e2] at h1 ⊢
   obtain ⟨ha, hb⟩ := hl
   unfold lng at ha
   rw [Bool.or_eq_false_iff] at ha
   have hn := of_decide_eq_false ha.1
   have hk : ∀ k ∈ keysOf ps ds, k.size ≠ 0 ∧ k.size ≤ 64 := fun k hk => by
    have h2 := List.any_eq_false.1 ha.2 k hk
    have h3 : ¬ decide (k.size = 0) = true := fun e => h0 (List.any_eq_true.2 ⟨k, hk, e⟩)
    simp only [decide_eq_true_eq] at h2 h3
    omega
   refine ⟨⟨fun x hx => (hk x.k (by rw [keysOf]; exact List.mem_append_left _ (List.mem_map.2 ⟨x, hx, rfl⟩))).2, fun x hx => ?_, by omega⟩, by omega, hk⟩
   have := List.any_eq_false.1 hb x hx
   simp only [decide_eq_true_eq] at this
   omega
theorem dels_len {ds : List ByteArray} (h : ∀ k ∈ ds, k.size ≤ 64) : (ds.flatMap ptB).length ≤ ds.length * 68 := by
 induction ds with
 | nil => exact Nat.le_refl _
 | cons x l ih =>
  have h1 := ih (fun y hy => h y (.tail _ hy))
  have h2 := h x (.head _)
  rw [List.flatMap_cons, List.length_append, ptB_len, List.length_cons]
  omega
theorem frm_small {ps : List Rw} {ds : List ByteArray} (h : refR ps ds = 0) : (bodyB ps ds).length ≤ 20000000 := by
 obtain ⟨h1, h2, h3⟩ := ref_ok h
 have h4 := laid_le h1
 have h5 := dels_len (ds := ds) (fun k hk => (h3 k (by rw [keysOf]; exact List.mem_append_right _ hk)).2)
 rw [bodyB]
 simp only [List.length_append, Wi.be_length, rows_len]
 omega
theorem frmB_size (ps : List Rw) (ds : List ByteArray) : (frmB ps ds).size = 4 + (bodyB ps ds).length := by
 show (frameB ps ds).toArray.size = _
 rw [List.size_toArray, frameB_len]
set_option linter.unusedVariables false in
set_option maxRecDepth 100000 in
set_option maxHeartbeats 4000000 in
theorem Do_any {w0 : World} {M : ML} {s : Sk} {S : SS} {L : BL} {w : World} (h : SH w0 M s S L w) {R N : Nat} (hg : DG S.D R N) (hN : N ≤ 8000000) {n : Nat} (hr : RB S.rows n) (hn : n ≤ 2000) (hR : R ≤ 300000000) {po do_ : Option Addr} {pc dc : Nat} {ps : List Rw} {ds : List ByteArray} (hPV : PV w0 L po ps) (hDV : DV w0 L do_ ds) (hpl : ps.length ≤ 1000000000) (hdl : ds.length ≤ 1000000000) (hsz : S.size ≤ 1000000000000) :
  Calls Tryz.prog 17 #[pt s.q, .slice po ps.length pc, .slice do_ ds.length dc] w fun e w' => e = .returned (iN .i64 (DoS S ps ds).2) ∧ SH w0 M s (DoS S ps ds).1 L w' := by
 have hnd := h.nodup
 have hpkl := pack_small hnd hr hn hR
 rw [packB_size] at hpkl
 obtain ⟨m, X, hc, rs, nx, hx1, hx2, H0⟩ := h.opn
 go_enter Tryz.func17, Tryz.ntmps17
 refine wp_seq ?_
 refine wl_region ?_
 refine zwv (iN .i64 0) ?_
 refine wl_nil ?_
 refine then_at rfl ?_
 refine wp_seq ?_
 refine wp_seq ?_
 refine wl_region ?_
 refine zwv (.pointer (some ⟨s.q, 0, none⟩)) ?_
 refine wl_call (v := .bool false) H0 (by kernel_rfl) enter47 #[.pointer (some ⟨s.q, 0, none⟩)] (by kernel_rfl) (snone_no (H0.get 0 rfl)) ?_
 intro w1 h2
 refine wl_nil ?_
 refine then_at rfl ?_
 refine wp_cond_false (by kernel_rfl) ?_
 refine wp_skip ?_
 refine then_at rfl ?_
 refine wp_seq ?_
 refine wl_region ?_
 refine zwv (.slice po ps.length pc) ?_
 refine zwv (.slice do_ ds.length dc) ?_
 refine zwv (.agg #[.slice po ps.length pc, .slice do_ ds.length dc]) ?_
 refine wl_make (c := #[.slice none 0 0, .slice none 0 0]) h2 100 (by kernel_rfl) (by kernel_rfl) ?_
 intro q3 w4 (h5 : HA ⟨w0, m :: (s.r, .mp (eR rs) nx) :: M⟩ ((q3, 100, #[.slice none 0 0, .slice none 0 0]) :: (s.q, 73, scell s.d.q s.r ((laidR S.rows)) S.size) :: (L ++ X)) w4)
 refine wl_fill (c' := #[.slice po ps.length pc, .slice do_ ds.length dc]) h5 0 rfl (by kernel_rfl) (by kernel_rfl) (by kernel_rfl) rfl (by kernel_rfl) (by kernel_rfl) ?_
 intro w6 (h7 : HA ⟨w0, m :: (s.r, .mp (eR rs) nx) :: M⟩ ((q3, 100, #[.slice po ps.length pc, .slice do_ ds.length dc]) :: (s.q, 73, scell s.d.q s.r ((laidR S.rows)) S.size) :: (L ++ X)) w6)
 refine wl_nil ?_
 have h8 := h7.perm (List.Perm.swap _ _ _)
 refine then_at rfl ?_
 refine wp_seq ?_
 refine wp_seq ?_
 refine wl_region ?_
 refine wl_load h8 1 rfl (by kernel_rfl) (by kernel_rfl) Tryz.underlying100 rfl (by kernel_rfl) ?_
 refine wl_call (v := iN .i64 (refR ps ds)) h8 (by kernel_rfl) enter51 #[.agg (#[.slice po ps.length pc, .slice do_ ds.length dc])] (by kernel_rfl) (refused_any (PV.more hPV _ [(s.q, 73, scell s.d.q s.r ((laidR S.rows)) S.size), (q3, 100, #[.slice po ps.length pc, .slice do_ ds.length dc])] _ h8) (DV.more hDV _ [(s.q, 73, scell s.d.q s.r ((laidR S.rows)) S.size), (q3, 100, #[.slice po ps.length pc, .slice do_ ds.length dc])] _ h8) hpl hdl) ?_
 intro w9 h10
 refine zwv (iN .i64 (refR ps ds)) ?_
 refine wl_nil ?_
 refine then_at rfl ?_
 refine wp_seq ?_
 by_cases href : refR ps ds ≠ 0
 ·refine wl_region ?_
  refine zwv (iN .i64 (refR ps ds)) ?_
  refine zwx (.bool true) (run_nei (k := .i64) (a := refR ps ds) (b := 0) (by kernel_rfl) (by kernel_rfl) true (decide_eq_true href)) ?_
  refine zwv (.bool true) ?_
  refine wl_skip (by kernel_rfl) ?_
  refine wl_skip (by kernel_rfl) ?_
  refine wl_skip (by kernel_rfl) ?_
  refine zwv (.bool true) ?_
  refine wl_nil ?_
  refine then_at rfl ?_
  refine wp_cond_true (by kernel_rfl) ?_
  refine wp_seq ?_
  refine wl_region ?_
  refine zwv (iN .i64 (refR ps ds)) ?_
  refine zwv (iN .i64 (refR ps ds)) ?_
  refine wl_nil ?_
  refine then_at rfl ?_
  refine wp_ret ?_
  repeat first | refine then_ret ?_ | refine block_ret ?_
  exact bodyPost_ret (v := iN .i64 (refR ps ds)) (by kernel_rfl) rfl (by rw [DoS, if_pos (.inl href)]; exact ⟨rfl, SH.drop1 (hc _ _ ((q3, 100, #[.slice po ps.length pc, .slice do_ ds.length dc]) :: L) _ ⟨_, _, hx1, hx2, h10⟩)⟩)
 ·by_cases hcnt : ps.length + ds.length = 0
  ·refine wl_region ?_
   refine zwv (iN .i64 (refR ps ds)) ?_
   refine zwx (.bool false) (run_nei (k := .i64) (a := refR ps ds) (b := 0) (by kernel_rfl) (by kernel_rfl) false (decide_eq_false href)) ?_
   refine zwv (.bool false) ?_
   refine wl_load h10 1 rfl (by kernel_rfl) (by kernel_rfl) Tryz.underlying100 rfl (by kernel_rfl) ?_
   refine wl_call (v := iN .i64 (ps.length + ds.length)) h10 (by kernel_rfl) enter52 #[.agg (#[.slice po ps.length pc, .slice do_ ds.length dc])] (by kernel_rfl) (count_any hpl hdl w9) ?_
   intro w11 h12
   refine zwx (.bool true) (run_eqi (k := .i64) (a := ps.length + ds.length) (b := 0) (by kernel_rfl) (by kernel_rfl) true (decide_eq_true hcnt)) ?_
   refine zwv (.bool true) ?_
   refine wl_nil ?_
   refine then_at rfl ?_
   refine wp_cond_true (by kernel_rfl) ?_
   refine wp_seq ?_
   refine wl_region ?_
   refine zwv (iN .i64 (refR ps ds)) ?_
   refine zwv (iN .i64 (refR ps ds)) ?_
   refine wl_nil ?_
   refine then_at rfl ?_
   refine wp_ret ?_
   repeat first | refine then_ret ?_ | refine block_ret ?_
   exact bodyPost_ret (v := iN .i64 (refR ps ds)) (by kernel_rfl) rfl (by rw [DoS, if_pos (.inr hcnt)]; exact ⟨rfl, SH.drop1 (hc _ _ ((q3, 100, #[.slice po ps.length pc, .slice do_ ds.length dc]) :: L) _ ⟨_, _, hx1, hx2, h12⟩)⟩)
  ·have hok := ref_ok (Decidable.not_not.1 href)
   have hfs := frm_small (Decidable.not_not.1 href)
   have hgo : ¬ (refR ps ds ≠ 0 ∨ ps.length + ds.length = 0) := fun e => e.elim href hcnt
   refine wl_region ?_
   refine zwv (iN .i64 (refR ps ds)) ?_
   refine zwx (.bool false) (run_nei (k := .i64) (a := refR ps ds) (b := 0) (by kernel_rfl) (by kernel_rfl) false (decide_eq_false href)) ?_
   refine zwv (.bool false) ?_
   refine wl_load h10 1 rfl (by kernel_rfl) (by kernel_rfl) Tryz.underlying100 rfl (by kernel_rfl) ?_
   refine wl_call (v := iN .i64 (ps.length + ds.length)) h10 (by kernel_rfl) enter52 #[.agg (#[.slice po ps.length pc, .slice do_ ds.length dc])] (by kernel_rfl) (count_any hpl hdl w9) ?_
   intro w13 h14
   refine zwx (.bool false) (run_eqi (k := .i64) (a := ps.length + ds.length) (b := 0) (by kernel_rfl) (by kernel_rfl) false (decide_eq_false hcnt)) ?_
   refine zwv (.bool false) ?_
   refine wl_nil ?_
   refine then_at rfl ?_
   refine wp_cond_false (by kernel_rfl) ?_
   refine wp_skip ?_
   refine then_at rfl ?_
   refine wp_seq ?_
   refine wp_seq ?_
   by_cases hpk : 1024 + 2 * (packL S.rows).length < S.size
   ·refine wp_region_sure ⟨(pt s.q :: .slice po ps.length pc :: .slice do_ ds.length dc :: un :: un :: un :: iN .i64 0 :: pt q3 :: iN .i64 (refR ps ds) :: un :: un :: pt s.q :: .bool false :: .slice po ps.length pc :: .slice do_ ds.length dc :: .agg #[.slice po ps.length pc, .slice do_ ds.length dc] :: .agg (#[.slice po ps.length pc, .slice do_ ds.length dc]) :: iN .i64 (refR ps ds) :: iN .i64 (refR ps ds) :: .bool false :: .bool false :: .agg (#[.slice po ps.length pc, .slice do_ ds.length dc]) :: iN .i64 (ps.length + ds.length) :: .bool false :: .bool false :: un :: pt s.q :: pt s.q :: .pointer (some ⟨s.q, 3, none⟩) :: iN .i64 S.size :: pt s.q :: iN .i64 ((packL S.rows).length) :: iN .i64 (2 * ((packL S.rows).length)) :: iN .i64 (1024 + (2 * ((packL S.rows).length))) :: .bool true :: List.replicate 19 un).toArray, []⟩ (HA ⟨w0, m :: (s.r, .mp (eR rs) nx) :: M⟩ ((s.q, 73, scell s.d.q s.r ((laidR S.rows)) S.size) :: (q3, 100, #[.slice po ps.length pc, .slice do_ ds.length dc]) :: (L ++ X))) [.pointer (some ⟨s.q, 0, none⟩), .pointer (some ⟨s.q, 0, none⟩), .pointer (some ⟨s.q, 3, none⟩), iN .i64 S.size, .pointer (some ⟨s.q, 0, none⟩), iN .i64 ((packL S.rows).length), iN .i64 (2 * ((packL S.rows).length)), iN .i64 (1024 + (2 * ((packL S.rows).length))), .bool true] (by kernel_rfl) (by kernel_rfl) (by kernel_rfl) (by kernel_rfl) (fun _ _ _ h => h) h14.drew ?_ ?_
    ·refine AllSure.cons (OpSure.take (v := .pointer (some ⟨s.q, 0, none⟩)) (by kernel_rfl) (by kernel_rfl) (fun _ _ => (by kernel_rfl))) ?_
     refine AllSure.cons (OpSure.take (v := .pointer (some ⟨s.q, 0, none⟩)) (by kernel_rfl) (by kernel_rfl) (fun _ _ => (by kernel_rfl))) ?_
     refine AllSure.cons (OpSure.take (v := .pointer (some ⟨s.q, 3, none⟩)) (by kernel_rfl) (by kernel_rfl) (fun _ _ => (by kernel_rfl))) ?_
     refine AllSure.cons (OpSure.take (v := iN .i64 S.size) (by kernel_rfl) (by kernel_rfl) (fun w' h' => run_load1 (fun w => Tryz.isAgg3 w) (by kernel_rfl) (((h'.get 0 rfl).cell 3).trans rfl))) ?_
     refine AllSure.cons (OpSure.take (v := .pointer (some ⟨s.q, 0, none⟩)) (by kernel_rfl) (by kernel_rfl) (fun _ _ => (by kernel_rfl))) ?_
     refine AllSure.cons (sure_call (v := iN .i64 ((packL S.rows).length)) (by kernel_rfl) (by kernel_rfl) enter53 HA.keep #[.pointer (some ⟨s.q, 0, none⟩)] (by kernel_rfl) (fun w' h' => psize_S (hc _ _ ((q3, 100, #[.slice po ps.length pc, .slice do_ ds.length dc]) :: L) _ ⟨_, _, hx1, hx2, h'⟩) hr (by omega))) ?_
     refine AllSure.cons (OpSure.take (v := iN .i64 (2 * ((packL S.rows).length))) (by kernel_rfl) (by kernel_rfl) (fun _ _ => (run_mul (k := .i64) (a := 2) (b := (packL S.rows).length) (by kernel_rfl) (by kernel_rfl) (by first | omega | (simp only [top]; omega))))) ?_
     refine AllSure.cons (OpSure.take (v := iN .i64 (1024 + (2 * ((packL S.rows).length)))) (by kernel_rfl) (by kernel_rfl) (fun _ _ => (run_add (k := .i64) (a := 1024) (b := 2 * ((packL S.rows).length)) (by kernel_rfl) (by kernel_rfl) (by first | omega | (simp only [top]; omega))))) ?_
     refine AllSure.cons (OpSure.take (v := .bool true) (by kernel_rfl) (by kernel_rfl) (fun _ _ => (run_gtr (k := .i64) (a := S.size) (b := 1024 + (2 * ((packL S.rows).length))) (by kernel_rfl) (by kernel_rfl) true (decide_eq_true hpk)))) ?_
     exact AllSure.nil
    intro w15 h16
    have hpre : preS S = PackS S := if_pos hpk
    refine then_at rfl ?_
    refine wp_cond_true (by kernel_rfl) ?_
    refine wp_seq ?_
    refine wl_region ?_
    refine zwv (.pointer (some ⟨s.q, 0, none⟩)) ?_
    refine wl_callx (by kernel_rfl) enter15 #[.pointer (some ⟨s.q, 0, none⟩)] (by kernel_rfl) (Pack_any (hc _ _ ((q3, 100, #[.slice po ps.length pc, .slice do_ ds.length dc]) :: L) _ ⟨_, _, hx1, hx2, h16⟩) hg (by omega) hr hn hR) ?_
    rintro _ w17 ⟨rfl, hP5⟩
    refine ⟨_, rfl, ?_⟩
    have hgp := hg.packS
    obtain ⟨m18, X18, hc18, rs18, nx18, hrs18, hK18, hH18⟩ := SH.opn hP5
    have h19 : HA ⟨w0, m18 :: (s.r, .mp (eR rs18) nx18) :: M⟩ ((s.q, 73, scell s.d.q s.r ((laidR ((PackS S).1).rows)) (((PackS S).1).size)) :: (q3, 100, #[.slice po ps.length pc, .slice do_ ds.length dc]) :: (L ++ X18)) w17 := hH18
    refine zwv (iN .i64 ((PackS S).2)) ?_
    refine wl_nil ?_
    refine then_at rfl ?_
    refine wp_seq ?_
    by_cases he0 : (PackS S).2 ≠ 0
    ·by_cases he7 : (PackS S).2 ≠ 7
     ·refine wl_region ?_
      refine zwv (iN .i64 ((PackS S).2)) ?_
      refine zwx (.bool true) (run_nei (k := .i64) (a := (PackS S).2) (b := 0) (by kernel_rfl) (by kernel_rfl) true (decide_eq_true he0)) ?_
      refine zwv (.bool true) ?_
      refine zwv (iN .i64 ((PackS S).2)) ?_
      refine zwx (.bool true) (run_nei (k := .i64) (a := (PackS S).2) (b := 7) (by kernel_rfl) (by kernel_rfl) true (decide_eq_true he7)) ?_
      refine zwv (.bool true) ?_
      refine wl_nil ?_
      refine then_at rfl ?_
      refine wp_cond_true (by kernel_rfl) ?_
      refine wp_seq ?_
      refine wl_region ?_
      refine zwv (iN .i64 ((PackS S).2)) ?_
      refine zwv (iN .i64 ((PackS S).2)) ?_
      refine wl_nil ?_
      refine then_at rfl ?_
      refine wp_ret ?_
      repeat first | refine then_ret ?_ | refine block_ret ?_
      exact bodyPost_ret (v := iN .i64 (PackS S).2) (by kernel_rfl) rfl (by rw [DoS, if_neg hgo, if_pos (by rw [hpre]; exact ⟨he0, he7⟩), hpre]; exact ⟨rfl, SH.drop1 (hc18 _ _ ((q3, 100, #[.slice po ps.length pc, .slice do_ ds.length dc]) :: L) _ ⟨_, _, hrs18, hK18, h19⟩)⟩)
     ·have hno : ¬ ((preS S).2 ≠ 0 ∧ (preS S).2 ≠ 7) := by rw [hpre]; exact fun e => he7 e.2
      refine wl_region ?_
      refine zwv (iN .i64 ((PackS S).2)) ?_
      refine zwx (.bool true) (run_nei (k := .i64) (a := (PackS S).2) (b := 0) (by kernel_rfl) (by kernel_rfl) true (decide_eq_true he0)) ?_
      refine zwv (.bool true) ?_
      refine zwv (iN .i64 ((PackS S).2)) ?_
      refine zwx (.bool false) (run_nei (k := .i64) (a := (PackS S).2) (b := 7) (by kernel_rfl) (by kernel_rfl) false (decide_eq_false he7)) ?_
      refine zwv (.bool false) ?_
      refine wl_nil ?_
      refine then_at rfl ?_
      refine wp_cond_false (by kernel_rfl) ?_
      refine wp_skip ?_
      refine then_at rfl ?_
      refine wp_seq ?_
      refine wp_seq ?_
      refine wl_region ?_
      refine zwv (.pointer (some ⟨s.q, 0, none⟩)) ?_
      refine wl_load h19 1 rfl (by kernel_rfl) (by kernel_rfl) Tryz.underlying100 rfl (by kernel_rfl) ?_
      refine wl_call (v := .string (frmB ps ds)) h19 (by kernel_rfl) enter55 #[.agg (#[.slice po ps.length pc, .slice do_ ds.length dc])] (by kernel_rfl) (frame_any (PV.more hPV _ [(s.q, 73, scell s.d.q s.r ((laidR ((PackS S).1).rows)) (((PackS S).1).size)), (q3, 100, #[.slice po ps.length pc, .slice do_ ds.length dc])] _ h19) (DV.more hDV _ [(s.q, 73, scell s.d.q s.r ((laidR ((PackS S).1).rows)) (((PackS S).1).size)), (q3, 100, #[.slice po ps.length pc, .slice do_ ds.length dc])] _ h19) hpl hdl (by omega)) ?_
      intro w20 h21
      refine wl_callx (by kernel_rfl) enter54 #[.pointer (some ⟨s.q, 0, none⟩), .string (frmB ps ds)] (by kernel_rfl) (write_any (S := (PackS S).1) (hc18 _ _ ((q3, 100, #[.slice po ps.length pc, .slice do_ ds.length dc]) :: L) _ ⟨_, _, hrs18, hK18, h21⟩) hgp (by omega) (by rw [Pack_rows]; exact hr) hn hR (frmB ps ds) (by rw [frmB_size]; omega) (Pack_size (pack_small hnd hr hn hR) hsz)) ?_
      rintro _ w22 ⟨rfl, hW5⟩
      refine ⟨_, rfl, ?_⟩
      obtain ⟨m23, X23, hc23, rs23, nx23, hrs23, hK23, hH23⟩ := SH.opn hW5
      have h24 : HA ⟨w0, m23 :: (s.r, .mp (eR rs23) nx23) :: M⟩ ((s.q, 73, scell s.d.q s.r ((laidR ((writeS (PackS S).1 (frmB ps ds)).1).rows)) (((writeS (PackS S).1 (frmB ps ds)).1).size)) :: (q3, 100, #[.slice po ps.length pc, .slice do_ ds.length dc]) :: (L ++ X23)) w22 := hH23
      refine zwv (iN .i64 ((writeS (PackS S).1 (frmB ps ds)).2)) ?_
      refine wl_nil ?_
      refine then_at rfl ?_
      refine wp_seq ?_
      by_cases hwr : (writeS (PackS S).1 (frmB ps ds)).2 ≠ 0
      ·refine wl_region ?_
       refine zwv (iN .i64 ((writeS (PackS S).1 (frmB ps ds)).2)) ?_
       refine zwx (.bool true) (run_nei (k := .i64) (a := (writeS (PackS S).1 (frmB ps ds)).2) (b := 0) (by kernel_rfl) (by kernel_rfl) true (decide_eq_true hwr)) ?_
       refine wl_nil ?_
       refine then_at rfl ?_
       refine wp_cond_true (by kernel_rfl) ?_
       refine wp_seq ?_
       refine wl_region ?_
       refine zwv (iN .i64 ((writeS (PackS S).1 (frmB ps ds)).2)) ?_
       refine zwv (iN .i64 ((writeS (PackS S).1 (frmB ps ds)).2)) ?_
       refine wl_nil ?_
       refine then_at rfl ?_
       refine wp_ret ?_
       repeat first | refine then_ret ?_ | refine block_ret ?_
       exact bodyPost_ret (v := iN .i64 (writeS (PackS S).1 (frmB ps ds)).2) (by kernel_rfl) rfl (by rw [DoS, if_neg hgo, if_neg hno, hpre, chgS, if_pos hwr]; exact ⟨rfl, SH.drop1 (hc23 _ _ ((q3, 100, #[.slice po ps.length pc, .slice do_ ds.length dc]) :: L) _ ⟨_, _, hrs23, hK23, h24⟩)⟩)
      ·refine wl_region ?_
       refine zwv (iN .i64 ((writeS (PackS S).1 (frmB ps ds)).2)) ?_
       refine zwx (.bool false) (run_nei (k := .i64) (a := (writeS (PackS S).1 (frmB ps ds)).2) (b := 0) (by kernel_rfl) (by kernel_rfl) false (decide_eq_false hwr)) ?_
       refine wl_nil ?_
       refine then_at rfl ?_
       refine wp_cond_false (by kernel_rfl) ?_
       refine wp_skip ?_
       refine then_at rfl ?_
       refine wp_seq ?_
       refine wl_region ?_
       refine zwv (.pointer (some ⟨s.q, 0, none⟩)) ?_
       refine wl_load h24 1 rfl (by kernel_rfl) (by kernel_rfl) Tryz.underlying100 rfl (by kernel_rfl) ?_
       refine wl_callx (by kernel_rfl) enter56 #[.pointer (some ⟨s.q, 0, none⟩), .agg (#[.slice po ps.length pc, .slice do_ ds.length dc])] (by kernel_rfl) (apply_S (hc23 _ _ ((q3, 100, #[.slice po ps.length pc, .slice do_ ds.length dc]) :: L) _ ⟨_, _, hrs23, hK23, h24⟩) (hPV.cons (q3, 100, #[.slice po ps.length pc, .slice do_ ds.length dc])) (hDV.cons (q3, 100, #[.slice po ps.length pc, .slice do_ ds.length dc])) (n := n) (by rw [write_rows]; rw [Pack_rows]; exact hr) (by omega) hok.1 (by decide) hdl) ?_
       rintro _ w25 ⟨rfl, hA5⟩
       refine ⟨_, rfl, ?_⟩
       refine wl_nil ?_
       refine then_at rfl ?_
       refine wp_seq ?_
       refine wl_region ?_
       refine zwv (iN .i64 0) ?_
       refine wl_nil ?_
       refine then_at rfl ?_
       refine wp_ret ?_
       repeat first | refine then_ret ?_ | refine block_ret ?_
       exact bodyPost_ret (v := iN .i64 0) (by kernel_rfl) rfl (by rw [DoS, if_neg hgo, if_neg hno, hpre, chgS, if_neg hwr]; exact ⟨rfl, hA5.drop1⟩)
    ·have hno : ¬ ((preS S).2 ≠ 0 ∧ (preS S).2 ≠ 7) := by rw [hpre]; exact fun e => he0 e.1
     refine wl_region ?_
     refine zwv (iN .i64 ((PackS S).2)) ?_
     refine zwx (.bool false) (run_nei (k := .i64) (a := (PackS S).2) (b := 0) (by kernel_rfl) (by kernel_rfl) false (decide_eq_false he0)) ?_
     refine zwv (.bool false) ?_
     refine wl_skip (by kernel_rfl) ?_
     refine wl_skip (by kernel_rfl) ?_
     refine zwv (.bool false) ?_
     refine wl_nil ?_
     refine then_at rfl ?_
     refine wp_cond_false (by kernel_rfl) ?_
     refine wp_skip ?_
     refine then_at rfl ?_
     refine wp_seq ?_
     refine wp_seq ?_
     refine wl_region ?_
     refine zwv (.pointer (some ⟨s.q, 0, none⟩)) ?_
     refine wl_load h19 1 rfl (by kernel_rfl) (by kernel_rfl) Tryz.underlying100 rfl (by kernel_rfl) ?_
     refine wl_call (v := .string (frmB ps ds)) h19 (by kernel_rfl) enter55 #[.agg (#[.slice po ps.length pc, .slice do_ ds.length dc])] (by kernel_rfl) (frame_any (PV.more hPV _ [(s.q, 73, scell s.d.q s.r ((laidR ((PackS S).1).rows)) (((PackS S).1).size)), (q3, 100, #[.slice po ps.length pc, .slice do_ ds.length dc])] _ h19) (DV.more hDV _ [(s.q, 73, scell s.d.q s.r ((laidR ((PackS S).1).rows)) (((PackS S).1).size)), (q3, 100, #[.slice po ps.length pc, .slice do_ ds.length dc])] _ h19) hpl hdl (by omega)) ?_
     intro w26 h27
     refine wl_callx (by kernel_rfl) enter54 #[.pointer (some ⟨s.q, 0, none⟩), .string (frmB ps ds)] (by kernel_rfl) (write_any (S := (PackS S).1) (hc18 _ _ ((q3, 100, #[.slice po ps.length pc, .slice do_ ds.length dc]) :: L) _ ⟨_, _, hrs18, hK18, h27⟩) hgp (by omega) (by rw [Pack_rows]; exact hr) hn hR (frmB ps ds) (by rw [frmB_size]; omega) (Pack_size (pack_small hnd hr hn hR) hsz)) ?_
     rintro _ w28 ⟨rfl, hW5⟩
     refine ⟨_, rfl, ?_⟩
     obtain ⟨m29, X29, hc29, rs29, nx29, hrs29, hK29, hH29⟩ := SH.opn hW5
     have h30 : HA ⟨w0, m29 :: (s.r, .mp (eR rs29) nx29) :: M⟩ ((s.q, 73, scell s.d.q s.r ((laidR ((writeS (PackS S).1 (frmB ps ds)).1).rows)) (((writeS (PackS S).1 (frmB ps ds)).1).size)) :: (q3, 100, #[.slice po ps.length pc, .slice do_ ds.length dc]) :: (L ++ X29)) w28 := hH29
     refine zwv (iN .i64 ((writeS (PackS S).1 (frmB ps ds)).2)) ?_
     refine wl_nil ?_
     refine then_at rfl ?_
     refine wp_seq ?_
     by_cases hwr : (writeS (PackS S).1 (frmB ps ds)).2 ≠ 0
     ·refine wl_region ?_
      refine zwv (iN .i64 ((writeS (PackS S).1 (frmB ps ds)).2)) ?_
      refine zwx (.bool true) (run_nei (k := .i64) (a := (writeS (PackS S).1 (frmB ps ds)).2) (b := 0) (by kernel_rfl) (by kernel_rfl) true (decide_eq_true hwr)) ?_
      refine wl_nil ?_
      refine then_at rfl ?_
      refine wp_cond_true (by kernel_rfl) ?_
      refine wp_seq ?_
      refine wl_region ?_
      refine zwv (iN .i64 ((writeS (PackS S).1 (frmB ps ds)).2)) ?_
      refine zwv (iN .i64 ((writeS (PackS S).1 (frmB ps ds)).2)) ?_
      refine wl_nil ?_
      refine then_at rfl ?_
      refine wp_ret ?_
      repeat first | refine then_ret ?_ | refine block_ret ?_
      exact bodyPost_ret (v := iN .i64 (writeS (PackS S).1 (frmB ps ds)).2) (by kernel_rfl) rfl (by rw [DoS, if_neg hgo, if_neg hno, hpre, chgS, if_pos hwr]; exact ⟨rfl, SH.drop1 (hc29 _ _ ((q3, 100, #[.slice po ps.length pc, .slice do_ ds.length dc]) :: L) _ ⟨_, _, hrs29, hK29, h30⟩)⟩)
     ·refine wl_region ?_
      refine zwv (iN .i64 ((writeS (PackS S).1 (frmB ps ds)).2)) ?_
      refine zwx (.bool false) (run_nei (k := .i64) (a := (writeS (PackS S).1 (frmB ps ds)).2) (b := 0) (by kernel_rfl) (by kernel_rfl) false (decide_eq_false hwr)) ?_
      refine wl_nil ?_
      refine then_at (F := ⟨(pt s.q :: .slice po ps.length pc :: .slice do_ ds.length dc :: un :: un :: un :: iN .i64 0 :: pt q3 :: iN .i64 (refR ps ds) :: iN .i64 ((PackS S).2) :: iN .i64 ((writeS (PackS S).1 (frmB ps ds)).2) :: pt s.q :: .bool false :: .slice po ps.length pc :: .slice do_ ds.length dc :: .agg #[.slice po ps.length pc, .slice do_ ds.length dc] :: .agg (#[.slice po ps.length pc, .slice do_ ds.length dc]) :: iN .i64 (refR ps ds) :: iN .i64 (refR ps ds) :: .bool false :: .bool false :: .agg (#[.slice po ps.length pc, .slice do_ ds.length dc]) :: iN .i64 (ps.length + ds.length) :: .bool false :: .bool false :: un :: pt s.q :: pt s.q :: .pointer (some ⟨s.q, 3, none⟩) :: iN .i64 S.size :: pt s.q :: iN .i64 ((packL S.rows).length) :: iN .i64 (2 * ((packL S.rows).length)) :: iN .i64 (1024 + (2 * ((packL S.rows).length))) :: .bool true :: pt s.q :: iN .i64 ((PackS S).2) :: iN .i64 ((PackS S).2) :: .bool false :: .bool false :: un :: un :: .bool false :: un :: pt s.q :: .agg (#[.slice po ps.length pc, .slice do_ ds.length dc]) :: .string (frmB ps ds) :: iN .i64 ((writeS (PackS S).1 (frmB ps ds)).2) :: iN .i64 ((writeS (PackS S).1 (frmB ps ds)).2) :: .bool false :: List.replicate 4 un).toArray, []⟩) (by kernel_rfl) ?_
      refine wp_cond_false (by kernel_rfl) ?_
      refine wp_skip ?_
      refine then_at rfl ?_
      refine wp_seq ?_
      refine wl_region ?_
      refine zwv (.pointer (some ⟨s.q, 0, none⟩)) ?_
      refine wl_load h30 1 rfl (by kernel_rfl) (by kernel_rfl) Tryz.underlying100 rfl (by kernel_rfl) ?_
      refine wl_callx (by kernel_rfl) enter56 #[.pointer (some ⟨s.q, 0, none⟩), .agg (#[.slice po ps.length pc, .slice do_ ds.length dc])] (by kernel_rfl) (apply_S (hc29 _ _ ((q3, 100, #[.slice po ps.length pc, .slice do_ ds.length dc]) :: L) _ ⟨_, _, hrs29, hK29, h30⟩) (hPV.cons (q3, 100, #[.slice po ps.length pc, .slice do_ ds.length dc])) (hDV.cons (q3, 100, #[.slice po ps.length pc, .slice do_ ds.length dc])) (n := n) (by rw [write_rows]; rw [Pack_rows]; exact hr) (by omega) hok.1 (by decide) hdl) ?_
      rintro _ w31 ⟨rfl, hA5⟩
      refine ⟨_, rfl, ?_⟩
      refine wl_nil ?_
      refine then_at rfl ?_
      refine wp_seq ?_
      refine wl_region ?_
      refine zwv (iN .i64 0) ?_
      refine wl_nil ?_
      refine then_at rfl ?_
      refine wp_ret ?_
      repeat first | refine then_ret ?_ | refine block_ret ?_
      exact bodyPost_ret (v := iN .i64 0) (by kernel_rfl) rfl (by rw [DoS, if_neg hgo, if_neg hno, hpre, chgS, if_neg hwr]; exact ⟨rfl, hA5.drop1⟩)
   ·refine wp_region_sure ⟨(pt s.q :: .slice po ps.length pc :: .slice do_ ds.length dc :: un :: un :: un :: iN .i64 0 :: pt q3 :: iN .i64 (refR ps ds) :: un :: un :: pt s.q :: .bool false :: .slice po ps.length pc :: .slice do_ ds.length dc :: .agg #[.slice po ps.length pc, .slice do_ ds.length dc] :: .agg (#[.slice po ps.length pc, .slice do_ ds.length dc]) :: iN .i64 (refR ps ds) :: iN .i64 (refR ps ds) :: .bool false :: .bool false :: .agg (#[.slice po ps.length pc, .slice do_ ds.length dc]) :: iN .i64 (ps.length + ds.length) :: .bool false :: .bool false :: un :: pt s.q :: pt s.q :: .pointer (some ⟨s.q, 3, none⟩) :: iN .i64 S.size :: pt s.q :: iN .i64 ((packL S.rows).length) :: iN .i64 (2 * ((packL S.rows).length)) :: iN .i64 (1024 + (2 * ((packL S.rows).length))) :: .bool false :: List.replicate 19 un).toArray, []⟩ (HA ⟨w0, m :: (s.r, .mp (eR rs) nx) :: M⟩ ((s.q, 73, scell s.d.q s.r ((laidR S.rows)) S.size) :: (q3, 100, #[.slice po ps.length pc, .slice do_ ds.length dc]) :: (L ++ X))) [.pointer (some ⟨s.q, 0, none⟩), .pointer (some ⟨s.q, 0, none⟩), .pointer (some ⟨s.q, 3, none⟩), iN .i64 S.size, .pointer (some ⟨s.q, 0, none⟩), iN .i64 ((packL S.rows).length), iN .i64 (2 * ((packL S.rows).length)), iN .i64 (1024 + (2 * ((packL S.rows).length))), .bool false] (by kernel_rfl) (by kernel_rfl) (by kernel_rfl) (by kernel_rfl) (fun _ _ _ h => h) h14.drew ?_ ?_
    ·refine AllSure.cons (OpSure.take (v := .pointer (some ⟨s.q, 0, none⟩)) (by kernel_rfl) (by kernel_rfl) (fun _ _ => (by kernel_rfl))) ?_
     refine AllSure.cons (OpSure.take (v := .pointer (some ⟨s.q, 0, none⟩)) (by kernel_rfl) (by kernel_rfl) (fun _ _ => (by kernel_rfl))) ?_
     refine AllSure.cons (OpSure.take (v := .pointer (some ⟨s.q, 3, none⟩)) (by kernel_rfl) (by kernel_rfl) (fun _ _ => (by kernel_rfl))) ?_
     refine AllSure.cons (OpSure.take (v := iN .i64 S.size) (by kernel_rfl) (by kernel_rfl) (fun w' h' => run_load1 (fun w => Tryz.isAgg3 w) (by kernel_rfl) (((h'.get 0 rfl).cell 3).trans rfl))) ?_
     refine AllSure.cons (OpSure.take (v := .pointer (some ⟨s.q, 0, none⟩)) (by kernel_rfl) (by kernel_rfl) (fun _ _ => (by kernel_rfl))) ?_
     refine AllSure.cons (sure_call (v := iN .i64 ((packL S.rows).length)) (by kernel_rfl) (by kernel_rfl) enter53 HA.keep #[.pointer (some ⟨s.q, 0, none⟩)] (by kernel_rfl) (fun w' h' => psize_S (hc _ _ ((q3, 100, #[.slice po ps.length pc, .slice do_ ds.length dc]) :: L) _ ⟨_, _, hx1, hx2, h'⟩) hr (by omega))) ?_
     refine AllSure.cons (OpSure.take (v := iN .i64 (2 * ((packL S.rows).length))) (by kernel_rfl) (by kernel_rfl) (fun _ _ => (run_mul (k := .i64) (a := 2) (b := (packL S.rows).length) (by kernel_rfl) (by kernel_rfl) (by first | omega | (simp only [top]; omega))))) ?_
     refine AllSure.cons (OpSure.take (v := iN .i64 (1024 + (2 * ((packL S.rows).length)))) (by kernel_rfl) (by kernel_rfl) (fun _ _ => (run_add (k := .i64) (a := 1024) (b := 2 * ((packL S.rows).length)) (by kernel_rfl) (by kernel_rfl) (by first | omega | (simp only [top]; omega))))) ?_
     refine AllSure.cons (OpSure.take (v := .bool false) (by kernel_rfl) (by kernel_rfl) (fun _ _ => (run_gtr (k := .i64) (a := S.size) (b := 1024 + (2 * ((packL S.rows).length))) (by kernel_rfl) (by kernel_rfl) false (decide_eq_false hpk)))) ?_
     exact AllSure.nil
    intro w32 h33
    have hpre : preS S = (S, 0) := if_neg hpk
    refine then_at rfl ?_
    refine wp_cond_false (by kernel_rfl) ?_
    refine wp_skip ?_
    refine then_at rfl ?_
    refine wp_seq ?_
    refine wp_seq ?_
    refine wl_region ?_
    refine zwv (.pointer (some ⟨s.q, 0, none⟩)) ?_
    refine wl_load h33 1 rfl (by kernel_rfl) (by kernel_rfl) Tryz.underlying100 rfl (by kernel_rfl) ?_
    refine wl_call (v := .string (frmB ps ds)) h33 (by kernel_rfl) enter55 #[.agg (#[.slice po ps.length pc, .slice do_ ds.length dc])] (by kernel_rfl) (frame_any (PV.more hPV _ [(s.q, 73, scell s.d.q s.r ((laidR S.rows)) S.size), (q3, 100, #[.slice po ps.length pc, .slice do_ ds.length dc])] _ h33) (DV.more hDV _ [(s.q, 73, scell s.d.q s.r ((laidR S.rows)) S.size), (q3, 100, #[.slice po ps.length pc, .slice do_ ds.length dc])] _ h33) hpl hdl (by omega)) ?_
    intro w34 h35
    refine wl_callx (by kernel_rfl) enter54 #[.pointer (some ⟨s.q, 0, none⟩), .string (frmB ps ds)] (by kernel_rfl) (write_any (S := S) (hc _ _ ((q3, 100, #[.slice po ps.length pc, .slice do_ ds.length dc]) :: L) _ ⟨_, _, hx1, hx2, h35⟩) hg (by omega) (by exact hr) hn hR (frmB ps ds) (by rw [frmB_size]; omega) (hsz)) ?_
    rintro _ w36 ⟨rfl, hW5⟩
    refine ⟨_, rfl, ?_⟩
    obtain ⟨m37, X37, hc37, rs37, nx37, hrs37, hK37, hH37⟩ := SH.opn hW5
    have h38 : HA ⟨w0, m37 :: (s.r, .mp (eR rs37) nx37) :: M⟩ ((s.q, 73, scell s.d.q s.r ((laidR ((writeS S (frmB ps ds)).1).rows)) (((writeS S (frmB ps ds)).1).size)) :: (q3, 100, #[.slice po ps.length pc, .slice do_ ds.length dc]) :: (L ++ X37)) w36 := hH37
    refine zwv (iN .i64 ((writeS S (frmB ps ds)).2)) ?_
    refine wl_nil ?_
    refine then_at rfl ?_
    refine wp_seq ?_
    have hno : ¬ ((preS S).2 ≠ 0 ∧ (preS S).2 ≠ 7) := by rw [hpre]; exact fun e => e.1 rfl
    by_cases hwr : (writeS S (frmB ps ds)).2 ≠ 0
    ·refine wl_region ?_
     refine zwv (iN .i64 ((writeS S (frmB ps ds)).2)) ?_
     refine zwx (.bool true) (run_nei (k := .i64) (a := (writeS S (frmB ps ds)).2) (b := 0) (by kernel_rfl) (by kernel_rfl) true (decide_eq_true hwr)) ?_
     refine wl_nil ?_
     refine then_at rfl ?_
     refine wp_cond_true (by kernel_rfl) ?_
     refine wp_seq ?_
     refine wl_region ?_
     refine zwv (iN .i64 ((writeS S (frmB ps ds)).2)) ?_
     refine zwv (iN .i64 ((writeS S (frmB ps ds)).2)) ?_
     refine wl_nil ?_
     refine then_at rfl ?_
     refine wp_ret ?_
     repeat first | refine then_ret ?_ | refine block_ret ?_
     exact bodyPost_ret (v := iN .i64 (writeS S (frmB ps ds)).2) (by kernel_rfl) rfl (by rw [DoS, if_neg hgo, if_neg hno, hpre, chgS, if_pos hwr]; exact ⟨rfl, SH.drop1 (hc37 _ _ ((q3, 100, #[.slice po ps.length pc, .slice do_ ds.length dc]) :: L) _ ⟨_, _, hrs37, hK37, h38⟩)⟩)
    ·refine wl_region ?_
     refine zwv (iN .i64 ((writeS S (frmB ps ds)).2)) ?_
     refine zwx (.bool false) (run_nei (k := .i64) (a := (writeS S (frmB ps ds)).2) (b := 0) (by kernel_rfl) (by kernel_rfl) false (decide_eq_false hwr)) ?_
     refine wl_nil ?_
     refine then_at rfl ?_
     refine wp_cond_false (by kernel_rfl) ?_
     refine wp_skip ?_
     refine then_at rfl ?_
     refine wp_seq ?_
     refine wl_region ?_
     refine zwv (.pointer (some ⟨s.q, 0, none⟩)) ?_
     refine wl_load h38 1 rfl (by kernel_rfl) (by kernel_rfl) Tryz.underlying100 rfl (by kernel_rfl) ?_
     refine wl_callx (by kernel_rfl) enter56 #[.pointer (some ⟨s.q, 0, none⟩), .agg (#[.slice po ps.length pc, .slice do_ ds.length dc])] (by kernel_rfl) (apply_S (hc37 _ _ ((q3, 100, #[.slice po ps.length pc, .slice do_ ds.length dc]) :: L) _ ⟨_, _, hrs37, hK37, h38⟩) (hPV.cons (q3, 100, #[.slice po ps.length pc, .slice do_ ds.length dc])) (hDV.cons (q3, 100, #[.slice po ps.length pc, .slice do_ ds.length dc])) (n := n) (by rw [write_rows]; exact hr) (by omega) hok.1 (by decide) hdl) ?_
     rintro _ w39 ⟨rfl, hA5⟩
     refine ⟨_, rfl, ?_⟩
     refine wl_nil ?_
     refine then_at rfl ?_
     refine wp_seq ?_
     refine wl_region ?_
     refine zwv (iN .i64 0) ?_
     refine wl_nil ?_
     refine then_at rfl ?_
     refine wp_ret ?_
     repeat first | refine then_ret ?_ | refine block_ret ?_
     exact bodyPost_ret (v := iN .i64 0) (by kernel_rfl) rfl (by rw [DoS, if_neg hgo, if_neg hno, hpre, chgS, if_neg hwr]; exact ⟨rfl, hA5.drop1⟩)
end Go.Proofs.YtckmlaempffpjaaGreat
