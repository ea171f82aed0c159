/-
 Open.
-/
import Derived.Test.YtckmlaempffpjaaGreatS20
namespace Go.Proofs.YtckmlaempffpjaaGreat
open Go.RowKit

theorem HA.permM {w0 : World} {M M' : ML} {L : BL} {w : World} (h : HA ⟨w0, M⟩ L w) (hp : M.Perm M') : HA ⟨w0, M'⟩ L w :=
 ⟨⟨h.old.old, fun m hm => h.old.maps m (hp.symm.subset hm), fun m hm => h.old.mown m (hp.symm.subset hm), (hp.map _).nodup_iff.1 h.old.mnd⟩, h.blk, h.own, h.nd⟩
theorem HA.subM {w0 : World} {M M' : ML} {L : BL} {w : World} (h : HA ⟨w0, M⟩ L w) (hp : M'.Sublist M) : HA ⟨w0, M'⟩ L w :=
 ⟨⟨h.old.old, fun m hm => h.old.maps m (hp.subset hm), fun m hm => h.old.mown m (hp.subset hm), (hp.map _).nodup h.old.mnd⟩, h.blk, h.own, h.nd⟩
theorem DH.subM {w0 : World} {M M' : ML} {d : Dk} {D : DS} {L : BL} {w : World} (h : DH w0 M d D L w) (hp : M'.Sublist M) : DH w0 M' d D L w := by
 obtain ⟨fl, nx, v, Lr, h1, h2, h3, H⟩ := h
 exact ⟨fl, nx, v, Lr, h1, h2, h3, H.subM (List.Sublist.cons_cons _ hp)⟩
/-- the disk of a store that is given up -/
theorem SH.disk {w0 : World} {M : ML} {s : Sk} {S : SS} {L : BL} {w : World} (h : SH w0 M s S L w) : DH w0 M s.d S.D L w := by
 obtain ⟨rs, nx, h1, h2, H⟩ := h
 exact (DH.drop (A := [_]) H).subM (List.sublist_cons_self _ _)
def lgD (D : DS) : ByteArray := (readD D nS).1
def rawS (D : DS) : SS := ⟨D, (rplB (lgD D)).1, (lgD D).size - (rplB (lgD D)).2.1.length⟩
/-- what Open does: the store, or why there is none, and the disk -/
def opnS (D : DS) : SS × Nat :=
 if (readD D nS).2 ≠ 0 ∧ (readD D nS).2 ≠ 5 then (⟨D, [], 0⟩, (readD D nS).2)
 else if (rplB (lgD D)).2.2 = false then (⟨D, [], 0⟩, 4)
 else if (rawS D).size < (lgD D).size then layS (rawS D) ((lgD D).extract 0 (rawS D).size)
 else (rawS D, 0)
theorem DG.opnS {D : DS} {R N : Nat} (h : DG D R N) : DG (opnS D).1.D R (N + 4) := by
 unfold YtckmlaempffpjaaGreat.opnS
 split
 ·exact h.mono (by omega)
 ·split
  ·exact h.mono (by omega)
  ·split
   ·exact DG.lay (D := (rawS D).D) h _
   ·exact h.mono (by omega)
set_option linter.unusedVariables false in
set_option maxRecDepth 100000 in
set_option maxHeartbeats 4000000 in
theorem Open_any {w0 : World} {M : ML} {d : Dk} {D : DS} {L : BL} {w : World} (hD : DH w0 M d D L w) {R N : Nat} (hg : DG D R N) (hN : N ≤ 10000000) (hR : R ≤ 300000000) (hlg : (lgD D).size ≤ 600000000) :
  Calls Tryz.prog 13 #[pt d.q] w fun e w' => ((opnS D).2 = 0 ∧ ∃ s : Sk, s.d = d ∧ e = .returned (.tuple #[pt s.q, iN .i64 0]) ∧ SH w0 M s (opnS D).1 L w') ∨ ((opnS D).2 ≠ 0 ∧ e = .returned (.tuple #[.pointer none, iN .i64 (opnS D).2]) ∧ DH w0 M d (opnS D).1.D L w') := by
 obtain ⟨m, X, hcl, H0⟩ := DH.open2 hD
 have hrs : (rawS D).size = (lgD D).size - (rplB (lgD D)).2.1.length := rfl
 go_enter Tryz.func13, Tryz.ntmps13
 refine wp_seq ?_
 refine wl_region ?_
 refine zwv (.pointer none) ?_
 refine zwv (iN .i64 0) ?_
 refine wl_nil ?_
 refine then_at rfl ?_
 refine wp_seq ?_
 refine wl_region ?_
 refine zwv (.pointer (some ⟨d.q, 0, none⟩)) ?_
 refine wl_call (v := .tuple #[.string (lgD D), iN .i64 ((readD D nS).2)]) H0 (by kernel_rfl) enter22 #[.pointer (some ⟨d.q, 0, none⟩), .string nS] (by kernel_rfl) (Read_any (hcl M L _ H0) nS) ?_
 intro w1 h2
 refine zwv (.tuple #[.string (lgD D), iN .i64 ((readD D nS).2)]) ?_
 refine zwv (.string (lgD D)) ?_
 refine zwv (iN .i64 ((readD D nS).2)) ?_
 refine zwv (.string (lgD D)) ?_
 refine zwv (iN .i64 ((readD D nS).2)) ?_
 refine wl_nil ?_
 refine then_at rfl ?_
 refine wp_seq ?_
 refine wp_seq ?_
 by_cases he0 : (readD D nS).2 ≠ 0
 ·by_cases he5 : (readD D nS).2 ≠ 5
  ·refine wl_region ?_
   refine zwv (iN .i64 ((readD D nS).2)) ?_
   refine zwx (.bool true) (run_nei (k := .i64) (a := (readD D nS).2) (b := 0) (by kernel_rfl) (by kernel_rfl) true (decide_eq_true he0)) ?_
   refine zwv (.bool true) ?_
   refine zwv (iN .i64 ((readD D nS).2)) ?_
   refine zwx (.bool true) (run_nei (k := .i64) (a := (readD D nS).2) (b := 5) (by kernel_rfl) (by kernel_rfl) true (decide_eq_true he5)) ?_
   refine zwv (.bool true) ?_
   refine wl_nil ?_
   refine then_at rfl ?_
   refine wp_cond_true (by kernel_rfl) ?_
   refine wp_seq ?_
   refine wl_region ?_
   refine zwv (iN .i64 ((readD D nS).2)) ?_
   refine zwv (.pointer none) ?_
   refine zwv (iN .i64 ((readD D nS).2)) ?_
   refine wl_nil ?_
   refine then_at rfl ?_
   refine wp_ret ?_
   repeat first | refine then_ret ?_ | refine block_ret ?_
   exact bodyPost_ret (v := .tuple #[.pointer none, iN .i64 (readD D nS).2]) (by kernel_rfl) rfl (by rw [opnS, if_pos ⟨he0, he5⟩]; exact .inr ⟨he0, rfl, hcl M L _ h2⟩)
  ·have hrd : ¬ ((readD D nS).2 ≠ 0 ∧ (readD D nS).2 ≠ 5) := fun e => he5 e.2
   refine wl_region ?_
   refine zwv (iN .i64 ((readD D nS).2)) ?_
   refine zwx (.bool true) (run_nei (k := .i64) (a := (readD D nS).2) (b := 0) (by kernel_rfl) (by kernel_rfl) true (decide_eq_true he0)) ?_
   refine zwv (.bool true) ?_
   refine zwv (iN .i64 ((readD D nS).2)) ?_
   refine zwx (.bool false) (run_nei (k := .i64) (a := (readD D nS).2) (b := 5) (by kernel_rfl) (by kernel_rfl) false (decide_eq_false he5)) ?_
   refine zwv (.bool false) ?_
   refine wl_nil ?_
   refine then_at rfl ?_
   refine wp_cond_false (by kernel_rfl) ?_
   refine wp_skip ?_
   refine then_at rfl ?_
   refine wp_seq ?_
   refine wl_region ?_
   refine zwv (.pointer (some ⟨d.q, 0, none⟩)) ?_
   refine wl_newMap h2 (by kernel_rfl) ?_
   intro r w3 h4
   have h5 : HA ⟨w0, m :: (r, .mp #[] 0) :: M⟩ ((L ++ X)) w3 := h4.permM (List.Perm.swap _ _ _)
   refine zwv (.agg #[.pointer (some ⟨d.q, 0, none⟩), .map (some r), iN .i64 0, iN .i64 0]) ?_
   refine wl_make (c := #[.pointer (some ⟨d.q, 0, none⟩), .map (some r), iN .i64 0, iN .i64 0]) h5 73 (by kernel_rfl) (by kernel_rfl) ?_
   intro q6 w7 (h8 : HA ⟨w0, m :: (r, .mp #[] 0) :: M⟩ ((q6, 73, #[.pointer (some ⟨d.q, 0, none⟩), .map (some r), iN .i64 0, iN .i64 0]) :: (L ++ X)) w7)
   refine zwv (.pointer (some ⟨q6, 0, none⟩)) ?_
   refine wl_nil ?_
   refine then_at rfl ?_
   refine wp_seq ?_
   refine wp_seq ?_
   cases hok : (rplB (lgD D)).2.2
   ·refine wl_region ?_
    refine zwv (.pointer (some ⟨q6, 0, none⟩)) ?_
    refine zwv (.string (lgD D)) ?_
    refine wl_callx (by kernel_rfl) enter44 #[.pointer (some ⟨q6, 0, none⟩), .string (lgD D)] (by kernel_rfl) (by have h9 := replay_any (w0 := w0) (m := m) (M := M) (q := q6) (dq := d.q) (r := r) (L := L ++ X) ⟨[], 0, rfl, RK.nil, h8⟩ (lgD D) (by omega); exact h9.mono fun e w1 hr => (hr.resolve_left (fun e => by rw [hok] at e; cases e.1)).2) ?_
    rintro _ w9 ⟨rfl, hrp⟩
    refine ⟨_, rfl, ?_⟩
    obtain ⟨rows9, rs, nx, k1, k2, k3⟩ := hrp
    have h10 : HA ⟨w0, m :: (r, .mp (eR rs) nx) :: M⟩ ((q6, 73, scell d.q r ((laidR rows9)) 0) :: (L ++ X)) w9 := k3
    refine zwv (iN .i64 4) ?_
    refine wl_nil ?_
    refine then_at rfl ?_
    refine wp_seq ?_
    refine wl_region ?_
    refine zwv (iN .i64 4) ?_
    refine zwx (.bool true) (run_nei (k := .i64) (a := 4) (b := 0) (by kernel_rfl) (by kernel_rfl) true (by decide)) ?_
    refine wl_nil ?_
    refine then_at rfl ?_
    refine wp_cond_true (by kernel_rfl) ?_
    refine wp_seq ?_
    refine wl_region ?_
    refine zwv (iN .i64 4) ?_
    refine zwv (.pointer none) ?_
    refine zwv (iN .i64 4) ?_
    refine wl_nil ?_
    refine then_at rfl ?_
    refine wp_ret ?_
    repeat first | refine then_ret ?_ | refine block_ret ?_
    exact bodyPost_ret (v := .tuple #[.pointer none, iN .i64 4]) (by kernel_rfl) rfl (by rw [opnS, if_neg hrd, if_pos hok]; exact .inr ⟨(by decide : (4 : Nat) ≠ 0), rfl, hcl M L _ ((HA.subM h10 (List.Sublist.cons_cons _ (List.sublist_cons_self _ _))).sub (List.sublist_cons_self _ _))⟩)
   ·refine wl_region ?_
    refine zwv (.pointer (some ⟨q6, 0, none⟩)) ?_
    refine zwv (.string (lgD D)) ?_
    refine wl_callx (by kernel_rfl) enter44 #[.pointer (some ⟨q6, 0, none⟩), .string (lgD D)] (by kernel_rfl) (by have h9 := replay_any (w0 := w0) (m := m) (M := M) (q := q6) (dq := d.q) (r := r) (L := L ++ X) ⟨[], 0, rfl, RK.nil, h8⟩ (lgD D) (by omega); exact h9.mono fun e w1 hr => (hr.resolve_right (fun e => by rw [hok] at e; cases e.1)).2) ?_
    rintro _ w11 ⟨rfl, hrp⟩
    refine ⟨_, rfl, ?_⟩
    have hSH : SH w0 M ⟨q6, r, d⟩ (rawS D) L w11 := by
     obtain ⟨rs, nx, k1, k2, k3⟩ := hrp
     exact ⟨rs, nx, k1, k2, hcl _ (_ :: L) _ k3⟩
    obtain ⟨rs, nx, k1, k2, k3⟩ := hrp
    have h12 : HA ⟨w0, m :: (r, .mp (eR rs) nx) :: M⟩ ((q6, 73, scell d.q r ((laidR (rplB (lgD D)).1)) (((lgD D).size - (rplB (lgD D)).2.1.length))) :: (L ++ X)) w11 := k3
    refine zwv (iN .i64 0) ?_
    refine wl_nil ?_
    refine then_at rfl ?_
    refine wp_seq ?_
    refine wl_region ?_
    refine zwv (iN .i64 0) ?_
    refine zwx (.bool false) (run_nei (k := .i64) (a := 0) (b := 0) (by kernel_rfl) (by kernel_rfl) false (by decide)) ?_
    refine wl_nil ?_
    refine then_at rfl ?_
    refine wp_cond_false (by kernel_rfl) ?_
    refine wp_skip ?_
    refine then_at rfl ?_
    refine wp_seq ?_
    refine wp_seq ?_
    by_cases hsh : (rawS D).size < (lgD D).size
    ·refine wl_region ?_
     refine zwv (.pointer (some ⟨q6, 0, none⟩)) ?_
     refine zwv (.pointer (some ⟨q6, 0, none⟩)) ?_
     refine zwv (.pointer (some ⟨q6, 3, none⟩)) ?_
     refine wl_val (iN .i64 (((lgD D).size - (rplB (lgD D)).2.1.length))) (by kernel_rfl) (run_load1 (fun w => Tryz.isAgg3 w) (by kernel_rfl) (((h12.get 0 rfl).cell 3).trans rfl)) ?_
     refine zwv (.string (lgD D)) ?_
     refine zwx (iN .i64 ((lgD D).size)) (run_len (s := lgD D) (by kernel_rfl)) ?_
     refine zwx (.bool true) (run_lss (k := .i64) (a := ((lgD D).size - (rplB (lgD D)).2.1.length)) (b := (lgD D).size) (by kernel_rfl) (by kernel_rfl) true (decide_eq_true hsh)) ?_
     refine wl_nil ?_
     refine then_at rfl ?_
     refine wp_cond_true (by kernel_rfl) ?_
     refine wp_seq ?_
     refine wl_region ?_
     refine zwv (.pointer (some ⟨q6, 0, none⟩)) ?_
     refine zwv (.string (lgD D)) ?_
     refine zwv (.pointer (some ⟨q6, 0, none⟩)) ?_
     refine zwv (.pointer (some ⟨q6, 0, none⟩)) ?_
     refine zwv (.pointer (some ⟨q6, 3, none⟩)) ?_
     refine wl_val (iN .i64 (((lgD D).size - (rplB (lgD D)).2.1.length))) (by kernel_rfl) (run_load1 (fun w => Tryz.isAgg3 w) (by kernel_rfl) (((h12.get 0 rfl).cell 3).trans rfl)) ?_
     refine zwx (.string ((lgD D).extract 0 (rawS D).size)) (run_cut_hi (by kernel_rfl) (by kernel_rfl) (by omega)) ?_
     refine wl_callx (by kernel_rfl) enter45 #[.pointer (some ⟨q6, 0, none⟩), .string ((lgD D).extract 0 (rawS D).size)] (by kernel_rfl) (lay_any (S := rawS D) hSH hg (by omega) ((lgD D).extract 0 (rawS D).size) (by rw [ByteArray.size_extract]; omega)) ?_
     rintro _ w13 ⟨rfl, hly⟩
     refine ⟨_, rfl, ?_⟩
     refine zwv (iN .i64 ((layS (rawS D) ((lgD D).extract 0 (rawS D).size)).2)) ?_
     refine wl_nil ?_
     refine then_at rfl ?_
     refine wp_seq ?_
     by_cases hl0 : (layS (rawS D) ((lgD D).extract 0 (rawS D).size)).2 ≠ 0
     ·refine wl_region ?_
      refine zwv (iN .i64 ((layS (rawS D) ((lgD D).extract 0 (rawS D).size)).2)) ?_
      refine zwx (.bool true) (run_nei (k := .i64) (a := (layS (rawS D) ((lgD D).extract 0 (rawS D).size)).2) (b := 0) (by kernel_rfl) (by kernel_rfl) true (decide_eq_true hl0)) ?_
      refine wl_nil ?_
      refine then_at rfl ?_
      refine wp_cond_true (by kernel_rfl) ?_
      refine wp_seq ?_
      refine wl_region ?_
      refine zwv (iN .i64 ((layS (rawS D) ((lgD D).extract 0 (rawS D).size)).2)) ?_
      refine zwv (.pointer none) ?_
      refine zwv (iN .i64 ((layS (rawS D) ((lgD D).extract 0 (rawS D).size)).2)) ?_
      refine wl_nil ?_
      refine then_at rfl ?_
      refine wp_ret ?_
      repeat first | refine then_ret ?_ | refine block_ret ?_
      exact bodyPost_ret (v := .tuple #[.pointer none, iN .i64 (layS (rawS D) ((lgD D).extract 0 (rawS D).size)).2]) (by kernel_rfl) rfl (by rw [opnS, if_neg hrd, if_neg (by rw [hok]; decide), if_pos hsh]; exact .inr ⟨hl0, rfl, SH.disk hly⟩)
     ·refine wl_region ?_
      refine zwv (iN .i64 ((layS (rawS D) ((lgD D).extract 0 (rawS D).size)).2)) ?_
      refine zwx (.bool false) (run_nei (k := .i64) (a := (layS (rawS D) ((lgD D).extract 0 (rawS D).size)).2) (b := 0) (by kernel_rfl) (by kernel_rfl) false (decide_eq_false hl0)) ?_
      refine wl_nil ?_
      refine then_at rfl ?_
      refine wp_cond_false (by kernel_rfl) ?_
      refine wp_skip ?_
      refine then_at rfl ?_
      refine wp_seq ?_
      refine wl_region ?_
      refine zwv (.pointer (some ⟨q6, 0, none⟩)) ?_
      refine zwv (.pointer (some ⟨q6, 0, none⟩)) ?_
      refine zwv (iN .i64 0) ?_
      refine wl_nil ?_
      refine then_at rfl ?_
      refine wp_ret ?_
      repeat first | refine then_ret ?_ | refine block_ret ?_
      exact bodyPost_ret (v := .tuple #[pt q6, iN .i64 0]) (by kernel_rfl) rfl (by rw [opnS, if_neg hrd, if_neg (by rw [hok]; decide), if_pos hsh]; exact .inl ⟨Decidable.not_not.1 hl0, ⟨q6, r, d⟩, rfl, rfl, hly⟩)
    ·refine wl_region ?_
     refine zwv (.pointer (some ⟨q6, 0, none⟩)) ?_
     refine zwv (.pointer (some ⟨q6, 0, none⟩)) ?_
     refine zwv (.pointer (some ⟨q6, 3, none⟩)) ?_
     refine wl_val (iN .i64 (((lgD D).size - (rplB (lgD D)).2.1.length))) (by kernel_rfl) (run_load1 (fun w => Tryz.isAgg3 w) (by kernel_rfl) (((h12.get 0 rfl).cell 3).trans rfl)) ?_
     refine zwv (.string (lgD D)) ?_
     refine zwx (iN .i64 ((lgD D).size)) (run_len (s := lgD D) (by kernel_rfl)) ?_
     refine zwx (.bool false) (run_lss (k := .i64) (a := ((lgD D).size - (rplB (lgD D)).2.1.length)) (b := (lgD D).size) (by kernel_rfl) (by kernel_rfl) false (decide_eq_false hsh)) ?_
     refine wl_nil ?_
     refine then_at rfl ?_
     refine wp_cond_false (by kernel_rfl) ?_
     refine wp_skip ?_
     refine then_at rfl ?_
     refine wp_seq ?_
     refine wl_region ?_
     refine zwv (.pointer (some ⟨q6, 0, none⟩)) ?_
     refine zwv (.pointer (some ⟨q6, 0, none⟩)) ?_
     refine zwv (iN .i64 0) ?_
     refine wl_nil ?_
     refine then_at rfl ?_
     refine wp_ret ?_
     repeat first | refine then_ret ?_ | refine block_ret ?_
     exact bodyPost_ret (v := .tuple #[pt q6, iN .i64 0]) (by kernel_rfl) rfl (by rw [opnS, if_neg hrd, if_neg (by rw [hok]; decide), if_neg hsh]; exact .inl ⟨rfl, ⟨q6, r, d⟩, rfl, rfl, hSH⟩)
 ·have hrd : ¬ ((readD D nS).2 ≠ 0 ∧ (readD D nS).2 ≠ 5) := fun e => he0 e.1
  refine wl_region ?_
  refine zwv (iN .i64 ((readD D nS).2)) ?_
  refine zwx (.bool false) (run_nei (k := .i64) (a := (readD D nS).2) (b := 0) (by kernel_rfl) (by kernel_rfl) false (decide_eq_false he0)) ?_
  refine zwv (.bool false) ?_
  refine wl_skip (by kernel_rfl) ?_
  refine wl_skip (by kernel_rfl) ?_
  refine zwv (.bool false) ?_
  refine wl_nil ?_
  refine then_at rfl ?_
  refine wp_cond_false (by kernel_rfl) ?_
  refine wp_skip ?_
  refine then_at rfl ?_
  refine wp_seq ?_
  refine wl_region ?_
  refine zwv (.pointer (some ⟨d.q, 0, none⟩)) ?_
  refine wl_newMap h2 (by kernel_rfl) ?_
  intro r w14 h15
  have h16 : HA ⟨w0, m :: (r, .mp #[] 0) :: M⟩ ((L ++ X)) w14 := h15.permM (List.Perm.swap _ _ _)
  refine zwv (.agg #[.pointer (some ⟨d.q, 0, none⟩), .map (some r), iN .i64 0, iN .i64 0]) ?_
  refine wl_make (c := #[.pointer (some ⟨d.q, 0, none⟩), .map (some r), iN .i64 0, iN .i64 0]) h16 73 (by kernel_rfl) (by kernel_rfl) ?_
  intro q17 w18 (h19 : HA ⟨w0, m :: (r, .mp #[] 0) :: M⟩ ((q17, 73, #[.pointer (some ⟨d.q, 0, none⟩), .map (some r), iN .i64 0, iN .i64 0]) :: (L ++ X)) w18)
  refine zwv (.pointer (some ⟨q17, 0, none⟩)) ?_
  refine wl_nil ?_
  refine then_at rfl ?_
  refine wp_seq ?_
  refine wp_seq ?_
  cases hok : (rplB (lgD D)).2.2
  ·refine wl_region ?_
   refine zwv (.pointer (some ⟨q17, 0, none⟩)) ?_
   refine zwv (.string (lgD D)) ?_
   refine wl_callx (by kernel_rfl) enter44 #[.pointer (some ⟨q17, 0, none⟩), .string (lgD D)] (by kernel_rfl) (by have h9 := replay_any (w0 := w0) (m := m) (M := M) (q := q17) (dq := d.q) (r := r) (L := L ++ X) ⟨[], 0, rfl, RK.nil, h19⟩ (lgD D) (by omega); exact h9.mono fun e w1 hr => (hr.resolve_left (fun e => by rw [hok] at e; cases e.1)).2) ?_
   rintro _ w20 ⟨rfl, hrp⟩
   refine ⟨_, rfl, ?_⟩
   obtain ⟨rows9, rs, nx, k1, k2, k3⟩ := hrp
   have h21 : HA ⟨w0, m :: (r, .mp (eR rs) nx) :: M⟩ ((q17, 73, scell d.q r ((laidR rows9)) 0) :: (L ++ X)) w20 := k3
   refine zwv (iN .i64 4) ?_
   refine wl_nil ?_
   refine then_at rfl ?_
   refine wp_seq ?_
   refine wl_region ?_
   refine zwv (iN .i64 4) ?_
   refine zwx (.bool true) (run_nei (k := .i64) (a := 4) (b := 0) (by kernel_rfl) (by kernel_rfl) true (by decide)) ?_
   refine wl_nil ?_
   refine then_at rfl ?_
   refine wp_cond_true (by kernel_rfl) ?_
   refine wp_seq ?_
   refine wl_region ?_
   refine zwv (iN .i64 4) ?_
   refine zwv (.pointer none) ?_
   refine zwv (iN .i64 4) ?_
   refine wl_nil ?_
   refine then_at rfl ?_
   refine wp_ret ?_
   repeat first | refine then_ret ?_ | refine block_ret ?_
   exact bodyPost_ret (v := .tuple #[.pointer none, iN .i64 4]) (by kernel_rfl) rfl (by rw [opnS, if_neg hrd, if_pos hok]; exact .inr ⟨(by decide : (4 : Nat) ≠ 0), rfl, hcl M L _ ((HA.subM h21 (List.Sublist.cons_cons _ (List.sublist_cons_self _ _))).sub (List.sublist_cons_self _ _))⟩)
  ·refine wl_region ?_
   refine zwv (.pointer (some ⟨q17, 0, none⟩)) ?_
   refine zwv (.string (lgD D)) ?_
   refine wl_callx (by kernel_rfl) enter44 #[.pointer (some ⟨q17, 0, none⟩), .string (lgD D)] (by kernel_rfl) (by have h9 := replay_any (w0 := w0) (m := m) (M := M) (q := q17) (dq := d.q) (r := r) (L := L ++ X) ⟨[], 0, rfl, RK.nil, h19⟩ (lgD D) (by omega); exact h9.mono fun e w1 hr => (hr.resolve_right (fun e => by rw [hok] at e; cases e.1)).2) ?_
   rintro _ w22 ⟨rfl, hrp⟩
   refine ⟨_, rfl, ?_⟩
   have hSH : SH w0 M ⟨q17, r, d⟩ (rawS D) L w22 := by
    obtain ⟨rs, nx, k1, k2, k3⟩ := hrp
    exact ⟨rs, nx, k1, k2, hcl _ (_ :: L) _ k3⟩
   obtain ⟨rs, nx, k1, k2, k3⟩ := hrp
   have h23 : HA ⟨w0, m :: (r, .mp (eR rs) nx) :: M⟩ ((q17, 73, scell d.q r ((laidR (rplB (lgD D)).1)) (((lgD D).size - (rplB (lgD D)).2.1.length))) :: (L ++ X)) w22 := k3
   refine zwv (iN .i64 0) ?_
   refine wl_nil ?_
   refine then_at (F := ⟨(pt d.q :: un :: .pointer none :: iN .i64 0 :: .string (lgD D) :: iN .i64 ((readD D nS).2) :: pt q17 :: iN .i64 0 :: un :: .tuple #[.string (lgD D), iN .i64 ((readD D nS).2)] :: pt d.q :: .tuple #[.string (lgD D), iN .i64 ((readD D nS).2)] :: .string (lgD D) :: iN .i64 ((readD D nS).2) :: iN .i64 ((readD D nS).2) :: .bool false :: .bool false :: un :: un :: .bool false :: un :: pt d.q :: .map (some r) :: .agg #[pt d.q, .map (some r), iN .i64 0, iN .i64 0] :: pt q17 :: pt q17 :: .string (lgD D) :: iN .i64 0 :: List.replicate 22 un).toArray, []⟩) (by kernel_rfl) ?_
   refine wp_seq ?_
   refine wl_region ?_
   refine zwv (iN .i64 0) ?_
   refine zwx (.bool false) (run_nei (k := .i64) (a := 0) (b := 0) (by kernel_rfl) (by kernel_rfl) false (by decide)) ?_
   refine wl_nil ?_
   refine then_at rfl ?_
   refine wp_cond_false (by kernel_rfl) ?_
   refine wp_skip ?_
   refine then_at rfl ?_
   refine wp_seq ?_
   refine wp_seq ?_
   by_cases hsh : (rawS D).size < (lgD D).size
   ·refine wl_region ?_
    refine zwv (.pointer (some ⟨q17, 0, none⟩)) ?_
    refine zwv (.pointer (some ⟨q17, 0, none⟩)) ?_
    refine zwv (.pointer (some ⟨q17, 3, none⟩)) ?_
    refine wl_val (iN .i64 (((lgD D).size - (rplB (lgD D)).2.1.length))) (by kernel_rfl) (run_load1 (fun w => Tryz.isAgg3 w) (by kernel_rfl) (((h23.get 0 rfl).cell 3).trans rfl)) ?_
    refine zwv (.string (lgD D)) ?_
    refine zwx (iN .i64 ((lgD D).size)) (run_len (s := lgD D) (by kernel_rfl)) ?_
    refine zwx (.bool true) (run_lss (k := .i64) (a := ((lgD D).size - (rplB (lgD D)).2.1.length)) (b := (lgD D).size) (by kernel_rfl) (by kernel_rfl) true (decide_eq_true hsh)) ?_
    refine wl_nil ?_
    refine then_at rfl ?_
    refine wp_cond_true (by kernel_rfl) ?_
    refine wp_seq ?_
    refine wl_region ?_
    refine zwv (.pointer (some ⟨q17, 0, none⟩)) ?_
    refine zwv (.string (lgD D)) ?_
    refine zwv (.pointer (some ⟨q17, 0, none⟩)) ?_
    refine zwv (.pointer (some ⟨q17, 0, none⟩)) ?_
    refine zwv (.pointer (some ⟨q17, 3, none⟩)) ?_
    refine wl_val (iN .i64 (((lgD D).size - (rplB (lgD D)).2.1.length))) (by kernel_rfl) (run_load1 (fun w => Tryz.isAgg3 w) (by kernel_rfl) (((h23.get 0 rfl).cell 3).trans rfl)) ?_
    refine zwx (.string ((lgD D).extract 0 (rawS D).size)) (run_cut_hi (by kernel_rfl) (by kernel_rfl) (by omega)) ?_
    refine wl_callx (by kernel_rfl) enter45 #[.pointer (some ⟨q17, 0, none⟩), .string ((lgD D).extract 0 (rawS D).size)] (by kernel_rfl) (lay_any (S := rawS D) hSH hg (by omega) ((lgD D).extract 0 (rawS D).size) (by rw [ByteArray.size_extract]; omega)) ?_
    rintro _ w24 ⟨rfl, hly⟩
    refine ⟨_, rfl, ?_⟩
    refine zwv (iN .i64 ((layS (rawS D) ((lgD D).extract 0 (rawS D).size)).2)) ?_
    refine wl_nil ?_
    refine then_at rfl ?_
    refine wp_seq ?_
    by_cases hl0 : (layS (rawS D) ((lgD D).extract 0 (rawS D).size)).2 ≠ 0
    ·refine wl_region ?_
     refine zwv (iN .i64 ((layS (rawS D) ((lgD D).extract 0 (rawS D).size)).2)) ?_
     refine zwx (.bool true) (run_nei (k := .i64) (a := (layS (rawS D) ((lgD D).extract 0 (rawS D).size)).2) (b := 0) (by kernel_rfl) (by kernel_rfl) true (decide_eq_true hl0)) ?_
     refine wl_nil ?_
     refine then_at rfl ?_
     refine wp_cond_true (by kernel_rfl) ?_
     refine wp_seq ?_
     refine wl_region ?_
     refine zwv (iN .i64 ((layS (rawS D) ((lgD D).extract 0 (rawS D).size)).2)) ?_
     refine zwv (.pointer none) ?_
     refine zwv (iN .i64 ((layS (rawS D) ((lgD D).extract 0 (rawS D).size)).2)) ?_
     refine wl_nil ?_
     refine then_at rfl ?_
     refine wp_ret ?_
     repeat first | refine then_ret ?_ | refine block_ret ?_
     exact bodyPost_ret (v := .tuple #[.pointer none, iN .i64 (layS (rawS D) ((lgD D).extract 0 (rawS D).size)).2]) (by kernel_rfl) rfl (by rw [opnS, if_neg hrd, if_neg (by rw [hok]; decide), if_pos hsh]; exact .inr ⟨hl0, rfl, SH.disk hly⟩)
    ·refine wl_region ?_
     refine zwv (iN .i64 ((layS (rawS D) ((lgD D).extract 0 (rawS D).size)).2)) ?_
     refine zwx (.bool false) (run_nei (k := .i64) (a := (layS (rawS D) ((lgD D).extract 0 (rawS D).size)).2) (b := 0) (by kernel_rfl) (by kernel_rfl) false (decide_eq_false hl0)) ?_
     refine wl_nil ?_
     refine then_at rfl ?_
     refine wp_cond_false (by kernel_rfl) ?_
     refine wp_skip ?_
     refine then_at rfl ?_
     refine wp_seq ?_
     refine wl_region ?_
     refine zwv (.pointer (some ⟨q17, 0, none⟩)) ?_
     refine zwv (.pointer (some ⟨q17, 0, none⟩)) ?_
     refine zwv (iN .i64 0) ?_
     refine wl_nil ?_
     refine then_at rfl ?_
     refine wp_ret ?_
     repeat first | refine then_ret ?_ | refine block_ret ?_
     exact bodyPost_ret (v := .tuple #[pt q17, iN .i64 0]) (by kernel_rfl) rfl (by rw [opnS, if_neg hrd, if_neg (by rw [hok]; decide), if_pos hsh]; exact .inl ⟨Decidable.not_not.1 hl0, ⟨q17, r, d⟩, rfl, rfl, hly⟩)
   ·refine wl_region ?_
    refine zwv (.pointer (some ⟨q17, 0, none⟩)) ?_
    refine zwv (.pointer (some ⟨q17, 0, none⟩)) ?_
    refine zwv (.pointer (some ⟨q17, 3, none⟩)) ?_
    refine wl_val (iN .i64 (((lgD D).size - (rplB (lgD D)).2.1.length))) (by kernel_rfl) (run_load1 (fun w => Tryz.isAgg3 w) (by kernel_rfl) (((h23.get 0 rfl).cell 3).trans rfl)) ?_
    refine zwv (.string (lgD D)) ?_
    refine zwx (iN .i64 ((lgD D).size)) (run_len (s := lgD D) (by kernel_rfl)) ?_
    refine zwx (.bool false) (run_lss (k := .i64) (a := ((lgD D).size - (rplB (lgD D)).2.1.length)) (b := (lgD D).size) (by kernel_rfl) (by kernel_rfl) false (decide_eq_false hsh)) ?_
    refine wl_nil ?_
    refine then_at rfl ?_
    refine wp_cond_false (by kernel_rfl) ?_
    refine wp_skip ?_
    refine then_at rfl ?_
    refine wp_seq ?_
    refine wl_region ?_
    refine zwv (.pointer (some ⟨q17, 0, none⟩)) ?_
    refine zwv (.pointer (some ⟨q17, 0, none⟩)) ?_
    refine zwv (iN .i64 0) ?_
    refine wl_nil ?_
    refine then_at rfl ?_
    refine wp_ret ?_
    repeat first | refine then_ret ?_ | refine block_ret ?_
    exact bodyPost_ret (v := .tuple #[pt q17, iN .i64 0]) (by kernel_rfl) rfl (by rw [opnS, if_neg hrd, if_neg (by rw [hok]; decide), if_neg hsh]; exact .inl ⟨rfl, ⟨q17, r, d⟩, rfl, rfl, hSH⟩)
end Go.Proofs.YtckmlaempffpjaaGreat
