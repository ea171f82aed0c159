/-
  A disk's room; what laying a log anew does to a disk.
-/
import Derived.Test.YtckmlaempffpjaaGreatGH
namespace Go.Proofs.YtckmlaempffpjaaGreat
open Go.RowKit

def roomD (D : DS) : Nat := D.free + used D.fs
theorem room_spend (D : DS) : roomD (spendD D) = roomD D := rfl
theorem room_app {D : DS} (h : (D.fs.map (·.nm)).Nodup) (nm s : ByteArray) : roomD (appD D nm s).1 = roomD D := by
  unfold appD
  split
  · rfl
  · split
    · rfl
    · rename_i hf
      have hu : used (updF (mkF D.fs nm) nm (fun x => { x with da := x.da ++ bl s })) = used D.fs + s.size := by rw [used_app (mkF_nodup h nm) (mkF_has _ _), used_mkF, bl_len]
      show D.free - s.size + used (updF (mkF D.fs nm) nm (fun x => { x with da := x.da ++ bl s })) = _
      rw [hu]
      simp only [roomD]
      omega
theorem room_op {D D2 : DS} (h : roomD D2 = roomD D) (put er : Nat) : roomD (opD D D2 put er).1 = roomD D := by
  unfold opD
  split
  · rfl
  · split
    · exact h
    · exact h
theorem room_on {D D2 : DS} (h : roomD D2 = roomD D) (nm : ByteArray) (er : Nat) : roomD (OnD D D2 nm er).1 = roomD D := by
  refine room_op ?_ _ _
  unfold onD
  split
  · exact h
  · rfl
theorem room_Append {D : DS} (h : (D.fs.map (·.nm)).Nodup) (nm s : ByteArray) : roomD (AppendD D nm s).1 = roomD D := room_op (D := D) ((room_app (D := spendD D) h nm s).trans (room_spend D)) _ _
theorem room_Sync (D : DS) (nm : ByteArray) : roomD (SyncD D nm).1 = roomD D := by
  refine room_on ?_ _ _
  have e2 : used (syncF (spendD D) nm).fs = used D.fs := by
    simp only [syncF, used, updF, List.map_map, spendD]
    congr 1
    refine List.map_congr_left fun x _ => ?_
    simp only [Function.comp_apply]
    split <;> rfl
  show (syncF (spendD D) nm).free + used (syncF (spendD D) nm).fs = _
  rw [e2]; rfl
theorem room_Remove (D : DS) (nm : ByteArray) : roomD (RemoveD D nm).1 = roomD D := by
  refine room_on ?_ _ _
  have h1 := used_split D.fs nm
  show D.free + used (keepF D.fs nm) + used (delF D.fs nm) = D.free + used D.fs
  omega
theorem room_Rename (D : DS) (a b : ByteArray) : roomD (RenameD D a b).1 = roomD D := by
  refine room_on ?_ _ _
  unfold renT
  split
  · rfl
  · split
    · rfl
    · have h1 := used_split D.fs b
      have h4 := used_split (delF D.fs b) a
      have e1 : used ((keepF (delF D.fs b) a).map (fun x : FA => { x with nm := b })) = used (keepF (delF D.fs b) a) := by simp only [used, List.map_map]; rfl
      have e2 : used (delF (delF D.fs b) a ++ (keepF (delF D.fs b) a).map (fun x : FA => { x with nm := b })) = used (delF D.fs b) := by
        rw [← h4, ← e1]; simp [used]
      show D.free + used (keepF D.fs b) + used (delF (delF D.fs b) a ++ (keepF (delF D.fs b) a).map (fun x : FA => { x with nm := b })) = D.free + used D.fs
      rw [e2]; omega
theorem room_arm (D : DS) (z : Int) : roomD (armD D z).1 = roomD D := by
  unfold armD
  split
  · rfl
  · split <;> rfl
theorem room_wake (D : DS) (ks : List Int) : roomD (wakeD D ks) = roomD D := by
  have h1 := wk_used D.fs ks D.fs.length
  show D.free + used D.fs - used (wkK D.fs ks D.fs.length) + used (wkK D.fs ks D.fs.length) = D.free + used D.fs
  omega
/-- how great a disk may be, by its room -/
structure DG (D : DS) (R N : Nat) : Prop where
  db : DB D R N
  ro : roomD D ≤ R
theorem DG.of {D D' : DS} {U R N : Nat} (h : DB D' U N) (hr : roomD D' = roomD D) (ho : roomD D ≤ R) : DG D' R N :=
  ⟨⟨h.rm, h.lf, by have := hr; unfold roomD at this ho; omega, h.sz, h.nm, h.ct, h.nd⟩, by omega⟩
section
variable {D : DS} {R N : Nat}
theorem DG.app (h : DG D R N) (nm s : ByteArray) : DG (AppendD D nm s).1 R (N + 1) := .of (Append_DB h.db nm s) (room_Append h.db.nd nm s) h.ro
theorem DG.sync (h : DG D R N) (nm : ByteArray) : DG (SyncD D nm).1 R (N + 1) := .of (Sync_DB h.db nm) (room_Sync D nm) h.ro
theorem DG.rem (h : DG D R N) (nm : ByteArray) : DG (RemoveD D nm).1 R (N + 1) := .of (Remove_DB h.db nm) (room_Remove D nm) h.ro
theorem DG.ren (h : DG D R N) (a b : ByteArray) : DG (RenameD D a b).1 R (N + 1) := .of (Rename_DB h.db a b) (room_Rename D a b) h.ro
theorem DG.arm (h : DG D R N) {z : Int} (hz : z ≤ 9223372036854775807) : DG (armD D z).1 R N := .of (arm_DB h.db hz) (room_arm D z) h.ro
theorem DG.wake (h : DG D R N) (ks : List Int) : DG (wakeD D ks) R N := .of (wake_DB h.db ks) (room_wake D ks) h.ro
theorem DG.mono (h : DG D R N) {N' : Nat} (hN : N ≤ N') : DG D R N' := ⟨h.db.mono (Nat.le_refl _) hN, h.ro⟩
theorem DG.new {n : Nat} (h : n ≤ 9223372036854775807) : DG ⟨[], n, 0, false, []⟩ n 0 := ⟨(new_DB h).mono (Nat.zero_le _) (Nat.le_refl _), by simp [roomD, used]⟩
end
/-! the names of the store's files -/
def nN : ByteArray := { data := #[110] }
def nS : ByteArray := { data := #[115] }
def hasN (D : DS) : Bool := !D.down && D.fs.any fun x => decide (x.nm = nN)
/-- "n" is removed, if it is there -/
def rmN (D : DS) : DS × Nat := if hasN D = true then RemoveD D nN else (D, 0)
/-- the log is laid anew -/
def layD (D : DS) (fr : ByteArray) : DS × Nat :=
  if (rmN D).2 ≠ 0 then rmN D
  else if (AppendD (rmN D).1 nN fr).2 ≠ 0 then AppendD (rmN D).1 nN fr
  else if (SyncD (AppendD (rmN D).1 nN fr).1 nN).2 ≠ 0 then SyncD (AppendD (rmN D).1 nN fr).1 nN
  else RenameD (SyncD (AppendD (rmN D).1 nN fr).1 nN).1 nN nS
theorem DG.rmN {D : DS} {R N : Nat} (h : DG D R N) : DG (rmN D).1 R (N + 1) := by
  unfold YtckmlaempffpjaaGreat.rmN
  split
  · exact h.rem _
  · exact h.mono (Nat.le_succ _)
theorem DG.lay {D : DS} {R N : Nat} (h : DG D R N) (fr : ByteArray) : DG (layD D fr).1 R (N + 4) := by
  have h1 := h.rmN
  have h2 := h1.app nN fr
  have h3 := h2.sync nN
  unfold layD
  split
  · exact h1.mono (by omega)
  · split
    · exact h2.mono (by omega)
    · split
      · exact h3.mono (by omega)
      · exact (h3.ren nN nS).mono (by omega)
theorem list_names (D : DS) (p : ByteArray) : (listD D p).map encStr = scl ((listD D p).map fun b => (⟨b.toArray⟩ : ByteArray)) := by
  rw [scl, List.map_map]
  exact List.map_congr_left fun b _ => rfl
theorem list_has (D : DS) : ((listD D nN).map fun b => (⟨b.toArray⟩ : ByteArray)).any (fun y => decide (y = nN)) = hasN D := by
  have key : ∀ x : ByteArray, (⟨(bl x).toArray⟩ : ByteArray) = x := fun x => by simp [bl]
  rw [Bool.eq_iff_iff, List.any_eq_true]
  unfold hasN listD
  by_cases hd : D.down = true
  · simp [hd]
  · have hd' : D.down = false := by cases h : D.down <;> simp_all
    simp only [hd', Bool.not_false, Bool.true_and, Bool.false_eq_true, if_false, lstL]
    rw [List.any_eq_true]
    constructor
    · rintro ⟨y, hy, e⟩
      obtain ⟨b, hb, rfl⟩ := List.mem_map.1 hy
      obtain ⟨x, hx, rfl⟩ := List.mem_map.1 ((List.mergeSort_perm _ _).mem_iff.1 hb)
      rw [key] at e
      exact ⟨x, (List.mem_filter.1 hx).1, e⟩
    · rintro ⟨x, hx, e⟩
      have e' : x.nm = nN := of_decide_eq_true e
      refine ⟨x.nm, List.mem_map.2 ⟨bl x.nm, (List.mergeSort_perm _ _).mem_iff.2 (List.mem_map.2 ⟨x, List.mem_filter.2 ⟨hx, ?_⟩, rfl⟩), key _⟩, e⟩
      rw [e']; decide
end Go.Proofs.YtckmlaempffpjaaGreat

namespace Go.Proofs.YtckmlaempffpjaaGreat
open Go.RowKit

theorem list_len (D : DS) (p : ByteArray) : (listD D p).length ≤ D.fs.length := by
 unfold listD
 split
 ·exact Nat.zero_le _
 ·rw [lstL, List.length_mergeSort, List.length_map]
  exact List.length_filter_le _ _
set_option linter.unusedVariables false in
set_option maxRecDepth 100000 in
set_option maxHeartbeats 2000000 in
theorem removeNew_any {w0 : World} {M : ML} {s : Sk} {S : SS} {L : BL} {w : World} (h : SH w0 M s S L w) {R N : Nat} (hg : DG S.D R N) (hN : N ≤ 100000000) :
  Calls Tryz.prog 94 #[pt s.q] w fun e w' => e = .returned (iN .i64 (rmN S.D).2) ∧ SH w0 M s ⟨(rmN S.D).1, S.rows, S.size⟩ L w' := by
 obtain ⟨rs, nx, hrs, hK, hD0⟩ := h
 obtain ⟨z, X, hcl, hbe, H00⟩ := DH.front hD0
 have H0 : HA z ((s.q, 73, scell s.d.q s.r (laidR S.rows) S.size) :: (L ++ X)) w := H00
 go_enter Tryz.func94, Tryz.ntmps94
 refine wp_seq ?_
 refine wl_region ?_
 refine zwv (iN .i64 0) ?_
 refine wl_nil ?_
 refine then_at rfl ?_
 refine wp_seq ?_
 refine wp_seq ?_
 refine wl_region ?_
 refine zwv (.pointer (some ⟨s.q, 0, none⟩)) ?_
 refine zwv (.pointer (some ⟨s.q, 0, none⟩)) ?_
 refine zwv (.pointer (some ⟨s.q, 0, none⟩)) ?_
 refine zwx (.pointer (some ⟨s.d.q, 0, none⟩)) (run_load1 (fun w => Tryz.isAgg23 w) (by kernel_rfl) (((H0.get 0 rfl).cell 0).trans rfl)) ?_
 refine wl_callx (by kernel_rfl) enter38 #[.pointer (some ⟨s.d.q, 0, none⟩), .string nN] (by kernel_rfl) (List_any (hcl ((s.q, 73, scell s.d.q s.r ((laidR S.rows)) S.size) :: L) _ H0) nN hg.db (by omega)) ?_
 rintro _ w1 ⟨vl, Ll, rfl, hRl, hLl⟩
 refine ⟨_, rfl, ?_⟩
 obtain ⟨pl, cl, rfl⟩ := hRl.form
 have h2 := HA.keep _ _ H0 hLl.old.old
 have hk9 := (Row.keys (w := w1) (o := pl) (c := cl) (ds := (listD S.D nN).map fun b => (⟨b.toArray⟩ : ByteArray)) (by rw [← list_names, List.length_map]; exact hRl) (fun y hy => hLl.blk y hy))
 have hln9 : (listD S.D nN).length = ((listD S.D nN).map fun b => (⟨b.toArray⟩ : ByteArray)).length := by rw [List.length_map]
 refine wl_call (v := .bool ((hasN S.D))) h2 (by kernel_rfl) enter129 #[.slice pl (listD S.D nN).length cl, .string nN] (by kernel_rfl) (by have h9 := contains_any (c := cl) hk9 (by rw [List.length_map]; have := list_len S.D nN; have := hg.db.ct; omega) nN; rw [list_has, ← hln9] at h9; exact h9) ?_
 intro w3 h4
 refine zwv (.bool (!((hasN S.D)))) ?_
 refine wl_nil ?_
 cases hhas : hasN S.D
 ·refine then_at (F := ⟨(pt s.q :: un :: iN .i64 0 :: pt s.q :: pt s.q :: pt s.q :: pt s.d.q :: .slice pl (listD S.D nN).length cl :: .bool false :: .bool true :: List.replicate 5 un).toArray, []⟩) (by kernel_rfl) ?_
  refine wp_cond_true (by kernel_rfl) ?_
  refine wp_seq ?_
  refine wl_region ?_
  refine zwv (iN .i64 0) ?_
  refine wl_nil ?_
  refine then_at rfl ?_
  refine wp_ret ?_
  repeat first | refine then_ret ?_ | refine block_ret ?_
  exact bodyPost_ret (v := iN .i64 0) (by kernel_rfl) rfl ⟨by rw [rmN, if_neg (by rw [hhas]; decide)], by rw [rmN, if_neg (by rw [hhas]; decide)]; exact ⟨rs, nx, hrs, hK, (hcl ((s.q, 73, scell s.d.q s.r ((laidR S.rows)) S.size) :: L) _ h4)⟩⟩
 ·refine then_at (F := ⟨(pt s.q :: un :: iN .i64 0 :: pt s.q :: pt s.q :: pt s.q :: pt s.d.q :: .slice pl (listD S.D nN).length cl :: .bool true :: .bool false :: List.replicate 5 un).toArray, []⟩) (by kernel_rfl) ?_
  refine wp_cond_false (by kernel_rfl) ?_
  refine wp_skip ?_
  refine then_at rfl ?_
  refine wp_seq ?_
  refine wl_region ?_
  refine zwv (.pointer (some ⟨s.q, 0, none⟩)) ?_
  refine zwv (.pointer (some ⟨s.q, 0, none⟩)) ?_
  refine zwv (.pointer (some ⟨s.q, 0, none⟩)) ?_
  refine zwx (.pointer (some ⟨s.d.q, 0, none⟩)) (run_load1 (fun w => Tryz.isAgg23 w) (by kernel_rfl) (((h4.get 0 rfl).cell 0).trans rfl)) ?_
  refine wl_callx (by kernel_rfl) enter49 #[.pointer (some ⟨s.d.q, 0, none⟩), .string nN] (by kernel_rfl) (Remove_any (hcl ((s.q, 73, scell s.d.q s.r ((laidR S.rows)) S.size) :: L) _ h4) nN hg.db (by omega)) ?_
  rintro _ w7 ⟨rfl, hD5⟩
  refine ⟨_, rfl, ?_⟩
  have hg6 := hg.rem nN
  obtain ⟨z8, X9, hcl10, hbe11, h12⟩ := DH.front hD5
  have h13 : HA z8 ((s.q, 73, scell s.d.q s.r ((laidR S.rows)) S.size) :: (L ++ X9)) w7 := h12
  refine zwv (iN .i64 ((RemoveD S.D nN).2)) ?_
  refine wl_nil ?_
  refine then_at rfl ?_
  refine wp_ret ?_
  repeat first | refine then_ret ?_ | refine block_ret ?_
  exact bodyPost_ret (v := iN .i64 (RemoveD S.D nN).2) (by kernel_rfl) rfl ⟨by rw [rmN, if_pos hhas], by rw [rmN, if_pos hhas]; exact ⟨rs, nx, hrs, hK, (hcl10 ((s.q, 73, scell s.d.q s.r ((laidR S.rows)) S.size) :: L) _ h13)⟩⟩
set_option linter.unusedVariables false in
set_option maxRecDepth 100000 in
set_option maxHeartbeats 2000000 in
theorem lay_any {w0 : World} {M : ML} {s : Sk} {S : SS} {L : BL} {w : World} (h : SH w0 M s S L w) {R N : Nat} (hg : DG S.D R N) (hN : N ≤ 100000000) (fr : ByteArray) (hR : R + fr.size ≤ 1000000000) :
  Calls Tryz.prog 45 #[pt s.q, .string fr] w fun e w' => e = .returned (iN .i64 (layD S.D fr).2) ∧ SH w0 M s ⟨(layD S.D fr).1, S.rows, if (layD S.D fr).2 = 0 then fr.size else S.size⟩ L w' := by
 obtain ⟨rs, nx, hrs, hK, hD0⟩ := h
 obtain ⟨z, X, hcl, hbe, H00⟩ := DH.front hD0
 have H0 : HA z ((s.q, 73, scell s.d.q s.r (laidR S.rows) S.size) :: (L ++ X)) w := H00
 go_enter Tryz.func45, Tryz.ntmps45
 refine wp_seq ?_
 refine wl_region ?_
 refine zwv (iN .i64 0) ?_
 refine wl_nil ?_
 refine then_at rfl ?_
 refine wp_seq ?_
 refine wp_seq ?_
 refine wl_region ?_
 refine zwv (.pointer (some ⟨s.q, 0, none⟩)) ?_
 refine wl_callx (by kernel_rfl) enter94 #[.pointer (some ⟨s.q, 0, none⟩)] (by kernel_rfl) (removeNew_any ⟨rs, nx, hrs, hK, (hcl ((s.q, 73, scell s.d.q s.r ((laidR S.rows)) S.size) :: L) _ H0)⟩ hg (by omega)) ?_
 rintro _ w1 ⟨rfl, hR1⟩
 refine ⟨_, rfl, ?_⟩
 obtain ⟨rs, nx, hrs, hK, hD1⟩ := hR1
 have hg1 := hg.rmN
 obtain ⟨z2, X3, hcl4, hbe5, h6⟩ := DH.front hD1
 have h7 : HA z2 ((s.q, 73, scell s.d.q s.r ((laidR S.rows)) S.size) :: (L ++ X3)) w1 := h6
 refine zwv (iN .i64 ((rmN S.D).2)) ?_
 refine wl_nil ?_
 refine then_at rfl ?_
 refine wp_seq ?_
 by_cases hc1 : (rmN S.D).2 ≠ 0
 ·refine wl_region ?_
  refine zwv (iN .i64 ((rmN S.D).2)) ?_
  refine zwx (.bool true) (run_nei (k := .i64) (a := (rmN S.D).2) (b := 0) (by kernel_rfl) (by kernel_rfl) true (decide_eq_true hc1)) ?_
  refine wl_nil ?_
  refine then_at rfl ?_
  refine wp_cond_true (by kernel_rfl) ?_
  refine wp_seq ?_
  refine wl_region ?_
  refine zwv (iN .i64 ((rmN S.D).2)) ?_
  refine zwv (iN .i64 ((rmN S.D).2)) ?_
  refine wl_nil ?_
  refine then_at rfl ?_
  refine wp_ret ?_
  repeat first | refine then_ret ?_ | refine block_ret ?_
  exact bodyPost_ret (v := iN .i64 (rmN S.D).2) (by kernel_rfl) rfl ⟨by rw [layD, if_pos hc1], by rw [if_neg (by rw [layD, if_pos hc1]; exact hc1)]; rw [layD, if_pos hc1]; exact ⟨rs, nx, hrs, hK, (hcl4 ((s.q, 73, scell s.d.q s.r ((laidR S.rows)) S.size) :: L) _ h7)⟩⟩
 ·refine wl_region ?_
  refine zwv (iN .i64 ((rmN S.D).2)) ?_
  refine zwx (.bool false) (run_nei (k := .i64) (a := (rmN S.D).2) (b := 0) (by kernel_rfl) (by kernel_rfl) false (decide_eq_false hc1)) ?_
  refine wl_nil ?_
  refine then_at rfl ?_
  refine wp_cond_false (by kernel_rfl) ?_
  refine wp_skip ?_
  refine then_at rfl ?_
  refine wp_seq ?_
  refine wp_seq ?_
  refine wl_region ?_
  refine zwv (.pointer (some ⟨s.q, 0, none⟩)) ?_
  refine zwv (.pointer (some ⟨s.q, 0, none⟩)) ?_
  refine zwv (.pointer (some ⟨s.q, 0, none⟩)) ?_
  refine zwx (.pointer (some ⟨s.d.q, 0, none⟩)) (run_load1 (fun w => Tryz.isAgg23 w) (by kernel_rfl) (((h7.get 0 rfl).cell 0).trans rfl)) ?_
  refine zwv (.string fr) ?_
  refine wl_callx (by kernel_rfl) enter24 #[.pointer (some ⟨s.d.q, 0, none⟩), .string nN, .string fr] (by kernel_rfl) (Append_any (hcl4 ((s.q, 73, scell s.d.q s.r ((laidR S.rows)) S.size) :: L) _ h7) nN fr hg1.db (by omega) (by omega)) ?_
  rintro _ w10 ⟨rfl, hD8⟩
  refine ⟨_, rfl, ?_⟩
  have hg9 := hg1.app nN fr
  obtain ⟨z11, X12, hcl13, hbe14, h15⟩ := DH.front hD8
  have h16 : HA z11 ((s.q, 73, scell s.d.q s.r ((laidR S.rows)) S.size) :: (L ++ X12)) w10 := h15
  refine zwv (iN .i64 ((AppendD ((rmN S.D).1) nN fr).2)) ?_
  refine wl_nil ?_
  refine then_at rfl ?_
  refine wp_seq ?_
  by_cases hc2 : (AppendD (rmN S.D).1 nN fr).2 ≠ 0
  ·refine wl_region ?_
   refine zwv (iN .i64 ((AppendD ((rmN S.D).1) nN fr).2)) ?_
   refine zwx (.bool true) (run_nei (k := .i64) (a := (AppendD ((rmN S.D).1) nN fr).2) (b := 0) (by kernel_rfl) (by kernel_rfl) true (decide_eq_true hc2)) ?_
   refine wl_nil ?_
   refine then_at rfl ?_
   refine wp_cond_true (by kernel_rfl) ?_
   refine wp_seq ?_
   refine wl_region ?_
   refine zwv (iN .i64 ((AppendD ((rmN S.D).1) nN fr).2)) ?_
   refine zwv (iN .i64 ((AppendD ((rmN S.D).1) nN fr).2)) ?_
   refine wl_nil ?_
   refine then_at rfl ?_
   refine wp_ret ?_
   repeat first | refine then_ret ?_ | refine block_ret ?_
   exact bodyPost_ret (v := iN .i64 (AppendD (rmN S.D).1 nN fr).2) (by kernel_rfl) rfl ⟨by rw [layD, if_neg hc1, if_pos hc2], by rw [if_neg (by rw [layD, if_neg hc1, if_pos hc2]; exact hc2)]; rw [layD, if_neg hc1, if_pos hc2]; exact ⟨rs, nx, hrs, hK, (hcl13 ((s.q, 73, scell s.d.q s.r ((laidR S.rows)) S.size) :: L) _ h16)⟩⟩
  ·refine wl_region ?_
   refine zwv (iN .i64 ((AppendD ((rmN S.D).1) nN fr).2)) ?_
   refine zwx (.bool false) (run_nei (k := .i64) (a := (AppendD ((rmN S.D).1) nN fr).2) (b := 0) (by kernel_rfl) (by kernel_rfl) false (decide_eq_false hc2)) ?_
   refine wl_nil ?_
   refine then_at rfl ?_
   refine wp_cond_false (by kernel_rfl) ?_
   refine wp_skip ?_
   refine then_at rfl ?_
   refine wp_seq ?_
   refine wp_seq ?_
   refine wl_region ?_
   refine zwv (.pointer (some ⟨s.q, 0, none⟩)) ?_
   refine zwv (.pointer (some ⟨s.q, 0, none⟩)) ?_
   refine zwv (.pointer (some ⟨s.q, 0, none⟩)) ?_
   refine zwx (.pointer (some ⟨s.d.q, 0, none⟩)) (run_load1 (fun w => Tryz.isAgg23 w) (by kernel_rfl) (((h16.get 0 rfl).cell 0).trans rfl)) ?_
   refine wl_callx (by kernel_rfl) enter32 #[.pointer (some ⟨s.d.q, 0, none⟩), .string nN] (by kernel_rfl) (Sync_any (hcl13 ((s.q, 73, scell s.d.q s.r ((laidR S.rows)) S.size) :: L) _ h16) nN hg9.db (by omega)) ?_
   rintro _ w19 ⟨rfl, hD17⟩
   refine ⟨_, rfl, ?_⟩
   have hg18 := hg9.sync nN
   obtain ⟨z20, X21, hcl22, hbe23, h24⟩ := DH.front hD17
   have h25 : HA z20 ((s.q, 73, scell s.d.q s.r ((laidR S.rows)) S.size) :: (L ++ X21)) w19 := h24
   refine zwv (iN .i64 ((SyncD ((AppendD ((rmN S.D).1) nN fr).1) nN).2)) ?_
   refine wl_nil ?_
   refine then_at rfl ?_
   refine wp_seq ?_
   by_cases hc3 : (SyncD (AppendD (rmN S.D).1 nN fr).1 nN).2 ≠ 0
   ·refine wl_region ?_
    refine zwv (iN .i64 ((SyncD ((AppendD ((rmN S.D).1) nN fr).1) nN).2)) ?_
    refine zwx (.bool true) (run_nei (k := .i64) (a := (SyncD ((AppendD ((rmN S.D).1) nN fr).1) nN).2) (b := 0) (by kernel_rfl) (by kernel_rfl) true (decide_eq_true hc3)) ?_
    refine wl_nil ?_
    refine then_at rfl ?_
    refine wp_cond_true (by kernel_rfl) ?_
    refine wp_seq ?_
    refine wl_region ?_
    refine zwv (iN .i64 ((SyncD ((AppendD ((rmN S.D).1) nN fr).1) nN).2)) ?_
    refine zwv (iN .i64 ((SyncD ((AppendD ((rmN S.D).1) nN fr).1) nN).2)) ?_
    refine wl_nil ?_
    refine then_at rfl ?_
    refine wp_ret ?_
    repeat first | refine then_ret ?_ | refine block_ret ?_
    exact bodyPost_ret (v := iN .i64 (SyncD (AppendD (rmN S.D).1 nN fr).1 nN).2) (by kernel_rfl) rfl ⟨by rw [layD, if_neg hc1, if_neg hc2, if_pos hc3], by rw [if_neg (by rw [layD, if_neg hc1, if_neg hc2, if_pos hc3]; exact hc3)]; rw [layD, if_neg hc1, if_neg hc2, if_pos hc3]; exact ⟨rs, nx, hrs, hK, (hcl22 ((s.q, 73, scell s.d.q s.r ((laidR S.rows)) S.size) :: L) _ h25)⟩⟩
   ·refine wl_region ?_
    refine zwv (iN .i64 ((SyncD ((AppendD ((rmN S.D).1) nN fr).1) nN).2)) ?_
    refine zwx (.bool false) (run_nei (k := .i64) (a := (SyncD ((AppendD ((rmN S.D).1) nN fr).1) nN).2) (b := 0) (by kernel_rfl) (by kernel_rfl) false (decide_eq_false hc3)) ?_
    refine wl_nil ?_
    refine then_at rfl ?_
    refine wp_cond_false (by kernel_rfl) ?_
    refine wp_skip ?_
    refine then_at rfl ?_
    refine wp_seq ?_
    refine wp_seq ?_
    refine wl_region ?_
    refine zwv (.pointer (some ⟨s.q, 0, none⟩)) ?_
    refine zwv (.pointer (some ⟨s.q, 0, none⟩)) ?_
    refine zwv (.pointer (some ⟨s.q, 0, none⟩)) ?_
    refine zwx (.pointer (some ⟨s.d.q, 0, none⟩)) (run_load1 (fun w => Tryz.isAgg23 w) (by kernel_rfl) (((h25.get 0 rfl).cell 0).trans rfl)) ?_
    refine wl_callx (by kernel_rfl) enter95 #[.pointer (some ⟨s.d.q, 0, none⟩), .string nN, .string nS] (by kernel_rfl) (Rename_any (hcl22 ((s.q, 73, scell s.d.q s.r ((laidR S.rows)) S.size) :: L) _ h25) nN nS hg18.db (by omega)) ?_
    rintro _ w28 ⟨rfl, hD26⟩
    refine ⟨_, rfl, ?_⟩
    have hg27 := hg18.ren nN nS
    obtain ⟨z29, X30, hcl31, hbe32, h33⟩ := DH.front hD26
    have h34 : HA z29 ((s.q, 73, scell s.d.q s.r ((laidR S.rows)) S.size) :: (L ++ X30)) w28 := h33
    refine zwv (iN .i64 ((RenameD ((SyncD ((AppendD ((rmN S.D).1) nN fr).1) nN).1) nN nS).2)) ?_
    refine wl_nil ?_
    refine then_at rfl ?_
    refine wp_seq ?_
    by_cases hc4 : (RenameD (SyncD (AppendD (rmN S.D).1 nN fr).1 nN).1 nN nS).2 ≠ 0
    ·refine wl_region ?_
     refine zwv (iN .i64 ((RenameD ((SyncD ((AppendD ((rmN S.D).1) nN fr).1) nN).1) nN nS).2)) ?_
     refine zwx (.bool true) (run_nei (k := .i64) (a := (RenameD ((SyncD ((AppendD ((rmN S.D).1) nN fr).1) nN).1) nN nS).2) (b := 0) (by kernel_rfl) (by kernel_rfl) true (decide_eq_true hc4)) ?_
     refine wl_nil ?_
     refine then_at rfl ?_
     refine wp_cond_true (by kernel_rfl) ?_
     refine wp_seq ?_
     refine wl_region ?_
     refine zwv (iN .i64 ((RenameD ((SyncD ((AppendD ((rmN S.D).1) nN fr).1) nN).1) nN nS).2)) ?_
     refine zwv (iN .i64 ((RenameD ((SyncD ((AppendD ((rmN S.D).1) nN fr).1) nN).1) nN nS).2)) ?_
     refine wl_nil ?_
     refine then_at rfl ?_
     refine wp_ret ?_
     repeat first | refine then_ret ?_ | refine block_ret ?_
     exact bodyPost_ret (v := iN .i64 (RenameD (SyncD (AppendD (rmN S.D).1 nN fr).1 nN).1 nN nS).2) (by kernel_rfl) rfl ⟨by rw [layD, if_neg hc1, if_neg hc2, if_neg hc3], by rw [if_neg (by rw [layD, if_neg hc1, if_neg hc2, if_neg hc3]; exact hc4)]; rw [layD, if_neg hc1, if_neg hc2, if_neg hc3]; exact ⟨rs, nx, hrs, hK, (hcl31 ((s.q, 73, scell s.d.q s.r ((laidR S.rows)) S.size) :: L) _ h34)⟩⟩
    ·refine wl_region ?_
     refine zwv (iN .i64 ((RenameD ((SyncD ((AppendD ((rmN S.D).1) nN fr).1) nN).1) nN nS).2)) ?_
     refine zwx (.bool false) (run_nei (k := .i64) (a := (RenameD ((SyncD ((AppendD ((rmN S.D).1) nN fr).1) nN).1) nN nS).2) (b := 0) (by kernel_rfl) (by kernel_rfl) false (decide_eq_false hc4)) ?_
     refine wl_nil ?_
     refine then_at rfl ?_
     refine wp_cond_false (by kernel_rfl) ?_
     refine wp_skip ?_
     refine then_at rfl ?_
     refine wp_seq ?_
     refine wl_region ?_
     refine zwv (.pointer (some ⟨s.q, 0, none⟩)) ?_
     refine zwv (.string fr) ?_
     refine zwx (iN .i64 fr.size) (run_len (s := fr) (by kernel_rfl)) ?_
     refine zwv (.pointer (some ⟨s.q, 0, none⟩)) ?_
     refine zwv (.pointer (some ⟨s.q, 3, none⟩)) ?_
     refine wl_putv (v := iN .i64 fr.size) h34 0 rfl 3 (by show 3 < 4; decide) (by kernel_rfl) (fun w => Tryz.sizeOf3 w) (by kernel_rfl) (by kernel_rfl) (by kernel_rfl) ?_
     intro w35 (h36 : HA z29 ((s.q, 73, #[.pointer (some ⟨s.d.q, 0, none⟩), .map (some s.r), iN .i64 ((laidR S.rows)), iN .i64 fr.size]) :: (L ++ X30)) w35)
     refine wl_nil ?_
     refine then_at rfl ?_
     refine wp_seq ?_
     refine wl_region ?_
     refine zwv (iN .i64 0) ?_
     refine wl_nil ?_
     refine then_at rfl ?_
     refine wp_ret ?_
     repeat first | refine then_ret ?_ | refine block_ret ?_
     exact bodyPost_ret (v := iN .i64 0) (by kernel_rfl) rfl ⟨by rw [layD, if_neg hc1, if_neg hc2, if_neg hc3]; rw [Decidable.not_not.1 hc4], by rw [if_pos (by rw [layD, if_neg hc1, if_neg hc2, if_neg hc3]; exact Decidable.not_not.1 hc4)]; rw [layD, if_neg hc1, if_neg hc2, if_neg hc3]; exact ⟨rs, nx, hrs, hK, (hcl31 ((s.q, 73, #[.pointer (some ⟨s.d.q, 0, none⟩), .map (some s.r), iN .i64 ((laidR S.rows)), iN .i64 fr.size]) :: L) _ h36)⟩⟩
end Go.Proofs.YtckmlaempffpjaaGreat
