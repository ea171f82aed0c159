/-
  A store as a whole: what is kept, what its functions do to it.
-/
import Derived.Test.YtckmlaempffpjaaGreatGJ
namespace Go.Proofs.YtckmlaempffpjaaGreat
open Go.RowKit Go.Shelf

theorem SH.facts {w0 : World} {M : ML} {s : Sk} {S : SS} {L : BL} {w : World} (h : SH w0 M s S L w) : ∃ rs nx, rws rs = S.rows ∧ RK rs nx ∧ Blk w s.q 73 (scell s.d.q s.r (laidR S.rows) S.size) ∧ w.heap[s.r]? = some (.map (eR rs) nx) := by
  obtain ⟨m, X, _, rs, nx, h1, h2, H⟩ := h.opn
  exact ⟨rs, nx, h1, h2, H.get 0 rfl, H.old.maps _ (List.mem_cons_of_mem _ (List.mem_cons_self ..))⟩
theorem SH.keep {w0 : World} {M : ML} {s : Sk} {S : SS} {L : BL} {w w' : World} (h : SH w0 M s S L w) (hb : Below w.heap.size w w') : SH w0 M s S L w' := by
  obtain ⟨m, X, hc, rs, nx, h1, h2, H⟩ := h.opn
  exact hc S.rows S.size L w' ⟨rs, nx, h1, h2, H.keep _ _ hb⟩
theorem SH.pure {w0 : World} {M : ML} {s : Sk} {S : SS} {L : BL} {w : World} (h : SH w0 M s S L w) {f : FuncId} {args : Array Value} {v : Value} (hc : Calls Tryz.prog f args w fun e w' => e = .returned v ∧ Below w.heap.size w w') : Calls Tryz.prog f args w fun e w' => e = .returned v ∧ SH w0 M s S L w' :=
  hc.mono fun _ _ hr => ⟨hr.1, h.keep hr.2⟩
theorem SH.nodup {w0 : World} {M : ML} {s : Sk} {S : SS} {L : BL} {w : World} (h : SH w0 M s S L w) : (S.rows.map (·.k)).Nodup := by
  obtain ⟨rs, nx, h1, h2, _⟩ := h.facts
  rw [← h1, rws, List.map_map]
  exact h2.nms
theorem PV.more {w0 : World} {L X : BL} {o : Option Addr} {ps : List Rw} (h : PV w0 L o ps) : PV w0 (L ++ X) o ps := fun M A w H => h M A w (H.sub (by rw [← List.append_assoc]; exact List.sublist_append_left _ _))
theorem DV.more {w0 : World} {L X : BL} {o : Option Addr} {ds : List ByteArray} (h : DV w0 L o ds) : DV w0 (L ++ X) o ds := fun M A w H => h M A w (H.sub (by rw [← List.append_assoc]; exact List.sublist_append_left _ _))
theorem none_S {w0 : World} {M : ML} {s : Sk} {S : SS} {L : BL} {w : World} (h : SH w0 M s S L w) : Calls Tryz.prog 47 #[pt s.q] w fun e w' => e = .returned (.bool false) ∧ SH w0 M s S L w' := by
  obtain ⟨rs, nx, h1, h2, hq, hm⟩ := h.facts
  exact h.pure (snone_no hq)
/-- rows that may be -/
structure RB (l : List Rw) (n : Nat) : Prop where
  k : ∀ x ∈ l, x.k.size ≤ 64
  v : ∀ x ∈ l, x.v.size ≤ 262144
  ct : l.length ≤ n
/-! how long what is laid is -/
theorem ordR_perm {l : List Rw} (hn : (l.map (·.k)).Nodup) : (ordR l).Perm l := by
  have h1 : (kys l).Perm (l.map (·.k)) := by
    have h := (List.mergeSort_perm (l.map fun x => bl x.k) leB).map (fun b => (⟨b.toArray⟩ : ByteArray))
    rw [List.map_map] at h
    have e : (fun b => (⟨b.toArray⟩ : ByteArray)) ∘ (fun x : Rw => bl x.k) = (·.k) := by
      funext x; simp [bl]
    rw [e] at h
    exact h
  have h2 := h1.map (rowOf l)
  rw [List.map_map] at h2
  have e : l.map (rowOf l ∘ (·.k)) = l := by
    conv => rhs; rw [← List.map_id l]
    refine List.map_congr_left fun x hx => ?_
    obtain ⟨A, B, rfl⟩ := List.append_of_mem hx
    rw [List.map_append, List.map_cons, List.nodup_append] at hn
    simp only [Function.comp_apply, id_eq, rowOf]
    rw [List.find?_append, List.find?_eq_none.2 (fun y hy => by
      have := hn.2.2 y.k (List.mem_map.2 ⟨y, hy, rfl⟩) x.k (by simp)
      simpa using this)]
    simp
  rw [e] at h2
  exact h2
theorem rowB_len (x : Rw) : (rowB x).length = rsz x := by rw [rowB, List.length_append, ptB_len, ptB_len, rsz]; omega
theorem rows_len (l : List Rw) : (l.flatMap rowB).length = laidR l := by
  induction l with
  | nil => rfl
  | cons x l ih => rw [List.flatMap_cons, List.length_append, ih, rowB_len]; simp [laidR]
theorem frame_len (ps : List Rw) : (frameB ps []).length = 8 + laidR ps := by
  rw [frameB_len, bodyB]
  simp only [List.length_append, Wi.be_length, rows_len, List.flatMap_nil, List.length_nil]
  omega
theorem piece_rest (l : List Rw) (j : Nat) : laidR (pieceR l j) + laidR (l.drop (64 * (j + 1))) = laidR (l.drop (64 * j)) := by
  have e : l.drop (64 * j) = pieceR l j ++ l.drop (64 * (j + 1)) := by
    rw [pieceR, show 64 * (j + 1) = 64 * j + 64 by omega, ← List.drop_drop]
    exact (List.take_append_drop _ _).symm
  rw [e, laid_app]
theorem pack_upto (l : List Rw) (k : Nat) : (packK l (List.range k)).length + laidR ((ordR l).drop (64 * k)) = laidR (ordR l) + 8 * k := by
  induction k with
  | zero => simp [packK]
  | succ k ih =>
    have h := piece_rest (ordR l) k
    rw [packK_snoc, List.length_append, frame_len]
    omega
theorem laid_perm {a b : List Rw} (h : a.Perm b) : laidR a = laidR b := (h.map rsz).sum_nat
theorem packL_len {l : List Rw} (hn : (l.map (·.k)).Nodup) : (packL l).length = laidR l + (l.length + 63) / 64 * 8 := by
  have h := pack_upto l ((l.length + 63) / 64)
  rw [List.drop_eq_nil_of_le (by rw [ordR_len]; omega), laid_perm (ordR_perm hn)] at h
  have h0 : laidR [] = 0 := rfl
  have e : packL l = packK l (List.range ((l.length + 63) / 64)) := rfl
  rw [e]
  omega
theorem laid_le {l : List Rw} {n : Nat} (h : RB l n) : laidR l ≤ l.length * 262216 := by
  have key : ∀ l : List Rw, (∀ x ∈ l, x.k.size ≤ 64) → (∀ x ∈ l, x.v.size ≤ 262144) → laidR l ≤ l.length * 262216 := by
    intro l hk hv
    induction l with
    | nil => exact Nat.le_refl _
    | cons x l ih =>
      have h1 := ih (fun y hy => hk y (.tail _ hy)) (fun y hy => hv y (.tail _ hy))
      have h2 := hk x (.head _)
      have h3 := hv x (.head _)
      have e : laidR (x :: l) = rsz x + laidR l := by simp [laidR]
      rw [e, rsz, List.length_cons]
      omega
  exact key l h.k h.v
theorem packed_S {w0 : World} {M : ML} {s : Sk} {S : SS} {L : BL} {w : World} (h : SH w0 M s S L w) {n : Nat} (hr : RB S.rows n) (hn : n ≤ 3000) : Calls Tryz.prog 48 #[pt s.q] w fun e w' => e = .returned (.string (packB S.rows)) ∧ SH w0 M s S L w' := by
  obtain ⟨rs, nx, h1, h2, hq, hm⟩ := h.facts
  have hl := laid_le hr
  have hc := hr.ct
  have hle : rs.length = S.rows.length := by rw [← h1, rws, List.length_map]
  refine h.pure (packed_any hq hm h1 h2 (fun f hf => hr.k _ (by rw [← h1]; exact rws_mem.2 ⟨f, hf, rfl⟩)) (by omega) ?_)
  rw [packL_len h.nodup]
  omega
theorem packB_size (l : List Rw) : (packB l).size = (packL l).length := by
  show (packL l).toArray.size = _
  rw [List.size_toArray]
theorem psize_S {w0 : World} {M : ML} {s : Sk} {S : SS} {L : BL} {w : World} (h : SH w0 M s S L w) {n : Nat} (hr : RB S.rows n) (hn : n ≤ 3000) : Calls Tryz.prog 53 #[pt s.q] w fun e w' => e = .returned (iN .i64 (packL S.rows).length) ∧ Below w.heap.size w w' := by
  obtain ⟨rs, nx, h1, h2, hq, hm⟩ := h.facts
  have hl := laid_le hr
  have hc := hr.ct
  have hle : rs.length = S.rows.length := by rw [← h1, rws, List.length_map]
  rw [packL_len h.nodup, ← hle]
  exact psize_any hq hm (by omega) (by omega)
theorem apply_S {w0 : World} {M : ML} {s : Sk} {S : SS} {L : BL} {w : World} {po do_ : Option Addr} {pc dc : Nat} {ps : List Rw} {ds : List ByteArray} (h : SH w0 M s S L w) (hPV : PV w0 L po ps) (hDV : DV w0 L do_ ds) {n m : Nat} (hr : RB S.rows n) (hn : n ≤ 3000) (hps : RB ps m) (hm : m ≤ 3000) (hdl : ds.length ≤ 1000000000) :
    Calls Tryz.prog 56 #[pt s.q, .agg #[.slice po ps.length pc, .slice do_ ds.length dc]] w fun e w' => e = .returned (.tuple #[]) ∧ SH w0 M s ⟨S.D, applyR S.rows ps ds, S.size⟩ L w' := by
  obtain ⟨m, X, hc, hR⟩ := h.opn
  have h1 := laid_le hr
  have h2 := laid_le hps
  have h3 := hr.ct
  have h4 := hps.ct
  refine (apply_any hR hPV.more hDV.more (fun x hx => ⟨by have := hps.k x hx; omega, by have := hps.v x hx; omega⟩) (by omega) hdl (by omega)).mono ?_
  rintro e w' ⟨rfl, hR'⟩
  exact ⟨rfl, hc _ _ _ _ hR'⟩
theorem get_S {w0 : World} {M : ML} {s : Sk} {S : SS} {L : BL} {w : World} (h : SH w0 M s S L w) {n : Nat} (hr : RB S.rows n) (key : ByteArray) : Calls Tryz.prog 23 #[pt s.q, .string key] w fun e w' => e = .returned (.tuple #[.string (getR S.rows key).1, .bool (getR S.rows key).2]) ∧ Below w.heap.size w w' := by
  obtain ⟨m, X, hc, hR⟩ := h.opn
  exact sget_any hR key (fun x hx => by have := hr.v x hx; omega)
theorem len_S {w0 : World} {M : ML} {s : Sk} {S : SS} {L : BL} {w : World} (h : SH w0 M s S L w) : Calls Tryz.prog 26 #[pt s.q] w fun e w' => e = .returned (iN .i64 S.rows.length) ∧ Below w.heap.size w w' := by
  obtain ⟨rs, nx, h1, h2, hq, hm⟩ := h.facts
  have hle : rs.length = S.rows.length := by rw [← h1, rws, List.length_map]
  rw [← hle]
  exact slen_any hq hm
theorem list_S {w0 : World} {M : ML} {s : Sk} {S : SS} {L : BL} {w : World} (h : SH w0 M s S L w) {n : Nat} (hr : RB S.rows n) (hn : n ≤ 3000) (p : ByteArray) : Calls Tryz.prog 27 #[pt s.q, .string p] w fun e w' => ∃ v' Lr', e = .returned v' ∧ Row 9 1 v' (lstR S.rows p).length ((lstR S.rows p).map encStr) Lr' ∧ HA (bs w) Lr' w' := by
  obtain ⟨rs, nx, h1, h2, hq, hm⟩ := h.facts
  have hle : rs.length = S.rows.length := by rw [← h1, rws, List.length_map]
  have hc := hr.ct
  exact slist_any hq hm h1 h2 (fun f hf => by have := hr.k f.r (by rw [← h1]; exact rws_mem.2 ⟨f, hf, rfl⟩); omega) (by omega) p
end Go.Proofs.YtckmlaempffpjaaGreat

namespace Go.Proofs.YtckmlaempffpjaaGreat
open Go.RowKit

/-! what Pack, write and Do do -/
def layS (S : SS) (fr : ByteArray) : SS × Nat := (⟨(layD S.D fr).1, S.rows, if (layD S.D fr).2 = 0 then fr.size else S.size⟩, (layD S.D fr).2)
def PackS (S : SS) : SS × Nat := if (layS S (packB S.rows)).2 = 7 then (⟨(RemoveD (layS S (packB S.rows)).1.D nN).1, (layS S (packB S.rows)).1.rows, (layS S (packB S.rows)).1.size⟩, 7) else layS S (packB S.rows)
def wrA (S : SS) (fr : ByteArray) : SS × Nat := (⟨(AppendD S.D nS fr).1, S.rows, S.size⟩, (AppendD S.D nS fr).2)
def wrB (S : SS) (fr : ByteArray) : SS × Nat := if (wrA S fr).2 = 7 then (if (PackS (wrA S fr).1).2 = 0 then wrA (PackS (wrA S fr).1).1 fr else PackS (wrA S fr).1) else wrA S fr
def syS (S : SS) (fr : ByteArray) : SS × Nat := (⟨(SyncD S.D nS).1, S.rows, S.size + fr.size⟩, (SyncD S.D nS).2)
def writeS (S : SS) (fr : ByteArray) : SS × Nat := if (wrB S fr).2 ≠ 0 then wrB S fr else syS (wrB S fr).1 fr
def frmB (ps : List Rw) (ds : List ByteArray) : ByteArray := ⟨(frameB ps ds).toArray⟩
def preS (S : SS) : SS × Nat := if 1024 + 2 * (packL S.rows).length < S.size then PackS S else (S, 0)
def chgS (S : SS) (ps : List Rw) (ds : List ByteArray) : SS × Nat := if (writeS S (frmB ps ds)).2 ≠ 0 then writeS S (frmB ps ds) else (⟨(writeS S (frmB ps ds)).1.D, applyR (writeS S (frmB ps ds)).1.rows ps ds, (writeS S (frmB ps ds)).1.size⟩, 0)
def DoS (S : SS) (ps : List Rw) (ds : List ByteArray) : SS × Nat :=
 if refR ps ds ≠ 0 ∨ ps.length + ds.length = 0 then (S, refR ps ds)
 else if (preS S).2 ≠ 0 ∧ (preS S).2 ≠ 7 then preS S
 else chgS (preS S).1 ps ds
theorem lay_rows (S : SS) (fr : ByteArray) : (layS S fr).1.rows = S.rows := rfl
theorem Pack_rows (S : SS) : (PackS S).1.rows = S.rows := by unfold PackS; split <;> rfl
theorem wrB_rows (S : SS) (fr : ByteArray) : (wrB S fr).1.rows = S.rows := by
 unfold wrB
 split
 ·split
  ·exact Pack_rows _
  ·exact Pack_rows _
 ·rfl
theorem write_rows (S : SS) (fr : ByteArray) : (writeS S fr).1.rows = S.rows := by
 unfold writeS
 split
 ·exact wrB_rows S fr
 ·exact wrB_rows S fr
theorem pre_rows (S : SS) : (preS S).1.rows = S.rows := by unfold preS; split; exact Pack_rows S; rfl
theorem DG.packS {S : SS} {R N : Nat} (h : DG S.D R N) : DG (PackS S).1.D R (N + 5) := by
 have h1 := h.lay (packB S.rows)
 unfold PackS
 split
 ·exact h1.rem nN
 ·exact h1.mono (by omega)
theorem DG.wrB {S : SS} {R N : Nat} (h : DG S.D R N) (fr : ByteArray) : DG (wrB S fr).1.D R (N + 7) := by
 have h1 : DG (wrA S fr).1.D R (N + 1) := h.app nS fr
 unfold YtckmlaempffpjaaGreat.wrB
 split
 ·have h2 := h1.packS
  split
  ·exact (h2.app nS fr).mono (by omega)
  ·exact h2.mono (by omega)
 ·exact h1.mono (by omega)
theorem DG.writeS {S : SS} {R N : Nat} (h : DG S.D R N) (fr : ByteArray) : DG (writeS S fr).1.D R (N + 8) := by
 have h1 := h.wrB fr
 unfold YtckmlaempffpjaaGreat.writeS
 split
 ·exact h1.mono (by omega)
 ·exact (h1.sync nS).mono (by omega)
theorem DG.preS {S : SS} {R N : Nat} (h : DG S.D R N) : DG (preS S).1.D R (N + 5) := by
 unfold YtckmlaempffpjaaGreat.preS
 split
 ·exact h.packS
 ·exact h.mono (by omega)
theorem DG.doS {S : SS} {R N : Nat} (h : DG S.D R N) (ps : List Rw) (ds : List ByteArray) : DG (DoS S ps ds).1.D R (N + 13) := by
 have h1 := h.preS
 unfold DoS
 split
 ·exact h.mono (by omega)
 ·split
  ·exact h1.mono (by omega)
  ·unfold chgS
   split
   ·exact (h1.writeS (frmB ps ds)).mono (by omega)
   ·exact (h1.writeS (frmB ps ds)).mono (by omega)
theorem pack_small {l : List Rw} {n R : Nat} (hnd : (l.map (·.k)).Nodup) (hr : RB l n) (hn : n ≤ 2000) (hR : R ≤ 300000000) : R + (packB l).size ≤ 1000000000 := by
 have h1 := laid_le hr
 have h2 := hr.ct
 rw [packB_size, packL_len hnd]
 omega
theorem Pack_size {S : SS} {R : Nat} (h : R + (packB S.rows).size ≤ 1000000000) (hs : S.size ≤ 1000000000000) : (PackS S).1.size ≤ 1000000000000 := by
 have h1 : (layS S (packB S.rows)).1.size ≤ 1000000000000 := by
  unfold layS
  simp only
  split <;> omega
 unfold PackS
 split
 ·exact h1
 ·exact h1
set_option linter.unusedVariables false in
set_option maxRecDepth 100000 in
set_option maxHeartbeats 2000000 in
theorem Pack_any {w0 : World} {M : ML} {s : Sk} {S : SS} {L : BL} {w : World} (h : SH w0 M s S L w) {R N : Nat} (hg : DG S.D R N) (hN : N ≤ 10000000) {n : Nat} (hr : RB S.rows n) (hn : n ≤ 2000) (hR : R ≤ 300000000) :
  Calls Tryz.prog 15 #[pt s.q] w fun e w' => e = .returned (iN .i64 (PackS S).2) ∧ SH w0 M s (PackS S).1 L w' := by
 go_enter Tryz.func15, Tryz.ntmps15
 refine wp_seq ?_
 refine wl_region ?_
 refine zwv (iN .i64 0) ?_
 refine wl_nil ?_
 refine then_at (F := ⟨(pt s.q :: un :: iN .i64 0 :: List.replicate 15 un).toArray, []⟩) (by kernel_rfl) ?_
 refine wp_seq ?_
 refine wp_seq ?_
 refine wl_region ?_
 refine zwv (.pointer (some ⟨s.q, 0, none⟩)) ?_
 refine wl_callx (by kernel_rfl) enter47 #[.pointer (some ⟨s.q, 0, none⟩)] (by kernel_rfl) (none_S h) ?_
 rintro _ w2 ⟨rfl, hS1⟩
 refine ⟨_, rfl, ?_⟩
 refine wl_nil ?_
 refine then_at (F := ⟨(pt s.q :: un :: iN .i64 0 :: un :: pt s.q :: .bool false :: List.replicate 12 un).toArray, []⟩) (by kernel_rfl) ?_
 refine wp_cond_false (by kernel_rfl) ?_
 refine wp_skip ?_
 refine then_at (F := ⟨(pt s.q :: un :: iN .i64 0 :: un :: pt s.q :: .bool false :: List.replicate 12 un).toArray, []⟩) (by kernel_rfl) ?_
 refine wp_seq ?_
 refine wl_region ?_
 refine zwv (.pointer (some ⟨s.q, 0, none⟩)) ?_
 refine zwv (.pointer (some ⟨s.q, 0, none⟩)) ?_
 refine wl_callx (by kernel_rfl) enter48 #[.pointer (some ⟨s.q, 0, none⟩)] (by kernel_rfl) (packed_S hS1 hr (by omega)) ?_
 rintro _ w4 ⟨rfl, hS3⟩
 refine ⟨_, rfl, ?_⟩
 refine wl_callx (by kernel_rfl) enter45 #[.pointer (some ⟨s.q, 0, none⟩), .string (packB S.rows)] (by kernel_rfl) (lay_any hS3 hg (by omega) (packB S.rows) (pack_small hS3.nodup hr hn hR)) ?_
 rintro _ w6 ⟨rfl, hS5⟩
 refine ⟨_, rfl, ?_⟩
 refine zwv (iN .i64 ((layS S (packB S.rows)).2)) ?_
 refine wl_nil ?_
 refine then_at (F := ⟨(pt s.q :: un :: iN .i64 0 :: iN .i64 ((layS S (packB S.rows)).2) :: pt s.q :: .bool false :: pt s.q :: pt s.q :: .string (packB S.rows) :: iN .i64 ((layS S (packB S.rows)).2) :: List.replicate 8 un).toArray, []⟩) (by kernel_rfl) ?_
 refine wp_seq ?_
 refine wp_seq ?_
 by_cases hfull : (layS S (packB S.rows)).2 = 7
 ·refine wl_region ?_
  refine zwv (iN .i64 ((layS S (packB S.rows)).2)) ?_
  refine zwx (.bool true) (run_eqi (k := .i64) (a := (layS S (packB S.rows)).2) (b := 7) (by kernel_rfl) (by kernel_rfl) true (decide_eq_true hfull)) ?_
  refine wl_nil ?_
  refine then_at (F := ⟨(pt s.q :: un :: iN .i64 0 :: iN .i64 ((layS S (packB S.rows)).2) :: pt s.q :: .bool false :: pt s.q :: pt s.q :: .string (packB S.rows) :: iN .i64 ((layS S (packB S.rows)).2) :: iN .i64 ((layS S (packB S.rows)).2) :: .bool true :: List.replicate 6 un).toArray, []⟩) (by kernel_rfl) ?_
  refine wp_cond_true (by kernel_rfl) ?_
  obtain ⟨rs, nx, hrs, hK, hD5⟩ := hS5
  obtain ⟨z7, X8, hcl9, hbe10, h11⟩ := DH.front hD5
  have h12 : HA z7 ((s.q, 73, scell s.d.q s.r ((laidR (layS S (packB S.rows)).1.rows)) ((layS S (packB S.rows)).1.size)) :: (L ++ X8)) w6 := h11
  refine wl_region ?_
  refine zwv (.pointer (some ⟨s.q, 0, none⟩)) ?_
  refine zwv (.pointer (some ⟨s.q, 0, none⟩)) ?_
  refine zwv (.pointer (some ⟨s.q, 0, none⟩)) ?_
  refine zwx (.pointer (some ⟨s.d.q, 0, none⟩)) (run_load1 (fun w => Tryz.isAgg23 w) (by kernel_rfl) (((h12.get 0 rfl).cell 0).trans rfl)) ?_
  refine wl_callx (by kernel_rfl) enter49 #[.pointer (some ⟨s.d.q, 0, none⟩), .string nN] (by kernel_rfl) (Remove_any (hcl9 ((s.q, 73, scell s.d.q s.r ((laidR (layS S (packB S.rows)).1.rows)) ((layS S (packB S.rows)).1.size)) :: L) _ h12) nN (hg.lay (packB S.rows)).db (by omega)) ?_
  rintro _ w15 ⟨rfl, hD13⟩
  refine ⟨_, rfl, ?_⟩
  have hg14 := (hg.lay (packB S.rows)).rem nN
  obtain ⟨z16, X17, hcl18, hbe19, h20⟩ := DH.front hD13
  have h21 : HA z16 ((s.q, 73, scell s.d.q s.r ((laidR (layS S (packB S.rows)).1.rows)) ((layS S (packB S.rows)).1.size)) :: (L ++ X17)) w15 := h20
  refine wl_nil ?_
  refine then_at (F := ⟨(pt s.q :: un :: iN .i64 0 :: iN .i64 ((layS S (packB S.rows)).2) :: pt s.q :: .bool false :: pt s.q :: pt s.q :: .string (packB S.rows) :: iN .i64 ((layS S (packB S.rows)).2) :: iN .i64 ((layS S (packB S.rows)).2) :: .bool true :: pt s.q :: pt s.q :: pt s.q :: pt s.d.q :: iN .i64 ((RemoveD ((layS S (packB S.rows)).1.D) nN).2) :: List.replicate 1 un).toArray, []⟩) (by kernel_rfl) ?_
  refine wp_seq ?_
  refine wl_region ?_
  refine zwv (iN .i64 ((layS S (packB S.rows)).2)) ?_
  refine zwv (iN .i64 ((layS S (packB S.rows)).2)) ?_
  refine wl_nil ?_
  refine then_at (F := ⟨(pt s.q :: un :: iN .i64 ((layS S (packB S.rows)).2) :: iN .i64 ((layS S (packB S.rows)).2) :: pt s.q :: .bool false :: pt s.q :: pt s.q :: .string (packB S.rows) :: iN .i64 ((layS S (packB S.rows)).2) :: iN .i64 ((layS S (packB S.rows)).2) :: .bool true :: pt s.q :: pt s.q :: pt s.q :: pt s.d.q :: iN .i64 ((RemoveD ((layS S (packB S.rows)).1.D) nN).2) :: iN .i64 ((layS S (packB S.rows)).2) :: List.replicate 0 un).toArray, []⟩) (by kernel_rfl) ?_
  refine wp_ret ?_
  repeat first | refine then_ret ?_ | refine block_ret ?_
  exact bodyPost_ret (v := iN .i64 (layS S (packB S.rows)).2) (by kernel_rfl) rfl ⟨by rw [PackS, if_pos hfull, hfull], by rw [PackS, if_pos hfull]; exact ⟨rs, nx, hrs, hK, (hcl18 ((s.q, 73, scell s.d.q s.r ((laidR (layS S (packB S.rows)).1.rows)) ((layS S (packB S.rows)).1.size)) :: L) _ h21)⟩⟩
 ·refine wl_region ?_
  refine zwv (iN .i64 ((layS S (packB S.rows)).2)) ?_
  refine zwx (.bool false) (run_eqi (k := .i64) (a := (layS S (packB S.rows)).2) (b := 7) (by kernel_rfl) (by kernel_rfl) false (decide_eq_false hfull)) ?_
  refine wl_nil ?_
  refine then_at (F := ⟨(pt s.q :: un :: iN .i64 0 :: iN .i64 ((layS S (packB S.rows)).2) :: pt s.q :: .bool false :: pt s.q :: pt s.q :: .string (packB S.rows) :: iN .i64 ((layS S (packB S.rows)).2) :: iN .i64 ((layS S (packB S.rows)).2) :: .bool false :: List.replicate 6 un).toArray, []⟩) (by kernel_rfl) ?_
  refine wp_cond_false (by kernel_rfl) ?_
  refine wp_skip ?_
  refine then_at (F := ⟨(pt s.q :: un :: iN .i64 0 :: iN .i64 ((layS S (packB S.rows)).2) :: pt s.q :: .bool false :: pt s.q :: pt s.q :: .string (packB S.rows) :: iN .i64 ((layS S (packB S.rows)).2) :: iN .i64 ((layS S (packB S.rows)).2) :: .bool false :: List.replicate 6 un).toArray, []⟩) (by kernel_rfl) ?_
  refine wp_seq ?_
  refine wl_region ?_
  refine zwv (iN .i64 ((layS S (packB S.rows)).2)) ?_
  refine zwv (iN .i64 ((layS S (packB S.rows)).2)) ?_
  refine wl_nil ?_
  refine then_at (F := ⟨(pt s.q :: un :: iN .i64 ((layS S (packB S.rows)).2) :: iN .i64 ((layS S (packB S.rows)).2) :: pt s.q :: .bool false :: pt s.q :: pt s.q :: .string (packB S.rows) :: iN .i64 ((layS S (packB S.rows)).2) :: iN .i64 ((layS S (packB S.rows)).2) :: .bool false :: un :: un :: un :: un :: un :: iN .i64 ((layS S (packB S.rows)).2) :: List.replicate 0 un).toArray, []⟩) (by kernel_rfl) ?_
  refine wp_ret ?_
  repeat first | refine then_ret ?_ | refine block_ret ?_
  exact bodyPost_ret (v := iN .i64 (layS S (packB S.rows)).2) (by kernel_rfl) rfl ⟨by rw [PackS, if_neg hfull], by rw [PackS, if_neg hfull]; exact hS5⟩
end Go.Proofs.YtckmlaempffpjaaGreat

namespace Go.Proofs.YtckmlaempffpjaaGreat
open Go.RowKit

set_option linter.unusedVariables false in
set_option maxRecDepth 100000 in
set_option maxHeartbeats 2000000 in
theorem write_any {w0 : World} {M : ML} {s : Sk} {S : SS} {L : BL} {w : World} (h : SH w0 M s S L w) {R N : Nat} (hg : DG S.D R N) (hN : N ≤ 9000000) {n : Nat} (hr : RB S.rows n) (hn : n ≤ 2000) (hR : R ≤ 300000000) (fr : ByteArray) (hfr : fr.size ≤ 100000000) (hsz : S.size ≤ 1000000000000) :
  Calls Tryz.prog 54 #[pt s.q, .string fr] w fun e w' => e = .returned (iN .i64 (writeS S fr).2) ∧ SH w0 M s (writeS S fr).1 L w' := by
 have hnd := h.nodup
 obtain ⟨rs, nx, hrs, hK, hD0⟩ := h
 obtain ⟨z, X, hcl, hbe, H00⟩ := DH.front hD0
 have H0 : HA z ((s.q, 73, scell s.d.q s.r (laidR S.rows) S.size) :: (L ++ X)) w := H00
 have hsP : (PackS (wrA S fr).1).1.size ≤ 1000000000000 := Pack_size (pack_small hnd hr hn hR) hsz
 go_enter Tryz.func54, Tryz.ntmps54
 refine wp_seq ?_
 refine wl_region ?_
 refine zwv (iN .i64 0) ?_
 refine wl_nil ?_
 refine then_at rfl ?_
 refine wp_seq ?_
 refine wl_region ?_
 refine zwv (.pointer (some ⟨s.q, 0, none⟩)) ?_
 refine zwv (.pointer (some ⟨s.q, 0, none⟩)) ?_
 refine zwv (.pointer (some ⟨s.q, 0, none⟩)) ?_
 refine zwx (.pointer (some ⟨s.d.q, 0, none⟩)) (run_load1 (fun w => Tryz.isAgg23 w) (by kernel_rfl) (((H0.get 0 rfl).cell 0).trans rfl)) ?_
 refine zwv (.string fr) ?_
 refine wl_callx (by kernel_rfl) enter24 #[.pointer (some ⟨s.d.q, 0, none⟩), .string nS, .string fr] (by kernel_rfl) (Append_any (hcl ((s.q, 73, scell s.d.q s.r ((laidR S.rows)) S.size) :: L) _ H0) nS fr hg.db (by omega) (by omega)) ?_
 rintro _ w3 ⟨rfl, hD1⟩
 refine ⟨_, rfl, ?_⟩
 have hg2 := hg.app nS fr
 obtain ⟨z4, X5, hcl6, hbe7, h8⟩ := DH.front hD1
 have h9 : HA z4 ((s.q, 73, scell s.d.q s.r ((laidR S.rows)) S.size) :: (L ++ X5)) w3 := h8
 refine zwv (iN .i64 ((AppendD S.D nS fr).2)) ?_
 refine wl_nil ?_
 refine then_at rfl ?_
 refine wp_seq ?_
 refine wp_seq ?_
 by_cases hw1 : (wrA S fr).2 = 7
 ·refine wl_region ?_
  refine zwv (iN .i64 ((AppendD S.D nS fr).2)) ?_
  refine zwx (.bool true) (run_eqi (k := .i64) (a := (AppendD S.D nS fr).2) (b := 7) (by kernel_rfl) (by kernel_rfl) true (decide_eq_true hw1)) ?_
  refine wl_nil ?_
  refine then_at rfl ?_
  refine wp_cond_true (by kernel_rfl) ?_
  refine wp_seq ?_
  refine wl_region ?_
  refine zwv (.pointer (some ⟨s.q, 0, none⟩)) ?_
  refine wl_callx (by kernel_rfl) enter15 #[.pointer (some ⟨s.q, 0, none⟩)] (by kernel_rfl) (Pack_any (S := (wrA S fr).1) ⟨rs, nx, hrs, hK, (hcl6 ((s.q, 73, scell s.d.q s.r ((laidR S.rows)) S.size) :: L) _ h9)⟩ hg2 (by omega) hr hn hR) ?_
  rintro _ w10 ⟨rfl, hP5⟩
  refine ⟨_, rfl, ?_⟩
  obtain ⟨rs, nx, hrs, hK, hD5⟩ := hP5
  rw [Pack_rows] at hrs
  have hg5 := hg2.packS (S := (wrA S fr).1)
  have hD6 : DH w0 ((s.r, MO.mp (eR rs) nx) :: M) s.d (PackS (wrA S fr).1).1.D ((s.q, 73, scell s.d.q s.r (laidR S.rows) (PackS (wrA S fr).1).1.size) :: L) w10 := by rw [Pack_rows] at hD5; exact hD5
  obtain ⟨z11, X12, hcl13, hbe14, h15⟩ := DH.front hD6
  have h16 : HA z11 ((s.q, 73, scell s.d.q s.r ((laidR S.rows)) ((PackS (wrA S fr).1).1.size)) :: (L ++ X12)) w10 := h15
  refine zwv (iN .i64 ((PackS (wrA S fr).1).2)) ?_
  refine wl_nil ?_
  refine then_at rfl ?_
  refine wp_seq ?_
  by_cases hw2 : (PackS (wrA S fr).1).2 = 0
  ·refine wl_region ?_
   refine zwv (iN .i64 ((PackS (wrA S fr).1).2)) ?_
   refine zwx (.bool true) (run_eqi (k := .i64) (a := (PackS (wrA S fr).1).2) (b := 0) (by kernel_rfl) (by kernel_rfl) true (decide_eq_true hw2)) ?_
   refine wl_nil ?_
   refine then_at rfl ?_
   refine wp_cond_true (by kernel_rfl) ?_
   refine wl_region ?_
   refine zwv (.pointer (some ⟨s.q, 0, none⟩)) ?_
   refine zwv (.pointer (some ⟨s.q, 0, none⟩)) ?_
   refine zwv (.pointer (some ⟨s.q, 0, none⟩)) ?_
   refine zwx (.pointer (some ⟨s.d.q, 0, none⟩)) (run_load1 (fun w => Tryz.isAgg23 w) (by kernel_rfl) (((h16.get 0 rfl).cell 0).trans rfl)) ?_
   refine zwv (.string fr) ?_
   refine wl_callx (by kernel_rfl) enter24 #[.pointer (some ⟨s.d.q, 0, none⟩), .string nS, .string fr] (by kernel_rfl) (Append_any (hcl13 ((s.q, 73, scell s.d.q s.r ((laidR S.rows)) ((PackS (wrA S fr).1).1.size)) :: L) _ h16) nS fr hg5.db (by omega) (by omega)) ?_
   rintro _ w19 ⟨rfl, hD17⟩
   refine ⟨_, rfl, ?_⟩
   have hg18 := hg5.app nS fr
   obtain ⟨z20, X21, hcl22, hbe23, h24⟩ := DH.front hD17
   have h25 : HA z20 ((s.q, 73, scell s.d.q s.r ((laidR S.rows)) ((PackS (wrA S fr).1).1.size)) :: (L ++ X21)) w19 := h24
   refine zwv (iN .i64 ((AppendD ((PackS (wrA S fr).1).1.D) nS fr).2)) ?_
   refine wl_nil ?_
   refine then_at rfl ?_
   refine wp_seq ?_
   refine wp_seq ?_
   have hwB : wrB S fr = wrA (PackS (wrA S fr).1).1 fr := by rw [wrB, if_pos hw1, if_pos hw2]
   by_cases hw3 : (AppendD (PackS (wrA S fr).1).1.D nS fr).2 ≠ 0
   ·refine wl_region ?_
    refine zwv (iN .i64 ((AppendD ((PackS (wrA S fr).1).1.D) nS fr).2)) ?_
    refine zwx (.bool true) (run_nei (k := .i64) (a := (AppendD ((PackS (wrA S fr).1).1.D) nS fr).2) (b := 0) (by kernel_rfl) (by kernel_rfl) true (decide_eq_true hw3)) ?_
    refine wl_nil ?_
    refine then_at rfl ?_
    refine wp_cond_true (by kernel_rfl) ?_
    refine wp_seq ?_
    refine wl_region ?_
    refine zwv (iN .i64 ((AppendD ((PackS (wrA S fr).1).1.D) nS fr).2)) ?_
    refine zwv (iN .i64 ((AppendD ((PackS (wrA S fr).1).1.D) nS fr).2)) ?_
    refine wl_nil ?_
    refine then_at rfl ?_
    refine wp_ret ?_
    repeat first | refine then_ret ?_ | refine block_ret ?_
    exact bodyPost_ret (v := iN .i64 (AppendD (PackS (wrA S fr).1).1.D nS fr).2) (by kernel_rfl) rfl (by rw [writeS, hwB, if_pos (by exact hw3)]; exact ⟨rfl, ⟨rs, nx, hrs.trans (Pack_rows _).symm, hK, by first | exact (hcl22 ((s.q, 73, scell s.d.q s.r ((laidR S.rows)) ((PackS (wrA S fr).1).1.size)) :: L) _ h25) | (have h9 := (hcl22 ((s.q, 73, scell s.d.q s.r ((laidR S.rows)) ((PackS (wrA S fr).1).1.size)) :: L) _ h25); rw [show laidR S.rows = laidR (PackS (wrA S fr).1).1.rows by rw [Pack_rows]; rfl] at h9; exact h9)⟩⟩)
   ·refine wl_region ?_
    refine zwv (iN .i64 ((AppendD ((PackS (wrA S fr).1).1.D) nS fr).2)) ?_
    refine zwx (.bool false) (run_nei (k := .i64) (a := (AppendD ((PackS (wrA S fr).1).1.D) nS fr).2) (b := 0) (by kernel_rfl) (by kernel_rfl) false (decide_eq_false hw3)) ?_
    refine wl_nil ?_
    refine then_at rfl ?_
    refine wp_cond_false (by kernel_rfl) ?_
    refine wp_skip ?_
    refine then_at rfl ?_
    refine wp_seq ?_
    refine wl_region ?_
    refine zwv (.pointer (some ⟨s.q, 0, none⟩)) ?_
    refine zwv (.pointer (some ⟨s.q, 0, none⟩)) ?_
    refine zwv (.pointer (some ⟨s.q, 3, none⟩)) ?_
    refine wl_val (iN .i64 ((PackS (wrA S fr).1).1.size)) (by kernel_rfl) (run_load1 (fun w => Tryz.isAgg3 w) (by kernel_rfl) (((h25.get 0 rfl).cell 3).trans rfl)) ?_
    refine zwv (.string fr) ?_
    refine zwx (iN .i64 fr.size) (run_len (s := fr) (by kernel_rfl)) ?_
    refine wl_val (iN .i64 (((PackS (wrA S fr).1).1.size) + fr.size)) (by kernel_rfl) (run_add (k := .i64) (a := (PackS (wrA S fr).1).1.size) (b := fr.size) (by kernel_rfl) (by kernel_rfl) (by first | omega | (simp only [top]; omega))) ?_
    refine zwv (.pointer (some ⟨s.q, 0, none⟩)) ?_
    refine zwv (.pointer (some ⟨s.q, 3, none⟩)) ?_
    refine wl_putv (v := iN .i64 (((PackS (wrA S fr).1).1.size) + fr.size)) h25 0 rfl 3 (by show 3 < 4; decide) (by kernel_rfl) (fun w => Tryz.sizeOf3 w) (by kernel_rfl) (by kernel_rfl) (by kernel_rfl) ?_
    intro w26 (h27 : HA z20 ((s.q, 73, #[.pointer (some ⟨s.d.q, 0, none⟩), .map (some s.r), iN .i64 ((laidR S.rows)), iN .i64 (((PackS (wrA S fr).1).1.size) + fr.size)]) :: (L ++ X21)) w26)
    refine wl_nil ?_
    refine then_at rfl ?_
    refine wp_seq ?_
    refine wl_region ?_
    refine zwv (.pointer (some ⟨s.q, 0, none⟩)) ?_
    refine zwv (.pointer (some ⟨s.q, 0, none⟩)) ?_
    refine zwv (.pointer (some ⟨s.q, 0, none⟩)) ?_
    refine zwx (.pointer (some ⟨s.d.q, 0, none⟩)) (run_load1 (fun w => Tryz.isAgg23 w) (by kernel_rfl) (((h27.get 0 rfl).cell 0).trans rfl)) ?_
    refine wl_callx (by kernel_rfl) enter32 #[.pointer (some ⟨s.d.q, 0, none⟩), .string nS] (by kernel_rfl) (Sync_any (hcl22 ((s.q, 73, #[.pointer (some ⟨s.d.q, 0, none⟩), .map (some s.r), iN .i64 ((laidR S.rows)), iN .i64 (((PackS (wrA S fr).1).1.size) + fr.size)]) :: L) _ h27) nS hg18.db (by omega)) ?_
    rintro _ w30 ⟨rfl, hD28⟩
    refine ⟨_, rfl, ?_⟩
    have hg29 := hg18.sync nS
    obtain ⟨z31, X32, hcl33, hbe34, h35⟩ := DH.front hD28
    have h36 : HA z31 ((s.q, 73, #[.pointer (some ⟨s.d.q, 0, none⟩), .map (some s.r), iN .i64 ((laidR S.rows)), iN .i64 (((PackS (wrA S fr).1).1.size) + fr.size)]) :: (L ++ X32)) w30 := h35
    refine zwv (iN .i64 ((SyncD ((AppendD ((PackS (wrA S fr).1).1.D) nS fr).1) nS).2)) ?_
    refine wl_nil ?_
    refine then_at rfl ?_
    refine wp_ret ?_
    repeat first | refine then_ret ?_ | refine block_ret ?_
    exact bodyPost_ret (v := iN .i64 (SyncD (AppendD (PackS (wrA S fr).1).1.D nS fr).1 nS).2) (by kernel_rfl) rfl (by rw [writeS, hwB, if_neg (by exact hw3)]; exact ⟨rfl, ⟨rs, nx, hrs.trans (Pack_rows _).symm, hK, by first | exact (hcl33 ((s.q, 73, #[.pointer (some ⟨s.d.q, 0, none⟩), .map (some s.r), iN .i64 ((laidR S.rows)), iN .i64 (((PackS (wrA S fr).1).1.size) + fr.size)]) :: L) _ h36) | (have h9 := (hcl33 ((s.q, 73, #[.pointer (some ⟨s.d.q, 0, none⟩), .map (some s.r), iN .i64 ((laidR S.rows)), iN .i64 (((PackS (wrA S fr).1).1.size) + fr.size)]) :: L) _ h36); rw [show laidR S.rows = laidR (PackS (wrA S fr).1).1.rows by rw [Pack_rows]; rfl] at h9; exact h9)⟩⟩)
  ·refine wl_region ?_
   refine zwv (iN .i64 ((PackS (wrA S fr).1).2)) ?_
   refine zwx (.bool false) (run_eqi (k := .i64) (a := (PackS (wrA S fr).1).2) (b := 0) (by kernel_rfl) (by kernel_rfl) false (decide_eq_false hw2)) ?_
   refine wl_nil ?_
   refine then_at rfl ?_
   refine wp_cond_false (by kernel_rfl) ?_
   refine wp_skip ?_
   refine then_at rfl ?_
   refine wp_seq ?_
   refine wp_seq ?_
   have hwB : wrB S fr = PackS (wrA S fr).1 := by rw [wrB, if_pos hw1, if_neg hw2]
   by_cases hw3 : (PackS (wrA S fr).1).2 ≠ 0
   ·refine wl_region ?_
    refine zwv (iN .i64 ((PackS (wrA S fr).1).2)) ?_
    refine zwx (.bool true) (run_nei (k := .i64) (a := (PackS (wrA S fr).1).2) (b := 0) (by kernel_rfl) (by kernel_rfl) true (decide_eq_true hw3)) ?_
    refine wl_nil ?_
    refine then_at rfl ?_
    refine wp_cond_true (by kernel_rfl) ?_
    refine wp_seq ?_
    refine wl_region ?_
    refine zwv (iN .i64 ((PackS (wrA S fr).1).2)) ?_
    refine zwv (iN .i64 ((PackS (wrA S fr).1).2)) ?_
    refine wl_nil ?_
    refine then_at rfl ?_
    refine wp_ret ?_
    repeat first | refine then_ret ?_ | refine block_ret ?_
    exact bodyPost_ret (v := iN .i64 (PackS (wrA S fr).1).2) (by kernel_rfl) rfl (by rw [writeS, hwB, if_pos (by exact hw3)]; exact ⟨rfl, ⟨rs, nx, hrs.trans (Pack_rows _).symm, hK, by first | exact (hcl13 ((s.q, 73, scell s.d.q s.r ((laidR S.rows)) ((PackS (wrA S fr).1).1.size)) :: L) _ h16) | (have h9 := (hcl13 ((s.q, 73, scell s.d.q s.r ((laidR S.rows)) ((PackS (wrA S fr).1).1.size)) :: L) _ h16); rw [show laidR S.rows = laidR (PackS (wrA S fr).1).1.rows by rw [Pack_rows]; rfl] at h9; exact h9)⟩⟩)
   ·refine wl_region ?_
    refine zwv (iN .i64 ((PackS (wrA S fr).1).2)) ?_
    refine zwx (.bool false) (run_nei (k := .i64) (a := (PackS (wrA S fr).1).2) (b := 0) (by kernel_rfl) (by kernel_rfl) false (decide_eq_false hw3)) ?_
    refine wl_nil ?_
    refine then_at rfl ?_
    refine wp_cond_false (by kernel_rfl) ?_
    refine wp_skip ?_
    refine then_at rfl ?_
    refine wp_seq ?_
    refine wl_region ?_
    refine zwv (.pointer (some ⟨s.q, 0, none⟩)) ?_
    refine zwv (.pointer (some ⟨s.q, 0, none⟩)) ?_
    refine zwv (.pointer (some ⟨s.q, 3, none⟩)) ?_
    refine wl_val (iN .i64 ((PackS (wrA S fr).1).1.size)) (by kernel_rfl) (run_load1 (fun w => Tryz.isAgg3 w) (by kernel_rfl) (((h16.get 0 rfl).cell 3).trans rfl)) ?_
    refine zwv (.string fr) ?_
    refine zwx (iN .i64 fr.size) (run_len (s := fr) (by kernel_rfl)) ?_
    refine wl_val (iN .i64 (((PackS (wrA S fr).1).1.size) + fr.size)) (by kernel_rfl) (run_add (k := .i64) (a := (PackS (wrA S fr).1).1.size) (b := fr.size) (by kernel_rfl) (by kernel_rfl) (by first | omega | (simp only [top]; omega))) ?_
    refine zwv (.pointer (some ⟨s.q, 0, none⟩)) ?_
    refine zwv (.pointer (some ⟨s.q, 3, none⟩)) ?_
    refine wl_putv (v := iN .i64 (((PackS (wrA S fr).1).1.size) + fr.size)) h16 0 rfl 3 (by show 3 < 4; decide) (by kernel_rfl) (fun w => Tryz.sizeOf3 w) (by kernel_rfl) (by kernel_rfl) (by kernel_rfl) ?_
    intro w37 (h38 : HA z11 ((s.q, 73, #[.pointer (some ⟨s.d.q, 0, none⟩), .map (some s.r), iN .i64 ((laidR S.rows)), iN .i64 (((PackS (wrA S fr).1).1.size) + fr.size)]) :: (L ++ X12)) w37)
    refine wl_nil ?_
    refine then_at rfl ?_
    refine wp_seq ?_
    refine wl_region ?_
    refine zwv (.pointer (some ⟨s.q, 0, none⟩)) ?_
    refine zwv (.pointer (some ⟨s.q, 0, none⟩)) ?_
    refine zwv (.pointer (some ⟨s.q, 0, none⟩)) ?_
    refine zwx (.pointer (some ⟨s.d.q, 0, none⟩)) (run_load1 (fun w => Tryz.isAgg23 w) (by kernel_rfl) (((h38.get 0 rfl).cell 0).trans rfl)) ?_
    refine wl_callx (by kernel_rfl) enter32 #[.pointer (some ⟨s.d.q, 0, none⟩), .string nS] (by kernel_rfl) (Sync_any (hcl13 ((s.q, 73, #[.pointer (some ⟨s.d.q, 0, none⟩), .map (some s.r), iN .i64 ((laidR S.rows)), iN .i64 (((PackS (wrA S fr).1).1.size) + fr.size)]) :: L) _ h38) nS hg5.db (by omega)) ?_
    rintro _ w41 ⟨rfl, hD39⟩
    refine ⟨_, rfl, ?_⟩
    have hg40 := hg5.sync nS
    obtain ⟨z42, X43, hcl44, hbe45, h46⟩ := DH.front hD39
    have h47 : HA z42 ((s.q, 73, #[.pointer (some ⟨s.d.q, 0, none⟩), .map (some s.r), iN .i64 ((laidR S.rows)), iN .i64 (((PackS (wrA S fr).1).1.size) + fr.size)]) :: (L ++ X43)) w41 := h46
    refine zwv (iN .i64 ((SyncD ((PackS (wrA S fr).1).1.D) nS).2)) ?_
    refine wl_nil ?_
    refine then_at rfl ?_
    refine wp_ret ?_
    repeat first | refine then_ret ?_ | refine block_ret ?_
    exact bodyPost_ret (v := iN .i64 (SyncD (PackS (wrA S fr).1).1.D nS).2) (by kernel_rfl) rfl (by rw [writeS, hwB, if_neg (by exact hw3)]; exact ⟨rfl, ⟨rs, nx, hrs.trans (Pack_rows _).symm, hK, by first | exact (hcl44 ((s.q, 73, #[.pointer (some ⟨s.d.q, 0, none⟩), .map (some s.r), iN .i64 ((laidR S.rows)), iN .i64 (((PackS (wrA S fr).1).1.size) + fr.size)]) :: L) _ h47) | (have h9 := (hcl44 ((s.q, 73, #[.pointer (some ⟨s.d.q, 0, none⟩), .map (some s.r), iN .i64 ((laidR S.rows)), iN .i64 (((PackS (wrA S fr).1).1.size) + fr.size)]) :: L) _ h47); rw [show laidR S.rows = laidR (PackS (wrA S fr).1).1.rows by rw [Pack_rows]; rfl] at h9; exact h9)⟩⟩)
 ·refine wl_region ?_
  refine zwv (iN .i64 ((AppendD S.D nS fr).2)) ?_
  refine zwx (.bool false) (run_eqi (k := .i64) (a := (AppendD S.D nS fr).2) (b := 7) (by kernel_rfl) (by kernel_rfl) false (decide_eq_false hw1)) ?_
  refine wl_nil ?_
  refine then_at rfl ?_
  refine wp_cond_false (by kernel_rfl) ?_
  refine wp_skip ?_
  refine then_at rfl ?_
  refine wp_seq ?_
  refine wp_seq ?_
  have hwB : wrB S fr = wrA S fr := by rw [wrB, if_neg hw1]
  by_cases hw3 : (AppendD S.D nS fr).2 ≠ 0
  ·refine wl_region ?_
   refine zwv (iN .i64 ((AppendD S.D nS fr).2)) ?_
   refine zwx (.bool true) (run_nei (k := .i64) (a := (AppendD S.D nS fr).2) (b := 0) (by kernel_rfl) (by kernel_rfl) true (decide_eq_true hw3)) ?_
   refine wl_nil ?_
   refine then_at rfl ?_
   refine wp_cond_true (by kernel_rfl) ?_
   refine wp_seq ?_
   refine wl_region ?_
   refine zwv (iN .i64 ((AppendD S.D nS fr).2)) ?_
   refine zwv (iN .i64 ((AppendD S.D nS fr).2)) ?_
   refine wl_nil ?_
   refine then_at rfl ?_
   refine wp_ret ?_
   repeat first | refine then_ret ?_ | refine block_ret ?_
   exact bodyPost_ret (v := iN .i64 (AppendD S.D nS fr).2) (by kernel_rfl) rfl (by rw [writeS, hwB, if_pos (by exact hw3)]; exact ⟨rfl, ⟨rs, nx, hrs, hK, (hcl6 ((s.q, 73, scell s.d.q s.r ((laidR S.rows)) S.size) :: L) _ h9)⟩⟩)
  ·refine wl_region ?_
   refine zwv (iN .i64 ((AppendD S.D nS fr).2)) ?_
   refine zwx (.bool false) (run_nei (k := .i64) (a := (AppendD S.D nS fr).2) (b := 0) (by kernel_rfl) (by kernel_rfl) false (decide_eq_false hw3)) ?_
   refine wl_nil ?_
   refine then_at rfl ?_
   refine wp_cond_false (by kernel_rfl) ?_
   refine wp_skip ?_
   refine then_at rfl ?_
   refine wp_seq ?_
   refine wl_region ?_
   refine zwv (.pointer (some ⟨s.q, 0, none⟩)) ?_
   refine zwv (.pointer (some ⟨s.q, 0, none⟩)) ?_
   refine zwv (.pointer (some ⟨s.q, 3, none⟩)) ?_
   refine zwx (iN .i64 S.size) (run_load1 (fun w => Tryz.isAgg3 w) (by kernel_rfl) (((h9.get 0 rfl).cell 3).trans rfl)) ?_
   refine zwv (.string fr) ?_
   refine zwx (iN .i64 fr.size) (run_len (s := fr) (by kernel_rfl)) ?_
   refine zwx (iN .i64 (S.size + fr.size)) (run_add (k := .i64) (a := S.size) (b := fr.size) (by kernel_rfl) (by kernel_rfl) (by first | omega | (simp only [top]; omega))) ?_
   refine zwv (.pointer (some ⟨s.q, 0, none⟩)) ?_
   refine zwv (.pointer (some ⟨s.q, 3, none⟩)) ?_
   refine wl_putv (v := iN .i64 (S.size + fr.size)) h9 0 rfl 3 (by show 3 < 4; decide) (by kernel_rfl) (fun w => Tryz.sizeOf3 w) (by kernel_rfl) (by kernel_rfl) (by kernel_rfl) ?_
   intro w48 (h49 : HA z4 ((s.q, 73, #[.pointer (some ⟨s.d.q, 0, none⟩), .map (some s.r), iN .i64 ((laidR S.rows)), iN .i64 (S.size + fr.size)]) :: (L ++ X5)) w48)
   refine wl_nil ?_
   refine then_at rfl ?_
   refine wp_seq ?_
   refine wl_region ?_
   refine zwv (.pointer (some ⟨s.q, 0, none⟩)) ?_
   refine zwv (.pointer (some ⟨s.q, 0, none⟩)) ?_
   refine zwv (.pointer (some ⟨s.q, 0, none⟩)) ?_
   refine zwx (.pointer (some ⟨s.d.q, 0, none⟩)) (run_load1 (fun w => Tryz.isAgg23 w) (by kernel_rfl) (((h49.get 0 rfl).cell 0).trans rfl)) ?_
   refine wl_callx (by kernel_rfl) enter32 #[.pointer (some ⟨s.d.q, 0, none⟩), .string nS] (by kernel_rfl) (Sync_any (hcl6 ((s.q, 73, #[.pointer (some ⟨s.d.q, 0, none⟩), .map (some s.r), iN .i64 ((laidR S.rows)), iN .i64 (S.size + fr.size)]) :: L) _ h49) nS hg2.db (by omega)) ?_
   rintro _ w52 ⟨rfl, hD50⟩
   refine ⟨_, rfl, ?_⟩
   have hg51 := hg2.sync nS
   obtain ⟨z53, X54, hcl55, hbe56, h57⟩ := DH.front hD50
   have h58 : HA z53 ((s.q, 73, #[.pointer (some ⟨s.d.q, 0, none⟩), .map (some s.r), iN .i64 ((laidR S.rows)), iN .i64 (S.size + fr.size)]) :: (L ++ X54)) w52 := h57
   refine zwv (iN .i64 ((SyncD ((AppendD S.D nS fr).1) nS).2)) ?_
   refine wl_nil ?_
   refine then_at rfl ?_
   refine wp_ret ?_
   repeat first | refine then_ret ?_ | refine block_ret ?_
   exact bodyPost_ret (v := iN .i64 (SyncD (AppendD S.D nS fr).1 nS).2) (by kernel_rfl) rfl (by rw [writeS, hwB, if_neg (by exact hw3)]; exact ⟨rfl, ⟨rs, nx, hrs, hK, (hcl55 ((s.q, 73, #[.pointer (some ⟨s.d.q, 0, none⟩), .map (some s.r), iN .i64 ((laidR S.rows)), iN .i64 (S.size + fr.size)]) :: L) _ h58)⟩⟩)
end Go.Proofs.YtckmlaempffpjaaGreat
