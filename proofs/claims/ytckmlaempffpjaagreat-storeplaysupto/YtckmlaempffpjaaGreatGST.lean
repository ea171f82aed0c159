/-
 A store as a whole: what is kept, what its functions do to it.
-/
import Derived.Test.YtckmlaempffpjaaGreatS16
namespace Go.Proofs.YtckmlaempffpjaaGreat
open Go.RowKit Go.Shelf Go.Proofs.Tryz
theorem SH.facts {w0 : World} {M : ML} {s : Sk} {S : SS} {L : BL} {w : World} (h : SH w0 M s S L w) : ∃ rs nx, rws rs = S.rows ∧ RK rs nx ∧ Blk w s.q 73 (scell s.d.q s.r (laidR S.rows) S.size) ∧ w.heap[s.r]? = some (.map (eR rs) nx) := by
 obtain ⟨m, X, _, rs, nx, h1, h2, H⟩ := h.opn;exact ⟨rs, nx, h1, h2, H.get 0 rfl, H.old.maps _ (mc (List.mem_cons_self ..))⟩
theorem SH.keep {w0 : World} {M : ML} {s : Sk} {S : SS} {L : BL} {w w' : World} (h : SH w0 M s S L w) (hb : Below w.heap.size w w') : SH w0 M s S L w' := by
 obtain ⟨m, X, hc, rs, nx, h1, h2, H⟩ := h.opn;exact hc S.rows S.size L w' ⟨rs, nx, h1, h2, H.keep _ _ hb⟩
theorem SH.pure {w0 : World} {M : ML} {s : Sk} {S : SS} {L : BL} {w : World} (h : SH w0 M s S L w) {f : FuncId} {args : Array Value} {v : Value} (hc : Calls prog f args w fun e w' => e = .returned v ∧ Below w.heap.size w w') : Calls prog f args w fun e w' => e = .returned v ∧ SH w0 M s S L w' :=
 hc.mono fun _ _ hr => ⟨hr.1, h.keep hr.2⟩
theorem SH.nodup {w0 : World} {M : ML} {s : Sk} {S : SS} {L : BL} {w : World} (h : SH w0 M s S L w) : (S.rows.map (·.k)).Nodup := by
 obtain ⟨rs, nx, h1, h2, _⟩ := h.facts;rw [← h1, rws, List.map_map];exact h2.nms
theorem PV.more {w0 : World} {L X : BL} {o : Option Addr} {ps : List Rw} (h : PV w0 L o ps) : PV w0 (L ++ X) o ps := fun M A w H => h M A w (H.sub (by rw [← List.append_assoc]; exact List.sublist_append_left _ _))
theorem DV.more {w0 : World} {L X : BL} {o : Option Addr} {ds : List ByteArray} (h : DV w0 L o ds) : DV w0 (L ++ X) o ds := fun M A w H => h M A w (H.sub (by rw [← List.append_assoc]; exact List.sublist_append_left _ _))
theorem none_S {w0 : World} {M : ML} {s : Sk} {S : SS} {L : BL} {w : World} (h : SH w0 M s S L w) : Calls prog 47 #[pt s.q] w fun e w' => e = .returned (.bool false) ∧ SH w0 M s S L w' := by
 obtain ⟨rs, nx, h1, h2, hq, hm⟩ := h.facts;exact h.pure (snone_no hq)
structure RB (l : List Rw) (n : Nat) : Prop where
 k : ∀ x ∈ l, x.k.size ≤ 64
 v : ∀ x ∈ l, x.v.size ≤ 262144
 ct : l.length ≤ n
/-! how long what is laid is -/
theorem ordR_perm {l : List Rw} (hn : (l.map (·.k)).Nodup) : (ordR l).Perm l := by
 have h1 : (kys l).Perm (l.map (·.k)) := by
  have h := (List.mergeSort_perm (l.map fun x => bl x.k) leB).map (fun b => (⟨b.toArray⟩ : ByteArray));rw [List.map_map] at h;have e : (fun b => (⟨b.toArray⟩ : ByteArray)) ∘ (fun x : Rw => bl x.k) = (·.k) := by
   funext x; simp [bl]
  rw [e] at h;exact h
 have h2 := h1.map (rowOf l);rw [List.map_map] at h2;have e : l.map (rowOf l ∘ (·.k)) = l := by
  conv => rhs; rw [← List.map_id l]
  refine List.map_congr_left fun x hx => ?_
  obtain ⟨A, B, rfl⟩ := List.append_of_mem hx;rw [List.map_append, List.map_cons, List.nodup_append] at hn
  simp only [Function.comp_apply, id_eq, rowOf]
  rw [List.find?_append, List.find?_eq_none.2 (fun y hy => by
   have := hn.2.2 y.k (List.mem_map.2 ⟨y, hy, rfl⟩) x.k (by simp)
   simpa using this)]
  simp
 rw [e] at h2;exact h2
theorem rowB_len (x : Rw) : (rowB x).length = rsz x := by rw [rowB, List.length_append, ptB_len, ptB_len, rsz]; omega
theorem rows_len (l : List Rw) : (l.flatMap rowB).length = laidR l := by
 induction l with
 | nil => rfl
 | cons x l ih => rw [List.flatMap_cons, List.length_append, ih, rowB_len]; simp [laidR]
theorem frame_len (ps : List Rw) : (frameB ps []).length = 8 + laidR ps := by
 rw [frameB_len, bodyB]
 simp only [List.length_append, Wi.be_length, rows_len, List.flatMap_nil, List.length_nil]
 omega
theorem piece_rest (l : List Rw) (j : Nat) : laidR (pieceR l j) + laidR (l.drop (64 * (j + 1))) = laidR (l.drop (64 * j)) := by
 have e : l.drop (64 * j) = pieceR l j ++ l.drop (64 * (j + 1)) := by
  rw [pieceR, show 64 * (j + 1) = 64 * j + 64 by omega, ← List.drop_drop];exact (List.take_append_drop _ _).symm
 rw [e, laid_app]
theorem pack_upto (l : List Rw) (k : Nat) : (packK l (List.range k)).length + laidR ((ordR l).drop (64 * k)) = laidR (ordR l) + 8 * k := by
 induction k with
 | zero => simp [packK]
 | succ k ih =>
  have h := piece_rest (ordR l) k;rw [packK_snoc, List.length_append, frame_len]
  omega
theorem laid_perm {a b : List Rw} (h : a.Perm b) : laidR a = laidR b := (h.map rsz).sum_nat
theorem packL_len {l : List Rw} (hn : (l.map (·.k)).Nodup) : (packL l).length = laidR l + (l.length + 63) / 64 * 8 := by
 have h := pack_upto l ((l.length + 63) / 64);rw [List.drop_eq_nil_of_le (by rw [ordR_len]; omega), laid_perm (ordR_perm hn)] at h;have h0 : laidR [] = 0 := rfl;have e : packL l = packK l (List.range ((l.length + 63) / 64)) := rfl;rw [e]
 omega
theorem laid_le {l : List Rw} {n : Nat} (h : RB l n) : laidR l ≤ l.length * 262216 := by
 have key : ∀ l : List Rw, (∀ x ∈ l, x.k.size ≤ 64) → (∀ x ∈ l, x.v.size ≤ 262144) → laidR l ≤ l.length * 262216 := by
  intro l hk hv
  induction l with
  | nil => exact Nat.le_refl _
  | cons x l ih =>
   have h1 := ih (fun y hy => hk y (.tail _ hy)) (fun y hy => hv y (.tail _ hy));have h2 := hk x (.head _);have h3 := hv x (.head _);have e : laidR (x :: l) = rsz x + laidR l := by simp [laidR]
   rw [e, rsz, List.length_cons]
   omega
 exact key l h.k h.v
theorem packB_size (l : List Rw) : (packB l).size = (packL l).length := by
 show (packL l).toArray.size = _
 rw [List.size_toArray]
theorem len_S {w0 : World} {M : ML} {s : Sk} {S : SS} {L : BL} {w : World} (h : SH w0 M s S L w) : Calls prog 26 #[pt s.q] w fun e w' => e = .returned (i6 S.rows.length) ∧ Below w.heap.size w w' := by
 obtain ⟨rs, nx, h1, h2, hq, hm⟩ := h.facts;have hle : rs.length = S.rows.length := by rw [← h1, rws, List.length_map]
 rw [← hle];exact slen_any hq hm
end Go.Proofs.YtckmlaempffpjaaGreat
namespace Go.Proofs.YtckmlaempffpjaaGreat
open Go.RowKit Go.Proofs.Tryz
/-! what Pack, write and Do do -/
def layS (S : SS) (fr : ByteArray) : SS × Nat := (⟨(layD S.D fr).1, S.rows, if (layD S.D fr).2 = 0 then fr.size else S.size⟩, (layD S.D fr).2)
def PackS (S : SS) : SS × Nat := if (layS S (packB S.rows)).2 = 7 then (⟨(RemoveD (layS S (packB S.rows)).1.D nN).1, (layS S (packB S.rows)).1.rows, (layS S (packB S.rows)).1.size⟩, 7) else layS S (packB S.rows)
def wrA (S : SS) (fr : ByteArray) : SS × Nat := (⟨(AppendD S.D nS fr).1, S.rows, S.size⟩, (AppendD S.D nS fr).2)
def wrB (S : SS) (fr : ByteArray) : SS × Nat := if (wrA S fr).2 = 7 then (if (PackS (wrA S fr).1).2 = 0 then wrA (PackS (wrA S fr).1).1 fr else PackS (wrA S fr).1) else wrA S fr
def syS (S : SS) (fr : ByteArray) : SS × Nat := (⟨(SyncD S.D nS).1, S.rows, S.size + fr.size⟩, (SyncD S.D nS).2)
def writeS (S : SS) (fr : ByteArray) : SS × Nat := if (wrB S fr).2 ≠ 0 then wrB S fr else syS (wrB S fr).1 fr
def frmB (ps : List Rw) (ds : List ByteArray) : ByteArray := ⟨(frameB ps ds).toArray⟩
def preS (S : SS) : SS × Nat := if 1024 + 2 * (packL S.rows).length < S.size then PackS S else (S, 0)
def chgS (S : SS) (ps : List Rw) (ds : List ByteArray) : SS × Nat := if (writeS S (frmB ps ds)).2 ≠ 0 then writeS S (frmB ps ds) else (⟨(writeS S (frmB ps ds)).1.D, applyR (writeS S (frmB ps ds)).1.rows ps ds, (writeS S (frmB ps ds)).1.size⟩, 0)
def DoS (S : SS) (ps : List Rw) (ds : List ByteArray) : SS × Nat :=
 if refR ps ds ≠ 0 ∨ ps.length + ds.length = 0 then (S, refR ps ds)
 else if (preS S).2 ≠ 0 ∧ (preS S).2 ≠ 7 then preS S
 else chgS (preS S).1 ps ds
theorem Pack_rows (S : SS) : (PackS S).1.rows = S.rows := by unfold PackS; split <;> rfl
theorem wrB_rows (S : SS) (fr : ByteArray) : (wrB S fr).1.rows = S.rows := by
 unfold wrB
 split
 ·split
  ·exact Pack_rows _
  ·exact Pack_rows _
 ·rfl
theorem write_rows (S : SS) (fr : ByteArray) : (writeS S fr).1.rows = S.rows := by
 unfold writeS
 split
 ·exact wrB_rows S fr
 ·exact wrB_rows S fr
theorem Pack_size {S : SS} {R : Nat} (h : R + (packB S.rows).size ≤ 1000000000) (hs : S.size ≤ 1000000000000) : (PackS S).1.size ≤ 1000000000000 := by
 have h1 : (layS S (packB S.rows)).1.size ≤ 1000000000000 := by
  unfold layS
  simp only
  split <;> omega
 unfold PackS
 split
 ·exact h1
 ·exact h1
end Go.Proofs.YtckmlaempffpjaaGreat
namespace Go.Proofs.YtckmlaempffpjaaGreat
open Go.RowKit Go.Proofs.Tryz
end Go.Proofs.YtckmlaempffpjaaGreat
namespace Go.Proofs.YtckmlaempffpjaaGreat
open Go.RowKit Go.Proofs.Tryz
theorem SH.drop1 {w0 : World} {M : ML} {s : Sk} {S : SS} {x : Nat × TypeId × Array Value} {L : BL} {w : World} (h : SH w0 M s S (x :: L) w) : SH w0 M s S L w := by
 obtain ⟨rs, nx, h1, h2, H⟩ := h;exact ⟨rs, nx, h1, h2, DH.drop (A := [x]) (by
  obtain ⟨fl, n2, v, Lr, g1, g2, g3, H⟩ := H;exact ⟨fl, n2, v, Lr, g1, g2, g3, H.perm (List.Perm.cons _ (List.Perm.append_left _ (List.Perm.append_left _ (List.Perm.swap _ _ _))))⟩)⟩
theorem PV.cons {w0 : World} {L : BL} {o : Option Addr} {ps : List Rw} (h : PV w0 L o ps) (x : Nat × TypeId × Array Value) : PV w0 (x :: L) o ps := fun M A w H => h M (A ++ [x]) w (by rw [List.append_assoc]; exact H)
theorem DV.cons {w0 : World} {L : BL} {o : Option Addr} {ds : List ByteArray} (h : DV w0 L o ds) (x : Nat × TypeId × Array Value) : DV w0 (x :: L) o ds := fun M A w H => h M (A ++ [x]) w (by rw [List.append_assoc]; exact H)
theorem ref_ok {ps : List Rw} {ds : List ByteArray} (h : refR ps ds = 0) : RB ps 64 ∧ ps.length + ds.length ≤ 64 ∧ (∀ k ∈ keysOf ps ds, k.size ≠ 0 ∧ k.size ≤ 64) := by
 unfold refR at h
 split at h
 ·cases h
 ·rename_i h0
  split at h
  ·cases h
  ·rename_i h1
   have hl : lng (ps.length + ds.length) (keysOf ps ds) = false ∧ lngV ps = false := by
    cases e1 : lng (ps.length + ds.length) (keysOf ps ds) <;> cases e2 : lngV ps <;> simp [e1, e2] at h1 ⊢
   obtain ⟨ha, hb⟩ := hl
   unfold lng at ha
   rw [Bool.or_eq_false_iff] at ha;have hn := of_decide_eq_false ha.1;have hk : ∀ k ∈ keysOf ps ds, k.size ≠ 0 ∧ k.size ≤ 64 := fun k hk => by
    have h2 := List.any_eq_false.1 ha.2 k hk;have h3 : ¬ decide (k.size = 0) = true := fun e => h0 (List.any_eq_true.2 ⟨k, hk, e⟩)
    simp only [decide_eq_true_eq] at h2 h3
    omega
   refine ⟨⟨fun x hx => (hk x.k (by rw [keysOf]; exact List.mem_append_left _ (List.mem_map.2 ⟨x, hx, rfl⟩))).2, fun x hx => ?_, by omega⟩, by omega, hk⟩;have := List.any_eq_false.1 hb x hx
   simp only [decide_eq_true_eq] at this
   omega
theorem dels_len {ds : List ByteArray} (h : ∀ k ∈ ds, k.size ≤ 64) : (ds.flatMap ptB).length ≤ ds.length * 68 := by
 induction ds with
 | nil => exact Nat.le_refl _
 | cons x l ih =>
  have h1 := ih (fun y hy => h y (.tail _ hy));have h2 := h x (.head _);rw [List.flatMap_cons, List.length_append, ptB_len, List.length_cons]
  omega
theorem frm_small {ps : List Rw} {ds : List ByteArray} (h : refR ps ds = 0) : (bodyB ps ds).length ≤ 20000000 := by
 obtain ⟨h1, h2, h3⟩ := ref_ok h;have h4 := laid_le h1;have h5 := dels_len (ds := ds) (fun k hk => (h3 k (by rw [keysOf]; exact List.mem_append_right _ hk)).2);rw [bodyB]
 simp only [List.length_append, Wi.be_length, rows_len]
 omega
theorem frmB_size (ps : List Rw) (ds : List ByteArray) : (frmB ps ds).size = 4 + (bodyB ps ds).length := by
 show (frameB ps ds).toArray.size = _
 rw [List.size_toArray, frameB_len]
end Go.Proofs.YtckmlaempffpjaaGreat
