/-
  What the laws need of a store: rooms, blocks of rows, changes that go well.
-/
import Derived.Test.YtckmlaempffpjaaGreatS24
namespace Go.Proofs.YtckmlaempffpjaaGreat
open Go.RowKit Go.Shelf

theorem room_wrB {S : SS} {R N : Nat} (hg : DG S.D R N) (fr : ByteArray) : roomD (wrB S fr).1.D = roomD S.D := by
  have h1 : roomD (wrA S fr).1.D = roomD S.D := room_Append hg.db.nd nS fr
  have hgA : DG (wrA S fr).1.D R (N + 1) := hg.app nS fr
  have h2 := room_pack hgA
  have h3 : roomD (wrA (PackS (wrA S fr).1).1 fr).1.D = roomD (PackS (wrA S fr).1).1.D := room_Append hgA.packS.db.nd nS fr
  unfold wrB
  split
  · split
    · exact h3.trans (h2.trans h1)
    · exact h2.trans h1
  · exact h1
theorem room_write {S : SS} {R N : Nat} (hg : DG S.D R N) (fr : ByteArray) : roomD (writeS S fr).1.D = roomD S.D := by
  have h1 := room_wrB hg fr
  unfold writeS
  split
  · exact h1
  · exact (room_Sync _ nS).trans h1
theorem room_do {S : SS} {R N : Nat} (hg : DG S.D R N) (ps : List Rw) (ds : List ByteArray) : roomD (DoS S ps ds).1.D = roomD S.D := by
  have h1 := room_pre hg
  have h2 := room_write hg.preS (frmB ps ds)
  unfold DoS
  split
  · rfl
  · split
    · exact h1
    · unfold chgS
      split
      · exact h2.trans h1
      · exact h2.trans h1
/-- a change where there is room, and no power is to go -/
theorem do_ok {S : SS} {cs : List Chg} {a b : Fi} {B R N : Nat} {ps : List Rw} {ds : List ByteArray} (hc : ChOk ps ds) (h : Gd S cs a b B) (hg : DG S.D R N) (hl : S.D.left = 0) (hro : B + B + (frameB ps ds).length ≤ roomD S.D) (hB2 : (packL (applyR S.rows ps ds)).length ≤ B + (frameB ps ds).length) :
    (DoS S ps ds).2 = 0 ∧ (DoS S ps ds).1.D.left = 0 ∧ (DoS S ps ds).1.rows = applyR S.rows ps ds ∧ ∃ cs' a' b', Gd (DoS S ps ds).1 cs' a' b' (B + (frameB ps ds).length) := by
  rcases do_v hc h hg hB2 with r | r | r
  · exact absurd hl r.2.1
  · have := r.2.1; omega
  · exact ⟨r.1, by have := r.2.1; omega, r.2.2.1, r.2.2.2⟩
theorem Open_ok {w0 : World} {M : ML} {d : Dk} {D : DS} {L : BL} {w : World} (hD : DH w0 M d D L w) {R N : Nat} (hg : DG D R N) (hN : N ≤ 10000000) (hR : R ≤ 300000000) (hlg : (lgD D).size ≤ 600000000) (h0 : (opnS D).2 = 0) :
    Calls Tryz.prog 13 #[pt d.q] w fun e w' => ∃ s : Sk, s.d = d ∧ e = .returned (.tuple #[pt s.q, iN .i64 0]) ∧ SH w0 M s (opnS D).1 L w' :=
  (Open_any hD hg hN hR hlg).mono fun _ _ hr => (hr.resolve_right fun e => e.1 h0).2
theorem Open_no {w0 : World} {M : ML} {d : Dk} {D : DS} {L : BL} {w : World} (hD : DH w0 M d D L w) {R N : Nat} (hg : DG D R N) (hN : N ≤ 10000000) (hR : R ≤ 300000000) (hlg : (lgD D).size ≤ 600000000) {er : Nat} (h0 : (opnS D).2 = er) (he : er ≠ 0) :
    Calls Tryz.prog 13 #[pt d.q] w fun e w' => e = .returned (.tuple #[.pointer none, iN .i64 er]) ∧ DH w0 M d (opnS D).1.D L w' :=
  (Open_any hD hg hN hR hlg).mono fun e w' hr => by
    have := (hr.resolve_left fun e => he (h0.symm.trans e.1)).2
    rw [h0] at this
    exact this
theorem PV.blk {w0 : World} {L : BL} {q : Nat} {ps : List Rw} (hm : (q, 64, (rcl ps).toArray) ∈ L) : PV w0 L (some ⟨q, 0, none⟩) ps := fun M A w H i x hi => by
  have hb := H.blk _ (List.mem_append_right A hm)
  obtain ⟨h1, h2⟩ := rcl_get ps i x hi
  refine ⟨⟨q, 0, none⟩, rfl, ?_, ?_⟩
  · rw [add_lit, hb.cell]; simpa using h1
  · rw [add_lit, hb.cell]; simpa using h2
theorem DV.blk {w0 : World} {L : BL} {q : Nat} {ds : List ByteArray} (hm : (q, 9, (scl ds).toArray) ∈ L) : DV w0 L (some ⟨q, 0, none⟩) ds := fun M A w H i x hi => by
  have hb := H.blk _ (List.mem_append_right A hm)
  refine ⟨⟨q, 0, none⟩, rfl, ?_⟩
  rw [add_lit, hb.cell]
  simp [scl, hi]
theorem PV.row {w0 : World} {L Lp : BL} {o : Option Addr} {c : Nat} {ps : List Rw} (h : Row 64 2 (.slice o ps.length c) ps.length (rcl ps) Lp) (hs : ∀ y ∈ Lp, y ∈ L) : PV w0 L o ps := fun _ A _ H => Row.rows h fun y hy => H.blk y (List.mem_append_right A (hs y hy))
theorem DV.nil {w0 : World} {L : BL} (o : Option Addr) : DV w0 L o [] := fun _ _ _ _ i x hi => by simp at hi
theorem PV.nil {w0 : World} {L : BL} (o : Option Addr) : PV w0 L o [] := fun _ _ _ _ i x hi => by simp at hi
theorem RB.of {l : List Rw} (h : RowsOk l) {n : Nat} (hn : l.length ≤ n) : RB l n := ⟨fun x hx => (h x hx).2.1, fun x hx => (h x hx).2.2, hn⟩
end Go.Proofs.YtckmlaempffpjaaGreat

namespace Go.Proofs.YtckmlaempffpjaaGreat
open Go.RowKit Go.Shelf

theorem SH.sub {w0 : World} {M : ML} {s : Sk} {S : SS} {L L' : BL} {w : World} (h : SH w0 M s S L w) (hs : L'.Sublist L) : SH w0 M s S L' w := by
  obtain ⟨m, X, hc, rs, nx, h1, h2, H⟩ := h.opn
  exact hc S.rows S.size L' w ⟨rs, nx, h1, h2, H.sub (List.Sublist.cons_cons _ (hs.append_right X))⟩
theorem Gd.mono {S : SS} {cs : List Chg} {a b : Fi} {B B' : Nat} (h : Gd S cs a b B) (hB : B ≤ B') : Gd S cs a b B' := ⟨h.up, h.ok, h.v, h.fa, h.sz, h.rw, h.ro, Nat.le_trans h.la hB, Nat.le_trans h.lb hB, Nat.le_trans h.pk hB⟩
theorem lg_new (R : Nat) : (lgD ⟨[], R, 0, false, []⟩).size = 0 := rfl
theorem Open_d {w0 : World} {M : ML} {d : Dk} {D : DS} {L : BL} {w : World} (hD : DH w0 M d D L w) {R N : Nat} (hg : DG D R N) (hN : N ≤ 10000000) (hR : R ≤ 300000000) (hlg : (lgD D).size ≤ 600000000) (h0 : (opnS D).2 = 0) :
    Calls Tryz.prog 13 #[pt d.q] w fun e w' => ∃ sq sr : Nat, e = .returned (.tuple #[pt sq, iN .i64 0]) ∧ SH w0 M ⟨sq, sr, d⟩ (opnS D).1 L w' :=
  (Open_ok hD hg hN hR hlg h0).mono fun e w' ⟨⟨sq, sr, sd⟩, h1, h2, h3⟩ => by
    cases h1
    exact ⟨sq, sr, h2, h3⟩
end Go.Proofs.YtckmlaempffpjaaGreat
