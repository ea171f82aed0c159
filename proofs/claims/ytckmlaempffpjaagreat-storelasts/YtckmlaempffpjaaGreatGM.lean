/-
  What the laws need of a store: rooms, blocks of rows, changes that go well.
-/
import Derived.Test.YtckmlaempffpjaaGreatS24
namespace Go.Proofs.YtckmlaempffpjaaGreat
open Go.RowKit Go.Shelf

theorem room_wrB {S : SS} {R N : Nat} (hg : DG S.D R N) (fr : ByteArray) : roomD (wrB S fr).1.D = roomD S.D := by
  have h1 : roomD (wrA S fr).1.D = roomD S.D := room_Append hg.db.nd nS fr
  have hgA : DG (wrA S fr).1.D R (N + 1) := hg.app nS fr
  have h2 := room_pack hgA
  have h3 : roomD (wrA (PackS (wrA S fr).1).1 fr).1.D = roomD (PackS (wrA S fr).1).1.D := room_Append hgA.packS.db.nd nS fr
  unfold wrB
  split
  · split
    · exact h3.trans (h2.trans h1)
    · exact h2.trans h1
  · exact h1
theorem room_write {S : SS} {R N : Nat} (hg : DG S.D R N) (fr : ByteArray) : roomD (writeS S fr).1.D = roomD S.D := by
  have h1 := room_wrB hg fr
  unfold writeS
  split
  · exact h1
  · exact (room_Sync _ nS).trans h1
theorem room_do {S : SS} {R N : Nat} (hg : DG S.D R N) (ps : List Rw) (ds : List ByteArray) : roomD (DoS S ps ds).1.D = roomD S.D := by
  have h1 := room_pre hg
  have h2 := room_write hg.preS (frmB ps ds)
  unfold DoS
  split
  · rfl
  · split
    · exact h1
    · unfold chgS
      split
      · exact h2.trans h1
      · exact h2.trans h1
theorem room_opn {D : DS} {R N : Nat} (hg : DG D R N) : roomD (opnS D).1.D = roomD D := by
  unfold opnS
  split
  · rfl
  · split
    · rfl
    · split
      · exact room_lay (D := (rawS D).D) hg _
      · rfl
/-- a change where there is room, and no power is to go -/
theorem do_ok {S : SS} {cs : List Chg} {a b : Fi} {B R N : Nat} {ps : List Rw} {ds : List ByteArray} (hc : ChOk ps ds) (h : Gd S cs a b B) (hg : DG S.D R N) (hl : S.D.left = 0) (hro : B + B + (frameB ps ds).length ≤ roomD S.D) (hB2 : (packL (applyR S.rows ps ds)).length ≤ B + (frameB ps ds).length) :
    (DoS S ps ds).2 = 0 ∧ (DoS S ps ds).1.D.left = 0 ∧ (DoS S ps ds).1.rows = applyR S.rows ps ds ∧ ∃ cs' a' b', Gd (DoS S ps ds).1 cs' a' b' (B + (frameB ps ds).length) := by
  rcases do_v hc h hg hB2 with r | r | r
  · exact absurd hl r.2.1
  · have := r.2.1; omega
  · exact ⟨r.1, by have := r.2.1; omega, r.2.2.1, r.2.2.2⟩
theorem Open_ok {w0 : World} {M : ML} {d : Dk} {D : DS} {L : BL} {w : World} (hD : DH w0 M d D L w) {R N : Nat} (hg : DG D R N) (hN : N ≤ 10000000) (hR : R ≤ 300000000) (hlg : (lgD D).size ≤ 600000000) (h0 : (opnS D).2 = 0) :
    Calls Tryz.prog 13 #[pt d.q] w fun e w' => ∃ s : Sk, s.d = d ∧ e = .returned (.tuple #[pt s.q, iN .i64 0]) ∧ SH w0 M s (opnS D).1 L w' :=
  (Open_any hD hg hN hR hlg).mono fun _ _ hr => (hr.resolve_right fun e => e.1 h0).2
theorem Open_no {w0 : World} {M : ML} {d : Dk} {D : DS} {L : BL} {w : World} (hD : DH w0 M d D L w) {R N : Nat} (hg : DG D R N) (hN : N ≤ 10000000) (hR : R ≤ 300000000) (hlg : (lgD D).size ≤ 600000000) {er : Nat} (h0 : (opnS D).2 = er) (he : er ≠ 0) :
    Calls Tryz.prog 13 #[pt d.q] w fun e w' => e = .returned (.tuple #[.pointer none, iN .i64 er]) ∧ DH w0 M d (opnS D).1.D L w' :=
  (Open_any hD hg hN hR hlg).mono fun e w' hr => by
    have := (hr.resolve_left fun e => he (h0.symm.trans e.1)).2
    rw [h0] at this
    exact this
theorem PV.blk {w0 : World} {L : BL} {q : Nat} {ps : List Rw} (hm : (q, 64, (rcl ps).toArray) ∈ L) : PV w0 L (some ⟨q, 0, none⟩) ps := fun M A w H i x hi => by
  have hb := H.blk _ (List.mem_append_right A hm)
  obtain ⟨h1, h2⟩ := rcl_get ps i x hi
  refine ⟨⟨q, 0, none⟩, rfl, ?_, ?_⟩
  · rw [add_lit, hb.cell]; simpa using h1
  · rw [add_lit, hb.cell]; simpa using h2
theorem DV.blk {w0 : World} {L : BL} {q : Nat} {ds : List ByteArray} (hm : (q, 9, (scl ds).toArray) ∈ L) : DV w0 L (some ⟨q, 0, none⟩) ds := fun M A w H i x hi => by
  have hb := H.blk _ (List.mem_append_right A hm)
  refine ⟨⟨q, 0, none⟩, rfl, ?_⟩
  rw [add_lit, hb.cell]
  simp [scl, hi]
theorem PV.row {w0 : World} {L Lp : BL} {o : Option Addr} {c : Nat} {ps : List Rw} (h : Row 64 2 (.slice o ps.length c) ps.length (rcl ps) Lp) (hs : ∀ y ∈ Lp, y ∈ L) : PV w0 L o ps := fun _ A _ H => Row.rows h fun y hy => H.blk y (List.mem_append_right A (hs y hy))
theorem DV.row {w0 : World} {L Lp : BL} {o : Option Addr} {c : Nat} {ds : List ByteArray} (h : Row 9 1 (.slice o ds.length c) ds.length (scl ds) Lp) (hs : ∀ y ∈ Lp, y ∈ L) : DV w0 L o ds := fun _ A _ H => Row.keys h fun y hy => H.blk y (List.mem_append_right A (hs y hy))
theorem DV.nil {w0 : World} {L : BL} (o : Option Addr) : DV w0 L o [] := fun _ _ _ _ i x hi => by simp at hi
theorem RB.of {l : List Rw} (h : RowsOk l) {n : Nat} (hn : l.length ≤ n) : RB l n := ⟨fun x hx => (h x hx).2.1, fun x hx => (h x hx).2.2, hn⟩
theorem lg_size {D : DS} {cs : List Chg} {t : List UInt8} {a b : Fi} {B : Nat} (h : Wk D cs t a b B) : (lgD D).size ≤ B := by
  have h1 := (read_v h).2
  have h2 : (lgD D).size = (logB cs ++ t).length := by rw [← h1, bl_len]
  have h3 := h.la
  rcases h.fa with ⟨rfl, rfl, rfl⟩ | rfl
  · rw [h2]; exact Nat.zero_le _
  · rw [h2]; exact h3
end Go.Proofs.YtckmlaempffpjaaGreat

namespace Go.Proofs.YtckmlaempffpjaaGreat
open Go.RowKit Go.Shelf

theorem SH.sub {w0 : World} {M : ML} {s : Sk} {S : SS} {L L' : BL} {w : World} (h : SH w0 M s S L w) (hs : L'.Sublist L) : SH w0 M s S L' w := by
  obtain ⟨m, X, hc, rs, nx, h1, h2, H⟩ := h.opn
  exact hc S.rows S.size L' w ⟨rs, nx, h1, h2, H.sub (List.Sublist.cons_cons _ (hs.append_right X))⟩
theorem Gd.mono {S : SS} {cs : List Chg} {a b : Fi} {B B' : Nat} (h : Gd S cs a b B) (hB : B ≤ B') : Gd S cs a b B' := ⟨h.up, h.ok, h.v, h.fa, h.sz, h.rw, h.ro, Nat.le_trans h.la hB, Nat.le_trans h.lb hB, Nat.le_trans h.pk hB⟩
theorem Fe.mono {D : DS} {cs : List Chg} {t : List UInt8} {a b : Fi} {B B' : Nat} (h : Fe D cs t a b B) (hB : B ≤ B') : Fe D cs t a b B' := ⟨h.dn, h.ok, h.v, h.fa, Nat.le_trans h.la hB, Nat.le_trans h.lb hB⟩
/-- a store that is up, and says these rows -/
structure St (S : SS) (now : List ByteArray) (R B N : Nat) : Prop where
  g : ∃ cs a b, Gd S cs a b B
  dg : DG S.D R N
  ro : roomD S.D = R
  rw : S.rows.Perm (nowR now)
  ok : NowOk now
theorem St.rb {S : SS} {now : List ByteArray} {R B N : Nat} (h : St S now R B N) : RB S.rows 16 := by
  obtain ⟨cs, a, b, g⟩ := h.g
  exact RB.of g.ro (by rw [h.rw.length_eq]; exact now_len now)
theorem St.size {S : SS} {now : List ByteArray} {R B N : Nat} (h : St S now R B N) : S.size ≤ B := by
  obtain ⟨cs, a, b, g⟩ := h.g
  rw [g.sz, ← g.len]
  exact g.la
theorem St.up {S : SS} {now : List ByteArray} {R B N : Nat} (h : St S now R B N) : S.D.down = false := by
  obtain ⟨cs, a, b, g⟩ := h.g
  exact g.up
theorem St.mono {S : SS} {now : List ByteArray} {R B N B' N' : Nat} (h : St S now R B N) (hB : B ≤ B') (hN : N ≤ N') : St S now R B' N' := by
  obtain ⟨cs, a, b, g⟩ := h.g
  exact ⟨⟨cs, a, b, g.mono hB⟩, h.dg.mono hN, h.ro, h.rw, h.ok⟩
theorem next_zero {now : List ByteArray} {x : Tn} {n : Nat} (h : nP x + nD x = 0) : nextR now x n = now := by
  have h1 : nP x = 0 := by omega
  have h2 : nD x = 0 := by omega
  rw [nextR, h1, h2]
  rfl
/-- what a disk without power may come to -/
structure Dn (D : DS) (now next : List ByteArray) (R B N : Nat) : Prop where
  f : ∃ cs t a b, Fe D cs t a b B ∧ (saysC cs).Perm (nowR now) ∧ (t = [] ∨ ∃ c : Chg, t = frameB c.1 c.2 ∧ ChOk c.1 c.2 ∧ (saysC (cs ++ [c])).Perm (nowR next))
  dg : DG D R N
  ro : roomD D = R
  ok : NowOk now
  ok2 : NowOk next
theorem Dn.mono {D : DS} {now next : List ByteArray} {R B N B' N' : Nat} (h : Dn D now next R B N) (hB : B ≤ B') (hN : N ≤ N') : Dn D now next R B' N' := by
  obtain ⟨cs, t, a, b, f, g⟩ := h.f
  exact ⟨⟨cs, t, a, b, f.mono hB, g⟩, h.dg.mono hN, h.ro, h.ok, h.ok2⟩
/-- a change -/
theorem St.turn {S : SS} {now : List ByteArray} {R B N : Nat} (h : St S now R B N) (hB : 5000 ≤ B) (x : Tn) (n : Nat) :
    ((DoS S (chP x n (nP x)) (chD x (nD x))).2 = 16 ∧ S.D.left ≠ 0 ∧ Dn (DoS S (chP x n (nP x)) (chD x (nD x))).1.D now (nextR now x n) R (B + 1000) (N + 13)) ∨
    ((DoS S (chP x n (nP x)) (chD x (nD x))).2 = 7 ∧ R < B + B + 1000 ∧ (((DoS S (chP x n (nP x)) (chD x (nD x))).1.D.left ≤ S.D.left ∧ St (DoS S (chP x n (nP x)) (chD x (nD x))).1 now R (B + 1000) (N + 13)) ∨ S.D.left ≠ 0)) ∨
    ((DoS S (chP x n (nP x)) (chD x (nD x))).2 = 0 ∧ (DoS S (chP x n (nP x)) (chD x (nD x))).1.D.left ≤ S.D.left ∧ St (DoS S (chP x n (nP x)) (chD x (nD x))).1 (nextR now x n) R (B + 1000) (N + 13)) := by
  obtain ⟨cs, a, b, g⟩ := h.g
  have hdg := h.dg.doS (chP x n (nP x)) (chD x (nD x))
  have hro := (room_do h.dg (chP x n (nP x)) (chD x (nD x))).trans h.ro
  have hok := h.ok.next x n
  have hap := apply_now h.ok.1 h.rw x n
  have hfr := ch_frame x n
  by_cases h0 : nP x + nD x = 0
  · have e : DoS S (chP x n (nP x)) (chD x (nD x)) = (S, 0) := by
      unfold DoS
      rw [if_pos (.inr (by rw [chP_len, chD_len]; exact h0)), ch_ok]
    rw [e, next_zero h0]
    exact .inr (.inr ⟨rfl, Nat.le_refl _, h.mono (by omega) (by omega)⟩)
  · have hc : ChOk (chP x n (nP x)) (chD x (nD x)) := ⟨ch_ok x n, by rw [chP_len, chD_len]; exact h0⟩
    have hpk := now_pack hok hap
    rcases do_v hc g h.dg (by omega) with r | r | r
    · left
      obtain ⟨cs', t, a', b', f1, f2, f3⟩ := r.2.2
      refine ⟨r.1, r.2.1, ⟨⟨cs', t, a', b', f1.mono (by omega), f2.trans h.rw, ?_⟩, hdg, hro, h.ok, hok⟩⟩
      rcases f3 with e | e
      · exact .inl e
      · right
        refine ⟨(chP x n (nP x), chD x (nD x)), e, hc, ?_⟩
        rw [says_snoc]
        exact (apply_perm f2 _ _).trans hap
    · right; left
      refine ⟨r.1, by have := r.2.1; rw [h.ro] at this; omega, ?_⟩
      rcases r.2.2.2 with q | q
      · obtain ⟨cs', a', b', q2⟩ := q.2
        exact .inl ⟨q.1, ⟨⟨cs', a', b', q2.mono (by omega)⟩, hdg, hro, by rw [r.2.2.1]; exact h.rw, h.ok⟩⟩
      · exact .inr q.1
    · right; right
      obtain ⟨cs', a', b', q⟩ := r.2.2.2
      exact ⟨r.1, r.2.1, ⟨⟨cs', a', b', q.mono (by omega)⟩, hdg, hro, by rw [r.2.2.1]; exact hap, hok⟩⟩
/-- Pack -/
theorem room_packR {S : SS} {now : List ByteArray} {R B N : Nat} (h : St S now R B N) : roomD (PackS S).1.D = R := (room_pack h.dg).trans h.ro
theorem St.pack {S : SS} {now : List ByteArray} {R B N : Nat} (h : St S now R B N) (hR : B + B ≤ R) (next : List ByteArray) (hnx : NowOk next) :
    ((PackS S).2 = 16 ∧ S.D.left ≠ 0 ∧ Dn (PackS S).1.D now next R B (N + 5)) ∨
    ((PackS S).2 = 0 ∧ (PackS S).1.D.left ≤ S.D.left ∧ St (PackS S).1 now R B (N + 5)) := by
  obtain ⟨cs, a, b, g⟩ := h.g
  have hdg := h.dg.packS
  have hro := room_packR h
  rcases pack_v g h.dg with r | r | r
  · obtain ⟨b', q⟩ := r.2.2
    exact .inl ⟨r.1, r.2.1, ⟨⟨cs, [], a, b', q, g.rw.symm.trans h.rw, .inl rfl⟩, hdg, hro, h.ok, hnx⟩⟩
  · have := r.2.1
    rw [h.ro] at this
    omega
  · exact .inr ⟨r.1, r.2.1, ⟨⟨_, _, _, r.2.2⟩, hdg, hro, by rw [Pack_rows]; exact h.rw, h.ok⟩⟩
/-- a disk that is up, and what a store on it will say: now, or next -/
structure Up (D : DS) (now next : List ByteArray) (R B N : Nat) : Prop where
  f : ∃ (cs : List Chg) (c : Chg) (k : Nat) (a b : Fi), Wk D cs ((frameB c.1 c.2).take k) a b B ∧ ChOk c.1 c.2 ∧ (saysC cs).Perm (nowR now) ∧ (k = 0 ∨ (saysC (cs ++ [c])).Perm (nowR next))
  dg : DG D R N
  ro : roomD D = R
  ok : NowOk now
  ok2 : NowOk next
theorem Up.lg {D : DS} {now next : List ByteArray} {R B N : Nat} (h : Up D now next R B N) : (lgD D).size ≤ B := by
  obtain ⟨cs, c, k, a, b, w, _⟩ := h.f
  exact lg_size w
def cAny : Chg := ([⟨nmR 0, eB⟩], [])
theorem cAny_ok : ChOk cAny.1 cAny.2 := ⟨by decide +kernel, by decide⟩
theorem Dn.wake {D : DS} {now next : List ByteArray} {R B N : Nat} (h : Dn D now next R B N) (ks : List Int) : Up (wakeD D ks) now next R B N := by
  obtain ⟨cs, t, a, b, f, hp, ht⟩ := h.f
  obtain ⟨k, a', b', w⟩ := wake_fe f ks
  refine ⟨?_, h.dg.wake ks, (room_wake D ks).trans h.ro, h.ok, h.ok2⟩
  rcases ht with rfl | ⟨c, rfl, hc, hn⟩
  · exact ⟨cs, cAny, 0, a', b', by simpa using w, cAny_ok, hp, .inl rfl⟩
  · exact ⟨cs, c, k, a', b', w, hc, hp, .inr hn⟩
theorem St.wake {S : SS} {now : List ByteArray} {R B N : Nat} (h : St S now R B N) (ks : List Int) (next : List ByteArray) (hnx : NowOk next) : Up (wakeD S.D ks) now next R B N := by
  obtain ⟨cs, a, b, g⟩ := h.g
  obtain ⟨b', w⟩ := wake_gd g ks
  exact ⟨⟨cs, cAny, 0, a, b', by simpa using w, cAny_ok, g.rw.symm.trans h.rw, .inl rfl⟩, h.dg.wake ks, (room_wake S.D ks).trans h.ro, h.ok, hnx⟩
theorem V2.armed {D : DS} {a b : Fi} (h : V2 D a b) (z : Int) : V2 (armD D z).1 a b := by
  unfold armD
  split
  · exact h
  · split
    · exact h
    · exact h.fs rfl
theorem arm_down (D : DS) (z : Int) : (armD D z).1.down = D.down := by
  unfold armD
  split
  · rfl
  · split <;> rfl
theorem Up.arm {D : DS} {now next : List ByteArray} {R B N : Nat} (h : Up D now next R B N) {z : Int} (hz : z ≤ 9223372036854775807) : Up (armD D z).1 now next R B N := by
  obtain ⟨cs, c, k, a, b, w, h1, h2, h3⟩ := h.f
  exact ⟨⟨cs, c, k, a, b, ⟨(arm_down D z).trans w.up, w.ok, w.v.armed z, w.fa, w.la, w.lb⟩, h1, h2, h3⟩, h.dg.arm hz, (room_arm D z).trans h.ro, h.ok, h.ok2⟩
theorem St.arm {S : SS} {now : List ByteArray} {R B N : Nat} (h : St S now R B N) {z : Int} (hz : z ≤ 9223372036854775807) : St ⟨(armD S.D z).1, S.rows, S.size⟩ now R B N := by
  obtain ⟨cs, a, b, g⟩ := h.g
  exact ⟨⟨cs, a, b, ⟨(arm_down S.D z).trans g.up, g.ok, g.v.armed z, g.fa, g.sz, g.rw, g.ro, g.la, g.lb, g.pk⟩⟩, h.dg.arm hz, (room_arm S.D z).trans h.ro, h.rw, h.ok⟩
theorem Up.says {cs : List Chg} {c : Chg} {now next : List ByteArray} {k B : Nat} (ho : NowOk now) (ho2 : NowOk next) (h : (saysC cs).Perm (nowR now)) (h2 : k = 0 ∨ (saysC (cs ++ [c])).Perm (nowR next)) (hk : k ≠ 0) (hB : 5000 ≤ B) : (packL (saysC cs)).length ≤ B ∧ (packL (saysC (cs ++ [c]))).length ≤ B := by
  have a1 := now_pack ho h
  have a2 := now_pack ho2 (h2.resolve_left hk)
  omega
/-- Open -/
theorem Up.opn {D : DS} {now next : List ByteArray} {R B N : Nat} (h : Up D now next R B N) (hB : 6000 ≤ B) (hR : B + B ≤ R) :
    ((opnS D).2 = 16 ∧ D.left ≠ 0 ∧ ∀ ks, Up (wakeD (opnS D).1.D ks) now next R B (N + 4)) ∨
    ((opnS D).2 = 0 ∧ (opnS D).1.D.left ≤ D.left ∧ (St (opnS D).1 now R B (N + 4) ∨ St (opnS D).1 next R B (N + 4))) := by
  obtain ⟨cs, c, k, a, b, w, hc, h1, h2⟩ := h.f
  have hdg := h.dg.opnS
  have hro := (room_opn h.dg).trans h.ro
  -- where nothing was under way, any change does
  obtain ⟨c, k, w, hc, h2, hp⟩ : ∃ (c : Chg) (k : Nat), Wk D cs ((frameB c.1 c.2).take k) a b B ∧ ChOk c.1 c.2 ∧ (k = 0 ∨ (saysC (cs ++ [c])).Perm (nowR next)) ∧ (packL (saysC (cs ++ [c]))).length ≤ B := by
    by_cases e : k = 0
    · subst e
      refine ⟨cAny, 0, by simpa using w, cAny_ok, .inl rfl, ?_⟩
      rw [says_snoc]
      have hn : ((applyR (saysC cs) cAny.1 cAny.2).map (·.k)).Nodup := apply_nodup (says_nodup cs) _ _
      have e1 : applyR (saysC cs) cAny.1 cAny.2 = putR (saysC cs) ⟨nmR 0, eB⟩ := rfl
      rw [packL_len hn, e1]
      have hl : (putR (saysC cs) ⟨nmR 0, eB⟩).length ≤ 17 := by
        unfold putR dropR
        rw [List.length_append]
        have h3 := List.length_filter_le (fun x : Rw => decide (x.k ≠ nmR 0)) (saysC cs)
        have h4 : (saysC cs).length ≤ 16 := by rw [h1.length_eq]; exact now_len now
        simp only [List.length_singleton]
        omega
      have hld : laidR (putR (saysC cs) ⟨nmR 0, eB⟩) ≤ 16 * 310 + 100 := by
        unfold putR
        rw [laid_app]
        show laidR (dropR (saysC cs) (nmR 0)) + laidR [(⟨nmR 0, eB⟩ : Rw)] ≤ _
        have h3 : laidR (dropR (saysC cs) (nmR 0)) ≤ laidR (saysC cs) := by
          unfold dropR laidR
          induction saysC cs with
          | nil => exact Nat.le_refl _
          | cons y l ih =>
            rw [List.filter_cons]
            split
            · simp only [List.map_cons, List.sum_cons]; omega
            · simp only [List.map_cons, List.sum_cons]; omega
        have h4 : laidR (saysC cs) ≤ 16 * 310 := by rw [laid_perm h1]; exact now_laid h.ok
        have h5 : laidR [(⟨nmR 0, eB⟩ : Rw)] ≤ 100 := by decide
        omega
      omega
    · exact ⟨c, k, w, hc, h2, (Up.says h.ok h.ok2 h1 h2 e (B := B) (by omega)).2⟩
  rcases opn_v w hc h.dg (by have := now_pack h.ok h1; omega) hp with r | r | r
  · left
    obtain ⟨b', v', hb'⟩ := r.2.2.2
    refine ⟨r.1, r.2.1, fun ks => ?_⟩
    obtain ⟨b2, w2⟩ := wake_wk (D := (opnS D).1.D) w.ok v' w.fa w.la hb' ks
    exact ⟨⟨cs, c, k, a, b2, w2, hc, h1, h2⟩, hdg.wake ks, (room_wake _ ks).trans hro, h.ok, h.ok2⟩
  · have := r.2
    rw [h.ro] at this
    omega
  · right
    obtain ⟨cs', a', b', g, hcs, hrw⟩ := r.2.2
    refine ⟨r.1, r.2.1, ?_⟩
    by_cases e : cs' = cs
    · left
      exact ⟨⟨cs', a', b', g⟩, hdg, hro, by rw [hrw, e]; exact h1, h.ok⟩
    · rcases h2 with e0 | h2
      · have hcs2 := hcs.resolve_left e
        -- k is 0: what was opened is the log itself
        exfalso
        subst e0
        obtain ⟨hr, hb⟩ := read_v w
        have hrp : rplB (lgD D) = (saysC cs, [], true) := rpl_bytes w.ok nxt_nil (by rw [hb, List.take_zero])
        have hls : (lgD D).size = (logB cs).length := by rw [← bl_len, hb, List.take_zero, List.append_nil]
        have eS : rawS D = ⟨D, saysC cs, (logB cs).length⟩ := by unfold rawS; rw [hrp, hls]; rfl
        have eo : opnS D = (rawS D, 0) := by
          unfold opnS
          rw [if_neg hr, hrp, if_neg (show ¬ true = false by decide), eS, hls]
          exact if_neg (Nat.lt_irrefl _)
        have hsz := g.sz
        rw [eo, eS, hcs2, log_snoc, List.length_append, frameB_len] at hsz
        simp only at hsz
        omega
      · right
        exact ⟨⟨cs', a', b', g⟩, hdg, hro, by rw [hrw, hcs.resolve_left e]; exact h2, h.ok2⟩
theorem St.new (R B : Nat) (hR : R ≤ 9223372036854775807) : (opnS ⟨[], R, 0, false, []⟩).2 = 0 ∧ (opnS ⟨[], R, 0, false, []⟩).1.D.left = 0 ∧ St (opnS ⟨[], R, 0, false, []⟩).1 (List.replicate 16 eB) R B 4 := by
  obtain ⟨o1, o2, o3, g⟩ := opn_new R B
  have hg0 : DG ⟨[], R, 0, false, []⟩ R 0 := DG.new hR
  refine ⟨o1, by rw [o2], ⟨⟨_, _, _, g⟩, hg0.opnS, by rw [o2]; simp [roomD, used], ?_, NowOk.start⟩⟩
  rw [o3]
  have : nowR (List.replicate 16 eB) = [] := by decide +kernel
  rw [this]
theorem lg_new (R : Nat) : (lgD ⟨[], R, 0, false, []⟩).size = 0 := rfl
/-- a change of a turn -/
theorem do_S {w0 : World} {M : ML} {s : Sk} {S : SS} {L : BL} {w : World} (h : SH w0 M s S L w) {now : List ByteArray} {R B N : Nat} (hs : St S now R B N) (hN : N ≤ 8000000) (hR : R ≤ 300000000) (hB : B ≤ 1000000000000) {x : Tn} {n : Nat} {vp vd : Value} {Lp Ld : BL}
    (hp : Row 64 2 vp (nP x) (rcl (chP x n (nP x))) Lp) (hd : Row 9 1 vd (nD x) (scl (chD x (nD x))) Ld) (h1 : ∀ y ∈ Lp, y ∈ L) (h2 : ∀ y ∈ Ld, y ∈ L) :
    Calls Tryz.prog 17 #[pt s.q, vp, vd] w fun e w' => e = .returned (iN .i64 (DoS S (chP x n (nP x)) (chD x (nD x))).2) ∧ SH w0 M s (DoS S (chP x n (nP x)) (chD x (nD x))).1 L w' := by
  obtain ⟨po, pc, rfl⟩ := hp.form
  obtain ⟨do_, dc, rfl⟩ := hd.form
  have hp' : Row 64 2 (.slice po (chP x n (nP x)).length pc) (chP x n (nP x)).length (rcl (chP x n (nP x))) Lp := by rw [chP_len]; exact hp
  have hd' : Row 9 1 (.slice do_ (chD x (nD x)).length dc) (chD x (nD x)).length (scl (chD x (nD x))) Ld := by rw [chD_len]; exact hd
  have hsz := hs.size
  have hnp : nP x < 4 := Nat.mod_lt _ (by decide)
  have hnd : nD x < 4 := Nat.mod_lt _ (by decide)
  have h9 := Do_any h hs.dg hN hs.rb (by decide) hR (po := po) (pc := pc) (do_ := do_) (dc := dc) (PV.row hp' h1) (DV.row hd' h2) (by rw [chP_len]; omega) (by rw [chD_len]; omega) (by omega)
  rw [chP_len, chD_len] at h9
  exact h9
/-- what a store says -/
theorem says_S {w0 : World} {M : ML} {s : Sk} {S : SS} {L : BL} {w : World} (h : SH w0 M s S L w) {now : List ByteArray} {R B N : Nat} (hs : St S now R B N) :
    Calls Tryz.prog 19 #[pt s.q, .agg (stc now)] w fun e w' => e = .returned (.bool true) ∧ Below w.heap.size w w' := says_yes h hs.rb (by decide) hs.ok.1 hs.ok.1 hs.rw rfl
/-- two lists of rows: they are one, or the store does not say the other -/
theorem says_other {w0 : World} {M : ML} {s : Sk} {S : SS} {L : BL} {w : World} (h : SH w0 M s S L w) {now r : List ByteArray} {R B N : Nat} (hs : St S now R B N) (hr : NowOk r) (hne : r ≠ now) :
    Calls Tryz.prog 19 #[pt s.q, .agg (stc r)] w fun e w' => e = .returned (.bool false) ∧ Below w.heap.size w w' := by
  obtain ⟨k, h1, h2, h3⟩ := first_diff (a := r) (b := now) (hr.1.trans hs.ok.1.symm) hne
  exact says_no h hs.rb (by decide) hs.ok.1 hr.1 hs.rw (by rw [hr.1] at h1; exact h1) h2 h3
theorem Open_d {w0 : World} {M : ML} {d : Dk} {D : DS} {L : BL} {w : World} (hD : DH w0 M d D L w) {R N : Nat} (hg : DG D R N) (hN : N ≤ 10000000) (hR : R ≤ 300000000) (hlg : (lgD D).size ≤ 600000000) (h0 : (opnS D).2 = 0) :
    Calls Tryz.prog 13 #[pt d.q] w fun e w' => ∃ sq sr : Nat, e = .returned (.tuple #[pt sq, iN .i64 0]) ∧ SH w0 M ⟨sq, sr, d⟩ (opnS D).1 L w' :=
  (Open_ok hD hg hN hR hlg h0).mono fun e w' ⟨⟨sq, sr, sd⟩, h1, h2, h3⟩ => by
    cases h1
    exact ⟨sq, sr, h2, h3⟩
end Go.Proofs.YtckmlaempffpjaaGreat
