/-
 The store and the reference's: each operation leaves both the same.
-/
import Derived.Test.YtckmlaempffpjaaGreatGT19
import Derived.Test.YtckmlaempffpjaaGreatGSI
import Derived.Test.YtckmlaempffpjaaGreatGR11
namespace Go.Proofs.YtckmlaempffpjaaGreat
open Go.RowKit Go.Proofs.Tryz
theorem read_code (D : DS) (s : ByteArray) : (readD D s).2 = 0 ∨ (readD D s).2 = 5 ∨ (readD D s).2 = 16 := by
 unfold readD
 split
 ·exact .inr (.inr rfl)
 ·split
  ·exact .inr (.inl rfl)
  ·exact .inl rfl
theorem rplF_left : ∀ (n : Nat) (rows : List Rw) (us : List UInt8), (rplF n rows us).2.1.length ≤ us.length
 | 0, _, us => Nat.le_refl _
 | n + 1, rows, us => by
  rw [rplF]
  split
  ·exact Nat.le_refl _
  ·rename_i hw
   split
   ·exact Nat.le_refl _
   ·have h1 := rplF_left n (applyR rows (pdB (bl (nxt MX us).1)).ps (pdB (bl (nxt MX us).1)).ds) (nxt MX us).2.2;have h2 : (nxt MX us).2.1 = true := by cases h : (nxt MX us).2.1 with | true => rfl | false => exact absurd h hw
    have h3 := nxt_len h2
    omega
theorem rpl_left (log : ByteArray) : (rplB log).2.1.length ≤ log.size := by
 have := rplF_left (log.size + 1) [] (bl log);rw [bl_len] at this;exact this
theorem pak_same {S : SS} {o : List Rw} (h : Sr S.rows o) : (PackS S).1.D = (pakO S.D o).1 ∧ (PackS S).2 = (pakO S.D o).2 := by
 unfold PackS pakO
 rw [h.pack]
 show (if (layD S.D (pkB o)).2 = 7 then _ else _ : SS × Nat).1.D = _ ∧ (if (layD S.D (pkB o)).2 = 7 then _ else _ : SS × Nat).2 = _
 by_cases h7 : (layD S.D (pkB o)).2 = 7
 ·rw [if_pos h7, if_pos h7];exact ⟨rfl, rfl⟩
 ·rw [if_neg h7, if_neg h7];exact ⟨rfl, rfl⟩
theorem open_same (D : DS) : (opnS D).1.D = (opnO D).1 ∧ (opnS D).2 = (opnO D).2.2 ∧ ((opnS D).2 = 0 → Sr (opnS D).1.rows (opnO D).2.1) := by
 obtain ⟨h1, h2⟩ := rpl_same (lgD D);have hc := read_code D nS;have e1 : (rplP (lgD D)).2.1 = (rplB (lgD D)).2.1 := by rw [h2]
 have e2 : (rplP (lgD D)).2.2 = (rplB (lgD D)).2.2 := by rw [h2]
 unfold opnS opnO
 rw [e2, e1]
 by_cases h16 : (readD D nS).2 = 16
 ·rw [if_pos (show (readD D nS).2 ≠ 0 ∧ (readD D nS).2 ≠ 5 by omega), if_pos h16];exact ⟨rfl, h16, fun h => by omega⟩
 ·rw [if_neg (show ¬ ((readD D nS).2 ≠ 0 ∧ (readD D nS).2 ≠ 5) by omega), if_neg h16]
  by_cases hb : (rplB (lgD D)).2.2 = false
  ·rw [if_pos hb, if_pos hb];exact ⟨rfl, rfl, fun h => by cases h⟩
  ·rw [if_neg hb, if_neg hb];have hl : (rplB (lgD D)).2.1.length ≤ (lgD D).size := by
    have := rpl_left (lgD D);exact this
   by_cases hs : 0 < (rplB (lgD D)).2.1.length
   ·rw [if_pos (show (rawS D).size < (lgD D).size from (by show (lgD D).size - _ < _; omega)), if_pos hs]
    show _ ∧ (layD D ((lgD D).extract 0 ((lgD D).size - (rplB (lgD D)).2.1.length))).2 = _ ∧ ((layD D ((lgD D).extract 0 ((lgD D).size - (rplB (lgD D)).2.1.length))).2 = 0 → Sr (rplB (lgD D)).1 _)
    by_cases hf : (layD D ((lgD D).extract 0 ((lgD D).size - (rplB (lgD D)).2.1.length))).2 ≠ 0
    ·rw [if_pos hf];exact ⟨rfl, rfl, fun h => absurd h hf⟩
    ·rw [if_neg hf];exact ⟨rfl, Decidable.not_not.1 hf, fun _ => h1⟩
   ·rw [if_neg (show ¬ (rawS D).size < (lgD D).size from (by show ¬ (lgD D).size - _ < _; omega)), if_neg hs];exact ⟨rfl, rfl, fun _ => h1⟩
theorem wr_same {S : SS} {o : List Rw} (h : Sr S.rows o) (ps : List Rw) (ds : List ByteArray) : (chgS S ps ds).1.D = (wrO S.D o ps ds).1 ∧ (chgS S ps ds).2 = (wrO S.D o ps ds).2.2 ∧ Sr (chgS S ps ds).1.rows (wrO S.D o ps ds).2.1 := by
 have key : ∀ (T : SS × Nat), T.1.rows = S.rows → ((if T.2 ≠ 0 then T else syS T.1 (frmB ps ds)).2 ≠ 0 → (if T.2 ≠ 0 then T else syS T.1 (frmB ps ds)).1.D = (finO (T.1.D, T.2) o ps ds).1 ∧ (if T.2 ≠ 0 then T else syS T.1 (frmB ps ds)).2 = (finO (T.1.D, T.2) o ps ds).2.2 ∧ Sr S.rows (finO (T.1.D, T.2) o ps ds).2.1) ∧ ((if T.2 ≠ 0 then T else syS T.1 (frmB ps ds)).2 = 0 → (if T.2 ≠ 0 then T else syS T.1 (frmB ps ds)).1.D = (finO (T.1.D, T.2) o ps ds).1 ∧ 0 = (finO (T.1.D, T.2) o ps ds).2.2 ∧ Sr (applyR S.rows ps ds) (finO (T.1.D, T.2) o ps ds).2.1) := by
  intro T hT
  unfold finO
  by_cases h0 : T.2 ≠ 0
  ·rw [if_pos h0, if_pos h0];exact ⟨fun _ => ⟨rfl, rfl, h⟩, fun h9 => absurd h9 h0⟩
  ·rw [if_neg h0, if_neg h0]
   show ((SyncD T.1.D nS).2 ≠ 0 → _) ∧ ((SyncD T.1.D nS).2 = 0 → _)
   by_cases h2 : (SyncD T.1.D nS).2 ≠ 0
   ·rw [if_pos h2];exact ⟨fun _ => ⟨rfl, rfl, h⟩, fun h9 => absurd h9 h2⟩
   ·rw [if_neg h2];exact ⟨fun h9 => absurd h9 h2, fun _ => ⟨rfl, rfl, h.chg ps ds⟩⟩
 have hw : (writeS S (frmB ps ds)) = (if (wrB S (frmB ps ds)).2 ≠ 0 then wrB S (frmB ps ds) else syS (wrB S (frmB ps ds)).1 (frmB ps ds)) := rfl;have fin : ∀ (T : SS × Nat), T.1.rows = S.rows → wrB S (frmB ps ds) = T → wrO S.D o ps ds = finO (T.1.D, T.2) o ps ds → (chgS S ps ds).1.D = (wrO S.D o ps ds).1 ∧ (chgS S ps ds).2 = (wrO S.D o ps ds).2.2 ∧ Sr (chgS S ps ds).1.rows (wrO S.D o ps ds).2.1 := by
  intro T hT e1 e2;obtain ⟨k1, k2⟩ := key T hT;have hr := write_rows S (frmB ps ds);rw [← e1, ← hw] at k1 k2;rw [e2, ← e1]
  unfold chgS
  by_cases hx : (writeS S (frmB ps ds)).2 ≠ 0
  ·rw [if_pos hx];obtain ⟨a1, a2, a3⟩ := k1 hx;exact ⟨a1, a2, by rw [hr]; exact a3⟩
  ·rw [if_neg hx];obtain ⟨a1, a2, a3⟩ := k2 (Decidable.not_not.1 hx);exact ⟨a1, a2, by rw [hr]; exact a3⟩
 have hA : Sr (wrA S (frmB ps ds)).1.rows o := h;obtain ⟨p1, p2⟩ := pak_same hA;have hfr : frT ps ds = frmB ps ds := rfl
 by_cases h7 : (AppendD S.D nS (frmB ps ds)).2 = 7
 ·have h7' : (wrA S (frmB ps ds)).2 = 7 := h7
  by_cases hp : (PackS (wrA S (frmB ps ds)).1).2 = 0
  ·refine fin (wrA (PackS (wrA S (frmB ps ds)).1).1 (frmB ps ds)) (Pack_rows _) (by unfold wrB; rw [if_pos h7', if_pos hp]) ?_
   unfold wrO
   rw [hfr, if_pos h7, if_neg (by rw [p2] at hp; exact fun h9 => h9 hp)]
   show finO (AppendD (pakO (AppendD S.D nS (frmB ps ds)).1 o).1 nS (frmB ps ds)) o ps ds = finO ((AppendD (PackS (wrA S (frmB ps ds)).1).1.D nS (frmB ps ds)).1, (AppendD (PackS (wrA S (frmB ps ds)).1).1.D nS (frmB ps ds)).2) o ps ds
   rw [p1]
   rfl
  ·refine fin (PackS (wrA S (frmB ps ds)).1) (Pack_rows _) (by unfold wrB; rw [if_pos h7', if_neg hp]) ?_
   unfold wrO finO
   have hp2 : (pakO (AppendD S.D nS (frmB ps ds)).1 o).2 ≠ 0 := by rw [p2] at hp; exact hp
   rw [hfr, if_pos h7, if_pos hp2, if_pos hp, p1, p2]
   rfl
 ·have h7' : ¬ (wrA S (frmB ps ds)).2 = 7 := h7;refine fin (wrA S (frmB ps ds)) rfl (by unfold wrB; rw [if_neg h7']) ?_
  unfold wrO
  rw [hfr, if_neg h7]
  rfl
theorem do_same {S : SS} {o : List Rw} (h : Sr S.rows o) (hz : S.size = (lgD S.D).size) (ps : List Rw) (ds : List ByteArray) : (DoS S ps ds).1.D = (doO S.D o ps ds).1 ∧ (DoS S ps ds).2 = (doO S.D o ps ds).2.2 ∧ Sr (DoS S ps ds).1.rows (doO S.D o ps ds).2.1 := by
 unfold DoS doO
 by_cases h1 : refR ps ds ≠ 0 ∨ ps.length + ds.length = 0
 ·rw [if_pos h1, if_pos h1];exact ⟨rfl, rfl, h⟩
 ·rw [if_neg h1, if_neg h1];have hpk : (packL S.rows).length = (pkB o).size := by rw [← packB_size, h.pack]
  obtain ⟨p1, p2⟩ := pak_same h
  unfold preS
  rw [hpk, hz]
  by_cases hb : 1024 + 2 * (pkB o).size < (lgD S.D).size
  ·rw [if_pos hb, if_pos hb, p2]
   by_cases hc : (pakO S.D o).2 ≠ 0 ∧ (pakO S.D o).2 ≠ 7
   ·rw [if_pos hc, if_pos hc];exact ⟨p1, p2, by rw [Pack_rows]; exact h⟩
   ·rw [if_neg hc, if_neg hc, ← p1];exact wr_same (S := (PackS S).1) (by rw [Pack_rows]; exact h) ps ds
  ·rw [if_neg hb, if_neg hb, if_neg (fun h9 => h9.1 rfl)];exact wr_same h ps ds
def Pot (l : List Rw) (B : Nat) : Prop := ∃ f, l.length ≤ 64 * f ∧ laidR l + 8 * f ≤ B
theorem Pot.nil (B : Nat) : Pot [] B := ⟨0, Nat.le_refl _, by show 0 + 8 * 0 ≤ B; omega⟩
theorem Pot.mono {l : List Rw} {B C : Nat} (h : Pot l B) (hBC : B ≤ C) : Pot l C := by
 obtain ⟨f, h1, h2⟩ := h;exact ⟨f, h1, by omega⟩
theorem Pot.pack {l : List Rw} {B : Nat} (h : Pot l B) (hnd : (l.map (·.k)).Nodup) : (packB l).size ≤ B := by
 obtain ⟨f, h1, h2⟩ := h;rw [packB_size, packL_len hnd]
 omega
theorem Pot.laid {l : List Rw} {B : Nat} (h : Pot l B) : laidR l ≤ B := by
 obtain ⟨f, h1, h2⟩ := h
 omega
theorem puts_cnt (l ps : List Rw) : (putsR l ps).length ≤ l.length + ps.length := by
 induction ps generalizing l with
 | nil => exact Nat.le_refl _
 | cons x ps ih =>
  have h1 := ih (putR l x);have h2 : (putR l x).length ≤ l.length + 1 := by
   unfold putR
   rw [List.length_append];have := List.length_filter_le (fun y : Rw => decide (y.k ≠ x.k)) l
   show (List.filter _ l).length + 1 ≤ _
   omega
  show (putsR (putR l x) ps).length ≤ l.length + (ps.length + 1)
  omega
theorem dels_cnt (l : List Rw) (ds : List ByteArray) : (delsR l ds).length ≤ l.length := by
 induction ds generalizing l with
 | nil => exact Nat.le_refl _
 | cons x ds ih => exact Nat.le_trans (ih (dropR l x)) (List.length_filter_le _ _)
theorem Pot.apply {l : List Rw} {B C : Nat} (h : Pot l B) {ps : List Rw} {ds : List ByteArray} (hp : ps.length ≤ 64) (hC : B + laidR ps + 8 ≤ C) : Pot (applyR l ps ds) C := by
 obtain ⟨f, h1, h2⟩ := h;refine ⟨f + 1, ?_, ?_⟩
 ·have a := dels_cnt (putsR l ps) ds;have b := puts_cnt l ps
  show (delsR (putsR l ps) ds).length ≤ _
  omega
 ·have := laid_apply l ps ds
  omega
theorem body_ge (ps : List Rw) (ds : List ByteArray) : 4 + laidR ps ≤ (bodyB ps ds).length := by
 rw [bodyB]
 simp only [List.length_append, Wi.be_length, rows_len]
 omega
theorem frm_ge (ps : List Rw) (ds : List ByteArray) : 8 + laidR ps ≤ (frmB ps ds).size := by
 have := body_ge ps ds;rw [frmB_size]
 omega
theorem pd_laid4 {us : List UInt8} (h : (pdB us).wh = true) : laidR (pdB us).ps + 4 ≤ us.length := by
 have h0 : (ppB us).1 = true := by
  have e := pdB_eq us
  cases hp : (ppB us).1 with
  | true => rfl
  | false =>
   rw [e] at h;have h2 : (pdR (nxn 2 (ppB us).2.1).1 ((ppB us).1 && (nxn 2 (ppB us).2.1).2.1) (nxn 2 (ppB us).2.1).2.2 []).1 = true := h;rw [hp, Bool.false_and, pd_false] at h2
   cases h2
 have hn1 : (nxn 2 us).2.1 = true := by
  cases hp : (nxn 2 us).2.1 with
  | true => rfl
  | false => unfold ppB at h0; rw [hp, pp_false] at h0; cases h0
 have hn2 : (nxn 2 (ppB us).2.1).2.1 = true := by
  have e := pdB_eq us
  cases hp : (nxn 2 (ppB us).2.1).2.1 with
  | true => rfl
  | false =>
   rw [e] at h;have h2 : (pdR (nxn 2 (ppB us).2.1).1 ((ppB us).1 && (nxn 2 (ppB us).2.1).2.1) (nxn 2 (ppB us).2.1).2.2 []).1 = true := h;rw [hp, Bool.and_false, pd_false] at h2
   cases h2
 have two : ∀ (vs : List UInt8), (nxn 2 vs).2.1 = true → vs.length = 2 + (nxn 2 vs).2.2.length := fun vs hv => by
  unfold nxn at hv ⊢
  split at hv
  ·rename_i hc
   rw [if_pos hc]
   show _ = 2 + (vs.drop 2).length
   rw [List.length_drop]
   omega
  ·cases hv
 have a1 := two us hn1;have a2 := two _ hn2;have a3 := ppR_laid (nxn 2 us).1 (nxn 2 us).2.1 (nxn 2 us).2.2 [] h0;have e : (pdB us).ps = (ppB us).2.2 := rfl;rw [e]
 show laidR (ppR _ _ _ _).2.2 + 4 ≤ _
 have a4 : laidR (ppR (nxn 2 us).1 (nxn 2 us).2.1 (nxn 2 us).2.2 []).2.2 + (ppB us).2.1.length ≤ 0 + (nxn 2 us).2.2.length := a3
 omega
theorem rplF_pot : ∀ (n : Nat) (rows : List Rw) (us : List UInt8) (B : Nat), Pot rows B → Pot (rplF n rows us).1 (B + us.length)
 | 0, rows, us, B, h => h.mono (by omega)
 | n + 1, rows, us, B, h => by
  rw [rplF]
  split
  ·exact h.mono (by omega)
  ·rename_i hw
   split
   ·exact h.mono (by omega)
   ·rename_i hk
    have h2 : (nxt MX us).2.1 = true := by cases h : (nxt MX us).2.1 with | true => rfl | false => exact absurd h hw
    have hk2 : okB (pdB (bl (nxt MX us).1)) = true := by cases h : okB (pdB (bl (nxt MX us).1)) with | true => rfl | false => exact absurd h hk
    have h3 := nxt_len h2;have h4 := okB_wh hk2;have h5 := ref_ok h4.2.2.2;have h6 := pd_laid4 h4.1;rw [bl_len] at h6;have h7 : Pot (applyR rows (pdB (bl (nxt MX us).1)).ps (pdB (bl (nxt MX us).1)).ds) (B + (4 + (nxt MX us).1.size)) := h.apply (by have := h5.2.1; omega) (by omega);exact (rplF_pot n _ _ _ h7).mono (by omega)
theorem rpl_pot (log : ByteArray) : Pot (rplB log).1 log.size := by
 have := rplF_pot (log.size + 1) [] (bl log) 0 (Pot.nil 0);rw [bl_len, Nat.zero_add] at this;exact this
def RowsIn (l : List Rw) : Prop := ∀ x ∈ l, x.k.size ≤ 64 ∧ x.v.size ≤ 262144
theorem RowsIn.apply {l : List Rw} (h : RowsIn l) {ps : List Rw} {ds : List ByteArray} {m : Nat} (hp : RB ps m) : RowsIn (applyR l ps ds) := by
 have h1 : ∀ (ps l : List Rw), RowsIn l → (∀ x ∈ ps, x.k.size ≤ 64 ∧ x.v.size ≤ 262144) → RowsIn (putsR l ps) := by
  intro ps
  induction ps with
  | nil => intro l h _; exact h
  | cons x ps ih =>
   intro l h hx;refine ih (putR l x) (fun y hy => ?_) (fun y hy => hx y (mc hy))
   rcases List.mem_append.1 hy with hy | hy
   ·exact h y (List.mem_filter.1 hy).1
   ·rw [List.mem_singleton.1 hy]; exact hx x (List.mem_cons_self ..)
 have h2 : ∀ (ds : List ByteArray) (l : List Rw), RowsIn l → RowsIn (delsR l ds) := by
  intro ds
  induction ds with
  | nil => intro l h; exact h
  | cons x ds ih => intro l h; exact ih (dropR l x) (fun y hy => h y (List.mem_filter.1 hy).1)
 exact h2 ds _ (h1 ps l h (fun x hx => ⟨hp.k x hx, hp.v x hx⟩))
theorem rplF_in : ∀ (n : Nat) (rows : List Rw) (us : List UInt8), RowsIn rows → RowsIn (rplF n rows us).1
 | 0, rows, us, h => h
 | n + 1, rows, us, h => by
  rw [rplF]
  split
  ·exact h
  ·split
   ·exact h
   ·rename_i hk
    have hk2 : okB (pdB (bl (nxt MX us).1)) = true := by cases h : okB (pdB (bl (nxt MX us).1)) with | true => rfl | false => exact absurd h hk
    exact rplF_in n _ _ (h.apply (ref_ok (okB_wh hk2).2.2.2).1)
theorem rpl_in (log : ByteArray) : RowsIn (rplB log).1 := rplF_in _ _ _ (fun x hx => by cases hx)
def Dv (D : DS) (B : Nat) : Prop := ∃ a b, V2 D a b ∧ lenF a ≤ B ∧ lenF b ≤ B
theorem Dv.mono {D : DS} {B C : Nat} (h : Dv D B) (hBC : B ≤ C) : Dv D C := by
 obtain ⟨a, b, h1, h2, h3⟩ := h;exact ⟨a, b, h1, by omega, by omega⟩
theorem Dv.tight {D : DS} {B U n : Nat} (h : Dv D B) (hb : DB D U n) : DB D (2 * B) n := by
 obtain ⟨a, b, h1, h2, h3⟩ := h;have := h1.usedF hb.nd;exact ⟨hb.rm, hb.lf, by omega, hb.sz, hb.nm, hb.ct, hb.nd⟩
theorem lg_v {D : DS} {a b : Fi} (h : V2 D a b) (hd : D.down = false) : (lgD D).size = lenF a := by
 unfold lgD readD
 rw [if_neg (by rw [hd]; decide), h.s]
 cases a with
 | none => rfl
 | some f => exact zsz f.1
theorem lg_dn {D : DS} (hd : D.down = true) : (lgD D).size = 0 := by
 unfold lgD readD
 rw [if_pos hd]
 rfl
theorem Dv.lg {D : DS} {B : Nat} (h : Dv D B) : (lgD D).size ≤ B := by
 obtain ⟨a, b, h1, h2, h3⟩ := h
 cases hd : D.down with
 | true => rw [lg_dn hd]; omega
 | false => rw [lg_v h1 hd]; exact h2
theorem any_DG {D : DS} {U n : Nat} (h : DB D U n) : DG D (U + roomD D) n := ⟨h.mono (by omega) (Nat.le_refl _), by omega⟩
structure Iv (S : SS) (B : Nat) : Prop where
 up : S.D.down = false
 v : Dv S.D B
 sz : S.size = (lgD S.D).size
 ro : RowsIn S.rows
 po : Pot S.rows B
theorem Iv.mono {S : SS} {B C : Nat} (h : Iv S B) (hBC : B ≤ C) : Iv S C := ⟨h.up, h.v.mono hBC, h.sz, h.ro, h.po.mono hBC⟩
theorem Iv.rl {S : SS} {B : Nat} (h : Iv S B) (hB : B ≤ 3000000) : RL S.rows := ⟨fun x hx => (h.ro x hx).1, fun x hx => (h.ro x hx).2, Nat.le_trans h.po.laid hB⟩
theorem lay_I {D : DS} {B U n : Nat} (h : Dv D B) (hd : D.down = false) (hb : DB D U n) (fr : ByteArray) (hf : fr.size ≤ B) :
  Dv (layD D fr).1 B ∧ (((layD D fr).2 = 16 ∧ (layD D fr).1.down = true) ∨ ((layD D fr).2 = 7 ∧ (layD D fr).1.down = false ∧ (lgD (layD D fr).1).size = (lgD D).size ∧ getF (layD D fr).1.fs nN = none) ∨ ((layD D fr).2 = 0 ∧ (layD D fr).1.down = false ∧ (lgD (layD D fr).1).size = fr.size)) := by
 obtain ⟨a, b, v, ha, hl⟩ := h
 rcases lay_v v (any_DG hb) hd fr with ⟨e, d, _, b', v', hb'⟩ | ⟨e, d, _, v', _⟩ | ⟨e, d, _, v'⟩
 ·exact ⟨⟨a, b', v', ha, by omega⟩, .inl ⟨e, d⟩⟩
 ·refine ⟨⟨a, none, v', ha, Nat.zero_le _⟩, .inr (.inl ⟨e, d, by rw [lg_v v' d, lg_v v hd], by rw [v'.n]; rfl⟩)⟩
 ·have hs : lenF (some (bl fr, (bl fr).length)) = fr.size := bl_len fr;exact ⟨⟨_, none, v', by rw [hs]; exact hf, Nat.zero_le _⟩, .inr (.inr ⟨e, d, by rw [lg_v v' d, hs]⟩)⟩
theorem Dv.fs {D D' : DS} {B : Nat} (h : Dv D B) (e : D'.fs = D.fs) : Dv D' B := by
 obtain ⟨a, b, v, h2, h3⟩ := h;exact ⟨a, b, v.fs e, h2, h3⟩
theorem lg_fs {D D' : DS} (e : D'.fs = D.fs) (h1 : D.down = false) (h2 : D'.down = false) : (lgD D').size = (lgD D).size := by
 unfold lgD readD
 rw [if_neg (by rw [h2]; decide), if_neg (by rw [h1]; decide), e]
theorem pack_I {S : SS} {B U n : Nat} (h : Iv S B) (hb : DB S.D U n) (hnd : (S.rows.map (·.k)).Nodup) : Dv (PackS S).1.D B ∧ ((PackS S).1.D.down = false → Iv (PackS S).1 B) := by
 have hp := h.po.pack hnd;obtain ⟨v, hc⟩ := lay_I h.v h.up hb (packB S.rows) hp;have hr := Pack_rows S
 unfold PackS at hr ⊢
 rcases hc with ⟨e, d⟩ | ⟨e, d, hl, hn⟩ | ⟨e, d, hl⟩
 ·have e' : ¬ (layS S (packB S.rows)).2 = 7 := by show ¬ (layD S.D (packB S.rows)).2 = 7; omega
  rw [if_neg e'];refine ⟨v, fun hu => ?_⟩;have hu2 : (layD S.D (packB S.rows)).1.down = false := hu;rw [d] at hu2
  cases hu2
 ·have e' : (layS S (packB S.rows)).2 = 7 := e;have hsz : (layS S (packB S.rows)).1.size = S.size := by
   show (if (layD S.D (packB S.rows)).2 = 0 then _ else S.size) = S.size
   rw [if_neg (by omega)]
  rw [if_pos e']
  rcases remn_v d hn with ⟨d2, f2, _⟩ | ⟨d2, f2, _⟩
  ·refine ⟨v.fs f2, fun hu => ?_⟩;have hu2 : (RemoveD (layD S.D (packB S.rows)).1 nN).1.down = false := hu;rw [d2] at hu2
   cases hu2
  ·refine ⟨v.fs f2, fun _ => ⟨d2, v.fs f2, ?_, h.ro, h.po⟩⟩
   show (layS S (packB S.rows)).1.size = (lgD (RemoveD (layD S.D (packB S.rows)).1 nN).1).size
   rw [hsz, lg_fs f2 d d2, hl, h.sz]
 ·have e' : ¬ (layS S (packB S.rows)).2 = 7 := by show ¬ (layD S.D (packB S.rows)).2 = 7; omega
  rw [if_neg e'];refine ⟨v, fun _ => ⟨d, v, ?_, h.ro, h.po⟩⟩
  show (if (layD S.D (packB S.rows)).2 = 0 then (packB S.rows).size else S.size) = (lgD (layD S.D (packB S.rows)).1).size
  rw [if_pos e, hl]
theorem pack_up {S : SS} {B U n : Nat} (h : Iv S B) (hb : DB S.D U n) (hnd : (S.rows.map (·.k)).Nodup) (h0 : (PackS S).2 = 0) : (PackS S).1.D.down = false := by
 have hp := h.po.pack hnd;obtain ⟨v, hc⟩ := lay_I h.v h.up hb (packB S.rows) hp
 unfold PackS at h0 ⊢
 rcases hc with ⟨e, d⟩ | ⟨e, d, _⟩ | ⟨e, d, _⟩
 ·rw [if_neg (show ¬ (layS S (packB S.rows)).2 = 7 from (by show ¬ (layD S.D (packB S.rows)).2 = 7; omega))] at h0;have h9 : (layD S.D (packB S.rows)).2 = 0 := h0
  omega
 ·rw [if_pos (show (layS S (packB S.rows)).2 = 7 from e)] at h0
  cases h0
 ·rw [if_neg (show ¬ (layS S (packB S.rows)).2 = 7 from (by show ¬ (layD S.D (packB S.rows)).2 = 7; omega))];exact d
theorem app_I {S : SS} {B : Nat} (h : Iv S B) (fr : ByteArray) :
  ((wrA S fr).2 = 16 ∧ (wrA S fr).1.D.down = true ∧ Dv (wrA S fr).1.D B) ∨ ((wrA S fr).2 = 7 ∧ Iv (wrA S fr).1 B) ∨
  ((wrA S fr).2 = 0 ∧ (wrA S fr).1.D.down = false ∧ Dv (wrA S fr).1.D (B + fr.size) ∧ (lgD (wrA S fr).1.D).size = S.size + fr.size ∧ getF (wrA S fr).1.D.fs nS ≠ none) := by
 rcases app_v (s := fr) h.up isS with ⟨e, d, f, _⟩ | ⟨e, d, f, _⟩ | ⟨e, d, f, _⟩
 ·exact .inl ⟨e, d, h.v.fs f⟩
 ·refine .inr (.inl ⟨e, d, h.v.fs f, ?_, h.ro, h.po⟩)
  show S.size = (lgD (AppendD S.D nS fr).1).size
  rw [lg_fs f h.up d, h.sz]
 ·obtain ⟨a, b, v, ha, hb⟩ := h.v;have v' : V2 (wrA S fr).1.D (appF a (bl fr)) b := v.appS f;have hl : lenF (appF a (bl fr)) = lenF a + fr.size := by
   cases a with
   | none => show ([] ++ bl fr).length = 0 + fr.size; rw [List.nil_append, bl_len, Nat.zero_add]
   | some g => show (g.1 ++ bl fr).length = g.1.length + fr.size; rw [List.length_append, bl_len]
  refine .inr (.inr ⟨e, d, ⟨_, b, v', by rw [hl]; omega, by omega⟩, ?_, ?_⟩)
  ·rw [lg_v v' d, hl, h.sz, lg_v v h.up]
  ·rw [v'.s]
   simp [appF]
theorem sync_I {D : DS} {B : Nat} (h : Dv D B) (hd : D.down = false) (hf : getF D.fs nS ≠ none) :
  Dv (SyncD D nS).1 B ∧ (((SyncD D nS).2 = 16 ∧ (SyncD D nS).1.down = true) ∨ ((SyncD D nS).2 = 0 ∧ (SyncD D nS).1.down = false ∧ (lgD (SyncD D nS).1).size = (lgD D).size)) := by
 rcases sync_v hd hf with ⟨e, d, f, _⟩ | ⟨e, d, f, _⟩
 ·exact ⟨h.fs f, .inl ⟨e, d⟩⟩
 ·obtain ⟨a, b, v, ha, hb⟩ := h;have v' := v.synS f;have hl : lenF (synF a) = lenF a := by cases a <;> rfl
  exact ⟨⟨_, b, v', by rw [hl]; exact ha, hb⟩, .inr ⟨e, d, by rw [lg_v v' d, lg_v v hd, hl]⟩⟩
theorem fin_I {S : SS} {B : Nat} {fr : ByteArray} (h : Iv S B) (hA : (wrA S fr).2 = 0) :
  Dv (syS (wrA S fr).1 fr).1.D (B + fr.size) ∧ ((syS (wrA S fr).1 fr).1.D.down = false → (syS (wrA S fr).1 fr).2 = 0 ∧ (syS (wrA S fr).1 fr).1.size = (lgD (syS (wrA S fr).1 fr).1.D).size) := by
 rcases app_I h fr with ⟨e, _⟩ | ⟨e, _⟩ | ⟨_, d, v, hl, hf⟩
 ·omega
 ·omega
 ·obtain ⟨v2, hc⟩ := sync_I v d hf;refine ⟨v2, fun hu => ?_⟩
  rcases hc with ⟨_, d2⟩ | ⟨e2, d2, hl2⟩
  ·have hu2 : (SyncD (wrA S fr).1.D nS).1.down = false := hu;rw [d2] at hu2
   cases hu2
  ·refine ⟨e2, ?_⟩
   show S.size + fr.size = (lgD (SyncD (wrA S fr).1.D nS).1).size
   rw [hl2, hl]
theorem write_I {S : SS} {B U n : Nat} (h : Iv S B) (hb : DB S.D U n) (hnd : (S.rows.map (·.k)).Nodup) (fr : ByteArray) :
  Dv (writeS S fr).1.D (B + fr.size) ∧ ((writeS S fr).1.D.down = false → ((writeS S fr).2 ≠ 0 → Iv (writeS S fr).1 B) ∧ ((writeS S fr).2 = 0 → (writeS S fr).1.size = (lgD (writeS S fr).1.D).size)) := by
 have one : ∀ (T : SS), Iv T B → wrB S fr = wrA T fr → Dv (writeS S fr).1.D (B + fr.size) ∧ ((writeS S fr).1.D.down = false → ((writeS S fr).2 ≠ 0 → Iv (writeS S fr).1 B) ∧ ((writeS S fr).2 = 0 → (writeS S fr).1.size = (lgD (writeS S fr).1.D).size)) := by
  intro T hT e
  unfold writeS
  rw [e]
  by_cases h0 : (wrA T fr).2 ≠ 0
  ·rw [if_pos h0]
   rcases app_I hT fr with ⟨e1, d1, v1⟩ | ⟨e1, i1⟩ | ⟨e1, _⟩
   ·exact ⟨v1.mono (by omega), fun hu => by rw [d1] at hu; cases hu⟩
   ·exact ⟨i1.v.mono (by omega), fun _ => ⟨fun _ => i1, fun h9 => absurd h9 h0⟩⟩
   ·exact absurd e1 h0
  ·rw [if_neg h0];obtain ⟨v2, hc⟩ := fin_I hT (Decidable.not_not.1 h0);refine ⟨v2, fun hu => ?_⟩;obtain ⟨c1, c2⟩ := hc hu;exact ⟨fun h9 => absurd c1 h9, fun _ => c2⟩
 by_cases h7 : (wrA S fr).2 = 7
 ·have i1 : Iv (wrA S fr).1 B := by
   rcases app_I h fr with ⟨e1, _⟩ | ⟨_, i1⟩ | ⟨e1, _⟩
   ·omega
   ·exact i1
   ·omega
  obtain ⟨pv, pi⟩ := pack_I i1 (Append_DB hb nS fr) hnd
  by_cases hp : (PackS (wrA S fr).1).2 = 0
  ·cases hd : (PackS (wrA S fr).1).1.D.down with
   | false => exact one _ (pi hd) (by unfold wrB; rw [if_pos h7, if_pos hp])
   | true =>
    exfalso
    have := pack_up i1 (Append_DB hb nS fr) hnd hp;rw [hd] at this
    cases this
  ·have e : wrB S fr = PackS (wrA S fr).1 := by unfold wrB; rw [if_pos h7, if_neg hp]
   unfold writeS
   rw [e, if_pos hp];exact ⟨pv.mono (by omega), fun hu => ⟨fun _ => pi hu, fun h9 => absurd h9 hp⟩⟩
 ·exact one S h (by unfold wrB; rw [if_neg h7])
theorem chg_I {S : SS} {B U n : Nat} (h : Iv S B) (hb : DB S.D U n) (hnd : (S.rows.map (·.k)).Nodup) {ps : List Rw} {ds : List ByteArray} (hok : refR ps ds = 0) :
  Dv (chgS S ps ds).1.D (B + (frmB ps ds).size) ∧ ((chgS S ps ds).1.D.down = false → Iv (chgS S ps ds).1 (B + (frmB ps ds).size)) := by
 obtain ⟨v, hc⟩ := write_I h hb hnd (frmB ps ds);have hr := write_rows S (frmB ps ds);have hk := ref_ok hok
 unfold chgS
 by_cases h0 : (writeS S (frmB ps ds)).2 ≠ 0
 ·rw [if_pos h0];exact ⟨v, fun hu => ((hc hu).1 h0).mono (by omega)⟩
 ·rw [if_neg h0];refine ⟨v, fun hu => ⟨hu, v, (hc hu).2 (Decidable.not_not.1 h0), ?_, ?_⟩⟩
  ·show RowsIn (applyR (writeS S (frmB ps ds)).1.rows ps ds)
   rw [hr];exact h.ro.apply hk.1
  ·show Pot (applyR (writeS S (frmB ps ds)).1.rows ps ds) _
   rw [hr];exact h.po.apply (by have := hk.2.1; omega) (by have := frm_ge ps ds; omega)
theorem chg_dn {S : SS} (hd : S.D.down = true) (hl : S.D.left = 0) (ps : List Rw) (ds : List ByteArray) : chgS S ps ds = (S, 16) := by
 unfold chgS
 rw [write_dn hd hl];exact if_pos (show (16 : Nat) ≠ 0 by decide)
theorem pack_left {S : SS} {B U n : Nat} (h : Iv S B) (hb : DB S.D U n) (hnd : (S.rows.map (·.k)).Nodup) (hc : ¬ ((PackS S).2 ≠ 0 ∧ (PackS S).2 ≠ 7)) (hd : (PackS S).1.D.down = true) : (PackS S).1.D.left = 0 := by
 have hp := h.po.pack hnd;obtain ⟨v, hq⟩ := lay_I h.v h.up hb (packB S.rows) hp
 unfold PackS at hc hd ⊢
 rcases hq with ⟨e, d⟩ | ⟨e, d, _, hn⟩ | ⟨e, d, _⟩
 ·rw [if_neg (show ¬ (layS S (packB S.rows)).2 = 7 from (by show ¬ (layD S.D (packB S.rows)).2 = 7; omega))] at hc;have h9 : ¬ ((layD S.D (packB S.rows)).2 ≠ 0 ∧ (layD S.D (packB S.rows)).2 ≠ 7) := hc
  omega
 ·rw [if_pos (show (layS S (packB S.rows)).2 = 7 from e)] at hd ⊢
  rcases remn_v d hn with ⟨_, _, l2, _⟩ | ⟨d2, _⟩
  ·exact l2
  ·have h9 : (RemoveD (layD S.D (packB S.rows)).1 nN).1.down = true := hd;rw [d2] at h9
   cases h9
 ·rw [if_neg (show ¬ (layS S (packB S.rows)).2 = 7 from (by show ¬ (layD S.D (packB S.rows)).2 = 7; omega))] at hd;have h9 : (layD S.D (packB S.rows)).1.down = true := hd;rw [d] at h9
  cases h9
theorem do_I {S : SS} {B U n : Nat} (h : Iv S B) (hb : DB S.D U n) (hnd : (S.rows.map (·.k)).Nodup) (ps : List Rw) (ds : List ByteArray) :
  Dv (DoS S ps ds).1.D (B + (frmB ps ds).size) ∧ ((DoS S ps ds).1.D.down = false → Iv (DoS S ps ds).1 (B + (frmB ps ds).size)) := by
 unfold DoS
 by_cases h1 : refR ps ds ≠ 0 ∨ ps.length + ds.length = 0
 ·rw [if_pos h1];exact ⟨h.v.mono (by omega), fun _ => h.mono (by omega)⟩
 ·rw [if_neg h1];have hok : refR ps ds = 0 := Decidable.not_not.1 (fun h9 => h1 (.inl h9))
  unfold preS
  by_cases hb2 : 1024 + 2 * (packL S.rows).length < S.size
  ·rw [if_pos hb2];obtain ⟨pv, pi⟩ := pack_I h hb hnd
   by_cases hc : (PackS S).2 ≠ 0 ∧ (PackS S).2 ≠ 7
   ·rw [if_pos hc];exact ⟨pv.mono (by omega), fun hu => (pi hu).mono (by omega)⟩
   ·rw [if_neg hc]
    cases hd : (PackS S).1.D.down with
    | false => exact chg_I (pi hd) (pack_DBS rfl hb) (by rw [Pack_rows]; exact hnd) hok
    | true =>
     have e := chg_dn (S := (PackS S).1) hd (pack_left h hb hnd hc hd) ps ds;rw [e];exact ⟨pv.mono (by omega), fun hu => by rw [hd] at hu; cases hu⟩
  ·rw [if_neg hb2, if_neg (fun h9 => h9.1 rfl)];exact chg_I h hb hnd hok
theorem open_I {D : DS} {B U n : Nat} (h : Dv D B) (hb : DB D U n) : Dv (opnS D).1.D B ∧ ((opnS D).2 = 0 → (opnS D).1.D.down = false ∧ Iv (opnS D).1 B) := by
 cases hd : D.down with
 | true =>
  have e : (readD D nS).2 = 16 := by unfold readD; rw [if_pos hd]
  have eo : opnS D = (⟨D, [], 0⟩, 16) := by unfold opnS; rw [if_pos (show (readD D nS).2 ≠ 0 ∧ (readD D nS).2 ≠ 5 by omega), e]
  rw [eo];exact ⟨h, fun h9 => by cases h9⟩
 | false =>
  have hc := read_code D nS;have h16 : (readD D nS).2 ≠ 16 := by
   unfold readD
   rw [if_neg (by rw [hd]; decide)]
   split
   ·exact (by decide : (5 : Nat) ≠ 16)
   ·exact (by decide : (0 : Nat) ≠ 16)
  unfold opnS
  rw [if_neg (show ¬ ((readD D nS).2 ≠ 0 ∧ (readD D nS).2 ≠ 5) by omega)]
  by_cases hbad : (rplB (lgD D)).2.2 = false
  ·rw [if_pos hbad];exact ⟨h, fun h9 => by cases h9⟩
  ·rw [if_neg hbad];have hlg := h.lg;have hl := rpl_left (lgD D);have hpo : Pot (rplB (lgD D)).1 B := (rpl_pot (lgD D)).mono hlg
   by_cases hs : (rawS D).size < (lgD D).size
   ·rw [if_pos hs];have hfs : ((lgD D).extract 0 (rawS D).size).size ≤ B := by rw [ByteArray.size_extract]; omega
    obtain ⟨v, hq⟩ := lay_I h hd hb ((lgD D).extract 0 (rawS D).size) hfs;refine ⟨v, fun h0 => ?_⟩;have h0' : (layD D ((lgD D).extract 0 (rawS D).size)).2 = 0 := h0
    rcases hq with ⟨e, _⟩ | ⟨e, _⟩ | ⟨e, d, hz⟩
    ·omega
    ·omega
    ·refine ⟨d, d, v, ?_, rpl_in _, hpo⟩
     show (if (layD D ((lgD D).extract 0 (rawS D).size)).2 = 0 then ((lgD D).extract 0 (rawS D).size).size else _) = (lgD (layD D ((lgD D).extract 0 (rawS D).size)).1).size
     rw [if_pos e, hz]
   ·rw [if_neg hs];refine ⟨h, fun _ => ⟨hd, hd, h, ?_, rpl_in _, hpo⟩⟩;have hrs : (rawS D).size = (lgD D).size - (rplB (lgD D)).2.1.length := rfl
    show (rawS D).size = (lgD D).size
    omega
section
variable {ρ : Operand → Value} {x y : Operand} {w : World} {dst : Option Tmp} {ty : TypeId} {pos : String} {aft : Array Edge} {gd : Option (Nat × Bool)}
theorem run_neqb {b : Bool} (hx : ρ x = .bool b) (hy : ρ y = .bool b) : (execOp ρ ⟨dst, .binOp .neq 4 x y 4, ty, pos, aft, gd⟩).run prog w = .ok (.value (.bool false)) w := by
 cases b <;> simp only [execOp, hx, hy] <;> go_simp
end
theorem Row.rtx {v : Value} {n : Nat} {l : List (List UInt8)} {Lr : BL} {w : World} (h : Row 9 1 v n (l.map encStr) Lr) (hn : n = l.length) (hB : ∀ y ∈ Lr, Blk w y.1 y.2.1 y.2.2) : ∃ o c, v = .slice o (l.map fun x => (⟨x.toArray⟩ : ByteArray)).length c ∧ RTx w o (l.map fun x => ⟨x.toArray⟩) := by
 subst hn
 rcases h.2 with ⟨rfl, h2, rfl⟩ | ⟨g, cap, cur, rfl, rfl, k1, k2, k3, k4⟩
 ·have : l = [] := List.length_eq_zero_iff.1 h2;subst this;exact ⟨none, 0, rfl, .inl rfl⟩
 ·refine ⟨_, cap, by rw [List.length_map], .inr ⟨g, cur, rfl, hB (g, 9, cur) (by simp), fun i hi => ?_⟩⟩;rw [List.length_map] at hi;rw [Nat.mul_one] at k4;have e : (cur.toList.take l.length)[i]? = (l.map encStr)[i]? := by rw [k4]
  rw [List.getElem?_take, if_pos hi, List.getElem?_map, List.getElem?_eq_getElem hi, Array.getElem?_toList] at e;rw [e]
  simp [hi, encStr]
theorem same_rows {v1 v2 : Value} {l : List (List UInt8)} {L1 L2 : BL} {w : World} (h1 : Row 9 1 v1 l.length (l.map encStr) L1) (h2 : Row 9 1 v2 l.length (l.map encStr) L2) (hB1 : ∀ y ∈ L1, Blk w y.1 y.2.1 y.2.2) (hB2 : ∀ y ∈ L2, Blk w y.1 y.2.1 y.2.2) (hl : l.length ≤ 1000000000) :
  Calls prog 39 #[v1, v2] w fun e w' => e = .returned (.bool true) ∧ Below w.heap.size w w' := by
 obtain ⟨o1, c1, rfl, r1⟩ := h1.rtx rfl hB1;obtain ⟨o2, c2, rfl, r2⟩ := h2.rtx rfl hB2;exact rsame_eq r1 r2 (by rw [List.length_map]; exact hl)
end Go.Proofs.YtckmlaempffpjaaGreat
