/-
 A part of a block, stored and read; what Pack and Do of the reference are.
-/
import Derived.Test.YtckmlaempffpjaaGreatQ7
namespace Go.Proofs.YtckmlaempffpjaaGreat
open Go.RowKit Go.Proofs.Tryz
section
variable {ρ : Operand → Value} {x y : Operand} {w : World} {dst : Option Tmp} {T ty : TypeId} {pos : String} {aft : Array Edge} {gd : Option (Nat × Bool)} {q o : Nat} {t : TypeId} {c c' : Array Value}
theorem run_storep   (h : Blk w q t c) (ho : o + c'.size ≤ c.size)   (hx : ρ x = .pointer (some ⟨q, o, none⟩) := by kernel_rfl) (hy : ρ y = .agg c' := by kernel_rfl) (hi : (prog.info? T).map (·.size) = some c'.size := by kernel_rfl) (h1 : c'.all (·.oneCell') = true := by kernel_rfl) :
  (execOp ρ ⟨dst, .store T x y, ty, pos, aft, gd⟩).run prog w = .ok .skip (w.setCells q o c'.toList) := by
 have hth : w.there q o c'.size := fun j hj => ⟨by rw [h.cell (o + j)]; simp; omega, h.free (o + j) (by omega)⟩
 simp only [execOp, hx, hy, Instr.storeAt, Instr.sureAddr, Sem.run_bind, Sem.run_pure, Result.andThen_ok, run_storeVar_mid w q o T c' hth hi h1]
end
theorem HA.partC {w : World} {w0 : Base} {L : BL} {q o : Nat} {t : TypeId} {c c2 c' : Array Value} (h : HA w0 L w) (i : Nat) (hi : L[i]? = some (q, t, c)) (ho : o + c'.size ≤ c.size) (hc : (c.toList.take o ++ c'.toList ++ c.toList.drop (o + c'.size)).toArray = c2) :
  HA w0 (L.set i (q, t, c2)) (w.setCells q o c'.toList) := by
 have := h.part i hi (o := o) (vs := c'.toList) (by rw [Array.length_toList]; exact ho);rw [Array.length_toList, hc] at this;exact this
theorem wl_fillp {ops : Array Oper} {Q : Exit → Act → World → Prop} {rest : List Oper} {a : Act} {w : World} {w0 : Base} {L : BL} {dst : Option Tmp} {T ty : TypeId} {pos : String} {aft : Array Edge} {gd : Option (Nat × Bool)} {x y : Operand} {q o : Nat} {t : TypeId} {c c2 c' : Array Value} (H : HA w0 L w) (i : Nat) (hi : L[i]? = some (q, t, c)) 
      (ho : o + c'.size ≤ c.size)   (hc : (c.toList.take o ++ c'.toList ++ c.toList.drop (o + c'.size)).toArray = c2)
    (h : ∀ w', HA w0 (L.set i (q, t, c2)) w' → WL prog ops Q rest (a.put dst undef) w') (hw : Region.wanted ⟨dst, .store T x y, ty, pos, aft, gd⟩ (yielded ops a.tmps) = true := by kernel_rfl) (hx : a.eval x = .pointer (some ⟨q, o, none⟩) := by kernel_rfl) (hy : a.eval y = .agg c' := by kernel_rfl) (hz : (prog.info? T).map (·.size) = some c'.size := by kernel_rfl) (h1 : c'.all (·.oneCell') = true := by kernel_rfl) : WL prog ops Q (⟨dst, .store T x y, ty, pos, aft, gd⟩ :: rest) a w := by
  refine ⟨?_⟩
  unfold wpList
  rw [if_pos hw];refine .inl ?_
  unfold Oper.wp
  rw [run_storep (hx := hx) (hy := hy) (H.get i hi) ho (hi := hz) (h1 := h1)];exact (h _ (H.partC i hi ho hc)).out
theorem part56 {a b c d e f : Value} : ∀ (j : Nat) (v : Value), (#[a, b, c, d, e] : Array Value)[j]? = some v → (#[a, b, c, d, e, f] : Array Value)[0 + j]? = some v := fun j v h => by
 rw [Nat.zero_add]
 match j, h with
 | 0, h => exact h
 | 1, h => exact h
 | 2, h => exact h
 | 3, h => exact h
 | 4, h => exact h
 | k + 5, h => simp at h
theorem fill56 (a b c d e f a' b' c' d' e' : Value) : ((#[a, b, c, d, e, f] : Array Value).toList.take 0 ++ (#[a', b', c', d', e'] : Array Value).toList ++ (#[a, b, c, d, e, f] : Array Value).toList.drop (0 + (#[a', b', c', d', e'] : Array Value).size)).toArray = #[a', b', c', d', e', f] := rfl
theorem rm_DB {D : DS} {U n : Nat} (h : DB D U n) : DB (rmN D).1 U (n + 1) := by
 unfold rmN
 split
 ·exact Remove_DB h nN
 ·exact h.mono (Nat.le_refl _) (Nat.le_succ _)
theorem lay_DB {D : DS} {U n : Nat} (h : DB D U n) (fr : ByteArray) : DB (layD D fr).1 (U + fr.size) (n + 4) := by
 unfold layD
 have h1 := rm_DB h;have h2 := Append_DB h1 nN fr
 split
 ·exact h1.mono (by omega) (by omega)
 ·split
  ·exact h2.mono (by omega) (by omega)
  ·split
   ·exact (Sync_DB h2 nN).mono (by omega) (by omega)
   ·exact (Rename_DB (Sync_DB h2 nN) nN nS).mono (by omega) (by omega)
def pkB (ls : List Rw) : ByteArray := ⟨(pkO ls ((ls.length + 63) / 64)).toArray⟩
theorem pkB_size (ls : List Rw) : (pkB ls).size ≤ laidR ls + 8 * ((ls.length + 63) / 64) := by
 unfold pkB
 rw [zsz];exact pkO_le ls _
def pakO (D : DS) (ls : List Rw) : DS × Nat :=
 if (layD D (pkB ls)).2 = 7 then ((RemoveD (layD D (pkB ls)).1 nN).1, 7) else layD D (pkB ls)
theorem pak_DB {D : DS} {U n : Nat} (h : DB D U n) (ls : List Rw) : DB (pakO D ls).1 (U + (pkB ls).size) (n + 5) := by
 unfold pakO
 have h1 := lay_DB h (pkB ls)
 split
 ·exact Remove_DB h1 nN
 ·exact h1.mono (by omega) (by omega)
def ROP (w w' : World) (N : BL) (e : Ending) (D : DS) (rm : Nat) (rv : Value) (code : Nat) : Prop :=
 ∃ pf nf cf dn lf pz nz cz N', e = .returned (.tuple #[.agg #[i6 rm, .slice pf nf cf, .bool dn, i6 lf, .slice pz nz cz, rv], i6 code]) ∧ RD (.agg (d5 rm pf nf cf dn lf pz nz cz)) D rm (N' ++ N) ∧ Newer w.heap.size w' N' ∧ Below w.heap.size w w'
def frT (ps : List Rw) (ds : List ByteArray) : ByteArray := ⟨(frameB ps ds).toArray⟩
def finO (a : DS × Nat) (ls ps : List Rw) (ds : List ByteArray) : DS × List Rw × Nat :=
 if a.2 ≠ 0 then (a.1, ls, a.2)
 else if (SyncD a.1 nS).2 ≠ 0 then ((SyncD a.1 nS).1, ls, (SyncD a.1 nS).2)
 else ((SyncD a.1 nS).1, chgO ls ps ds, 0)
def wrO (D : DS) (ls ps : List Rw) (ds : List ByteArray) : DS × List Rw × Nat :=
 if (AppendD D nS (frT ps ds)).2 = 7 then
  if (pakO (AppendD D nS (frT ps ds)).1 ls).2 ≠ 0 then ((pakO (AppendD D nS (frT ps ds)).1 ls).1, ls, (pakO (AppendD D nS (frT ps ds)).1 ls).2)
  else finO (AppendD (pakO (AppendD D nS (frT ps ds)).1 ls).1 nS (frT ps ds)) ls ps ds
 else finO (AppendD D nS (frT ps ds)) ls ps ds
def doO (D : DS) (ls ps : List Rw) (ds : List ByteArray) : DS × List Rw × Nat :=
 if refR ps ds ≠ 0 ∨ ps.length + ds.length = 0 then (D, ls, refR ps ds)
 else if 1024 + 2 * (pkB ls).size < (lgD D).size then
  if (pakO D ls).2 ≠ 0 ∧ (pakO D ls).2 ≠ 7 then ((pakO D ls).1, ls, (pakO D ls).2)
  else wrO (pakO D ls).1 ls ps ds
 else wrO D ls ps ds
theorem keep_rows2 {o p2 : Option Addr} {c c2 : Nat} {l0 ls : List Rw} {N NN Nr N2 : BL} (hRw : Row 64 2 (.slice o l0.length c) l0.length (rcl l0) Nr) (hNr : ∀ y ∈ Nr, y ∈ N) (hrv : RVw o c l0 N2 p2 c2 ls) : ∃ Nq, Row 64 2 (.slice p2 ls.length c2) ls.length (rcl ls) Nq ∧ ∀ y ∈ Nq, y ∈ (N2 ++ NN) ++ N := by
 rcases hrv with ⟨rfl, rfl, rfl⟩ | hr
 ·exact ⟨Nr, hRw, fun y hy => by simp [hNr y hy]⟩
 ·exact ⟨N2, hr, fun y hy => by simp [hy]⟩
end Go.Proofs.YtckmlaempffpjaaGreat
namespace Go.Proofs.YtckmlaempffpjaaGreat
set_option linter.unusedVariables false
set_option maxRecDepth 100000
set_option maxHeartbeats 4000000
open Go.RowKit Go.Proofs.Tryz
theorem rpack_any {w : World} {rm nf cf lf nz cz : Nat} {pf pz : Option Addr} {dn : Bool} {D : DS} {N : BL} (hR : RD (.agg (d5 rm pf nf cf dn lf pz nz cz)) D rm N) {o : Option Addr} {c : Nat} {ls : List Rw} {Nr : BL} (hRw : Row 64 2 (.slice o ls.length c) ls.length (rcl ls) Nr) (hNr : ∀ y ∈ Nr, y ∈ N) (hS : Stand w N) {U n : Nat} (hb : DB D U n)  (hn : n ≤ 890) (hla : laidR ls ≤ 3000000) (hU : U + (pkB ls).size ≤ 100000000) :
  Calls prog 37 #[.agg (d6 rm pf nf cf dn lf pz nz cz o ls.length c)] w fun e w' => ROP w w' N e (pakO D ls).1 rm (.slice o ls.length c) (pakO D ls).2 := by
 have H0 := HA.start w;have hP : RowsAt w o ls := Row.rows hRw (fun y hy => hS y (hNr y hy));have hlc : ls.length ≤ c := by
  obtain ⟨p9, c9, e9, h9⟩ := hRw.cap;injection e9 with _ _ e9
  omega
 have hpk := pkB_size ls;have hlr := laid_cnt ls
 go_enter Tryz.func37, Tryz.ntmps37
 refine zsr ?_;refine wl_make (c := (d6 rm pf nf cf dn lf pz nz cz o ls.length c)) H0 32 ?_;intro q1 w2 h3;refine wl_make (c := (d6 0 none 0 0 false 0 none 0 0 none 0 0)) h3 32 ?_;intro q4 w5 h6;refine zwv (i6 0) ?_;refine wl_nil ?_;have h7 := h6;clear h6;generalize q1 = q1 at h7 ⊢;have h8 := h7;clear h7;generalize q4 = q2 at h8 ⊢;refine zt (wp_seq ?_);refine zxr (HA (bs w) ((q2, 32, (d6 0 none 0 0 false 0 none 0 0 none 0 0)) :: (q1, 32, (d6 rm pf nf cf dn lf pz nz cz o ls.length c)) :: [])) (fun Z0 AQ w' => ∃ (N4 : BL) (pf4 : Option Addr) (nf4 : Nat) (cf4 : Nat) (dn4 : Bool) (lf4 : Nat) (pz4 : Option Addr) (nz4 : Nat) (cz4 : Nat) (q16 : Nat), AQ = pts Z0 [(4, pt q16), (5, i6 ((layD D (pkB ls)).2)), (6, .tuple #[.agg (d5 rm pf4 nf4 cf4 dn4 lf4 pz4 nz4 cz4), i6 ((layD D (pkB ls)).2)]), (7, pt q1), (8, .agg (d5 rm pf nf cf dn lf pz nz cz)), (9, .agg (d6 rm pf nf cf dn lf pz nz cz o ls.length c)), (10, .string (pkB ls)), (11, .tuple #[.agg (d5 rm pf4 nf4 cf4 dn4 lf4 pz4 nz4 cz4), i6 ((layD D (pkB ls)).2)]), (12, .agg (d5 rm pf4 nf4 cf4 dn4 lf4 pz4 nz4 cz4)), (13, i6 ((layD D (pkB ls)).2))] ∧ RD (.agg (d5 rm pf4 nf4 cf4 dn4 lf4 pz4 nz4 cz4)) (layD D (pkB ls)).1 rm (([] ++ N4) ++ N) ∧ HA (bs w) ((q16, 29, (d5 rm pf4 nf4 cf4 dn4 lf4 pz4 nz4 cz4)) :: (q2, 32, (d6 0 none 0 0 false 0 none 0 0 none 0 0)) :: (q1, 32, (d6 rm pf nf cf dn lf pz nz cz o ls.length c)) :: ([] ++ N4)) w') 11 h8.drew ?_ ?_
 ·have h9 := h8.drew;refine wx_pure (i := 0) (pq q1) rfl rfl ?_;refine wx_val (i := 1) (.agg (d5 rm pf nf cf dn lf pz nz cz)) rfl rfl (fun w' h' => run_part (o := 0) (c' := (d5 rm pf nf cf dn lf pz nz cz)) (h'.get 1 rfl) part56 underlying29 rfl) ?_;refine wx_val (i := 2) (.agg (d6 rm pf nf cf dn lf pz nz cz o ls.length c)) rfl rfl (fun w' h' => run_load_blk (h'.get 1 rfl) underlying32 rfl) ?_;refine wx_call (i := 3) (.string (pkB ls)) (fun _ _ h hb => HA.keep _ _ h hb) rfl rfl enter84 #[.agg (d6 rm pf nf cf dn lf pz nz cz o ls.length c)] (fun w' h' => rpk_any (hP.keep h'.old.old) (by omega) hlc (by omega)) ?_;refine wx_two 4 8 (by kernel_rfl) ?_ ?_
  ·refine ex_callx rfl h9 enter74 #[.agg (d5 rm pf nf cf dn lf pz nz cz), .string (pkB ls)] (fun w10 h11 => rlay_any (N := [] ++ N) (hR.mono (fun y hy => by simp [hy])) (Stand.app (A := []) (fun y hy => h11.blk y (mc (mc (hy)))) (hS.keep h11.old.old)) hb (by omega) (pkB ls) (by omega)) ?_;rintro w10 h11 _ w12 ⟨v4, N4, rfl, hR4, hN4, hb4⟩;have h13 : HA (bs w) ((q2, 32, (d6 0 none 0 0 false 0 none 0 0 none 0 0)) :: (q1, 32, (d6 rm pf nf cf dn lf pz nz cz o ls.length c)) :: ([] ++ N4)) w12 := HA.addL h11 hb4 hN4;replace hR4 := hR4.mono (sub3 N4 [] N);obtain ⟨pf4, nf4, cf4, dn4, lf4, pz4, nz4, cz4, rfl⟩ := RD.form hR4;refine ⟨_, rfl, _, .inr rfl, (HA.sub h13 (sc (sc (List.sublist_append_left _ _)))), ?_⟩;refine wx_pure (i := 5) (.tuple #[.agg (d5 rm pf4 nf4 cf4 dn4 lf4 pz4 nz4 cz4), i6 ((layD D (pkB ls)).2)]) rfl rfl ?_;refine wx_pure (i := 6) (.agg (d5 rm pf4 nf4 cf4 dn4 lf4 pz4 nz4 cz4)) rfl rfl ?_;refine wx_pure (i := 7) (i6 ((layD D (pkB ls)).2)) rfl rfl ?_;refine wx_one 8 ?_;refine ex_makeS (c := (d5 0 none 0 0 false 0 none 0 0)) rfl h13 29 ?_;intro q16 w14 h15;refine ⟨(HA.sub h15 (sk (sc (sc (List.sublist_append_left _ _))))), ?_⟩;refine wx_one 9 ?_;refine ex_skipT rfl h15 fun w17 h18 => ⟨_, run_store_blk (c' := (d5 rm pf4 nf4 cf4 dn4 lf4 pz4 nz4 cz4)) (h18.get 0 rfl) rfl, (HA.sub (h18.fill 0 rfl (c' := (d5 rm pf4 nf4 cf4 dn4 lf4 pz4 nz4 cz4)) rfl) (sk (sc (sc (List.sublist_append_left _ _))))), ?_⟩
   have h19 : HA (bs w) ((q16, 29, (d5 rm pf4 nf4 cf4 dn4 lf4 pz4 nz4 cz4)) :: (q2, 32, (d6 0 none 0 0 false 0 none 0 0 none 0 0)) :: (q1, 32, (d6 rm pf nf cf dn lf pz nz cz o ls.length c)) :: ([] ++ N4)) _ := (h18.fill 0 rfl (c' := (d5 rm pf4 nf4 cf4 dn4 lf4 pz4 nz4 cz4)) rfl);refine wx_pure (i := 10) (i6 ((layD D (pkB ls)).2)) rfl rfl ?_;refine wx_end fun w20 hbx _ => ?_
   have h21 := HA.keep _ _ h19 hbx;exact ⟨N4, pf4, nf4, cf4, dn4, lf4, pz4, nz4, cz4, q16, by kernel_rfl, hR4, h21⟩
  ·refine ex_makeS (c := (d5 0 none 0 0 false 0 none 0 0)) rfl h9 29 ?_;intro q24 w22 h23;refine ⟨(HA.sub h23 (sk (sc (sc (sr))))), ?_⟩;refine wx_one 4 ?_;refine ex_callx rfl h23 enter74 #[.agg (d5 rm pf nf cf dn lf pz nz cz), .string (pkB ls)] (fun w25 h26 => rlay_any (N := [] ++ N) (hR.mono (fun y hy => by simp [hy])) (Stand.app (A := []) (fun y hy => h26.blk y (mc (mc (mc (hy))))) (hS.keep h26.old.old)) hb (by omega) (pkB ls) (by omega)) ?_;rintro w25 h26 _ w27 ⟨v4, N4, rfl, hR4, hN4, hb4⟩;have h28 : HA (bs w) ((q24, 29, (d5 0 none 0 0 false 0 none 0 0)) :: (q2, 32, (d6 0 none 0 0 false 0 none 0 0 none 0 0)) :: (q1, 32, (d6 rm pf nf cf dn lf pz nz cz o ls.length c)) :: ([] ++ N4)) w27 := HA.addL h26 hb4 hN4;replace hR4 := hR4.mono (sub3 N4 [] N);obtain ⟨pf4, nf4, cf4, dn4, lf4, pz4, nz4, cz4, rfl⟩ := RD.form hR4;refine ⟨_, rfl, _, .inr rfl, (HA.sub h28 (sk (sc (sc (List.sublist_append_left _ _))))), ?_⟩;refine wx_pure (i := 5) (.tuple #[.agg (d5 rm pf4 nf4 cf4 dn4 lf4 pz4 nz4 cz4), i6 ((layD D (pkB ls)).2)]) rfl rfl ?_;refine wx_pure (i := 6) (.agg (d5 rm pf4 nf4 cf4 dn4 lf4 pz4 nz4 cz4)) rfl rfl ?_;refine wx_pure (i := 7) (i6 ((layD D (pkB ls)).2)) rfl rfl ?_;refine wx_one 9 ?_;refine ex_skipT rfl h28 fun w29 h30 => ⟨_, run_store_blk (c' := (d5 rm pf4 nf4 cf4 dn4 lf4 pz4 nz4 cz4)) (h30.get 0 rfl) rfl, (HA.sub (h30.fill 0 rfl (c' := (d5 rm pf4 nf4 cf4 dn4 lf4 pz4 nz4 cz4)) rfl) (sk (sc (sc (List.sublist_append_left _ _))))), ?_⟩
   have h31 : HA (bs w) ((q24, 29, (d5 rm pf4 nf4 cf4 dn4 lf4 pz4 nz4 cz4)) :: (q2, 32, (d6 0 none 0 0 false 0 none 0 0 none 0 0)) :: (q1, 32, (d6 rm pf nf cf dn lf pz nz cz o ls.length c)) :: ([] ++ N4)) _ := (h30.fill 0 rfl (c' := (d5 rm pf4 nf4 cf4 dn4 lf4 pz4 nz4 cz4)) rfl);refine wx_pure (i := 10) (i6 ((layD D (pkB ls)).2)) rfl rfl ?_;refine wx_end fun w32 hbx _ => ?_
   have h33 := HA.keep _ _ h31 hbx;exact ⟨N4, pf4, nf4, cf4, dn4, lf4, pz4, nz4, cz4, q24, by kernel_rfl, hR4, h33⟩
 ·rintro _ w34 ⟨N4, pf4, nf4, cf4, dn4, lf4, pz4, nz4, cz4, q16, rfl, hR4, h35⟩;have hb9 := lay_DB hb (pkB ls);refine zt (zsr ?_);refine zwu (v := .agg (d5 rm pf4 nf4 cf4 dn4 lf4 pz4 nz4 cz4)) (run_load_blk (h35.get 0 rfl) underlying29 rfl) ?_;refine zwv (pq q1) ?_;refine wl_fillp (o := 0) (c' := (d5 rm pf4 nf4 cf4 dn4 lf4 pz4 nz4 cz4)) h35 2 rfl (show (5 : Nat) ≤ 6 by decide) (fill56 (i6 rm) (.slice pf nf cf) (.bool dn) (i6 lf) (.slice pz nz cz) (.slice o ls.length c) (i6 rm) (.slice pf4 nf4 cf4) (.bool dn4) (i6 lf4) (.slice pz4 nz4 cz4)) ?_;intro w36 h37;refine znt (wp_seq (wp_seq ?_))
  by_cases h7 : (layD D (pkB ls)).2 = 7
  ·refine wl_region ?_;refine zwv (i6 ((layD D (pkB ls)).2)) ?_;refine zwu (run_eqi (k := .i64) (a := (layD D (pkB ls)).2) (b := 7) true (dt h7)) ?_;refine znt (zct (wl_region ?_));refine zwv (pq q1) ?_;refine zwu (v := .agg (d5 rm pf4 nf4 cf4 dn4 lf4 pz4 nz4 cz4)) (run_part (o := 0) (c' := (d5 rm pf4 nf4 cf4 dn4 lf4 pz4 nz4 cz4)) (h37.get 2 rfl) part56 underlying29 rfl) ?_;refine wl_callx enter88 #[.agg (d5 rm pf4 nf4 cf4 dn4 lf4 pz4 nz4 cz4), .string nN] (rRemove hR4 (Stand.app (A := ([] ++ N4)) (fun y hy => h37.blk y (mc (mc (mc (hy))))) (hS.keep h37.old.old)) hb9 (by omega) (by omega) nN) ?_;rintro _ w39 ⟨v38, N38, rfl, hR38, hN38, hb38⟩;refine ⟨_, rfl, ?_⟩;have h40 : HA (bs w) ((q16, 29, (d5 rm pf4 nf4 cf4 dn4 lf4 pz4 nz4 cz4)) :: (q2, 32, (d6 0 none 0 0 false 0 none 0 0 none 0 0)) :: (q1, 32, (d6 rm pf4 nf4 cf4 dn4 lf4 pz4 nz4 cz4 o ls.length c)) :: (([] ++ N4) ++ N38)) w39 := HA.addL h37 hb38 hN38;replace hR38 := hR38.mono (sub3 N38 ([] ++ N4) N);obtain ⟨pf38, nf38, cf38, dn38, lf38, pz38, nz38, cz38, rfl⟩ := RD.form hR38;have hdb38 := Remove_DB hb9 nN;refine zwv (.tuple #[.agg (d5 rm pf38 nf38 cf38 dn38 lf38 pz38 nz38 cz38), i6 ((RemoveD ((layD D (pkB ls)).1) nN).2)]) ?_;refine zwv (.agg (d5 rm pf38 nf38 cf38 dn38 lf38 pz38 nz38 cz38)) ?_;refine zwv (i6 ((RemoveD ((layD D (pkB ls)).1) nN).2)) ?_;refine zwv (pq q1) ?_;refine wl_fillp (o := 0) (c' := (d5 rm pf38 nf38 cf38 dn38 lf38 pz38 nz38 cz38)) h40 2 rfl (show (5 : Nat) ≤ 6 by decide) (fill56 (i6 rm) (.slice pf4 nf4 cf4) (.bool dn4) (i6 lf4) (.slice pz4 nz4 cz4) (.slice o ls.length c) (i6 rm) (.slice pf38 nf38 cf38) (.bool dn38) (i6 lf38) (.slice pz38 nz38 cz38)) ?_;intro w41 h42;refine znt (zsr ?_);refine zwu (v := .agg (d6 rm pf38 nf38 cf38 dn38 lf38 pz38 nz38 cz38 o ls.length c)) (run_load_blk (h42.get 2 rfl) underlying32 rfl) ?_;refine zwv (i6 ((layD D (pkB ls)).2)) ?_;refine wl_fill (c' := (d6 rm pf38 nf38 cf38 dn38 lf38 pz38 nz38 cz38 o ls.length c)) h42 1 rfl rfl ?_;intro w43 h44;refine zwv (i6 ((layD D (pkB ls)).2)) ?_;refine znt ?_;refine wp_ret ?_
   repeat first|refine zrt ?_|refine block_ret ?_
   have hO : pakO D ls = ((RemoveD (layD D (pkB ls)).1 nN).1, (layD D (pkB ls)).2) := by unfold pakO; rw [if_pos h7, h7]
   exact bodyPost_ret (v := .tuple #[.agg (d6 rm pf38 nf38 cf38 dn38 lf38 pz38 nz38 cz38 o ls.length c), i6 ((layD D (pkB ls)).2)]) (res_ct (p := 3) (q8 := 2) (by kernel_rfl) (by kernel_rfl) (by kernel_rfl) (h44.get 1 rfl) underlying32 rfl (by kernel_rfl)) rfl (by rw [hO]; exact ⟨pf38, nf38, cf38, dn38, lf38, pz38, nz38, cz38, (([] ++ N4) ++ N38), rfl, hR38, h44.newerS (sk (sk (sk (sr)))), h44.old.old⟩)
  ·refine wl_region ?_;refine zwv (i6 ((layD D (pkB ls)).2)) ?_;refine zwu (run_eqi (k := .i64) (a := (layD D (pkB ls)).2) (b := 7) false (df h7)) ?_;refine znt (zcf (wp_skip (zt (zsr ?_))));refine zwu (v := .agg (d6 rm pf4 nf4 cf4 dn4 lf4 pz4 nz4 cz4 o ls.length c)) (run_load_blk (h37.get 2 rfl) underlying32 rfl) ?_;refine zwv (i6 ((layD D (pkB ls)).2)) ?_;refine wl_fill (c' := (d6 rm pf4 nf4 cf4 dn4 lf4 pz4 nz4 cz4 o ls.length c)) h37 1 rfl rfl ?_;intro w45 h46;refine zwv (i6 ((layD D (pkB ls)).2)) ?_;refine znt ?_;refine wp_ret ?_
   repeat first|refine zrt ?_|refine block_ret ?_
   have hO : pakO D ls = layD D (pkB ls) := by unfold pakO; rw [if_neg h7]
   exact bodyPost_ret (v := .tuple #[.agg (d6 rm pf4 nf4 cf4 dn4 lf4 pz4 nz4 cz4 o ls.length c), i6 ((layD D (pkB ls)).2)]) (res_ct (p := 3) (q8 := 2) (by kernel_rfl) (by kernel_rfl) (by kernel_rfl) (h46.get 1 rfl) underlying32 rfl (by kernel_rfl)) rfl (by rw [hO]; exact ⟨pf4, nf4, cf4, dn4, lf4, pz4, nz4, cz4, ([] ++ N4), rfl, hR4, h46.newerS (sk (sk (sk (sr)))), h46.old.old⟩)
end Go.Proofs.YtckmlaempffpjaaGreat
