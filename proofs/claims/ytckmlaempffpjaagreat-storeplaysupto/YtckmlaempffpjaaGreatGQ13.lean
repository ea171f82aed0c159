/-
 The law's open.
-/
import Derived.Test.YtckmlaempffpjaaGreatGQ10
import Derived.Test.YtckmlaempffpjaaGreatGT19
import Derived.Test.YtckmlaempffpjaaGreatQ9
namespace Go.Proofs.YtckmlaempffpjaaGreat
set_option linter.unusedVariables false
set_option maxRecDepth 100000
set_option maxHeartbeats 4000000
open Go.RowKit Go.Proofs.Tryz
theorem wopen_any {w0 : World} {M : ML} {d : Dk} {D : DS} {w : World} {q rm nf cf lf nz cz er0 : Nat} {pf pz : Option Addr} {dn : Bool} {sp0 rv0 : Value} {N : BL} (hD : DH w0 M d D ((q, 35, #[pt d.q, sp0, i6 rm, .slice pf nf cf, .bool dn, i6 lf, .slice pz nz cz, rv0, i6 er0]) :: N) w) (hR : RD (.agg (d5 rm pf nf cf dn lf pz nz cz)) D rm N) {U n : Nat} (hb : DB D U n) (hn : n ≤ 900) (hlg : (lgD D).size ≤ 3000000) (hU : U + (lgD D).size ≤ 100000000) :
  Calls prog 9 #[pt q] w fun e w' => ∃ pf nf cf dn lf pz nz cz p c N', e = .returned (.bool true) ∧ RD (.agg (d5 rm pf nf cf dn lf pz nz cz)) (opnO D).1 rm (N' ++ N) ∧ (∃ Nr, Row 64 2 (.slice p (opnO D).2.1.length c) (opnO D).2.1.length (rcl (opnO D).2.1) Nr ∧ ∀ y ∈ Nr, y ∈ N' ++ N) ∧ (((opnS D).2 = 0 ∧ ∃ s : Sk, s.d = d ∧ SH w0 M s (opnS D).1 ((q, 35, (d9 (pt d.q) (pt s.q) rm pf nf cf dn lf pz nz cz p (opnO D).2.1.length c 0)) :: (N' ++ N)) w') ∨ ((opnS D).2 ≠ 0 ∧ DH w0 M d (opnS D).1.D ((q, 35, (d9 (pt d.q) (.pointer none) rm pf nf cf dn lf pz nz cz p (opnO D).2.1.length c (opnS D).2)) :: (N' ++ N)) w')) := by
 obtain ⟨z, X, hcl, _, H00⟩ := DH.front hD;have H0 : HA z ((q, 35, #[pt d.q, sp0, i6 rm, .slice pf nf cf, .bool dn, i6 lf, .slice pz nz cz, rv0, i6 er0]) :: (N ++ X)) w := H00
 go_enter Tryz.func9, Tryz.ntmps9
 refine zsr (zv (znt (wp_seq ?_)))
 by_cases hok : (opnS D).2 = 0
 ·refine wl_region (zv (zv (zv ?_)));refine zwu (v := pq d.q) (run_load1 isAgg23 (((H0.get 0 rfl).cell 0).trans rfl)) ?_;refine wl_callx enter13 #[pq d.q] (by have h9 := Open_B (hcl ((q, 35, #[pt d.q, sp0, i6 rm, .slice pf nf cf, .bool dn, i6 lf, .slice pz nz cz, rv0, i6 er0]) :: N) _ H0) hb (by omega) (by omega) (by omega); exact h9.mono fun e w1 hr => (hr.resolve_right (fun e => e.1 hok)).2) ?_;rintro _ w1 ⟨s, hsd, rfl, hSH⟩;refine ⟨_, rfl, ?_⟩;obtain ⟨z1, X1, hcl1, hf1⟩ := SH.front hSH;have h2 : HA z1 ((q, 35, #[pt d.q, sp0, i6 rm, .slice pf nf cf, .bool dn, i6 lf, .slice pz nz cz, rv0, i6 er0]) :: (N ++ X1)) w1 := hf1;refine zv (zv (zv (zv (zv (znt (zsr (zv (zv (zv (zv ?_))))))))));refine zwu (v := .agg (d5 rm pf nf cf dn lf pz nz cz)) (run_part (o := 2) (c' := (d5 rm pf nf cf dn lf pz nz cz)) (h2.get 0 rfl) part59 underlying29 rfl) ?_;refine wl_callx enter28 #[.agg (d5 rm pf nf cf dn lf pz nz cz)] (ropen_any hR (fun y hy => h2.blk y (mc (List.mem_append_left _ hy))) hb (by omega) (by omega) (by omega)) ?_;rintro _ w3 ⟨pf4, nf4, cf4, dn4, lf4, pz4, nz4, cz4, p4, c4, N4, rfl, hR4, hRw4, hN4, hb4⟩;refine ⟨_, rfl, ?_⟩;have h4 : HA z1 ((q, 35, #[pt d.q, sp0, i6 rm, .slice pf nf cf, .bool dn, i6 lf, .slice pz nz cz, rv0, i6 er0]) :: ((N4 ++ N) ++ X1)) w3 := (HA.addL h2 hb4 hN4).perm (perm_ref [(q, 35, #[pt d.q, sp0, i6 rm, .slice pf nf cf, .bool dn, i6 lf, .slice pz nz cz, rv0, i6 er0])] N X1 N4);refine zv (zv (zv ?_));refine wl_make (c := (d6 0 none 0 0 false 0 none 0 0 none 0 0)) h4 32 ?_;intro q5 w6 h7;refine wl_fill (c' := (d6 rm pf4 nf4 cf4 dn4 lf4 pz4 nz4 cz4 p4 (opnO D).2.1.length c4)) h7 0 rfl rfl ?_;intro w8 h9;refine zv (znt (zsr (zv (zv (zv (zv ?_))))));refine wl_putv (v := pq s.q) h9 1 rfl 1 (by show 1 < 9; decide) sizeOf25 ?_;intro w10 h11;refine znt (zsr (zv ?_));refine zwu (v := .agg (d6 rm pf4 nf4 cf4 dn4 lf4 pz4 nz4 cz4 p4 (opnO D).2.1.length c4)) (run_load_blk (h11.get 0 rfl) underlying32 rfl) ?_;refine zv (zv ?_);refine wl_fillp (o := 2) (c' := (d6 rm pf4 nf4 cf4 dn4 lf4 pz4 nz4 cz4 p4 (opnO D).2.1.length c4)) h11 1 rfl (show (8 : Nat) ≤ 9 by decide) (fill69 (pq d.q) (pq s.q) (i6 rm) (.slice pf nf cf) (.bool dn) (i6 lf) (.slice pz nz cz) rv0 (i6 er0) (i6 rm) (.slice pf4 nf4 cf4) (.bool dn4) (i6 lf4) (.slice pz4 nz4 cz4) (.slice p4 (opnO D).2.1.length c4)) ?_;intro w12 h13;refine znt (zsr (zv (zv (zv (zv ?_)))));refine wl_putv (v := i6 0) h13 1 rfl 8 (by show 8 < 9; decide) sizeOf33 ?_;intro w14 h15
  refine znt (wp_seq ?_);have hos := open_same D;refine wl_region (zv (zv ?_));refine zwu (v := .bool true) (run_eqi (k := .i64) (a := 0) (b := (opnO D).2.2) true (dt (by rw [← hos.2.1]; exact hok.symm))) ?_;refine zv (zv (zv (zv ?_)));refine zwu (run_nei (k := .i64) (a := 0) (b := 0) false (by decide)) ?_;refine zwu (run_eqlb (b := false) (by kernel_rfl) (by kernel_rfl)) ?_;refine zv (zv (znt ?_));refine wp_ret ?_
  repeat first|refine zrt ?_|refine block_ret ?_
  exact zb (v := .bool true) ⟨pf4, nf4, cf4, dn4, lf4, pz4, nz4, cz4, p4, c4, N4, rfl, hR4, hRw4, .inl ⟨hok, s, hsd, hcl1 _ _ (h15.sub (sk (sr)))⟩⟩
 ·refine wl_region (zv (zv (zv ?_)));refine zwu (v := pq d.q) (run_load1 isAgg23 (((H0.get 0 rfl).cell 0).trans rfl)) ?_;refine wl_callx enter13 #[pq d.q] (by have h9 := Open_B (hcl ((q, 35, #[pt d.q, sp0, i6 rm, .slice pf nf cf, .bool dn, i6 lf, .slice pz nz cz, rv0, i6 er0]) :: N) _ H0) hb (by omega) (by omega) (by omega); exact h9.mono fun e w1 hr => (hr.resolve_left (fun e => hok e.1)).2) ?_;rintro _ w16 ⟨rfl, hDD⟩;refine ⟨_, rfl, ?_⟩;obtain ⟨z1, X1, hcl1, _, hf1⟩ := DH.front hDD;have h17 : HA z1 ((q, 35, #[pt d.q, sp0, i6 rm, .slice pf nf cf, .bool dn, i6 lf, .slice pz nz cz, rv0, i6 er0]) :: (N ++ X1)) w16 := hf1;refine zv (zv (zv (zv (zv (znt (zsr (zv (zv (zv (zv ?_))))))))));refine zwu (v := .agg (d5 rm pf nf cf dn lf pz nz cz)) (run_part (o := 2) (c' := (d5 rm pf nf cf dn lf pz nz cz)) (h17.get 0 rfl) part59 underlying29 rfl) ?_;refine wl_callx enter28 #[.agg (d5 rm pf nf cf dn lf pz nz cz)] (ropen_any hR (fun y hy => h17.blk y (mc (List.mem_append_left _ hy))) hb (by omega) (by omega) (by omega)) ?_;rintro _ w18 ⟨pf4, nf4, cf4, dn4, lf4, pz4, nz4, cz4, p4, c4, N4, rfl, hR4, hRw4, hN4, hb4⟩;refine ⟨_, rfl, ?_⟩;have h19 : HA z1 ((q, 35, #[pt d.q, sp0, i6 rm, .slice pf nf cf, .bool dn, i6 lf, .slice pz nz cz, rv0, i6 er0]) :: ((N4 ++ N) ++ X1)) w18 := (HA.addL h17 hb4 hN4).perm (perm_ref [(q, 35, #[pt d.q, sp0, i6 rm, .slice pf nf cf, .bool dn, i6 lf, .slice pz nz cz, rv0, i6 er0])] N X1 N4);refine zv (zv (zv ?_));refine wl_make (c := (d6 0 none 0 0 false 0 none 0 0 none 0 0)) h19 32 ?_;intro q20 w21 h22;refine wl_fill (c' := (d6 rm pf4 nf4 cf4 dn4 lf4 pz4 nz4 cz4 p4 (opnO D).2.1.length c4)) h22 0 rfl rfl ?_;intro w23 h24;refine zv (znt (zsr (zv (zv (zv (zv ?_))))));refine wl_putv (v := .pointer none) h24 1 rfl 1 (by show 1 < 9; decide) sizeOf25 ?_;intro w25 h26;refine znt (zsr (zv ?_));refine zwu (v := .agg (d6 rm pf4 nf4 cf4 dn4 lf4 pz4 nz4 cz4 p4 (opnO D).2.1.length c4)) (run_load_blk (h26.get 0 rfl) underlying32 rfl) ?_;refine zv (zv ?_);refine wl_fillp (o := 2) (c' := (d6 rm pf4 nf4 cf4 dn4 lf4 pz4 nz4 cz4 p4 (opnO D).2.1.length c4)) h26 1 rfl (show (8 : Nat) ≤ 9 by decide) (fill69 (pq d.q) (.pointer none) (i6 rm) (.slice pf nf cf) (.bool dn) (i6 lf) (.slice pz nz cz) rv0 (i6 er0) (i6 rm) (.slice pf4 nf4 cf4) (.bool dn4) (i6 lf4) (.slice pz4 nz4 cz4) (.slice p4 (opnO D).2.1.length c4)) ?_;intro w27 h28;refine znt (zsr (zv (zv (zv (zv ?_)))));refine wl_putv (v := i6 ((opnS D).2)) h28 1 rfl 8 (by show 8 < 9; decide) sizeOf33 ?_;intro w29 h30;refine znt (wp_seq ?_)
  have hos := open_same D;refine wl_region (zv (zv ?_));refine zwu (run_eqi (k := .i64) (a := (opnS D).2) (b := (opnO D).2.2) true (dt (by rw [← hos.2.1]))) ?_;refine zv (zv (zv (zv ?_)));refine zwu (run_nei (k := .i64) (a := (opnS D).2) (b := 0) true (dt hok)) ?_;refine zwu (run_eqlb (b := true) (by kernel_rfl) (by kernel_rfl)) ?_;refine zv (zv (znt ?_));refine wp_ret ?_
  repeat first|refine zrt ?_|refine block_ret ?_
  exact zb (v := .bool true) ⟨pf4, nf4, cf4, dn4, lf4, pz4, nz4, cz4, p4, c4, N4, rfl, hR4, hRw4, .inr ⟨hok, hcl1 _ _ (h30.sub (sk (sr)))⟩⟩
end Go.Proofs.YtckmlaempffpjaaGreat
namespace Go.Proofs.YtckmlaempffpjaaGreat
open Go.RowKit Go.Proofs.Tryz
section
variable {ops : Array Oper} {Q : Exit → Act → World → Prop} {rest : List Oper} {a : Act} {w : World} {z : Base} {L : BL} {dst : Option Tmp} {t ty : TypeId} {pos : String} {aft : Array Edge} {gd : Option (Nat × Bool)} {x y : Operand}
theorem wl_append_at {e : TypeId} {sz m c : Nat} {news : List Value} {ad : Addr} (H : HA z L w) (he : e ≠ 5) (zv : Value) (bytes : Nat)
  (ht : prog.underlying t = some (.slice e)) (hi : (prog.info? e).map (fun i => (i.zero, i.size, i.bytes)) = some (some zv, sz, bytes)) (hzs : zv.cells.size = sz) (hsz : 0 < sz)
  (hw : Region.wanted ⟨dst, .call { callee := .builtin .append, args := #[x, y], argTypes := #[t, t] }, ty, pos, aft, gd⟩ (yielded ops a.tmps) = true)
  (hx : a.eval x = .slice none 0 0) (hy : a.eval y = .slice (some ad) m c) (hl : news.length = m * sz) (hnews : ∀ j u, news[j]? = some u → w.cell? (ad.add j) = some u) (h1 : ∀ u ∈ news, u.oneCell' = true) (h63 : m ≤ maxLen) (hbytes : m * bytes ≤ 140737488355328) (hm : 0 < m)
  (h : ∀ v' w' Lr', Row e sz v' m news Lr' → HA z (Lr' ++ L) w' → WL prog ops Q rest (a.put dst v') w') :
  WL prog ops Q (⟨dst, .call { callee := .builtin .append, args := #[x, y], argTypes := #[t, t] }, ty, pos, aft, gd⟩ :: rest) a w := by
 obtain ⟨i, hi, hh⟩ := Option.map_eq_some_iff.1 hi
 simp only [Prod.mk.injEq] at hh
 obtain ⟨v', w', Lr', hrun, hR', H'⟩ := (Row.nil e sz).append (L := L) H he t ty i zv bytes ht hi hh.1 hh.2.1 hh.2.2 hzs hsz ad m c news hl hnews h1 (by omega) (by rw [Nat.zero_add]; exact hbytes) hm;rw [Nat.zero_add, List.nil_append] at hR';refine wl_any hw ?_ (h v' w' Lr' hR' H')
 unfold execOp
 simp only [resolve, invoke, builtin, Sem.run_bind, Sem.run_pure, Result.andThen_ok, List.map_toArray, List.map_cons, List.map_nil, hx, hy, hrun]
theorem wl_append_no {e : TypeId} {i0 : Option Value × Nat × Nat} {c : Nat} {o : Option Addr}
  (ht : prog.underlying t = some (.slice e)) (hi : (prog.info? e).map (fun i => (i.zero, i.size, i.bytes)) = some i0)
  (hw : Region.wanted ⟨dst, .call { callee := .builtin .append, args := #[x, y], argTypes := #[t, t] }, ty, pos, aft, gd⟩ (yielded ops a.tmps) = true)
  (hx : a.eval x = .slice none 0 0) (hy : a.eval y = .slice o 0 c)
  (h : WL prog ops Q rest (a.put dst (.slice none 0 0)) w) :
  WL prog ops Q (⟨dst, .call { callee := .builtin .append, args := #[x, y], argTypes := #[t, t] }, ty, pos, aft, gd⟩ :: rest) a w := by
 obtain ⟨i, hi, hh⟩ := Option.map_eq_some_iff.1 hi;have hrun : (Builtin.append_ #[t, t] ty #[.slice none 0 0, .slice o 0 c]).run prog w = .ok (.slice none 0 0) w := by
  cases o <;> simp [Builtin.append_, run_underlying ht, sizeOf, typeInfo, hi, Builtin.lenOf, Builtin.firstCells, loadCells, loadCellsFrom]
 refine wl_any hw ?_ h
 unfold execOp
 simp only [resolve, invoke, builtin, Sem.run_bind, Sem.run_pure, Result.andThen_ok, List.map_toArray, List.map_cons, List.map_nil, hx, hy, hrun]
end
theorem op_fs (D D2 : DS) (put er : Nat) : (opD D D2 put er).1.fs = D.fs ∨ (opD D D2 put er).1.fs = D2.fs := by
 unfold opD
 split
 ·exact .inl rfl
 ·split
  ·exact .inr rfl
  ·exact .inr rfl
theorem Dv.append {D : DS} {B : Nat} (h : Dv D B) (s : ByteArray) : Dv (AppendD D nS s).1 (B + s.size) := by
 unfold AppendD
 rcases op_fs D (appD (spendD D) nS s).1 (appD (spendD D) nS s).2.1 (appD (spendD D) nS s).2.2 with e | e
 ·exact (h.fs e).mono (by omega)
 ·by_cases hf : (spendD D).free < s.size
  ·have e2 : (appD (spendD D) nS s).1.fs = D.fs := by unfold appD; rw [if_neg (by rw [isS]; decide), if_pos hf]; rfl
   exact (h.fs (e.trans e2)).mono (by omega)
  ·have e2 : (appD (spendD D) nS s).1.fs = updF (mkF D.fs nS) nS (fun x => { x with da := x.da ++ bl s }) := by unfold appD; rw [if_neg (by rw [isS]; decide), if_neg hf]; rfl
   obtain ⟨a, b, v, ha, hb⟩ := h;have v' := v.appS (e.trans e2);have hl : lenF (appF a (bl s)) = lenF a + s.size := by
    cases a with
    | none => show ([] ++ bl s).length = 0 + s.size; rw [List.nil_append, bl_len, Nat.zero_add]
    | some g => show (g.1 ++ bl s).length = g.1.length + s.size; rw [List.length_append, bl_len]
   exact ⟨_, b, v', by rw [hl]; omega, by omega⟩
theorem Dv.sync {D : DS} {B : Nat} (h : Dv D B) : Dv (SyncD D nS).1 B := by
 unfold SyncD OnD
 rcases op_fs D (onD (spendD D) (syncF (spendD D) nS) nS 0).1 (onD (spendD D) (syncF (spendD D) nS) nS 0).2.1 (onD (spendD D) (syncF (spendD D) nS) nS 0).2.2 with e | e
 ·exact h.fs e
 ·by_cases hf : ∃ x ∈ (spendD D).fs, x.nm = nS
  ·have e2 : (onD (spendD D) (syncF (spendD D) nS) nS 0).1.fs = updF D.fs nS (fun x => { x with sy := x.da.length }) := by unfold onD; rw [if_pos hf]; rfl
   obtain ⟨a, b, v, ha, hb⟩ := h;have v' := v.synS (e.trans e2);have hl : lenF (synF a) = lenF a := by cases a <;> rfl
   exact ⟨_, b, v', by rw [hl]; exact ha, hb⟩
  ·have e2 : (onD (spendD D) (syncF (spendD D) nS) nS 0).1.fs = D.fs := by unfold onD; rw [if_neg hf]; rfl
   exact h.fs (e.trans e2)
theorem Dv.arm {D : DS} {B : Nat} (h : Dv D B) (z : Int) : Dv (armD D z).1 B := by
 refine h.fs ?_
 unfold armD
 split
 ·rfl
 ·split
  ·rfl
  ·rfl
theorem Dv.wake {D : DS} {B : Nat} (h : Dv D B) (ks : List Int) : Dv (wakeD D ks) B := by
 obtain ⟨a, b, v, ha, hb⟩ := h;obtain ⟨k, j, _, v'⟩ := v.wake ks;exact ⟨_, _, v', cut_len a k B ha, cut_len b j B hb⟩
theorem Dv.new (R : Nat) : Dv ⟨[], R, 0, false, []⟩ 0 := ⟨none, none, V2.new, Nat.le_refl _, Nat.le_refl _⟩
def Hd (w0 : World) (M : ML) (d : Dk) (o : Option (Sk × SS)) (D : DS) (L : BL) (w : World) : Prop :=
 match o with
 | none => DH w0 M d D L w
 | some p => p.1.d = d ∧ p.2.D = D ∧ SH w0 M p.1 p.2 L w
section
variable {w0 : World} {M : ML} {d : Dk} {o : Option (Sk × SS)} {D : DS} {L : BL} {w : World}
theorem SH.frontB {s : Sk} {S : SS} (h : SH w0 M s S L w) : ∃ z X, (∀ L' w', HA z (L' ++ X) w' → SH w0 M s S L' w') ∧ (∀ L' w', HA z L' w' → Below w0.heap.size w0 w') ∧ HA z (L ++ X) w := by
 obtain ⟨rs, nx, h1, h2, hD⟩ := h;obtain ⟨m, X, hc, H⟩ := DH.open2 hD;refine ⟨⟨w0, m :: (s.r, .mp (eR rs) nx) :: M⟩, (s.q, 73, scell s.d.q s.r (laidR S.rows) S.size) :: X, fun L' w' H' => ⟨rs, nx, h1, h2, hc _ _ _ (H'.perm List.perm_middle)⟩, fun L' w' H' => H'.old.old, ?_⟩;exact HA.perm H List.perm_middle.symm
theorem Hd.front (h : Hd w0 M d o D L w) : ∃ z X, (∀ L' w', HA z (L' ++ X) w' → Hd w0 M d o D L' w') ∧ (∀ L' w', HA z L' w' → Below w0.heap.size w0 w') ∧ HA z (L ++ X) w := by
 cases o with
 | none => exact DH.front h
 | some p =>
  obtain ⟨h1, h2, h3⟩ := h;obtain ⟨z, X, hc, hb, H⟩ := SH.frontB h3;exact ⟨z, X, fun L' w' H' => ⟨h1, h2, hc L' w' H'⟩, hb, H⟩
theorem Hd.disk (h : Hd w0 M d o D L w) : DH w0 M d D L w := by
 cases o with
 | none => exact h
 | some p =>
  obtain ⟨rfl, rfl, h3⟩ := h;exact SH.disk h3
theorem Hd.store {s : Sk} {S : SS} (h : Hd w0 M d (some (s, S)) D L w) : SH w0 M s S L w := h.2.2
def armO (o : Option (Sk × SS)) (z : Int) : Option (Sk × SS) := o.map fun p => (p.1, ⟨(armD p.2.D z).1, p.2.rows, p.2.size⟩)
theorem Hd.arm (h : Hd w0 M d o D L w) (z : Int) : Calls prog 14 #[pt d.q, .int .i64 z] w fun e w' => e = .returned (i6 (armD D z).2) ∧ Hd w0 M d (armO o z) (armD D z).1 L w' := by
 cases o with
 | none => exact Arm_any h z
 | some p =>
  obtain ⟨rfl, rfl, rs, nx, h1, h2, hD⟩ := h;exact (Arm_any hD z).mono fun e w' hr => ⟨hr.1, rfl, rfl, rs, nx, h1, h2, hr.2⟩
end
theorem arm_fs (D : DS) (z : Int) : (armD D z).1.fs = D.fs ∧ (armD D z).1.down = D.down := by
 unfold armD
 split
 ·exact ⟨rfl, rfl⟩
 ·split <;> exact ⟨rfl, rfl⟩
theorem lg_arm (D : DS) (z : Int) : lgD (armD D z).1 = lgD D := by
 unfold lgD readD
 rw [(arm_fs D z).1, (arm_fs D z).2]
theorem Iv.arm {S : SS} {B : Nat} (h : Iv S B) (z : Int) : Iv ⟨(armD S.D z).1, S.rows, S.size⟩ B :=
 ⟨(arm_fs S.D z).2.trans h.up, h.v.arm z, by show S.size = (lgD (armD S.D z).1).size; rw [lg_arm]; exact h.sz, h.ro, h.po⟩
structure Op (o : Option (Sk × SS)) (D : DS) (sp : Value) (ls : List Rw) (B : Nat) (s : Sk) (S : SS) : Prop where
 o : o = some (s, S)
 sp : sp = pt s.q
 sr : Sr S.rows ls
 rl : RL S.rows
 iv : D.down = false → Iv S B
theorem Op.arm {o : Option (Sk × SS)} {D : DS} {sp : Value} {ls : List Rw} {B : Nat} {s : Sk} {S : SS} (h : Op o D sp ls B s S) (z : Int) : Op (armO o z) (armD D z).1 sp ls B s ⟨(armD S.D z).1, S.rows, S.size⟩ :=
 ⟨by rw [h.o]; rfl, h.sp, h.sr, h.rl, fun hd => (h.iv ((arm_fs D z).2.symm.trans hd)).arm z⟩
structure LT (w0 : World) (M : ML) (d : Dk) (q rm B n : Nat) (o : Option (Sk × SS)) (D : DS) (sp : Value) (pf : Option Addr) (nf cf : Nat) (dn : Bool) (lf : Nat) (pz : Option Addr) (nz cz : Nat) (p : Option Addr) (c er : Nat) (ls : List Rw) (N : BL) (w : World) : Prop where
 hd : Hd w0 M d o D ((q, 35, (d9 (pt d.q) sp rm pf nf cf dn lf pz nz cz p ls.length c er)) :: N) w
 rd : RD (.agg (d5 rm pf nf cf dn lf pz nz cz)) D rm N
 rw : ∃ Nr, Row 64 2 (.slice p ls.length c) ls.length (rcl ls) Nr ∧ ∀ y ∈ Nr, y ∈ N
 db : DB D (2 * B) n
 dv : Dv D B
 op : er = 0 → ∃ s S, Op o D sp ls B s S
def LS (w0 : World) (M : ML) (d : Dk) (q rm B n : Nat) (w : World) : Prop :=
 ∃ o D sp pf nf cf dn lf pz nz cz p c er ls N, LT w0 M d q rm B n o D sp pf nf cf dn lf pz nz cz p c er ls N w
theorem opn_DB {D : DS} {U n : Nat} (h : DB D U n) : DB (opnS D).1.D (U + (lgD D).size) (n + 4) := by
 unfold opnS
 split
 ·exact h.mono (by omega) (by omega)
 ·split
  ·exact h.mono (by omega) (by omega)
  ·split
   ·refine (lay_DB h _).mono (Nat.add_le_add_left ?_ _) (Nat.le_refl _);rw [ByteArray.size_extract]
    omega
   ·exact h.mono (by omega) (by omega)
theorem LS.opened {w0 : World} {M : ML} {d : Dk} {q rm B n : Nat} {D : DS} {w' : World} {N : BL} (hv : Dv D B) (hb : DB D (2 * B) n) (hB : B ≤ 3000000)
  (h : ∃ pf nf cf dn lf pz nz cz p c N', RD (.agg (d5 rm pf nf cf dn lf pz nz cz)) (opnO D).1 rm (N' ++ N) ∧ (∃ Nr, Row 64 2 (.slice p (opnO D).2.1.length c) (opnO D).2.1.length (rcl (opnO D).2.1) Nr ∧ ∀ y ∈ Nr, y ∈ N' ++ N) ∧ (((opnS D).2 = 0 ∧ ∃ s : Sk, s.d = d ∧ SH w0 M s (opnS D).1 ((q, 35, (d9 (pt d.q) (pt s.q) rm pf nf cf dn lf pz nz cz p (opnO D).2.1.length c 0)) :: (N' ++ N)) w') ∨ ((opnS D).2 ≠ 0 ∧ DH w0 M d (opnS D).1.D ((q, 35, (d9 (pt d.q) (.pointer none) rm pf nf cf dn lf pz nz cz p (opnO D).2.1.length c (opnS D).2)) :: (N' ++ N)) w'))) :
  LS w0 M d q rm B (n + 4) w' := by
 obtain ⟨pf, nf, cf, dn, lf, pz, nz, cz, p, c, N', hR, hRw, hO⟩ := h;have hs := open_same D;have hI := open_I hv hb;have hdb : DB (opnS D).1.D (2 * B) (n + 4) := hI.1.tight (opn_DB hb)
 rcases hO with ⟨h0, s, hsd, hS⟩ | ⟨h0, hD⟩
 ·refine ⟨some (s, (opnS D).1), (opnS D).1.D, pt s.q, pf, nf, cf, dn, lf, pz, nz, cz, p, c, 0, (opnO D).2.1, N' ++ N, ⟨hsd, rfl, hS⟩, by rw [hs.1]; exact hR, hRw, hdb, hI.1, fun _ => ⟨s, (opnS D).1, rfl, rfl, hs.2.2 h0, (hI.2 h0).2.rl hB, fun _ => (hI.2 h0).2⟩⟩
 ·exact ⟨none, (opnS D).1.D, .pointer none, pf, nf, cf, dn, lf, pz, nz, cz, p, c, (opnS D).2, (opnO D).2.1, N' ++ N, hD, by rw [hs.1]; exact hR, hRw, hdb, hI.1, fun e => absurd e h0⟩
theorem DoS_rows (S : SS) (ps : List Rw) (ds : List ByteArray) : (DoS S ps ds).1.rows = S.rows ∨ (refR ps ds = 0 ∧ (DoS S ps ds).1.rows = applyR S.rows ps ds) := by
 have hpre : (preS S).1.rows = S.rows := by unfold preS; split; exact Pack_rows S; rfl
 unfold DoS
 split
 ·exact .inl rfl
 ·split
  ·exact .inl hpre
  ·rename_i h1 _
   unfold chgS
   split
   ·left
    unfold writeS
    split
    ·exact (wrB_rows _ _).trans hpre
    ·exact (wrB_rows _ _).trans hpre
   ·right
    refine ⟨Classical.not_not.1 fun h => h1 (.inl h), ?_⟩;have hw : (writeS (preS S).1 (frmB ps ds)).1.rows = S.rows := by
     unfold writeS
     split
     ·exact (wrB_rows _ _).trans hpre
     ·exact (wrB_rows _ _).trans hpre
    show applyR (writeS (preS S).1 (frmB ps ds)).1.rows ps ds = _
    rw [hw]
theorem wr_DB {S : SS} {U n m : Nat} (h : DB S.D U n) (hnd : (packB S.rows).size ≤ m) (fr : ByteArray) : DB (writeS S fr).1.D (U + m + 2 * fr.size) (n + 8) := by
 have hA : ∀ {S : SS} {U n : Nat}, DB S.D U n → DB (wrA S fr).1.D (U + fr.size) (n + 1) := fun h => Append_DB h nS fr
 have hP : ∀ {S' : SS} {U n : Nat}, S'.rows = S.rows → DB S'.D U n → DB (PackS S').1.D (U + m) (n + 5) := fun e h => (pack_DBS e h).mono (by omega) (Nat.le_refl _)
 have hB : DB (wrB S fr).1.D (U + m + 2 * fr.size) (n + 7) := by
  unfold wrB
  split
  ·split
   ·exact (hA (hP (S' := (wrA S fr).1) rfl (hA h))).mono (by omega) (by omega)
   ·exact (hP (S' := (wrA S fr).1) rfl (hA h)).mono (by omega) (by omega)
  ·exact (hA h).mono (by omega) (by omega)
 unfold writeS
 split
 ·exact hB.mono (Nat.le_refl _) (by omega)
 ·exact Sync_DB hB nS
theorem do_DB {S : SS} {U n m : Nat} (h : DB S.D U n) (hm : (packB S.rows).size ≤ m) (ps : List Rw) (ds : List ByteArray) : DB (DoS S ps ds).1.D (U + 2 * m + 2 * (frmB ps ds).size) (n + 13) := by
 have hpre : (preS S).1.rows = S.rows := by unfold preS; split; exact Pack_rows S; rfl
 have hP : DB (preS S).1.D (U + m) (n + 5) := by
  unfold preS
  split
  ·exact (pack_DBS rfl h).mono (by omega) (Nat.le_refl _)
  ·exact h.mono (by omega) (by omega)
 unfold DoS
 split
 ·exact h.mono (by omega) (by omega)
 ·split
  ·exact hP.mono (by omega) (by omega)
  ·have hW := wr_DB hP (by rw [hpre]; exact hm) (frmB ps ds)
   unfold chgS
   split
   ·exact hW.mono (by omega) (by omega)
   ·exact hW.mono (by omega) (by omega)
section
variable {ρ : Operand → Value} {x y : Operand} {w : World} {dst : Option Tmp} {ty : TypeId} {pos : String} {aft : Array Edge} {gd : Option (Nat × Bool)}
theorem run_slA {a : Option Addr} {n cap m : Nat}   (hm : m ≤ cap) (hx : ρ x = .slice a n cap := by kernel_rfl) (hy : ρ y = i6 m := by kernel_rfl) : (execOp ρ ⟨dst, .slice 30 x none (some y) none, ty, pos, aft, gd⟩).run prog w = .ok (.value (.slice a m cap)) w := by
 have ha : a.map (·.add 0) = a := by
  cases a with
  | none => rfl
  | some b => cases b; simp [Addr.add]
 simp only [execOp, hx, iN] at hy ⊢
 simp [Instr.sliceAt, Instr.slice, Instr.sliceBounds, Instr.sliceBound, run_underlying underlying30, sizeOf64, hy, asIntOf, hm, ha]
theorem run_slB {a : Option Addr} {n cap m : Nat}   (hm : m ≤ cap) (hx : ρ x = .slice a n cap := by kernel_rfl) (hy : ρ y = i6 m := by kernel_rfl) : (execOp ρ ⟨dst, .slice 39 x none (some y) none, ty, pos, aft, gd⟩).run prog w = .ok (.value (.slice a m cap)) w := by
 have ha : a.map (·.add 0) = a := by
  cases a with
  | none => rfl
  | some b => cases b; simp [Addr.add]
 simp only [execOp, hx, iN] at hy ⊢
 simp [Instr.sliceAt, Instr.slice, Instr.sliceBounds, Instr.sliceBound, run_underlying underlying39, sizeOf9, hy, asIntOf, hm, ha]
end
section
variable {ops : Array Oper} {Q : Exit → Act → World → Prop} {rest : List Oper} {a : Act} {w : World} {z : Base} {L : BL} {dst : Option Tmp} {t ty : TypeId} {pos : String} {aft : Array Edge} {gd : Option (Nat × Bool)} {x y : Operand}
theorem wl_append_old {e : TypeId} {sz m c : Nat} {news : List Value} {o : Option Addr} (H : HA z L w)  (zv : Value) (bytes : Nat)
  (ht : prog.underlying t = some (.slice e)) (hi : (prog.info? e).map (fun i => (i.zero, i.size, i.bytes)) = some (some zv, sz, bytes)) (hzs : zv.cells.size = sz) 
  
   (hl : news.length = m * sz) (hnews : ∀ j u, news[j]? = some u → ∃ ad, o = some ad ∧ w.cell? (ad.add j) = some u) (h1 : ∀ u ∈ news, u.oneCell' = true) (h63 : m ≤ maxLen) (hbytes : m * bytes ≤ 140737488355328)
  (h : ∀ p' c' w' Lr', Row e sz (.slice p' m c') m news Lr' → HA z (Lr' ++ L) w' → WL prog ops Q rest (a.put dst (.slice p' m c')) w') (he : e ≠ 5 := by decide) (hsz : 0 < sz := by decide) (hw : Region.wanted ⟨dst, .call { callee := .builtin .append, args := #[x, y], argTypes := #[t, t] }, ty, pos, aft, gd⟩ (yielded ops a.tmps) = true := by kernel_rfl) (hx : a.eval x = .slice none 0 0 := by kernel_rfl) (hy : a.eval y = .slice o m c := by kernel_rfl) :
  WL prog ops Q (⟨dst, .call { callee := .builtin .append, args := #[x, y], argTypes := #[t, t] }, ty, pos, aft, gd⟩ :: rest) a w := by
 rcases Nat.eq_zero_or_pos m with h0 | hm
 ·subst h0;have hn : news = [] := List.eq_nil_of_length_eq_zero (by rw [hl, Nat.zero_mul]);subst hn;exact wl_append_no ht hi hw hx hy (h none 0 w [] (Row.nil e sz) H)
 ·obtain ⟨u0, hu0⟩ : ∃ u, news[0]? = some u := ⟨_, List.getElem?_eq_getElem (by rw [hl]; exact Nat.mul_pos hm hsz)⟩;obtain ⟨ad, rfl, _⟩ := hnews 0 u0 hu0;refine wl_append_at H he zv bytes ht hi hzs hsz hw hx hy hl (fun j u hj => ?_) h1 h63 hbytes hm (fun v' w' Lr' hR hH => ?_)
  ·obtain ⟨ad', e', hc⟩ := hnews j u hj
   cases e'
   exact hc
  ·obtain ⟨p', c', rfl⟩ := hR.form;exact h p' c' w' Lr' hR hH
end
theorem rcl_lenT (l : List Rw) : (rcl l).length = l.length * 2 := by
 induction l with
 | nil => rfl
 | cons x l ih => simp only [rcl, List.flatMap_cons, List.length_append, List.length_cons, List.length_nil] at ih ⊢; omega
theorem rows_news {w : World} {o : Option Addr} {ps : List Rw} (h : RowsAt w o ps) (j : Nat) (u : Value) (hj : (rcl ps)[j]? = some u) : ∃ ad, o = some ad ∧ w.cell? (ad.add j) = some u := by
 have hl : j < (rcl ps).length := (List.getElem?_eq_some_iff.1 hj).1;rw [rcl_lenT] at hl;have hi : j / 2 < ps.length := by omega
 obtain ⟨x, hx⟩ : ∃ x, ps[j / 2]? = some x := ⟨_, List.getElem?_eq_getElem hi⟩;obtain ⟨a, h1, h2, h3⟩ := h _ x hx;obtain ⟨g1, g2⟩ := rcl_get ps _ x hx;refine ⟨a, h1, ?_⟩
 rcases Nat.mod_two_eq_zero_or_one j with e | e
 ·have ej : j / 2 * 2 = j := by omega
  rw [ej] at g1 h2;rw [g1] at hj
  cases hj
  exact h2
 ·have ej : j / 2 * 2 + 1 = j := by omega
  rw [ej] at g2 h3;rw [g2] at hj
  cases hj
  exact h3
theorem keys_news {w : World} {o : Option Addr} {ds : List ByteArray} (h : KeysAt w o ds) (j : Nat) (u : Value) (hj : (scl ds)[j]? = some u) : ∃ ad, o = some ad ∧ w.cell? (ad.add j) = some u := by
 rw [scl, List.getElem?_map] at hj;obtain ⟨x, hx, rfl⟩ := Option.map_eq_some_iff.1 hj;exact h j x hx
theorem rcl_one {ps : List Rw} : ∀ u ∈ rcl ps, u.oneCell' = true := fun u hu => by
 obtain ⟨x, _, hx⟩ := List.mem_flatMap.1 hu
 rcases List.mem_cons.1 hx with rfl | hx
 ·rfl
 ·rcases List.mem_singleton.1 hx with rfl
  rfl
theorem scl_one {ds : List ByteArray} : ∀ u ∈ scl ds, u.oneCell' = true := fun u hu => by
 obtain ⟨x, _, rfl⟩ := List.mem_map.1 hu
 rfl
theorem RowsAt.take {w : World} {o : Option Addr} {ps : List Rw} (h : RowsAt w o ps) (k : Nat) : RowsAt w o (ps.take k) := fun i x hi => h i x (by
 rw [List.getElem?_take] at hi
 split at hi
 ·exact hi
 ·cases hi)
theorem KeysAt.take {w : World} {o : Option Addr} {ds : List ByteArray} (h : KeysAt w o ds) (k : Nat) : KeysAt w o (ds.take k) := fun i x hi => h i x (by
 rw [List.getElem?_take] at hi
 split at hi
 ·exact hi
 ·cases hi)
def Sp (e sz n : Nat) (o : Option Addr) (Lr : BL) : Prop := (n = 0 ∧ Lr = []) ∨ ∃ g cur, o = some ⟨g, 0, none⟩ ∧ Lr = [(g, e, cur)] ∧ n * sz ≤ cur.size
theorem Row.sp {e sz n c : Nat} {o : Option Addr} {xs : List Value} {Lr : BL} (h : Row e sz (.slice o n c) n xs Lr) : Sp e sz n o Lr := by
 rcases h.2 with ⟨_, h0, h1⟩ | ⟨g, cap, cur, h1, h2, h3, _, h5, _⟩
 ·exact .inl ⟨h0, h1⟩
 ·cases h1
  exact .inr ⟨g, cur, rfl, h2, by rw [h5]; exact Nat.mul_le_mul_right _ h3⟩
theorem part_size {c c' : Array Value} {o : Nat} (h : o + c'.size ≤ c.size) : ((c.toList.take o ++ c'.toList ++ c.toList.drop (o + c'.size)).toArray).size = c.size := by
 simp only [List.size_toArray, List.length_append, List.length_take, List.length_drop, Array.length_toList]
 omega
structure DoIn (w0 : World) (po : Option Addr) (pc : Nat) (ps : List Rw) (do_ : Option Addr) (dc : Nat) (ds : List ByteArray) (af : Int) (ko : Option Addr) (ks : List Int) (C : Nat) : Prop where
 p : RowsAt w0 po ps
 d : KeysAt w0 do_ ds
 k : ∀ j, j < ks.length → ∃ a, ko = some a ∧ w0.cell? (a.add j) = some (.int .i64 (ks.getD j 0))
 pl : ps.length ≤ pc
 dl : ds.length ≤ dc
 km : ks.length ≤ 1000000000
 af1 : af ≤ 9223372036854775807
 fr : (frmB (ps.take 70) (ds.take 70)).size ≤ C
 bo : (bodyB (ps.take 70) (ds.take 70)).length ≤ 1000000000
 fk : (fstK ps ds).size ≤ C
theorem Op.mono {o : Option (Sk × SS)} {D : DS} {sp : Value} {ls : List Rw} {B B' : Nat} {s : Sk} {S : SS} (h : Op o D sp ls B s S) (hB : B ≤ B') : Op o D sp ls B' s S := ⟨h.o, h.sp, h.sr, h.rl, fun hd => (h.iv hd).mono hB⟩
theorem LS.mono {w0 : World} {M : ML} {d : Dk} {q rm B n B' n' : Nat} {w : World} (h : LS w0 M d q rm B n w) (hB : B ≤ B') (hn : n ≤ n') : LS w0 M d q rm B' n' w := by
 obtain ⟨o, D, sp, pf, nf, cf, dn, lf, pz, nz, cz, p, c, er, ls, N, h⟩ := h;exact ⟨o, D, sp, pf, nf, cf, dn, lf, pz, nz, cz, p, c, er, ls, N, h.hd, h.rd, h.rw, h.db.mono (by omega) hn, h.dv.mono hB, fun e => by
  obtain ⟨s, S, ho⟩ := h.op e;exact ⟨s, S, ho.mono hB⟩⟩
theorem fill59 (a b c d e f g h i c' d' e' f' g' : Value) : ((#[a, b, c, d, e, f, g, h, i] : Array Value).toList.take 2 ++ (#[c', d', e', f', g'] : Array Value).toList ++ (#[a, b, c, d, e, f, g, h, i] : Array Value).toList.drop (2 + (#[c', d', e', f', g'] : Array Value).size)).toArray = #[a, b, c', d', e', f', g', h, i] := rfl
theorem do_rl {S : SS} {B : Nat} (h : Iv S B) (ps : List Rw) (ds : List ByteArray) (hB : B + (frmB ps ds).size ≤ 3000000) : RL (DoS S ps ds).1.rows := by
 rcases DoS_rows S ps ds with e | ⟨h0, e⟩
 ·rw [e];exact h.rl (by omega)
 ·rw [e];have hk := ref_ok h0;have hro := h.ro.apply (ds := ds) hk.1;have hpo := h.po.apply (ds := ds) (ps := ps) (C := B + (frmB ps ds).size) (by have := hk.2.1; omega) (by have := frm_ge ps ds; omega);exact ⟨fun x hx => (hro x hx).1, fun x hx => (hro x hx).2, Nat.le_trans hpo.laid hB⟩
theorem KV.in {W : World} {L : BL} {o : Option Addr} {ks : List Int} (h : ∀ j, j < ks.length → ∃ a, o = some a ∧ W.cell? (a.add j) = some (.int .i64 (ks.getD j 0))) : KV W L o ks := KV.arg h
theorem ks_src {W w : World} {o : Option Addr} {ks : List Int} (h : ∀ j, j < ks.length → ∃ a, o = some a ∧ W.cell? (a.add j) = some (.int .i64 (ks.getD j 0))) (hb : Below W.heap.size W w) : ks = [] ∨ ∃ b, o = some b ∧ ∀ j, j < ks.length → w.cell? (b.add j) = some (.int .i64 (ks.getD j 0)) := by
 cases ks with
 | nil => exact .inl rfl
 | cons x l =>
  obtain ⟨a, rfl, _⟩ := h 0 (by simp);refine .inr ⟨a, rfl, fun j hj => ?_⟩;obtain ⟨a', e, hc⟩ := h j hj
  cases e
  exact cell_old hb hc
theorem DH.synT {w0 : World} {M : ML} {d : Dk} {D : DS} {L : BL} {w : World} (h : DH w0 M d D L w) : ∀ x ∈ D.fs, x.sy ≤ x.da.length := fun x hx => by
 obtain ⟨fl, nx, v, Lr, h1, h2, _⟩ := h;rw [← h1] at hx;obtain ⟨f, hf, rfl⟩ := List.mem_map.1 hx;exact h2.syn f hf
section
variable {ops : Array Oper} {Q : Exit → Act → World → Prop} {rest : List Oper} {a : Act} {w : World} {w0 : Base} {L : BL} {dst : Option Tmp} {T ty : TypeId} {pos : String} {aft : Array Edge} {gd : Option (Nat × Bool)} {x y : Operand} {q o : Nat} {t : TypeId} {c c' : Array Value}
theorem wl_spoil (H : HA w0 L w) (i : Nat) (hi : L[i]? = some (q, t, c)) (hw : Region.wanted ⟨dst, .store T x y, ty, pos, aft, gd⟩ (yielded ops a.tmps) = true)
  (hx : a.eval x = .pointer (some ⟨q, o, none⟩)) (hy : a.eval y = .agg c') (ho : o + c'.size ≤ c.size) (hz : (prog.info? T).map (·.size) = some c'.size) (h1 : c'.all (·.oneCell') = true)
  (h : ∀ w' c2, c2.size = c.size → HA w0 (L.set i (q, t, c2)) w' → WL prog ops Q rest (a.put dst undef) w') : WL prog ops Q (⟨dst, .store T x y, ty, pos, aft, gd⟩ :: rest) a w :=
 wl_fillp H i hi (hw := hw) (hx := hx) (hy := hy) ho (hz := hz) (h1 := h1) rfl fun w' h' => h w' _ (part_size ho) h'
theorem wl_spoil1 {v : Value} (H : HA w0 L w) (i : Nat) (hi : L[i]? = some (q, t, c)) (hw : Region.wanted ⟨dst, .store T x y, ty, pos, aft, gd⟩ (yielded ops a.tmps) = true) (hs : ∀ w, (sizeOf T).run prog w = .ok 1 w)
  (hx : a.eval x = .pointer (some ⟨q, o, none⟩)) (hy : a.eval y = v) (ho : o < c.size) (h1 : cellV v = true)
  (h : ∀ w' c2, c2.size = c.size → HA w0 (L.set i (q, t, c2)) w' → WL prog ops Q rest (a.put dst undef) w') : WL prog ops Q (⟨dst, .store T x y, ty, pos, aft, gd⟩ :: rest) a w :=
 wl_putv H i hi o ho (hw := hw) hs (hx := hx) (hy := hy) (h1 := h1) fun w' h' => h w' _ Array.size_setIfInBounds h'
end
theorem perm_mv2 {α : Type} (D B P R : List α) : (D ++ (B ++ (P ++ R))).Perm (B ++ (P ++ (D ++ R))) := by
 have h := List.perm_append_comm_assoc D (B ++ P) R
 simpa [List.append_assoc] using h
theorem perm_ref2 {α : Type} (B A C old X N1 : List α) : ((B ++ (A ++ (C ++ (old ++ X)))) ++ N1).Perm (B ++ (A ++ (C ++ ((N1 ++ old) ++ X)))) := by
 have h := perm_ref (B ++ (A ++ C)) old X N1
 simpa [List.append_assoc] using h
theorem cast2 {z : Base} {x y : Nat × TypeId × Array Value} {A C N X : BL} {w : World} (h : HA z (x :: y :: (A ++ (C ++ (N ++ X)))) w) : HA z ((x :: y :: (A ++ (C ++ N))) ++ X) w := by
 simpa [List.append_assoc] using h
theorem uncast2 {z : Base} {x y : Nat × TypeId × Array Value} {A C N X : BL} {w : World} (h : HA z ((x :: y :: (A ++ (C ++ N))) ++ X) w) : HA z (x :: y :: (A ++ (C ++ (N ++ X)))) w := by
 simpa [List.append_assoc] using h
end Go.Proofs.YtckmlaempffpjaaGreat
