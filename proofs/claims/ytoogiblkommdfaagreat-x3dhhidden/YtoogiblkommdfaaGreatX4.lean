/-
  Begin, Accept.
-/
import Derived.Test.YtoogiblkommdfaaGreatX3
set_option linter.unusedVariables false
namespace Go.Proofs.YtoogiblkommdfaaGreat
open Go.RowKit

theorem txL (k : Nat) : (txt k).size ≤ 65536 := by rw [txt_size]; decide
theorem take_get {cur : Array Value} {m : Nat} {l : List Value} (h : cur.toList.take m = l) {j : Nat} (hj : j < m) : cur[j]? = l[j]? := by
  rw [← h, List.getElem?_take, if_pos hj]
  simp
theorem Row.pairs {v : Value} {N : Nat} {l : List Value} {Lr : BL} (h : Row 126 2 v N l Lr) (hp : 0 < N) : ∃ g c cur, v = .slice (some ⟨g, 0, none⟩) N c ∧ Lr = [(g, 126, cur)] ∧ ∀ j, j < N * 2 → cur[j]? = l[j]? := by
  rcases h.2 with ⟨h1, h2, h3⟩ | ⟨g, cap, cur, h1, h2, h3, h4, h5, h6⟩
  · omega
  · exact ⟨g, cap, cur, h1, h2, fun j hj => take_get h6 hj⟩
theorem info126 : (Tryz.prog.info? 126).map (fun i => (i.zero, i.size, i.bytes)) = some (some (.agg #[.string ByteArray.empty, .string ByteArray.empty]), 2, 32) := by kernel_rfl
theorem ss3' {a b c : ByteArray} {m : Nat} (h : a.size ≤ m) (h2 : b.size ≤ m) (h3 : c.size ≤ m) : ∀ i, ([a, b, c].getD i ByteArray.empty).size ≤ m := strs_le (by simpa using ⟨h, h2, h3⟩)
theorem lay3_le {a b c : ByteArray} {m : Nat} (h : a.size ≤ m) (h2 : b.size ≤ m) (h3 : c.size ≤ m) : (layT [a, b, c] 3).size ≤ 3 * (m + 4) := layT_size (ss := [a, b, c]) (m := m) (ss3' h h2 h3) 3
set_option maxRecDepth 100000 in
set_option maxHeartbeats 2000000 in
theorem beg_3 {w0 w : World} {M : ML} {p : Pr} {A : List Ent} {n : Nat} {L : BL} (H : PH w0 M p A n L w) (self : ByteArray) (x : Bu) (draw : ByteArray) (hself : self.size ≤ 10000) (hx : mayX x = true) (hM : MayX x) (hb : decide (x = bare x) = true) (hv : vrfA A x.sg (sgT x) x.ps = true) (hj : n < 1000000) (hf : A.length < 50000) {A1 A3 : List Ent} {own pu : Nat} (e1 : mkA A 3 { data := #[] } [self] = (A1, own)) (hf1 : A1.length < 50000) (e3 : mkA (frA A1) 3 { data := #[] } [txt A1.length] = (A3, pu)) (Ts : List (List Ent)) (xs : List Nat) (h0 : A3 = Ts.getD 0 []) (hl : ∀ j, j ≤ 3 → (Ts.getD j []).length < 50000) (hm : ∀ j, j < 3 → mkA (Ts.getD j []) 4 { data := #[] } [[self, (txt A1.length), (txt A1.length)].getD j ByteArray.empty, [x.pr, x.dh, x.pr].getD j ByteArray.empty] = (Ts.getD (j + 1) [], xs.getD j 0)) {A' : List Ent} {key : ByteArray} (hk : dv (Ts.getD 3 []) (layT (shr xs 3) 3) (layT [txt own, x.dh, txt pu] 3) x3I 1 = (A', [key])) :
    Calls Tryz.prog 27 #[pt p.q, .string self, .agg (buC x), .string draw] w fun e w' => e = .returned (.tuple #[.string key, .string (txt pu), iN .i64 0]) ∧ PH w0 M p A' (n + 1) L w' := by
  obtain ⟨z0, X0, hcl0, hbe0, H0⟩ := PH.front H
  go_enter Tryz.func27, Tryz.ntmps27
  refine wp_seq (wl_region ?_)
  refine wl_make (c := buC x) H0 23 ky ky ?_
  intro q1 w2 (h3 : HA z0 ((q1, 23, buC x) :: (L ++ X0)) w2)
  refine zv (.string ({ data := #[] })) ?_
  refine zv (.string ({ data := #[] })) ?_
  refine zv (iN .i64 0) ?_
  refine wl_nil (then_at rfl (wp_seq (wp_seq (wl_region ?_))))
  refine zv (.pointer (some ⟨p.q, 0, none⟩)) ?_
  refine wl_load h3 0 rfl ky ky Tryz.underlying23 rfl ky ?_
  refine wl_callx ky enter26 #[.pointer (some ⟨p.q, 0, none⟩), .agg (buC x)] ky (chk_y (hcl0 ((q1, 23, buC x) :: L) _ h3) x hx hM hv hj) ?_
  rintro _ w5 ⟨rfl, hD4⟩
  refine ⟨_, rfl, ?_⟩
  obtain ⟨z6, X7, hcl8, hbe9, h10⟩ := PH.front hD4
  have h11 : HA z6 ((q1, 23, buC x) :: (L ++ X7)) w5 := h10
  refine zv (iN .i64 0) ?_
  refine wl_nil (then_at rfl (wp_seq (wl_region ?_)))
  refine zv (iN .i64 0) ?_
  refine zv (.bool false) ?_
  refine wl_nil (then_at rfl ?_)
  refine wp_cond_false ky ?_
  refine wp_skip (then_at rfl (wp_seq (wl_region ?_)))
  refine zv (.pointer (some ⟨p.q, 0, none⟩)) ?_
  refine zv (.string self) ?_
  refine wl_callx ky enter33 #[.pointer (some ⟨p.q, 0, none⟩), .string self] ky (Public_E (hcl8 ((q1, 23, buC x) :: L) _ h11) self (Nat.le_trans hself (by decide)) (by omega) e1) ?_
  rintro _ w13 ⟨rfl, hD12⟩
  refine ⟨_, rfl, ?_⟩
  obtain ⟨z14, X15, hcl16, hbe17, h18⟩ := PH.front hD12
  have h19 : HA z14 ((q1, 23, buC x) :: (L ++ X15)) w13 := h18
  refine zv (.tuple #[.string ((txt own)), iN .i64 0]) ?_
  refine zv (.string ((txt own))) ?_
  refine zv (iN .i64 0) ?_
  refine zv (.string ((txt own))) ?_
  refine zv (iN .i64 0) ?_
  refine wl_nil (then_at rfl (wp_seq (wp_seq (wl_region ?_))))
  refine zv (iN .i64 0) ?_
  refine zv (.bool false) ?_
  refine wl_nil (then_at rfl ?_)
  refine wp_cond_false ky ?_
  refine wp_skip (then_at rfl (wp_seq (wl_region ?_)))
  refine zv (.pointer (some ⟨p.q, 0, none⟩)) ?_
  refine zv (.string draw) ?_
  refine wl_callx ky enter18 #[.pointer (some ⟨p.q, 0, none⟩), .string draw] ky (Secret_P (hcl16 ((q1, 23, buC x) :: L) _ h19) draw (by omega)) ?_
  rintro _ w21 ⟨rfl, hD20⟩
  refine ⟨_, rfl, ?_⟩
  obtain ⟨z22, X23, hcl24, hbe25, h26⟩ := PH.front hD20
  have h27 : HA z22 ((q1, 23, buC x) :: (L ++ X23)) w21 := h26
  refine zv (.string ((txt A1.length))) ?_
  refine wl_nil (then_at rfl (wp_seq (wl_region ?_)))
  refine zv (.pointer (some ⟨p.q, 0, none⟩)) ?_
  refine zv (.string ((txt A1.length))) ?_
  refine wl_callx ky enter33 #[.pointer (some ⟨p.q, 0, none⟩), .string ((txt A1.length))] ky (Public_E (hcl24 ((q1, 23, buC x) :: L) _ h27) ((txt A1.length)) (by rw [txt_size]; decide) (by rw [frA_len]; omega) e3) ?_
  rintro _ w29 ⟨rfl, hD28⟩
  refine ⟨_, rfl, ?_⟩
  obtain ⟨z30, X31, hcl32, hbe33, h34⟩ := PH.front hD28
  have h35 : HA z30 ((q1, 23, buC x) :: (L ++ X31)) w29 := h34
  refine zv (.tuple #[.string ((txt pu)), iN .i64 0]) ?_
  refine zv (.string ((txt pu))) ?_
  refine zv (iN .i64 0) ?_
  refine zv (.string ((txt pu))) ?_
  refine zv (iN .i64 0) ?_
  refine wl_nil (then_at rfl (wp_seq (wp_seq (wl_region ?_))))
  refine zv (iN .i64 0) ?_
  refine zv (.bool false) ?_
  refine wl_nil (then_at rfl ?_)
  refine wp_cond_false ky ?_
  refine wp_skip (then_at rfl (wp_seq (wl_region ?_)))
  refine zv (.string self) ?_
  refine zv (.pointer (some ⟨q1, 5, none⟩)) ?_
  refine zu (.string x.pr) (run_load1 (fun w => Tryz.isAgg9 w) ky (((h35.get 0 rfl).cell 5).trans rfl)) ?_
  refine zv (.agg #[.string self, .string x.pr]) ?_
  refine zv (.string ((txt A1.length))) ?_
  refine zv (.pointer (some ⟨q1, 3, none⟩)) ?_
  refine zu (.string x.dh) (run_load1 (fun w => Tryz.isAgg9 w) ky (((h35.get 0 rfl).cell 3).trans rfl)) ?_
  refine zv (.agg #[.string ((txt A1.length)), .string x.dh]) ?_
  refine zv (.string ((txt A1.length))) ?_
  refine zv (.pointer (some ⟨q1, 5, none⟩)) ?_
  refine zu (.string x.pr) (run_load1 (fun w => Tryz.isAgg9 w) ky (((h35.get 0 rfl).cell 5).trans rfl)) ?_
  refine zv (.agg #[.string ((txt A1.length)), .string x.pr]) ?_
  refine wl_mks (n := 3) (m := 3) (c := #[.string self, .string x.pr, .string ((txt A1.length)), .string x.dh, .string ((txt A1.length)), .string x.pr]) h35 126 ky ky ?_
  intro q36 w37 (h38 : HA z30 ((q36, 126, #[.string self, .string x.pr, .string ((txt A1.length)), .string x.dh, .string ((txt A1.length)), .string x.pr]) :: (q1, 23, buC x) :: (L ++ X31)) w37)
  refine zv (.slice (some ⟨q36, 0, none⟩) 3 3) ?_
  refine wl_nil (then_at rfl (wp_seq (wp_seq ?_)))
  refine wp_region_wx (HA z30 ((q36, 126, #[.string self, .string x.pr, .string ((txt A1.length)), .string x.dh, .string ((txt A1.length)), .string x.pr]) :: (q1, 23, buC x) :: (L ++ X31))) (fun AQ w' => AQ = ⟨(pt p.q :: .string self :: .agg (buC x) :: .string draw :: un :: un :: pt q1 :: un :: .string ({ data := #[] }) :: .string ((txt pu)) :: iN .i64 0 :: .string ((txt own)) :: .string ((txt A1.length)) :: .slice (some ⟨q36, 0, none⟩) 3 3 :: pt p.q :: .agg (buC x) :: iN .i64 0 :: iN .i64 0 :: .bool false :: un :: .tuple #[.string ((txt own)), iN .i64 0] :: pt p.q :: .string self :: .tuple #[.string ((txt own)), iN .i64 0] :: .string ((txt own)) :: iN .i64 0 :: iN .i64 0 :: .bool false :: un :: pt p.q :: .string draw :: .string ((txt A1.length)) :: .tuple #[.string ((txt pu)), iN .i64 0] :: pt p.q :: .string ((txt A1.length)) :: .tuple #[.string ((txt pu)), iN .i64 0] :: .string ((txt pu)) :: iN .i64 0 :: iN .i64 0 :: .bool false :: un :: .string self :: .pointer (some ⟨q1, 5, none⟩) :: .string x.pr :: .agg #[.string self, .string x.pr] :: .string ((txt A1.length)) :: .pointer (some ⟨q1, 3, none⟩) :: .string x.dh :: .agg #[.string ((txt A1.length)), .string x.dh] :: .string ((txt A1.length)) :: .pointer (some ⟨q1, 5, none⟩) :: .string x.pr :: .agg #[.string ((txt A1.length)), .string x.pr] :: .slice (some ⟨q36, 0, none⟩) 3 3 :: .agg (buC x) :: .agg (buC x) :: .agg (buC (bare x)) :: .bool false :: List.replicate 24 un).toArray, []⟩ ∧ HA z30 ((q36, 126, #[.string self, .string x.pr, .string ((txt A1.length)), .string x.dh, .string ((txt A1.length)), .string x.pr]) :: (q1, 23, buC x) :: (L ++ X31)) w') 4 ky ky ky ky ky (h38.drew) ?_ ?_
  · have h39 := h38.drew
    refine wx_val (i := 0) (.agg (buC x)) rfl rfl ky ky (fun w' h' => run_load_blk ky (h'.get 1 rfl) Tryz.underlying23 rfl ky) ?_
    refine wx_val (i := 1) (.agg (buC x)) rfl rfl ky ky (fun w' h' => run_load_blk ky (h'.get 1 rfl) Tryz.underlying23 rfl ky) ?_
    refine wx_call (i := 2) (.agg (buC (bare x))) (fun _ _ h hb => HA.keep _ _ h hb) rfl rfl ky ky enter69 #[.agg (buC x)] ky (fun w' h' => bare_any x) ?_
    refine wx_pure (i := 3) (.bool false) rfl rfl ky ky (fun _ => (run_neB (a := x) (b := (bare x)) ky ky true hb)) ?_
    refine wx_end fun w40 hbx _ => ?_
    have h41 := HA.keep _ _ h39 hbx
    exact ⟨by kernel_rfl, h41⟩
  · rintro _ w42 ⟨rfl, h43⟩
    refine then_at rfl ?_
    refine wp_cond_false ky ?_
    refine wp_skip (then_at rfl (wp_seq (wl_region ?_)))
    refine zv (.pointer (some ⟨p.q, 0, none⟩)) ?_
    refine zv (.string ((txt own))) ?_
    refine zv (.pointer (some ⟨q1, 3, none⟩)) ?_
    refine zu (.string x.dh) (run_load1 (fun w => Tryz.isAgg9 w) ky (((h43.get 1 rfl).cell 3).trans rfl)) ?_
    refine zv (.string ((txt pu))) ?_
    refine wl_mks (n := 3) (m := 3) (c := #[.string ((txt own)), .string x.dh, .string ((txt pu))]) h43 9 ky ky ?_
    intro q44 w45 (h46 : HA z30 ((q44, 9, #[.string ((txt own)), .string x.dh, .string ((txt pu))]) :: (q36, 126, #[.string self, .string x.pr, .string ((txt A1.length)), .string x.dh, .string ((txt A1.length)), .string x.pr]) :: (q1, 23, buC x) :: (L ++ X31)) w45)
    refine wl_call (v := .string (layT [(txt own), x.dh, (txt pu)] 3)) h46 ky enter40 #[.slice (some ⟨q44, 0, none⟩) 3 3] ky (laid_any [(txt own), x.dh, (txt pu)] _ _ (.inr ⟨q44, _, rfl, PreS.strc [(txt own), x.dh, (txt pu)], h46.get 0 rfl⟩) (m := 16384) (by decide) (ss3 (by rw [txt_size]; decide) hM.dh (by rw [txt_size]; decide)) (by simp)) ?_
    intro w47 h48
    refine zv (.slice (some ⟨q36, 0, none⟩) 3 3) ?_
    refine wl_callx ky enter70 #[.pointer (some ⟨p.q, 0, none⟩), .string (layT [(txt own), x.dh, (txt pu)] 3), .slice (some ⟨q36, 0, none⟩) 3 3] ky (agree_P (hcl32 ((q44, 9, #[.string ((txt own)), .string x.dh, .string ((txt pu))]) :: (q36, 126, #[.string self, .string x.pr, .string ((txt A1.length)), .string x.dh, .string ((txt A1.length)), .string x.pr]) :: (q1, 23, buC x) :: L) _ h48) (layT [(txt own), x.dh, (txt pu)] 3) (Nat.le_trans (lay3_le (m := 16384) (by rw [txt_size]; decide) hM.dh (by rw [txt_size]; decide)) (by decide)) (N := 3) (by decide) (by decide) [self, (txt A1.length), (txt A1.length)] [x.pr, x.dh, x.pr] Ts xs (List.mem_of_getElem? (i := 1) rfl) (by intro j hj; match j, hj with | 0, _ => exact ⟨rfl, rfl⟩ | 1, _ => exact ⟨rfl, rfl⟩ | 2, _ => exact ⟨rfl, rfl⟩) (by intro j hj; match j, hj with | 0, _ => exact ⟨Nat.le_trans hself (by decide), Nat.le_trans hM.pr (by decide)⟩ | 1, _ => exact ⟨txL _, Nat.le_trans hM.dh (by decide)⟩ | 2, _ => exact ⟨txL _, Nat.le_trans hM.pr (by decide)⟩) h0 hl hm hk) ?_
    rintro _ w50 ⟨rfl, hD49⟩
    refine ⟨_, rfl, ?_⟩
    obtain ⟨z51, X52, hcl53, hbe54, h55⟩ := PH.front hD49
    have h56 : HA z51 ((q44, 9, #[.string ((txt own)), .string x.dh, .string ((txt pu))]) :: (q36, 126, #[.string self, .string x.pr, .string ((txt A1.length)), .string x.dh, .string ((txt A1.length)), .string x.pr]) :: (q1, 23, buC x) :: (L ++ X52)) w50 := h55
    refine zv (.tuple #[.string key, iN .i64 0]) ?_
    refine zv (.string key) ?_
    refine zv (iN .i64 0) ?_
    refine zv (.string key) ?_
    refine zv (iN .i64 0) ?_
    refine wl_nil (then_at rfl (wp_seq (wp_seq (wl_region ?_))))
    refine zv (iN .i64 0) ?_
    refine zv (.bool false) ?_
    refine wl_nil (then_at rfl ?_)
    refine wp_cond_false ky ?_
    refine wp_skip (then_at rfl (wp_seq (wl_region ?_)))
    refine zv (.string key) ?_
    refine zv (.string ((txt pu))) ?_
    refine zv (.string key) ?_
    refine zv (.string ((txt pu))) ?_
    refine zv (iN .i64 0) ?_
    refine wl_nil (then_at rfl ?_)
    refine wp_ret ?_
    repeat first | refine then_ret ?_ | refine block_ret ?_
    exact bodyPost_ret (v := .tuple #[.string key, .string (txt pu), iN .i64 0]) ky rfl ⟨rfl, PH.sub (hcl53 ((q44, 9, #[.string ((txt own)), .string x.dh, .string ((txt pu))]) :: (q36, 126, #[.string self, .string x.pr, .string ((txt A1.length)), .string x.dh, .string ((txt A1.length)), .string x.pr]) :: (q1, 23, buC x) :: L) _ h56) (List.Sublist.cons _ (List.Sublist.cons _ (List.Sublist.cons _ (List.Sublist.refl _))))⟩
set_option maxRecDepth 100000 in
set_option maxHeartbeats 2000000 in
theorem beg_4 {w0 w : World} {M : ML} {p : Pr} {A : List Ent} {n : Nat} {L : BL} (H : PH w0 M p A n L w) (self : ByteArray) (x : Bu) (draw : ByteArray) (hself : self.size ≤ 10000) (hx : mayX x = true) (hM : MayX x) (hb : decide (x = bare x) = false) (hv : vrfA A x.sg (sgT x) x.ps = true) (hj : n < 1000000) (hf : A.length < 50000) {A1 A3 : List Ent} {own pu : Nat} (e1 : mkA A 3 { data := #[] } [self] = (A1, own)) (hf1 : A1.length < 50000) (e3 : mkA (frA A1) 3 { data := #[] } [txt A1.length] = (A3, pu)) (Ts : List (List Ent)) (xs : List Nat) (h0 : A3 = Ts.getD 0 []) (hl : ∀ j, j ≤ 4 → (Ts.getD j []).length < 50000) (hm : ∀ j, j < 4 → mkA (Ts.getD j []) 4 { data := #[] } [[self, (txt A1.length), (txt A1.length), (txt A1.length)].getD j ByteArray.empty, [x.pr, x.dh, x.pr, x.on].getD j ByteArray.empty] = (Ts.getD (j + 1) [], xs.getD j 0)) {A' : List Ent} {key : ByteArray} (hk : dv (Ts.getD 4 []) (layT (shr xs 4) 4) (layT [txt own, x.dh, txt pu] 3) x3I 1 = (A', [key])) :
    Calls Tryz.prog 27 #[pt p.q, .string self, .agg (buC x), .string draw] w fun e w' => e = .returned (.tuple #[.string key, .string (txt pu), iN .i64 0]) ∧ PH w0 M p A' (n + 1) L w' := by
  obtain ⟨z0, X0, hcl0, hbe0, H0⟩ := PH.front H
  go_enter Tryz.func27, Tryz.ntmps27
  refine wp_seq (wl_region ?_)
  refine wl_make (c := buC x) H0 23 ky ky ?_
  intro q1 w2 (h3 : HA z0 ((q1, 23, buC x) :: (L ++ X0)) w2)
  refine zv (.string ({ data := #[] })) ?_
  refine zv (.string ({ data := #[] })) ?_
  refine zv (iN .i64 0) ?_
  refine wl_nil (then_at rfl (wp_seq (wp_seq (wl_region ?_))))
  refine zv (.pointer (some ⟨p.q, 0, none⟩)) ?_
  refine wl_load h3 0 rfl ky ky Tryz.underlying23 rfl ky ?_
  refine wl_callx ky enter26 #[.pointer (some ⟨p.q, 0, none⟩), .agg (buC x)] ky (chk_y (hcl0 ((q1, 23, buC x) :: L) _ h3) x hx hM hv hj) ?_
  rintro _ w5 ⟨rfl, hD4⟩
  refine ⟨_, rfl, ?_⟩
  obtain ⟨z6, X7, hcl8, hbe9, h10⟩ := PH.front hD4
  have h11 : HA z6 ((q1, 23, buC x) :: (L ++ X7)) w5 := h10
  refine zv (iN .i64 0) ?_
  refine wl_nil (then_at rfl (wp_seq (wl_region ?_)))
  refine zv (iN .i64 0) ?_
  refine zv (.bool false) ?_
  refine wl_nil (then_at rfl ?_)
  refine wp_cond_false ky ?_
  refine wp_skip (then_at rfl (wp_seq (wl_region ?_)))
  refine zv (.pointer (some ⟨p.q, 0, none⟩)) ?_
  refine zv (.string self) ?_
  refine wl_callx ky enter33 #[.pointer (some ⟨p.q, 0, none⟩), .string self] ky (Public_E (hcl8 ((q1, 23, buC x) :: L) _ h11) self (Nat.le_trans hself (by decide)) (by omega) e1) ?_
  rintro _ w13 ⟨rfl, hD12⟩
  refine ⟨_, rfl, ?_⟩
  obtain ⟨z14, X15, hcl16, hbe17, h18⟩ := PH.front hD12
  have h19 : HA z14 ((q1, 23, buC x) :: (L ++ X15)) w13 := h18
  refine zv (.tuple #[.string ((txt own)), iN .i64 0]) ?_
  refine zv (.string ((txt own))) ?_
  refine zv (iN .i64 0) ?_
  refine zv (.string ((txt own))) ?_
  refine zv (iN .i64 0) ?_
  refine wl_nil (then_at rfl (wp_seq (wp_seq (wl_region ?_))))
  refine zv (iN .i64 0) ?_
  refine zv (.bool false) ?_
  refine wl_nil (then_at rfl ?_)
  refine wp_cond_false ky ?_
  refine wp_skip (then_at rfl (wp_seq (wl_region ?_)))
  refine zv (.pointer (some ⟨p.q, 0, none⟩)) ?_
  refine zv (.string draw) ?_
  refine wl_callx ky enter18 #[.pointer (some ⟨p.q, 0, none⟩), .string draw] ky (Secret_P (hcl16 ((q1, 23, buC x) :: L) _ h19) draw (by omega)) ?_
  rintro _ w21 ⟨rfl, hD20⟩
  refine ⟨_, rfl, ?_⟩
  obtain ⟨z22, X23, hcl24, hbe25, h26⟩ := PH.front hD20
  have h27 : HA z22 ((q1, 23, buC x) :: (L ++ X23)) w21 := h26
  refine zv (.string ((txt A1.length))) ?_
  refine wl_nil (then_at rfl (wp_seq (wl_region ?_)))
  refine zv (.pointer (some ⟨p.q, 0, none⟩)) ?_
  refine zv (.string ((txt A1.length))) ?_
  refine wl_callx ky enter33 #[.pointer (some ⟨p.q, 0, none⟩), .string ((txt A1.length))] ky (Public_E (hcl24 ((q1, 23, buC x) :: L) _ h27) ((txt A1.length)) (by rw [txt_size]; decide) (by rw [frA_len]; omega) e3) ?_
  rintro _ w29 ⟨rfl, hD28⟩
  refine ⟨_, rfl, ?_⟩
  obtain ⟨z30, X31, hcl32, hbe33, h34⟩ := PH.front hD28
  have h35 : HA z30 ((q1, 23, buC x) :: (L ++ X31)) w29 := h34
  refine zv (.tuple #[.string ((txt pu)), iN .i64 0]) ?_
  refine zv (.string ((txt pu))) ?_
  refine zv (iN .i64 0) ?_
  refine zv (.string ((txt pu))) ?_
  refine zv (iN .i64 0) ?_
  refine wl_nil (then_at rfl (wp_seq (wp_seq (wl_region ?_))))
  refine zv (iN .i64 0) ?_
  refine zv (.bool false) ?_
  refine wl_nil (then_at rfl ?_)
  refine wp_cond_false ky ?_
  refine wp_skip (then_at rfl (wp_seq (wl_region ?_)))
  refine zv (.string self) ?_
  refine zv (.pointer (some ⟨q1, 5, none⟩)) ?_
  refine zu (.string x.pr) (run_load1 (fun w => Tryz.isAgg9 w) ky (((h35.get 0 rfl).cell 5).trans rfl)) ?_
  refine zv (.agg #[.string self, .string x.pr]) ?_
  refine zv (.string ((txt A1.length))) ?_
  refine zv (.pointer (some ⟨q1, 3, none⟩)) ?_
  refine zu (.string x.dh) (run_load1 (fun w => Tryz.isAgg9 w) ky (((h35.get 0 rfl).cell 3).trans rfl)) ?_
  refine zv (.agg #[.string ((txt A1.length)), .string x.dh]) ?_
  refine zv (.string ((txt A1.length))) ?_
  refine zv (.pointer (some ⟨q1, 5, none⟩)) ?_
  refine zu (.string x.pr) (run_load1 (fun w => Tryz.isAgg9 w) ky (((h35.get 0 rfl).cell 5).trans rfl)) ?_
  refine zv (.agg #[.string ((txt A1.length)), .string x.pr]) ?_
  refine wl_mks (n := 3) (m := 3) (c := #[.string self, .string x.pr, .string ((txt A1.length)), .string x.dh, .string ((txt A1.length)), .string x.pr]) h35 126 ky ky ?_
  intro q36 w37 (h38 : HA z30 ((q36, 126, #[.string self, .string x.pr, .string ((txt A1.length)), .string x.dh, .string ((txt A1.length)), .string x.pr]) :: (q1, 23, buC x) :: (L ++ X31)) w37)
  refine zv (.slice (some ⟨q36, 0, none⟩) 3 3) ?_
  refine wl_nil (then_at rfl (wp_seq (wp_seq ?_)))
  refine wp_region_wx (HA z30 ((q36, 126, #[.string self, .string x.pr, .string ((txt A1.length)), .string x.dh, .string ((txt A1.length)), .string x.pr]) :: (q1, 23, buC x) :: (L ++ X31))) (fun AQ w' => AQ = ⟨(pt p.q :: .string self :: .agg (buC x) :: .string draw :: un :: un :: pt q1 :: un :: .string ({ data := #[] }) :: .string ((txt pu)) :: iN .i64 0 :: .string ((txt own)) :: .string ((txt A1.length)) :: .slice (some ⟨q36, 0, none⟩) 3 3 :: pt p.q :: .agg (buC x) :: iN .i64 0 :: iN .i64 0 :: .bool false :: un :: .tuple #[.string ((txt own)), iN .i64 0] :: pt p.q :: .string self :: .tuple #[.string ((txt own)), iN .i64 0] :: .string ((txt own)) :: iN .i64 0 :: iN .i64 0 :: .bool false :: un :: pt p.q :: .string draw :: .string ((txt A1.length)) :: .tuple #[.string ((txt pu)), iN .i64 0] :: pt p.q :: .string ((txt A1.length)) :: .tuple #[.string ((txt pu)), iN .i64 0] :: .string ((txt pu)) :: iN .i64 0 :: iN .i64 0 :: .bool false :: un :: .string self :: .pointer (some ⟨q1, 5, none⟩) :: .string x.pr :: .agg #[.string self, .string x.pr] :: .string ((txt A1.length)) :: .pointer (some ⟨q1, 3, none⟩) :: .string x.dh :: .agg #[.string ((txt A1.length)), .string x.dh] :: .string ((txt A1.length)) :: .pointer (some ⟨q1, 5, none⟩) :: .string x.pr :: .agg #[.string ((txt A1.length)), .string x.pr] :: .slice (some ⟨q36, 0, none⟩) 3 3 :: .agg (buC x) :: .agg (buC x) :: .agg (buC (bare x)) :: .bool true :: List.replicate 24 un).toArray, []⟩ ∧ HA z30 ((q36, 126, #[.string self, .string x.pr, .string ((txt A1.length)), .string x.dh, .string ((txt A1.length)), .string x.pr]) :: (q1, 23, buC x) :: (L ++ X31)) w') 4 ky ky ky ky ky (h38.drew) ?_ ?_
  · have h39 := h38.drew
    refine wx_val (i := 0) (.agg (buC x)) rfl rfl ky ky (fun w' h' => run_load_blk ky (h'.get 1 rfl) Tryz.underlying23 rfl ky) ?_
    refine wx_val (i := 1) (.agg (buC x)) rfl rfl ky ky (fun w' h' => run_load_blk ky (h'.get 1 rfl) Tryz.underlying23 rfl ky) ?_
    refine wx_call (i := 2) (.agg (buC (bare x))) (fun _ _ h hb => HA.keep _ _ h hb) rfl rfl ky ky enter69 #[.agg (buC x)] ky (fun w' h' => bare_any x) ?_
    refine wx_pure (i := 3) (.bool true) rfl rfl ky ky (fun _ => (run_neB (a := x) (b := (bare x)) ky ky false hb)) ?_
    refine wx_end fun w40 hbx _ => ?_
    have h41 := HA.keep _ _ h39 hbx
    exact ⟨by kernel_rfl, h41⟩
  · rintro _ w42 ⟨rfl, h43⟩
    refine then_at rfl ?_
    refine wp_cond_true ky ?_
    refine wl_region ?_
    refine zv (.slice (some ⟨q36, 0, none⟩) 3 3) ?_
    refine zv (.string ((txt A1.length))) ?_
    refine zv (.pointer (some ⟨q1, 8, none⟩)) ?_
    refine zu (.string x.on) (run_load1 (fun w => Tryz.isAgg9 w) ky (((h43.get 1 rfl).cell 8).trans rfl)) ?_
    refine zv (.agg #[.string ((txt A1.length)), .string x.on]) ?_
    refine wl_mks (n := 1) (m := 1) (c := #[.string ((txt A1.length)), .string x.on]) h43 126 ky ky ?_
    intro q44 w45 (h46 : HA z30 ((q44, 126, #[.string ((txt A1.length)), .string x.on]) :: (q36, 126, #[.string self, .string x.pr, .string ((txt A1.length)), .string x.dh, .string ((txt A1.length)), .string x.pr]) :: (q1, 23, buC x) :: (L ++ X31)) w45)
    have hR3 : Row 126 2 (.slice (some ⟨q36, 0, none⟩) 3 3) 3 ((#[.string self, .string x.pr, .string ((txt A1.length)), .string x.dh, .string ((txt A1.length)), .string x.pr] : Array Value).toList) [(q36, 126, #[.string self, .string x.pr, .string ((txt A1.length)), .string x.dh, .string ((txt A1.length)), .string x.pr])] := ⟨rfl, .inr ⟨_, 3, _, rfl, rfl, Nat.le_refl _, by decide, rfl, rfl⟩⟩
    refine wl_append (m := 1) (c := 1) (Lr := [(q36, 126, #[.string self, .string x.pr, .string ((txt A1.length)), .string x.dh, .string ((txt A1.length)), .string x.pr])]) hR3 h46 (by decide) _ 32 Tryz.underlying127 info126 rfl (by decide) ky ky ky rfl ky (by unfold maxLen; omega) (by omega) (by decide) ?_
    intro v4 w47 Lr4 hR4 h48
    obtain ⟨g4, c4, cur4, rfl, rfl, hc4⟩ := hR4.pairs (by decide)
    have h49 : HA z30 ((g4, 126, cur4) :: (q1, 23, buC x) :: (L ++ X31)) w47 := h48
    refine zv (.slice (some ⟨g4, 0, none⟩) 4 c4) ?_
    refine wl_nil (then_at rfl (wp_seq (wl_region ?_)))
    refine zv (.pointer (some ⟨p.q, 0, none⟩)) ?_
    refine zv (.string ((txt own))) ?_
    refine zv (.pointer (some ⟨q1, 3, none⟩)) ?_
    refine zu (.string x.dh) (run_load1 (fun w => Tryz.isAgg9 w) ky (((h49.get 1 rfl).cell 3).trans rfl)) ?_
    refine zv (.string ((txt pu))) ?_
    refine wl_mks (n := 3) (m := 3) (c := #[.string ((txt own)), .string x.dh, .string ((txt pu))]) h49 9 ky ky ?_
    intro q50 w51 (h52 : HA z30 ((q50, 9, #[.string ((txt own)), .string x.dh, .string ((txt pu))]) :: (g4, 126, cur4) :: (q1, 23, buC x) :: (L ++ X31)) w51)
    refine wl_call (v := .string (layT [(txt own), x.dh, (txt pu)] 3)) h52 ky enter40 #[.slice (some ⟨q50, 0, none⟩) 3 3] ky (laid_any [(txt own), x.dh, (txt pu)] _ _ (.inr ⟨q50, _, rfl, PreS.strc [(txt own), x.dh, (txt pu)], h52.get 0 rfl⟩) (m := 16384) (by decide) (ss3 (by rw [txt_size]; decide) hM.dh (by rw [txt_size]; decide)) (by simp)) ?_
    intro w53 h54
    refine zv (.slice (some ⟨g4, 0, none⟩) 4 c4) ?_
    refine wl_callx ky enter70 #[.pointer (some ⟨p.q, 0, none⟩), .string (layT [(txt own), x.dh, (txt pu)] 3), .slice (some ⟨g4, 0, none⟩) 4 c4] ky (agree_P (hcl32 ((q50, 9, #[.string ((txt own)), .string x.dh, .string ((txt pu))]) :: (g4, 126, cur4) :: (q1, 23, buC x) :: L) _ h54) (layT [(txt own), x.dh, (txt pu)] 3) (Nat.le_trans (lay3_le (m := 16384) (by rw [txt_size]; decide) hM.dh (by rw [txt_size]; decide)) (by decide)) (N := 4) (by decide) (by decide) [self, (txt A1.length), (txt A1.length), (txt A1.length)] [x.pr, x.dh, x.pr, x.on] Ts xs (List.mem_of_getElem? (i := 1) rfl) (by intro j hj; match j, hj with | 0, _ => exact ⟨hc4 0 (by decide), hc4 1 (by decide)⟩ | 1, _ => exact ⟨hc4 2 (by decide), hc4 3 (by decide)⟩ | 2, _ => exact ⟨hc4 4 (by decide), hc4 5 (by decide)⟩ | 3, _ => exact ⟨hc4 6 (by decide), hc4 7 (by decide)⟩) (by intro j hj; match j, hj with | 0, _ => exact ⟨Nat.le_trans hself (by decide), Nat.le_trans hM.pr (by decide)⟩ | 1, _ => exact ⟨txL _, Nat.le_trans hM.dh (by decide)⟩ | 2, _ => exact ⟨txL _, Nat.le_trans hM.pr (by decide)⟩ | 3, _ => exact ⟨txL _, Nat.le_trans hM.on (by decide)⟩) h0 hl hm hk) ?_
    rintro _ w56 ⟨rfl, hD55⟩
    refine ⟨_, rfl, ?_⟩
    obtain ⟨z57, X58, hcl59, hbe60, h61⟩ := PH.front hD55
    have h62 : HA z57 ((q50, 9, #[.string ((txt own)), .string x.dh, .string ((txt pu))]) :: (g4, 126, cur4) :: (q1, 23, buC x) :: (L ++ X58)) w56 := h61
    refine zv (.tuple #[.string key, iN .i64 0]) ?_
    refine zv (.string key) ?_
    refine zv (iN .i64 0) ?_
    refine zv (.string key) ?_
    refine zv (iN .i64 0) ?_
    refine wl_nil (then_at rfl (wp_seq (wp_seq (wl_region ?_))))
    refine zv (iN .i64 0) ?_
    refine zv (.bool false) ?_
    refine wl_nil (then_at rfl ?_)
    refine wp_cond_false ky ?_
    refine wp_skip (then_at rfl (wp_seq (wl_region ?_)))
    refine zv (.string key) ?_
    refine zv (.string ((txt pu))) ?_
    refine zv (.string key) ?_
    refine zv (.string ((txt pu))) ?_
    refine zv (iN .i64 0) ?_
    refine wl_nil (then_at rfl ?_)
    refine wp_ret ?_
    repeat first | refine then_ret ?_ | refine block_ret ?_
    exact bodyPost_ret (v := .tuple #[.string key, .string (txt pu), iN .i64 0]) ky rfl ⟨rfl, PH.sub (hcl59 ((q50, 9, #[.string ((txt own)), .string x.dh, .string ((txt pu))]) :: (g4, 126, cur4) :: (q1, 23, buC x) :: L) _ h62) (List.Sublist.cons _ (List.Sublist.cons _ (List.Sublist.cons _ (List.Sublist.refl _))))⟩
set_option maxRecDepth 100000 in
set_option maxHeartbeats 2000000 in
theorem acc_3 {w0 w : World} {M : ML} {p : Pr} {A : List Ent} {n : Nat} {L : BL} (H : PH w0 M p A n L w) (self pre once peer pub : ByteArray) (hself : self.size ≤ 10000) (hpre : pre.size ≤ 10000) (honce : once.size ≤ 10000) (hpeer : peer.size ≤ 10000) (hpub : pub.size ≤ 10000) (ho : once = { data := #[] }) (hf : A.length < 50000) {A1 : List Ent} {own : Nat} (e1 : mkA A 3 { data := #[] } [self] = (A1, own)) (Ts : List (List Ent)) (xs : List Nat) (h0 : A1 = Ts.getD 0 []) (hl : ∀ j, j ≤ 3 → (Ts.getD j []).length < 50000) (hm : ∀ j, j < 3 → mkA (Ts.getD j []) 4 { data := #[] } [[pre, self, pre].getD j ByteArray.empty, [peer, pub, pub].getD j ByteArray.empty] = (Ts.getD (j + 1) [], xs.getD j 0)) {A' : List Ent} {key : ByteArray} (hk : dv (Ts.getD 3 []) (layT (shr xs 3) 3) (layT [peer, txt own, pub] 3) x3I 1 = (A', [key])) :
    Calls Tryz.prog 30 #[pt p.q, .string self, .string pre, .string once, .string peer, .string pub] w fun e w' => e = .returned (.tuple #[.string key, iN .i64 0]) ∧ PH w0 M p A' n L w' := by
  subst ho
  obtain ⟨z0, X0, hcl0, hbe0, H0⟩ := PH.front H
  go_enter Tryz.func30, Tryz.ntmps30
  refine wp_seq (wl_region ?_)
  refine zv (.string ({ data := #[] })) ?_
  refine zv (iN .i64 0) ?_
  refine wl_nil (then_at rfl (wp_seq (wl_region ?_)))
  refine zv (.pointer (some ⟨p.q, 0, none⟩)) ?_
  refine zv (.string self) ?_
  refine wl_callx ky enter33 #[.pointer (some ⟨p.q, 0, none⟩), .string self] ky (Public_E (hcl0 (L) _ H0) self (Nat.le_trans hself (by decide)) (by omega) e1) ?_
  rintro _ w2 ⟨rfl, hD1⟩
  refine ⟨_, rfl, ?_⟩
  obtain ⟨z3, X4, hcl5, hbe6, h7⟩ := PH.front hD1
  have h8 : HA z3 (L ++ X4) w2 := h7
  refine zv (.tuple #[.string ((txt own)), iN .i64 0]) ?_
  refine zv (.string ((txt own))) ?_
  refine zv (iN .i64 0) ?_
  refine zv (.string ((txt own))) ?_
  refine zv (iN .i64 0) ?_
  refine wl_nil (then_at rfl (wp_seq (wp_seq (wl_region ?_))))
  refine zv (iN .i64 0) ?_
  refine zv (.bool false) ?_
  refine wl_nil (then_at rfl ?_)
  refine wp_cond_false ky ?_
  refine wp_skip (then_at rfl (wp_seq (wl_region ?_)))
  refine zv (.string pre) ?_
  refine zv (.string peer) ?_
  refine zv (.agg #[.string pre, .string peer]) ?_
  refine zv (.string self) ?_
  refine zv (.string pub) ?_
  refine zv (.agg #[.string self, .string pub]) ?_
  refine zv (.string pre) ?_
  refine zv (.string pub) ?_
  refine zv (.agg #[.string pre, .string pub]) ?_
  refine wl_mks (n := 3) (m := 3) (c := #[.string pre, .string peer, .string self, .string pub, .string pre, .string pub]) h8 126 ky ky ?_
  intro q9 w10 (h11 : HA z3 ((q9, 126, #[.string pre, .string peer, .string self, .string pub, .string pre, .string pub]) :: (L ++ X4)) w10)
  refine zv (.slice (some ⟨q9, 0, none⟩) 3 3) ?_
  refine wl_nil (then_at rfl (wp_seq (wp_seq (wl_region ?_))))
  refine zv (.string ({ data := #[] })) ?_
  refine zv (.bool false) ?_
  refine wl_nil (then_at rfl ?_)
  refine wp_cond_false ky ?_
  refine wp_skip (then_at rfl (wp_seq (wl_region ?_)))
  refine zv (.pointer (some ⟨p.q, 0, none⟩)) ?_
  refine zv (.string peer) ?_
  refine zv (.string ((txt own))) ?_
  refine zv (.string pub) ?_
  refine wl_mks (n := 3) (m := 3) (c := #[.string peer, .string ((txt own)), .string pub]) h11 9 ky ky ?_
  intro q12 w13 (h14 : HA z3 ((q12, 9, #[.string peer, .string ((txt own)), .string pub]) :: (q9, 126, #[.string pre, .string peer, .string self, .string pub, .string pre, .string pub]) :: (L ++ X4)) w13)
  refine wl_call (v := .string (layT [peer, (txt own), pub] 3)) h14 ky enter40 #[.slice (some ⟨q12, 0, none⟩) 3 3] ky (laid_any [peer, (txt own), pub] _ _ (.inr ⟨q12, _, rfl, PreS.strc [peer, (txt own), pub], h14.get 0 rfl⟩) (m := 10000) (by decide) (ss3 hpeer (by rw [txt_size]; decide) hpub) (by simp)) ?_
  intro w15 h16
  refine zv (.slice (some ⟨q9, 0, none⟩) 3 3) ?_
  refine wl_callx ky enter70 #[.pointer (some ⟨p.q, 0, none⟩), .string (layT [peer, (txt own), pub] 3), .slice (some ⟨q9, 0, none⟩) 3 3] ky (agree_P (hcl5 ((q12, 9, #[.string peer, .string ((txt own)), .string pub]) :: (q9, 126, #[.string pre, .string peer, .string self, .string pub, .string pre, .string pub]) :: L) _ h16) (layT [peer, (txt own), pub] 3) (Nat.le_trans (lay3_le (m := 10000) hpeer (by rw [txt_size]; decide) hpub) (by decide)) (N := 3) (by decide) (by decide) [pre, self, pre] [peer, pub, pub] Ts xs (List.mem_of_getElem? (i := 1) rfl) (by intro j hj; match j, hj with | 0, _ => exact ⟨rfl, rfl⟩ | 1, _ => exact ⟨rfl, rfl⟩ | 2, _ => exact ⟨rfl, rfl⟩) (by intro j hj; match j, hj with | 0, _ => exact ⟨Nat.le_trans hpre (by decide), Nat.le_trans hpeer (by decide)⟩ | 1, _ => exact ⟨Nat.le_trans hself (by decide), Nat.le_trans hpub (by decide)⟩ | 2, _ => exact ⟨Nat.le_trans hpre (by decide), Nat.le_trans hpub (by decide)⟩) h0 hl hm hk) ?_
  rintro _ w18 ⟨rfl, hD17⟩
  refine ⟨_, rfl, ?_⟩
  obtain ⟨z19, X20, hcl21, hbe22, h23⟩ := PH.front hD17
  have h24 : HA z19 ((q12, 9, #[.string peer, .string ((txt own)), .string pub]) :: (q9, 126, #[.string pre, .string peer, .string self, .string pub, .string pre, .string pub]) :: (L ++ X20)) w18 := h23
  refine zv (.string key) ?_
  refine zv (iN .i64 0) ?_
  refine zv (.string key) ?_
  refine zv (iN .i64 0) ?_
  refine wl_nil (then_at rfl ?_)
  refine wp_ret ?_
  repeat first | refine then_ret ?_ | refine block_ret ?_
  exact bodyPost_ret (v := .tuple #[.string key, iN .i64 0]) ky rfl ⟨rfl, PH.sub (hcl21 ((q12, 9, #[.string peer, .string ((txt own)), .string pub]) :: (q9, 126, #[.string pre, .string peer, .string self, .string pub, .string pre, .string pub]) :: L) _ h24) (List.Sublist.cons _ (List.Sublist.cons _ (List.Sublist.refl _)))⟩
set_option maxRecDepth 100000 in
set_option maxHeartbeats 2000000 in
theorem acc_4 {w0 w : World} {M : ML} {p : Pr} {A : List Ent} {n : Nat} {L : BL} (H : PH w0 M p A n L w) (self pre once peer pub : ByteArray) (hself : self.size ≤ 10000) (hpre : pre.size ≤ 10000) (honce : once.size ≤ 10000) (hpeer : peer.size ≤ 10000) (hpub : pub.size ≤ 10000) (ho : ¬ once = { data := #[] }) (hf : A.length < 50000) {A1 : List Ent} {own : Nat} (e1 : mkA A 3 { data := #[] } [self] = (A1, own)) (Ts : List (List Ent)) (xs : List Nat) (h0 : A1 = Ts.getD 0 []) (hl : ∀ j, j ≤ 4 → (Ts.getD j []).length < 50000) (hm : ∀ j, j < 4 → mkA (Ts.getD j []) 4 { data := #[] } [[pre, self, pre, once].getD j ByteArray.empty, [peer, pub, pub, pub].getD j ByteArray.empty] = (Ts.getD (j + 1) [], xs.getD j 0)) {A' : List Ent} {key : ByteArray} (hk : dv (Ts.getD 4 []) (layT (shr xs 4) 4) (layT [peer, txt own, pub] 3) x3I 1 = (A', [key])) :
    Calls Tryz.prog 30 #[pt p.q, .string self, .string pre, .string once, .string peer, .string pub] w fun e w' => e = .returned (.tuple #[.string key, iN .i64 0]) ∧ PH w0 M p A' n L w' := by
  obtain ⟨z0, X0, hcl0, hbe0, H0⟩ := PH.front H
  go_enter Tryz.func30, Tryz.ntmps30
  refine wp_seq (wl_region ?_)
  refine zv (.string ({ data := #[] })) ?_
  refine zv (iN .i64 0) ?_
  refine wl_nil (then_at rfl (wp_seq (wl_region ?_)))
  refine zv (.pointer (some ⟨p.q, 0, none⟩)) ?_
  refine zv (.string self) ?_
  refine wl_callx ky enter33 #[.pointer (some ⟨p.q, 0, none⟩), .string self] ky (Public_E (hcl0 (L) _ H0) self (Nat.le_trans hself (by decide)) (by omega) e1) ?_
  rintro _ w2 ⟨rfl, hD1⟩
  refine ⟨_, rfl, ?_⟩
  obtain ⟨z3, X4, hcl5, hbe6, h7⟩ := PH.front hD1
  have h8 : HA z3 (L ++ X4) w2 := h7
  refine zv (.tuple #[.string ((txt own)), iN .i64 0]) ?_
  refine zv (.string ((txt own))) ?_
  refine zv (iN .i64 0) ?_
  refine zv (.string ((txt own))) ?_
  refine zv (iN .i64 0) ?_
  refine wl_nil (then_at rfl (wp_seq (wp_seq (wl_region ?_))))
  refine zv (iN .i64 0) ?_
  refine zv (.bool false) ?_
  refine wl_nil (then_at rfl ?_)
  refine wp_cond_false ky ?_
  refine wp_skip (then_at rfl (wp_seq (wl_region ?_)))
  refine zv (.string pre) ?_
  refine zv (.string peer) ?_
  refine zv (.agg #[.string pre, .string peer]) ?_
  refine zv (.string self) ?_
  refine zv (.string pub) ?_
  refine zv (.agg #[.string self, .string pub]) ?_
  refine zv (.string pre) ?_
  refine zv (.string pub) ?_
  refine zv (.agg #[.string pre, .string pub]) ?_
  refine wl_mks (n := 3) (m := 3) (c := #[.string pre, .string peer, .string self, .string pub, .string pre, .string pub]) h8 126 ky ky ?_
  intro q9 w10 (h11 : HA z3 ((q9, 126, #[.string pre, .string peer, .string self, .string pub, .string pre, .string pub]) :: (L ++ X4)) w10)
  refine zv (.slice (some ⟨q9, 0, none⟩) 3 3) ?_
  refine wl_nil (then_at rfl (wp_seq (wp_seq (wl_region ?_))))
  refine zv (.string once) ?_
  refine zu (.bool true) (run_nes (s := once) (t := { data := #[] }) ky ky true (by simpa using ho)) ?_
  refine wl_nil (then_at rfl ?_)
  refine wp_cond_true ky ?_
  refine wl_region ?_
  refine zv (.slice (some ⟨q9, 0, none⟩) 3 3) ?_
  refine zv (.string once) ?_
  refine zv (.string pub) ?_
  refine zv (.agg #[.string once, .string pub]) ?_
  refine wl_mks (n := 1) (m := 1) (c := #[.string once, .string pub]) h11 126 ky ky ?_
  intro q12 w13 (h14 : HA z3 ((q12, 126, #[.string once, .string pub]) :: (q9, 126, #[.string pre, .string peer, .string self, .string pub, .string pre, .string pub]) :: (L ++ X4)) w13)
  have hR3 : Row 126 2 (.slice (some ⟨q9, 0, none⟩) 3 3) 3 ((#[.string pre, .string peer, .string self, .string pub, .string pre, .string pub] : Array Value).toList) [(q9, 126, #[.string pre, .string peer, .string self, .string pub, .string pre, .string pub])] := ⟨rfl, .inr ⟨_, 3, _, rfl, rfl, Nat.le_refl _, by decide, rfl, rfl⟩⟩
  refine wl_append (m := 1) (c := 1) (Lr := [(q9, 126, #[.string pre, .string peer, .string self, .string pub, .string pre, .string pub])]) hR3 h14 (by decide) _ 32 Tryz.underlying127 info126 rfl (by decide) ky ky ky rfl ky (by unfold maxLen; omega) (by omega) (by decide) ?_
  intro v4 w15 Lr4 hR4 h16
  obtain ⟨g4, c4, cur4, rfl, rfl, hc4⟩ := hR4.pairs (by decide)
  have h17 : HA z3 ((g4, 126, cur4) :: (L ++ X4)) w15 := h16
  refine zv (.slice (some ⟨g4, 0, none⟩) 4 c4) ?_
  refine wl_nil (then_at rfl (wp_seq (wl_region ?_)))
  refine zv (.pointer (some ⟨p.q, 0, none⟩)) ?_
  refine zv (.string peer) ?_
  refine zv (.string ((txt own))) ?_
  refine zv (.string pub) ?_
  refine wl_mks (n := 3) (m := 3) (c := #[.string peer, .string ((txt own)), .string pub]) h17 9 ky ky ?_
  intro q18 w19 (h20 : HA z3 ((q18, 9, #[.string peer, .string ((txt own)), .string pub]) :: (g4, 126, cur4) :: (L ++ X4)) w19)
  refine wl_call (v := .string (layT [peer, (txt own), pub] 3)) h20 ky enter40 #[.slice (some ⟨q18, 0, none⟩) 3 3] ky (laid_any [peer, (txt own), pub] _ _ (.inr ⟨q18, _, rfl, PreS.strc [peer, (txt own), pub], h20.get 0 rfl⟩) (m := 10000) (by decide) (ss3 hpeer (by rw [txt_size]; decide) hpub) (by simp)) ?_
  intro w21 h22
  refine zv (.slice (some ⟨g4, 0, none⟩) 4 c4) ?_
  refine wl_callx ky enter70 #[.pointer (some ⟨p.q, 0, none⟩), .string (layT [peer, (txt own), pub] 3), .slice (some ⟨g4, 0, none⟩) 4 c4] ky (agree_P (hcl5 ((q18, 9, #[.string peer, .string ((txt own)), .string pub]) :: (g4, 126, cur4) :: L) _ h22) (layT [peer, (txt own), pub] 3) (Nat.le_trans (lay3_le (m := 10000) hpeer (by rw [txt_size]; decide) hpub) (by decide)) (N := 4) (by decide) (by decide) [pre, self, pre, once] [peer, pub, pub, pub] Ts xs (List.mem_of_getElem? (i := 1) rfl) (by intro j hj; match j, hj with | 0, _ => exact ⟨hc4 0 (by decide), hc4 1 (by decide)⟩ | 1, _ => exact ⟨hc4 2 (by decide), hc4 3 (by decide)⟩ | 2, _ => exact ⟨hc4 4 (by decide), hc4 5 (by decide)⟩ | 3, _ => exact ⟨hc4 6 (by decide), hc4 7 (by decide)⟩) (by intro j hj; match j, hj with | 0, _ => exact ⟨Nat.le_trans hpre (by decide), Nat.le_trans hpeer (by decide)⟩ | 1, _ => exact ⟨Nat.le_trans hself (by decide), Nat.le_trans hpub (by decide)⟩ | 2, _ => exact ⟨Nat.le_trans hpre (by decide), Nat.le_trans hpub (by decide)⟩ | 3, _ => exact ⟨Nat.le_trans honce (by decide), Nat.le_trans hpub (by decide)⟩) h0 hl hm hk) ?_
  rintro _ w24 ⟨rfl, hD23⟩
  refine ⟨_, rfl, ?_⟩
  obtain ⟨z25, X26, hcl27, hbe28, h29⟩ := PH.front hD23
  have h30 : HA z25 ((q18, 9, #[.string peer, .string ((txt own)), .string pub]) :: (g4, 126, cur4) :: (L ++ X26)) w24 := h29
  refine zv (.string key) ?_
  refine zv (iN .i64 0) ?_
  refine zv (.string key) ?_
  refine zv (iN .i64 0) ?_
  refine wl_nil (then_at rfl ?_)
  refine wp_ret ?_
  repeat first | refine then_ret ?_ | refine block_ret ?_
  exact bodyPost_ret (v := .tuple #[.string key, iN .i64 0]) ky rfl ⟨rfl, PH.sub (hcl27 ((q18, 9, #[.string peer, .string ((txt own)), .string pub]) :: (g4, 126, cur4) :: L) _ h30) (List.Sublist.cons _ (List.Sublist.cons _ (List.Sublist.refl _)))⟩
end Go.Proofs.YtoogiblkommdfaaGreat
