/-
 What a log says.
-/
import Derived.Test.YtckmlaempffpjaaGreatGST
import Derived.Test.YtckmlaempffpjaaGreatS11
namespace Go.Proofs.YtckmlaempffpjaaGreat
open Go.RowKit Go.Shelf Go.Proofs.Tryz
def MX : Nat := 9223372036854775807
def rplF : Nat → List Rw → List UInt8 → List Rw × List UInt8 × Bool
 | 0, rows, us => (rows, us, true)
 | n + 1, rows, us =>
  if (nxt MX us).2.1 = false then (rows, us, true)
  else if okB (pdB (bl (nxt MX us).1)) = false then (rows, us, false)
  else rplF n (applyR rows (pdB (bl (nxt MX us).1)).ps (pdB (bl (nxt MX us).1)).ds) (nxt MX us).2.2
def rplB (log : ByteArray) : List Rw × List UInt8 × Bool := rplF (log.size + 1) [] (bl log)
theorem nxt_len {m : Nat} {us : List UInt8} (h : (nxt m us).2.1 = true) : us.length = 4 + (nxt m us).1.size + (nxt m us).2.2.length := by
 unfold nxt at h ⊢
 split
 ·rename_i hc
  rw [if_pos hc] at h;rw [txt_size hc.2.2, List.length_drop]
  omega
 ·rename_i hc
  rw [if_neg hc] at h
  cases h
theorem nxt_no {m : Nat} {us : List UInt8} (h : (nxt m us).2.1 = false) : (nxt m us).2.2 = us := by
 unfold nxt at h ⊢
 split
 ·rename_i hc
  rw [if_pos hc] at h
  cases h
 ·rfl
theorem ppR_false {n : Nat} {us : List UInt8} {acc : List Rw} : (ppR n false us acc).1 = false := by cases n <;> rfl
theorem pdR_false {n : Nat} {us : List UInt8} {acc : List ByteArray} : (pdR n false us acc).1 = false := by cases n <;> rfl
theorem ppR_laid : ∀ (n : Nat) (wh : Bool) (us : List UInt8) (acc : List Rw), (ppR n wh us acc).1 = true → laidR (ppR n wh us acc).2.2 + (ppR n wh us acc).2.1.length ≤ laidR acc + us.length
 | 0, wh, us, acc, h => by unfold ppR; exact Nat.le_refl _
 | n + 1, false, us, acc, h => by cases h
 | n + 1, true, us, acc, h => by
  unfold ppR at h ⊢
  cases h1 : (nxt 262144 us).2.1 with
  | false =>
   rw [h1, Bool.false_and, ppR_false] at h
   cases h
  | true =>
   cases h2 : (nxt 262144 (nxt 262144 us).2.2).2.1 with
   | false =>
    rw [h2, Bool.and_false, ppR_false] at h
    cases h
   | true =>
    rw [h1, h2] at h;have h3 := nxt_len h1;have h4 := nxt_len h2;have h5 := ppR_laid n _ _ _ h;have e : laidR (acc ++ [⟨(nxt 262144 us).1, (nxt 262144 (nxt 262144 us).2.2).1⟩]) = laidR acc + (8 + (nxt 262144 us).1.size + (nxt 262144 (nxt 262144 us).2.2).1.size) := by rw [laid_app]; simp [laidR, rsz]
    rw [e] at h5
    omega
theorem pdR_wh {n : Nat} {wh : Bool} {us : List UInt8} {acc : List ByteArray} (h : (pdR n wh us acc).1 = true) : wh = true := by
 cases wh with
 | true => rfl
 | false => rw [pdR_false] at h; cases h
theorem nxn_len (m : Nat) (us : List UInt8) : (nxn m us).2.2.length ≤ us.length := by
 unfold nxn
 split
 ·rw [List.length_drop]; omega
 ·exact Nat.le_refl _
theorem pd_laid {us : List UInt8} (h : (pdB us).wh = true) : laidR (pdB us).ps ≤ us.length := by
 have h1 : (ppR (nxn 2 us).1 (nxn 2 us).2.1 (nxn 2 us).2.2 []).1 = true := by
  have := pdR_wh h;rw [Bool.and_eq_true] at this;exact this.1
 have h2 := ppR_laid _ _ _ _ h1;have h3 := nxn_len 2 us;have h0 : laidR [] = 0 := rfl
 show laidR (ppR (nxn 2 us).1 (nxn 2 us).2.1 (nxn 2 us).2.2 []).2.2 ≤ _
 omega
theorem okB_wh {p : Pd} (h : okB p = true) : p.wh = true ∧ p.left = [] ∧ p.ps.length + p.ds.length ≠ 0 ∧ refR p.ps p.ds = 0 := by
 unfold okB at h
 simp only [Bool.and_eq_true, decide_eq_true_eq] at h
 exact ⟨h.1.1.1, List.eq_nil_of_length_eq_zero h.1.1.2, h.1.2, h.2⟩
theorem laid_apply (l ps : List Rw) (ds : List ByteArray) : laidR (applyR l ps ds) ≤ laidR l + laidR ps := Nat.le_trans (laid_dels _ ds) (laid_puts l ps)
theorem changeOf_yes (s : ByteArray) (hs : s.size ≤ 1000000000) (w : World) (h : okB (pdB (bl s)) = true) : Calls prog 92 #[.string s] w fun e w' => ∃ po pc do_ dc Lp Ld, e = .returned (.tuple #[.agg #[.slice po (pdB (bl s)).ps.length pc, .slice do_ (pdB (bl s)).ds.length dc], .bool true]) ∧ Row 64 2 (.slice po (pdB (bl s)).ps.length pc) (pdB (bl s)).ps.length (rcl (pdB (bl s)).ps) Lp ∧ Row 9 1 (.slice do_ (pdB (bl s)).ds.length dc) (pdB (bl s)).ds.length (scl (pdB (bl s)).ds) Ld ∧ HA (bs w) (Lp ++ Ld) w' :=
 (changeOf_any s hs w).mono fun e w' hr => by
  rcases hr with ⟨_, hr⟩ | ⟨h2, _⟩
  ·exact hr
  ·rw [h] at h2; cases h2
theorem changeOf_no (s : ByteArray) (hs : s.size ≤ 1000000000) (w : World) (h : okB (pdB (bl s)) = false) : Calls prog 92 #[.string s] w fun e w' => e = .returned (.tuple #[.agg #[.slice none 0 0, .slice none 0 0], .bool false]) ∧ Below w.heap.size w w' :=
 (changeOf_any s hs w).mono fun e w' hr => by
  rcases hr with ⟨h2, _⟩ | ⟨_, hr⟩
  ·rw [h] at h2; cases h2
  ·exact hr
end Go.Proofs.YtckmlaempffpjaaGreat
namespace Go.Proofs.YtckmlaempffpjaaGreat
set_option linter.unusedVariables false
set_option maxRecDepth 100000
set_option maxHeartbeats 4000000
open Go.RowKit Go.Proofs.Tryz
theorem perm_q (a b c q : Nat × TypeId × Array Value) (L : BL) : (a :: b :: c :: q :: L).Perm (q :: a :: b :: c :: L) := List.perm_middle (l₁ := [a, b, c]) (a := q) (l₂ := L)
theorem perm_3 (b c q : Nat × TypeId × Array Value) (L : BL) : (b :: c :: q :: L).Perm (q :: b :: c :: L) := List.perm_middle (l₁ := [b, c]) (a := q) (l₂ := L)
theorem HA.backR {z : Base} {q a b c : Nat × TypeId × Array Value} {A L : BL} {w : World} (h : HA z (q :: a :: b :: c :: (A ++ L)) w) : HA z (b :: c :: q :: L) w := by
 have h1 : HA z (q :: b :: c :: L) w := h.sub (sc (sk (sc (sc (List.sublist_append_right _ _)))));exact h1.perm (perm_3 b c q L).symm
def RHX (w0 : World) (m : Nat × MO) (M : ML) (q dq r : Nat) (L : BL) (w : World) : Prop := ∃ rows rs nx, rws rs = rows ∧ RK rs nx ∧ HA ⟨w0, m :: (r, .mp (eR rs) nx) :: M⟩ ((q, 73, scell dq r (laidR rows) 0) :: L) w
theorem replay_any {w0 : World} {m : Nat × MO} {M : ML} {q dq r : Nat} {L : BL} {w : World} (h : RH w0 m M q dq r [] 0 L w) (log : ByteArray) (hs : log.size ≤ 1000000000) :
  Calls prog 44 #[pt q, .string log] w fun e w' => ((rplB log).2.2 = true ∧ e = .returned (i6 0) ∧ RH w0 m M q dq r (rplB log).1 (log.size - (rplB log).2.1.length) L w') ∨ ((rplB log).2.2 = false ∧ e = .returned (i6 4) ∧ RHX w0 m M q dq r L w') := by
 obtain ⟨rs0, nx0, h1, hK, H0⟩ := h;obtain ⟨RR, hRR⟩ : ∃ RR, rplF (log.size + 1) [] (bl log) = RR := ⟨_, rfl⟩;have hrb9 : rplB log = RR := hRR
 go_enter Tryz.func44, Tryz.ntmps44
 refine zsr (zv (znt (zsr (zv ?_))));refine wl_callx enter90 #[.string log] (New_h H0 log hs) ?_;rintro _ w1 ⟨b, d, cur, v0, rfl, hS0, hN0⟩;refine ⟨_, rfl, ?_⟩;have h2 : HA ⟨w0, m :: (r, .mp (eR rs0) nx0) :: M⟩ ((b, 171, #[.bool true, v0]) :: (d, 5, bc cur) :: (q, 73, scell dq r ((laidR [])) 0) :: L) w1 := hN0;refine zv (znt (wp_seq ?_));refine wp_block ?_;refine zwh (fun Z0 mq A w' => ∃ (n : Nat) (rows : List Rw) (us : List UInt8) (v : Value) (rs : List Re) (nx : Nat) (u3 : Nat → Value), mq = n + 1 ∧ A = pts Z0 [(4, u3 4), (6, u3 6), (7, u3 7), (8, u3 8), (9, u3 9), (12, u3 12), (13, u3 13), (14, u3 14), (15, u3 15), (16, u3 16), (17, u3 17), (18, u3 18), (19, u3 19), (20, u3 20), (21, u3 21), (22, u3 22), (23, u3 23), (24, u3 24), (25, u3 25), (26, u3 26), (27, u3 27), (28, u3 28)] ∧ rplF n rows us = RR ∧ us.length < n ∧ laidR rows + us.length ≤ log.size ∧ rws rs = rows ∧ RK rs nx ∧ RdS d cur v us ∧ HA ⟨w0, m :: (r, .mp (eR rs) nx) :: M⟩ ((b, 171, #[.bool true, v]) :: (d, 5, bc cur) :: (q, 73, scell dq r (laidR rows) 0) :: L) w') (log.size + 1 + 1) ?_ ?_
 ·exact ⟨log.size + 1, [], bl log, v0, rs0, nx0, lku (fun _ => undef) [(4, i6 0)], rfl, by kernel_rfl, hRR, by rw [bl_len]; omega, by rw [bl_len]; show 0 + _ ≤ _; omega, h1, hK, hS0, h2⟩
 rintro _ _ w4 ⟨n, rows, us, v, rs, nx, u3, rfl, rfl, hR1, hlt, hbd, h1, hK, hS, hL⟩
 rcases n with _ | n
 ·omega
 rw [rplF] at hR1;refine wp_block ?_;refine zsr (zv ?_);refine wl_callx enter91 #[pq b, i6 9223372036854775807] (Text_any hS hL MX (by decide)) ?_;rintro _ w5 ⟨rfl, v2, hS2, hT2⟩;refine ⟨_, rfl, ?_⟩;have h6 : HA ⟨w0, m :: (r, .mp (eR rs) nx) :: M⟩ ((b, 171, #[.bool true, v2]) :: (d, 5, bc cur) :: (q, 73, scell dq r ((laidR rows)) 0) :: L) w5 := hT2;refine zv (zv (zv (zv (zv (znt (wp_seq (wp_seq ?_)))))))
 cases hwh : (nxt MX us).2.1
 ·refine wl_region (zv (zv (wl_nil ?_)));rw [if_pos hwh] at hR1;rw [nxt_no hwh] at hS2;refine zt (zct ?_);refine wp_exit ?_
  repeat first | refine then_exit ?_ | refine block_exit ?_ | refine block_exit_ne (by decide) ?_
  refine zt (zsr (zv (zv ?_)));refine zwu (run_len (s := log)) ?_;refine zv ?_;refine wl_call (v := i6 us.length) h6 enter93 #[pq b] (Left_h hS2 h6) ?_;intro w7 h8;refine zwu (v := i6 (log.size - us.length)) (run_sub (k := .i64) (a := log.size) (b := us.length) (by first | omega | (simp only [top]; omega)) (by first | omega | (simp only [top]; omega))) ?_;refine zv (zv ?_);refine wl_putv (v := i6 (log.size - us.length)) h8 2 rfl 3 (by show 3 < 4; decide) sizeOf3 ?_;intro w9 h10;refine znt (zsr (zv (znt ?_)));refine wp_ret ?_
  repeat first|refine zrt ?_|refine block_ret ?_
  exact zb (by rw [hrb9, ← hR1]; exact .inl ⟨rfl, rfl, rs, nx, h1, hK, by have h9 := h10.perm (perm_3 _ _ _ L); exact h9.sub (sc (sk (sk (sr))))⟩)
 ·refine wl_region (zv (zv (wl_nil ?_)));rw [if_neg (by rw [hwh]; decide)] at hR1;have hnl := nxt_len hwh;refine zt (zcf (wp_skip (zt (wp_seq ?_))))
  cases hok : okB (pdB (bl (nxt MX us).1))
  ·rw [if_pos hok] at hR1;refine wl_region (zv ?_);refine wl_call (v := .tuple #[.agg #[.slice none 0 0, .slice none 0 0], .bool false]) h6 enter92 #[.string ((nxt MX us).1)] (changeOf_no _ (by omega) w5 hok) ?_;intro w11 h12;refine zv (zv (zv ?_));refine wl_make (c := #[.slice none 0 0, .slice none 0 0]) h12 100 ?_;intro q13 w14 h15;refine wl_fill (c' := #[.slice none 0 0, .slice none 0 0]) h15 0 rfl rfl ?_;intro w16 h17;refine zv (znt (wp_seq (zsr (zv (zv (znt (zct (zsr (zv (znt ?_))))))))));refine wp_ret ?_
   repeat first|refine zrt ?_|refine block_ret ?_
   exact zb (by rw [hrb9, ← hR1]; exact .inr ⟨rfl, rfl, rows, rs, nx, h1, hK, (h17.perm (perm_q _ _ _ _ L)).sub (sc (sk (sk (sk (sr)))))⟩)
  ·rw [if_neg (by rw [hok]; decide)] at hR1;have hob := okB_wh hok;have hrb := ref_ok hob.2.2.2;have hpl := pd_laid hob.1;rw [bl_len] at hpl;have hla := laid_apply rows (pdB (bl (nxt MX us).1)).ps (pdB (bl (nxt MX us).1)).ds;refine wl_region (zv ?_);refine wl_callx enter92 #[.string ((nxt MX us).1)] (changeOf_yes _ (by omega) w5 hok) ?_;rintro _ w18 ⟨po, pc, do_, dc, Lp, Ld, rfl, hRp, hRd, hcc⟩;refine ⟨_, rfl, ?_⟩;have h19 : HA ⟨w0, m :: (r, .mp (eR rs) nx) :: M⟩ ((Lp ++ Ld) ++ ([(b, 171, #[.bool true, v2]), (d, 5, bc cur), (q, 73, scell dq r ((laidR rows)) 0)] ++ L)) w18 := HA.join h6 hcc;have h20 : HA ⟨w0, m :: (r, .mp (eR rs) nx) :: M⟩ ((b, 171, #[.bool true, v2]) :: (d, 5, bc cur) :: (q, 73, scell dq r ((laidR rows)) 0) :: ((Lp ++ Ld) ++ L)) w18 := h19.perm (perm_mv (Lp ++ Ld) [(b, 171, #[.bool true, v2]), (d, 5, bc cur), (q, 73, scell dq r ((laidR rows)) 0)] L);refine zv (zv (zv ?_));refine wl_make (c := #[.slice none 0 0, .slice none 0 0]) h20 100 ?_;intro q21 w22 h23;refine wl_fill (c' := #[.slice po (pdB (bl (nxt MX us).1)).ps.length pc, .slice do_ (pdB (bl (nxt MX us).1)).ds.length dc]) h23 0 rfl rfl ?_;intro w24 h25;refine zv (znt (wp_seq (zsr (zv (zv (znt (zcf (wp_skip (zt (wl_region ?_))))))))));refine zv ?_;refine wl_load h25 0 rfl underlying100 rfl ?_;have h26 := h25.perm (perm_q _ _ _ _ ((Lp ++ Ld) ++ L));refine wl_callx enter56 #[pq q, .agg (#[.slice po (pdB (bl (nxt MX us).1)).ps.length pc, .slice do_ (pdB (bl (nxt MX us).1)).ds.length dc])] (apply_any (L := (q21, 100, #[.slice po (pdB (bl (nxt MX us).1)).ps.length pc, .slice do_ (pdB (bl (nxt MX us).1)).ds.length dc]) :: (b, 171, #[.bool true, v2]) :: (d, 5, bc cur) :: ((Lp ++ Ld) ++ L)) ⟨_, _, h1, hK, h26⟩ (fun M A w H => Row.rows hRp (fun y hy => H.blk y (by simp [hy]))) (fun M A w H => Row.keys hRd (fun y hy => H.blk y (by simp [hy]))) (fun x hx => ⟨by have := hrb.1.k x hx; omega, by have := hrb.1.v x hx; omega⟩) (by have := hrb.1.ct; omega) (by have := hrb.2.1; omega) (by omega)) ?_;rintro _ w27 ⟨rfl, hap⟩;refine ⟨_, rfl, ?_⟩;obtain ⟨rs2, nx2, h21, hK2, hL2⟩ := hap;have h28 : HA ⟨w0, m :: (r, .mp (eR rs2) nx2) :: M⟩ ((q, 73, scell dq r ((laidR ((applyR rows (pdB (bl (nxt MX us).1)).ps (pdB (bl (nxt MX us).1)).ds)))) 0) :: (q21, 100, #[.slice po (pdB (bl (nxt MX us).1)).ps.length pc, .slice do_ (pdB (bl (nxt MX us).1)).ds.length dc]) :: (b, 171, #[.bool true, v2]) :: (d, 5, bc cur) :: ((Lp ++ Ld) ++ L)) w27 := hL2;refine wl_nil ?_;refine block_normal ?_;exact then_I ⟨n + 1, (by omega), n, (applyR rows (pdB (bl (nxt MX us).1)).ps (pdB (bl (nxt MX us).1)).ds), (nxt MX us).2.2, v2, rs2, nx2, lku u3 [(6, .string ((nxt MX us).1)), (7, .bool true), (8, pq q21), (9, .bool true), (12, .tuple #[.string ((nxt MX us).1), .bool true]), (13, pq b), (14, .tuple #[.string ((nxt MX us).1), .bool true]), (15, .string ((nxt MX us).1)), (16, .bool true), (17, .bool true), (18, .bool false), (19, .tuple #[.agg #[.slice po (pdB (bl (nxt MX us).1)).ps.length pc, .slice do_ (pdB (bl (nxt MX us).1)).ds.length dc], .bool true]), (20, .string ((nxt MX us).1)), (21, .tuple #[.agg #[.slice po (pdB (bl (nxt MX us).1)).ps.length pc, .slice do_ (pdB (bl (nxt MX us).1)).ds.length dc], .bool true]), (22, .agg #[.slice po (pdB (bl (nxt MX us).1)).ps.length pc, .slice do_ (pdB (bl (nxt MX us).1)).ds.length dc]), (23, .bool true), (24, .bool true), (25, .bool false), (26, pq q), (27, .agg (#[.slice po (pdB (bl (nxt MX us).1)).ps.length pc, .slice do_ (pdB (bl (nxt MX us).1)).ds.length dc])), (28, .tuple #[])], rfl, by kernel_rfl, hR1, by omega, by omega, h21, hK2, hS2, h28.backR⟩
end Go.Proofs.YtckmlaempffpjaaGreat
namespace Go.Proofs.YtckmlaempffpjaaGreat
open Go.RowKit Go.Proofs.Tryz
theorem HA.permM {w0 : World} {M M' : ML} {L : BL} {w : World} (h : HA ⟨w0, M⟩ L w) (hp : M.Perm M') : HA ⟨w0, M'⟩ L w :=
 ⟨⟨h.old.old, fun m hm => h.old.maps m (hp.symm.subset hm), fun m hm => h.old.mown m (hp.symm.subset hm), (hp.map _).nodup_iff.1 h.old.mnd⟩, h.blk, h.own, h.nd⟩
theorem HA.subM {w0 : World} {M M' : ML} {L : BL} {w : World} (h : HA ⟨w0, M⟩ L w) (hp : M'.Sublist M) : HA ⟨w0, M'⟩ L w :=
 ⟨⟨h.old.old, fun m hm => h.old.maps m (hp.subset hm), fun m hm => h.old.mown m (hp.subset hm), (hp.map _).nodup h.old.mnd⟩, h.blk, h.own, h.nd⟩
theorem DH.subM {w0 : World} {M M' : ML} {d : Dk} {D : DS} {L : BL} {w : World} (h : DH w0 M d D L w) (hp : M'.Sublist M) : DH w0 M' d D L w := by
 obtain ⟨fl, nx, v, Lr, h1, h2, h3, H⟩ := h;exact ⟨fl, nx, v, Lr, h1, h2, h3, H.subM (sc hp)⟩
theorem SH.disk {w0 : World} {M : ML} {s : Sk} {S : SS} {L : BL} {w : World} (h : SH w0 M s S L w) : DH w0 M s.d S.D L w := by
 obtain ⟨rs, nx, h1, h2, H⟩ := h;exact (DH.drop (A := [_]) H).subM (List.sublist_cons_self _ _)
def lgD (D : DS) : ByteArray := (readD D nS).1
def rawS (D : DS) : SS := ⟨D, (rplB (lgD D)).1, (lgD D).size - (rplB (lgD D)).2.1.length⟩
def opnS (D : DS) : SS × Nat :=
 if (readD D nS).2 ≠ 0 ∧ (readD D nS).2 ≠ 5 then (⟨D, [], 0⟩, (readD D nS).2)
 else if (rplB (lgD D)).2.2 = false then (⟨D, [], 0⟩, 4)
 else if (rawS D).size < (lgD D).size then layS (rawS D) ((lgD D).extract 0 (rawS D).size)
 else (rawS D, 0)
end Go.Proofs.YtckmlaempffpjaaGreat
namespace Go.Proofs.YtckmlaempffpjaaGreat
open Go.RowKit Go.Shelf Go.Proofs.Tryz
theorem frame_pt (ps : List Rw) (ds : List ByteArray) : frameB ps ds = ptB ⟨(bodyB ps ds).toArray⟩ := by
 rw [ptB, bl_mk, frameB]
 rfl
/-! rows that are the same but for their order -/
/-! what Pack lays, as changes -/
theorem get_nm {fs : List FA} {n : ByteArray} {x : FA} (h : getF fs n = some x) : x.nm = n ∧ x ∈ fs := by
 unfold getF at h
 exact ⟨by simpa using List.find?_some h, List.mem_of_find?_eq_some h⟩
theorem get_upd (fs : List FA) (nm n : ByteArray) (g : FA → FA) (hg : ∀ x, (g x).nm = x.nm) : getF (updF fs nm g) n = (getF fs n).map (fun x => if n = nm then g x else x) := by
 induction fs with
 | nil => rfl
 | cons y l ih =>
  unfold getF updF at ih ⊢
  rw [List.map_cons, List.find?_cons, List.find?_cons]
  by_cases e : y.nm = nm
  ·rw [if_pos e]
   by_cases e2 : y.nm = n
   ·have : decide ((g y).nm = n) = true := by rw [hg]; exact decide_eq_true e2
    rw [this, decide_eq_true e2]
    simp [← e2, e]
   ·have : decide ((g y).nm = n) = false := by rw [hg]; exact decide_eq_false e2
    rw [this, decide_eq_false e2];exact ih
  ·rw [if_neg e]
   by_cases e2 : y.nm = n
   ·rw [decide_eq_true e2];have : ¬ n = nm := fun h => e (e2.trans h)
    simp [this]
   ·rw [decide_eq_false e2];exact ih
theorem get_mk (fs : List FA) (nm n : ByteArray) : getF (mkF fs nm) n = if n = nm ∧ getF fs nm = none then some ⟨nm, [], 0⟩ else getF fs n := by
 unfold mkF
 split
 ·rename_i h
  have : getF fs nm ≠ none := by
   obtain ⟨x, hx, e⟩ := h
   unfold getF
   intro hnn;exact List.find?_eq_none.1 hnn x hx (dt e)
  rw [if_neg (fun h => this h.2)]
 ·rename_i h
  have hn : getF fs nm = none := by
   unfold getF
   refine List.find?_eq_none.2 fun x hx => ?_
   simp only [decide_eq_true_eq]
   exact fun e => h ⟨x, hx, e⟩
  by_cases e : n = nm
  ·subst e;rw [if_pos ⟨rfl, hn⟩]
   unfold getF at hn ⊢
   rw [List.find?_append, hn]
   simp
  ·rw [if_neg (fun h => e h.1)]
   unfold getF
   rw [List.find?_append];have : List.find? (fun x : FA => decide (x.nm = n)) [⟨nm, [], 0⟩] = none := by simp [Ne.symm e]
   rw [this, Option.or_none]
theorem rank_lt {fs : List FA} {x : FA} (h : x ∈ fs) : rankF fs x.nm < fs.length := by
 have : bl x.nm ∈ srtL fs := (srt_perm fs).mem_iff.2 (List.mem_map.2 ⟨x, h, rfl⟩);have := List.idxOf_lt_length_of_mem this;rw [srt_len] at this;exact this
theorem wk_map (fs : List FA) (ks : List Int) : wkK fs ks fs.length = fs.map fun x => cutA x (ks.getD (rankF fs x.nm) 0) := by
 unfold wkK
 refine List.map_congr_left fun x hx => ?_
 rw [if_pos (rank_lt hx)]
theorem get_map {fs : List FA} {n : ByteArray} {g : FA → FA} (hg : ∀ x, (g x).nm = x.nm) : getF (fs.map g) n = (getF fs n).map g := by
 induction fs with
 | nil => rfl
 | cons y l ih =>
  unfold getF at ih ⊢
  rw [List.map_cons, List.find?_cons, List.find?_cons, hg]
  cases decide (y.nm = n) with
  | true => rfl
  | false => exact ih
theorem get_del (fs : List FA) (nm n : ByteArray) : getF (delF fs nm) n = if n = nm then none else getF fs n := by
 induction fs with
 | nil => simp [getF, delF]
 | cons y l ih =>
  unfold getF delF at ih ⊢
  by_cases e : y.nm = nm
  ·rw [List.filter_cons_of_neg (by simp [e]), ih]
   by_cases e2 : n = nm
   ·rw [if_pos e2, if_pos e2]
   ·rw [if_neg e2, if_neg e2, List.find?_cons, decide_eq_false (by rw [e]; exact Ne.symm e2)]
  ·rw [List.filter_cons_of_pos (by simp [e]), List.find?_cons, ih]
   by_cases e2 : y.nm = n
   ·have hnn : ¬ n = nm := fun h => e (e2.trans h)
    simp [hnn, e2]
   ·rw [decide_eq_false e2, List.find?_cons, decide_eq_false e2]
theorem get_app (a b : List FA) (n : ByteArray) : getF (a ++ b) n = (getF a n).or (getF b n) := by
 unfold getF
 exact List.find?_append
theorem get_keep (fs : List FA) (nm b n : ByteArray) : getF ((keepF fs nm).map (fun x : FA => { x with nm := b })) n = if n = b then (getF fs nm).map (fun x : FA => { x with nm := b }) else none := by
 induction fs with
 | nil => simp [getF, keepF]
 | cons y l ih =>
  unfold getF keepF at ih ⊢
  by_cases e : y.nm = nm
  ·rw [List.filter_cons_of_pos (by simp [e]), List.map_cons, List.find?_cons, List.find?_cons, decide_eq_true e]
   by_cases e2 : n = b
   ·rw [if_pos e2, decide_eq_true (show ({ y with nm := b } : FA).nm = n from e2.symm)]
    rfl
   ·rw [decide_eq_false (show ¬ ({ y with nm := b } : FA).nm = n from fun h => e2 h.symm), ih];rw [if_neg e2, if_neg e2]
  ·rw [List.filter_cons_of_neg (by simp [e]), List.find?_cons, decide_eq_false e];exact ih
theorem has_iff (fs : List FA) (n : ByteArray) : (∃ x ∈ fs, x.nm = n) ↔ getF fs n ≠ none := by
 unfold getF
 rw [Ne, List.find?_eq_none]
 constructor
 ·rintro ⟨x, hx, e⟩ h;exact h x hx (dt e)
 ·intro h;refine Decidable.byContradiction fun hn => h fun x hx e => hn ⟨x, hx, of_decide_eq_true e⟩
theorem nSN : nS ≠ nN := by decide
theorem isN : isNm nN = true := by decide
theorem isS : isNm nS = true := by decide
abbrev Fi := Option (List UInt8 × Nat)
def mkFi (n : ByteArray) (f : List UInt8 × Nat) : FA := ⟨n, f.1, f.2⟩
def lenF (o : Fi) : Nat := match o with | none => 0 | some f => f.1.length
structure V2 (D : DS) (a b : Fi) : Prop where
 s : getF D.fs nS = a.map (mkFi nS)
 n : getF D.fs nN = b.map (mkFi nN)
 o : ∀ x, x ≠ nS → x ≠ nN → getF D.fs x = none
theorem V2.fs {D D' : DS} {a b : Fi} (h : V2 D a b) (e : D'.fs = D.fs) : V2 D' a b := ⟨by rw [e]; exact h.s, by rw [e]; exact h.n, by rw [e]; exact h.o⟩
theorem V2.new {n : Nat} : V2 ⟨[], n, 0, false, []⟩ none none := ⟨rfl, rfl, fun _ _ _ => rfl⟩
theorem spend_up {D : DS} (hd : D.down = false) : (spendD D).down = true → D.left ≠ 0 := fun h e => by
 unfold spendD at h
 simp only [e, if_pos] at h
 rw [hd] at h
 cases h
theorem op_v {D D2 : DS} {put er : Nat} (hd : D.down = false) (h2 : D2.down = (spendD D).down) : ((opD D D2 put er).2 = 16 ∧ (opD D D2 put er).1.down = true ∧ (opD D D2 put er).1.fs = D.fs ∧ D.left ≠ 0) ∨ ((opD D D2 put er).2 = er ∧ (opD D D2 put er).1.down = false ∧ (opD D D2 put er).1.fs = D2.fs ∧ (opD D D2 put er).1.left = D2.left ∧ (opD D D2 put er).1.free = D2.free) := by
 unfold opD
 cases h : (spendD D).down with
 | true => exact .inl ⟨rfl, h, rfl, spend_up hd h⟩
 | false =>
  right
  rw [if_neg (by decide)]
  split
  ·rename_i he; exact ⟨he.symm, h2.trans h, rfl, rfl, rfl⟩
  ·exact ⟨rfl, h2.trans h, rfl, rfl, rfl⟩
theorem app_v {D : DS} {nm s : ByteArray} (hd : D.down = false) (hn : isNm nm = true) : ((AppendD D nm s).2 = 16 ∧ (AppendD D nm s).1.down = true ∧ (AppendD D nm s).1.fs = D.fs ∧ D.left ≠ 0) ∨ ((AppendD D nm s).2 = 7 ∧ (AppendD D nm s).1.down = false ∧ (AppendD D nm s).1.fs = D.fs ∧ (AppendD D nm s).1.left = D.left - 1 ∧ D.free < s.size) ∨ ((AppendD D nm s).2 = 0 ∧ (AppendD D nm s).1.down = false ∧ (AppendD D nm s).1.fs = updF (mkF D.fs nm) nm (fun x => { x with da := x.da ++ bl s }) ∧ (AppendD D nm s).1.left = D.left - 1 ∧ s.size ≤ D.free) := by
 unfold AppendD
 by_cases hf : (spendD D).free < s.size
 ·have e : appD (spendD D) nm s = (spendD D, 0, 7) := by unfold appD; rw [if_neg (by rw [hn]; decide), if_pos hf]
  rw [e]
  rcases op_v (put := 0) (er := 7) hd (D2 := spendD D) rfl with h | h
  ·exact .inl h
  ·exact .inr (.inl ⟨h.1, h.2.1, h.2.2.1, h.2.2.2.1, hf⟩)
 ·have e : appD (spendD D) nm s = ({ spendD D with fs := updF (mkF D.fs nm) nm (fun x => { x with da := x.da ++ bl s }), free := D.free - s.size }, s.size, 0) := by unfold appD; rw [if_neg (by rw [hn]; decide), if_neg hf]; rfl
  rw [e]
  rcases op_v (put := s.size) (er := 0) hd (D2 := { spendD D with fs := updF (mkF D.fs nm) nm (fun x => { x with da := x.da ++ bl s }), free := D.free - s.size }) rfl with h | h
  ·exact .inl h
  ·exact .inr (.inr ⟨h.1, h.2.1, h.2.2.1, h.2.2.2.1, Nat.le_of_not_lt hf⟩)
theorem on_v {D D2 : DS} {nm : ByteArray} (hd : D.down = false) (h2 : D2.down = (spendD D).down) (hl : D2.left = (spendD D).left) (hf : getF D.fs nm ≠ none) : ((OnD D D2 nm 0).2 = 16 ∧ (OnD D D2 nm 0).1.down = true ∧ (OnD D D2 nm 0).1.fs = D.fs ∧ D.left ≠ 0) ∨ ((OnD D D2 nm 0).2 = 0 ∧ (OnD D D2 nm 0).1.down = false ∧ (OnD D D2 nm 0).1.fs = D2.fs ∧ (OnD D D2 nm 0).1.left = D.left - 1) := by
 unfold OnD
 have e : onD (spendD D) D2 nm 0 = (D2, 0, 0) := by unfold onD; exact if_pos ((has_iff D.fs nm).2 hf)
 rw [e]
 rcases op_v (put := 0) (er := 0) hd h2 with h | h
 ·exact .inl h
 ·exact .inr ⟨h.1, h.2.1, h.2.2.1, h.2.2.2.1.trans hl⟩
theorem sync_v {D : DS} {nm : ByteArray} (hd : D.down = false) (hf : getF D.fs nm ≠ none) : ((SyncD D nm).2 = 16 ∧ (SyncD D nm).1.down = true ∧ (SyncD D nm).1.fs = D.fs ∧ D.left ≠ 0) ∨ ((SyncD D nm).2 = 0 ∧ (SyncD D nm).1.down = false ∧ (SyncD D nm).1.fs = updF D.fs nm (fun x => { x with sy := x.da.length }) ∧ (SyncD D nm).1.left = D.left - 1) :=
 on_v (D2 := syncF (spendD D) nm) hd rfl rfl hf
theorem rem_v {D : DS} {nm : ByteArray} (hd : D.down = false) (hf : getF D.fs nm ≠ none) : ((RemoveD D nm).2 = 16 ∧ (RemoveD D nm).1.down = true ∧ (RemoveD D nm).1.fs = D.fs ∧ D.left ≠ 0) ∨ ((RemoveD D nm).2 = 0 ∧ (RemoveD D nm).1.down = false ∧ (RemoveD D nm).1.fs = delF D.fs nm ∧ (RemoveD D nm).1.left = D.left - 1) :=
 on_v (D2 := remF (spendD D) nm) hd rfl rfl hf
theorem ren_v {D : DS} (hd : D.down = false) (hf : getF D.fs nN ≠ none) : ((RenameD D nN nS).2 = 16 ∧ (RenameD D nN nS).1.down = true ∧ (RenameD D nN nS).1.fs = D.fs ∧ D.left ≠ 0) ∨ ((RenameD D nN nS).2 = 0 ∧ (RenameD D nN nS).1.down = false ∧ (RenameD D nN nS).1.fs = delF (delF D.fs nS) nN ++ (keepF (delF D.fs nS) nN).map (fun x => { x with nm := nS }) ∧ (RenameD D nN nS).1.left = D.left - 1) := by
 have e : renT (spendD D) nN nS = (renF (spendD D) nN nS, 0) := by unfold renT; rw [if_neg (by rw [isS]; decide), if_neg (Ne.symm nSN)]
 unfold RenameD
 rw [e];exact on_v (D2 := renF (spendD D) nN nS) hd rfl rfl hf
/-! the files behind each -/
section
variable {D D' : DS} {a b : Fi}
theorem get_append (fs : List FA) (nm n : ByteArray) (l : List UInt8) : getF (updF (mkF fs nm) nm (fun x => { x with da := x.da ++ l })) n = if n = nm then some ⟨nm, ((getF fs nm).elim [] (·.da)) ++ l, (getF fs nm).elim 0 (·.sy)⟩ else getF fs n := by
 rw [get_upd _ _ _ (fun x : FA => { x with da := x.da ++ l }) (fun _ => rfl), get_mk]
 by_cases e : n = nm
 ·subst e;rw [if_pos rfl]
  cases h : getF fs n with
  | none => simp
  | some x =>
   have := (get_nm h).1
   simp [← this]
 ·rw [if_neg e, if_neg (fun h => e h.1)]
  cases getF fs n with
  | none => rfl
  | some x => simp [e]
def appF (o : Fi) (l : List UInt8) : Fi := some ((o.elim [] (·.1)) ++ l, o.elim 0 (·.2))
def synF (o : Fi) : Fi := o.map fun f => (f.1, f.1.length)
theorem V2.appS (h : V2 D a b) {l : List UInt8} (e : D'.fs = updF (mkF D.fs nS) nS (fun x => { x with da := x.da ++ l })) : V2 D' (appF a l) b := by
 refine ⟨?_, ?_, fun x h1 h2 => ?_⟩
 ·rw [e, get_append, if_pos rfl, h.s]
  cases a <;> rfl
 ·rw [e, get_append, if_neg (Ne.symm nSN), h.n]
 ·rw [e, get_append, if_neg h1, h.o x h1 h2]
theorem V2.appN (h : V2 D a b) {l : List UInt8} (e : D'.fs = updF (mkF D.fs nN) nN (fun x => { x with da := x.da ++ l })) : V2 D' a (appF b l) := by
 refine ⟨?_, ?_, fun x h1 h2 => ?_⟩
 ·rw [e, get_append, if_neg nSN, h.s]
 ·rw [e, get_append, if_pos rfl, h.n]
  cases b <;> rfl
 ·rw [e, get_append, if_neg h2, h.o x h1 h2]
theorem get_sync (fs : List FA) (nm n : ByteArray) : getF (updF fs nm (fun x => { x with sy := x.da.length })) n = (getF fs n).map fun x => if n = nm then { x with sy := x.da.length } else x := get_upd _ _ _ _ (fun _ => rfl)
theorem V2.synS (h : V2 D a b) (e : D'.fs = updF D.fs nS (fun x => { x with sy := x.da.length })) : V2 D' (synF a) b := by
 refine ⟨?_, ?_, fun x h1 h2 => ?_⟩
 ·rw [e, get_sync, h.s]
  cases a <;> rfl
 ·rw [e, get_sync, h.n]
  cases b
  ·rfl
  ·simp [Ne.symm nSN]
 ·rw [e, get_sync, h.o x h1 h2]; rfl
theorem V2.synN (h : V2 D a b) (e : D'.fs = updF D.fs nN (fun x => { x with sy := x.da.length })) : V2 D' a (synF b) := by
 refine ⟨?_, ?_, fun x h1 h2 => ?_⟩
 ·rw [e, get_sync, h.s]
  cases a
  ·rfl
  ·simp [nSN]
 ·rw [e, get_sync, h.n]
  cases b <;> rfl
 ·rw [e, get_sync, h.o x h1 h2]; rfl
theorem V2.remN (h : V2 D a b) (e : D'.fs = delF D.fs nN) : V2 D' a none := by
 refine ⟨?_, ?_, fun x h1 h2 => ?_⟩
 ·rw [e, get_del, if_neg nSN, h.s]
 ·rw [e, get_del, if_pos rfl]; rfl
 ·rw [e, get_del, if_neg h2, h.o x h1 h2]
theorem V2.ren (h : V2 D a b) (e : D'.fs = delF (delF D.fs nS) nN ++ (keepF (delF D.fs nS) nN).map (fun x => { x with nm := nS })) : V2 D' b none := by
 refine ⟨?_, ?_, fun x h1 h2 => ?_⟩
 ·rw [e, get_app, get_del, if_neg nSN, get_del, if_pos rfl, Option.none_or, get_keep, if_pos rfl, get_del, if_neg (Ne.symm nSN), h.n]
  cases b <;> rfl
 ·rw [e, get_app, get_del, if_pos rfl, Option.none_or, get_keep, if_neg (Ne.symm nSN)]; rfl
 ·rw [e, get_app, get_del, if_neg h2, get_del, if_neg h1, h.o x h1 h2, Option.none_or, get_keep, if_neg h1]
def cutF (o : Fi) (k : Nat) : Fi := o.map fun f => (f.1.take (f.2 + k), f.2 + k)
theorem V2.wake (h : V2 D a b) (ks : List Int) : ∃ k j, (∀ f, a = some f → k ≤ f.1.length - f.2) ∧ V2 (wakeD D ks) (cutF a k) (cutF b j) := by
 have e : (wakeD D ks).fs = D.fs.map fun x => cutA x (ks.getD (rankF D.fs x.nm) 0) := wk_map D.fs ks
 have hg : ∀ n, getF (wakeD D ks).fs n = (getF D.fs n).map fun x => cutA x (ks.getD (rankF D.fs x.nm) 0) := fun n => by rw [e, get_map (g := fun x => cutA x (ks.getD (rankF D.fs x.nm) 0)) (fun _ => rfl)]
 refine ⟨a.elim 0 (fun f => stayN (ks.getD (rankF D.fs nS) 0) (f.1.length - f.2)), b.elim 0 (fun f => stayN (ks.getD (rankF D.fs nN) 0) (f.1.length - f.2)), fun f hf => ?_, ?_, ?_, fun x h1 h2 => ?_⟩
 ·rw [hf]; exact stayN_le _ _
 ·rw [hg, h.s]
  cases a <;> rfl
 ·rw [hg, h.n]
  cases b <;> rfl
 ·rw [hg, h.o x h1 h2]; rfl
theorem V2.usedF (h : V2 D a b) (hn : (D.fs.map (·.nm)).Nodup) : used D.fs = lenF a + lenF b := by
 have key : ∀ (fs : List FA), (fs.map (·.nm)).Nodup → (∀ x ∈ fs, x.nm = nS ∨ x.nm = nN) → used fs = (getF fs nS).elim 0 (·.da.length) + (getF fs nN).elim 0 (·.da.length) := by
  intro fs
  induction fs with
  | nil => intro _ _; rfl
  | cons y l ih =>
   intro hn ho;rw [List.map_cons, List.nodup_cons] at hn;have h1 := ih hn.2 (fun x hx => ho x (.tail _ hx));have hu : used (y :: l) = y.da.length + used l := by simp [used]
   have hno : ∀ n, y.nm = n → getF l n = none := fun n e => by
    have : ¬ (∃ x ∈ l, x.nm = n) := fun ⟨x, hx, e2⟩ => hn.1 (List.mem_map.2 ⟨x, hx, e2.trans e.symm⟩)
    rw [has_iff] at this;exact Decidable.not_not.1 this
   have hc : ∀ n, getF (y :: l) n = if y.nm = n then some y else getF l n := fun n => by
    unfold getF
    rw [List.find?_cons]
    by_cases e : y.nm = n
    ·rw [decide_eq_true e, if_pos e]
    ·rw [decide_eq_false e, if_neg e]
   rw [hu, h1, hc, hc]
   rcases ho y (.head _) with e | e
   ·rw [if_pos e, if_neg (by rw [e]; exact nSN), hno nS e]
    simp
   ·rw [if_neg (by rw [e]; exact Ne.symm nSN), if_pos e, hno nN e]
    simp; omega
 rw [key D.fs hn (fun x hx => Decidable.byContradiction fun hc => by
  have h1 : x.nm ≠ nS := fun e => hc (.inl e)
  have h2 : x.nm ≠ nN := fun e => hc (.inr e)
  exact (has_iff _ _).1 ⟨x, hx, rfl⟩ (h.o x.nm h1 h2)), h.s, h.n]
 cases a <;> cases b <;> rfl
end
theorem has_v {D : DS} {a b : Fi} (h : V2 D a b) (hd : D.down = false) : hasN D = b.isSome := by
 unfold hasN
 rw [hd, Bool.not_false, Bool.true_and, Bool.eq_iff_iff, List.any_eq_true];have e : (∃ x, x ∈ D.fs ∧ decide (x.nm = nN) = true) ↔ ∃ x ∈ D.fs, x.nm = nN := by simp
 rw [e, has_iff, h.n]
 cases b <;> simp
theorem rm_v {D : DS} {a b : Fi} (h : V2 D a b) (hd : D.down = false) : ((rmN D).2 = 16 ∧ (rmN D).1.down = true ∧ D.left ≠ 0 ∧ V2 (rmN D).1 a b) ∨ ((rmN D).2 = 0 ∧ (rmN D).1.down = false ∧ (rmN D).1.left ≤ D.left ∧ V2 (rmN D).1 a none) := by
 unfold rmN
 rw [has_v h hd]
 cases b with
 | none => exact .inr ⟨rfl, hd, Nat.le_refl _, h⟩
 | some f =>
  rw [if_pos (show (some f).isSome = true from rfl)]
  rcases rem_v hd (nm := nN) (by rw [h.n]; simp) with r | r
  ·exact .inl ⟨r.1, r.2.1, r.2.2.2, h.fs r.2.2.1⟩
  ·exact .inr ⟨r.1, r.2.1, by omega, h.remN r.2.2.1⟩
theorem remn_v {D : DS} (hd : D.down = false) (hf : getF D.fs nN = none) : ((RemoveD D nN).1.down = true ∧ (RemoveD D nN).1.fs = D.fs ∧ (RemoveD D nN).1.left = 0 ∧ D.left ≠ 0) ∨ ((RemoveD D nN).1.down = false ∧ (RemoveD D nN).1.fs = D.fs ∧ (RemoveD D nN).1.left ≤ D.left) := by
 have e : onD (spendD D) (remF (spendD D) nN) nN 0 = (spendD D, 0, 5) := by
  unfold onD
  exact if_neg (fun h => (has_iff D.fs nN).1 h hf)
 unfold RemoveD OnD
 rw [e]
 unfold opD
 cases h : (spendD D).down with
 | true =>
  left
  have hl := spend_up hd h;rw [if_pos rfl];refine ⟨h, rfl, ?_, hl⟩
  unfold spendD at h ⊢
  simp only [if_neg hl] at h
  have := of_decide_eq_true h
  show D.left - 1 = 0
  omega
 | false =>
  right
  rw [if_neg (by decide), if_neg (show ¬ (5 : Nat) = 0 by decide)];exact ⟨h, rfl, Nat.sub_le _ _⟩
theorem room_rmN (D : DS) : roomD (rmN D).1 = roomD D := by
 unfold rmN
 split
 ·exact room_Remove D nN
 ·rfl
theorem free_v {D : DS} {a b : Fi} {R N : Nat} (h : V2 D a b) (hg : DG D R N) : D.free + lenF a + lenF b = roomD D := by
 have := h.usedF hg.db.nd
 unfold roomD
 omega
theorem lay_v {D : DS} {a b : Fi} {R N : Nat} (h : V2 D a b) (hg : DG D R N) (hd : D.down = false) (fr : ByteArray) :
  ((layD D fr).2 = 16 ∧ (layD D fr).1.down = true ∧ D.left ≠ 0 ∧ ∃ b', V2 (layD D fr).1 a b' ∧ (lenF b' ≤ lenF b ∨ lenF b' ≤ fr.size)) ∨
  ((layD D fr).2 = 7 ∧ (layD D fr).1.down = false ∧ (layD D fr).1.left ≤ D.left ∧ V2 (layD D fr).1 a none ∧ roomD D < lenF a + fr.size) ∨
  ((layD D fr).2 = 0 ∧ (layD D fr).1.down = false ∧ (layD D fr).1.left ≤ D.left ∧ V2 (layD D fr).1 (some (bl fr, (bl fr).length)) none) := by
 unfold layD
 have hg1 := hg.rmN;have hrm := room_rmN D
 rcases rm_v h hd with ⟨e1, d1, l1, v1⟩ | ⟨e1, d1, l1, v1⟩
 ·rw [if_pos (by rw [e1]; decide)];exact .inl ⟨e1, d1, l1, b, v1, .inl (Nat.le_refl _)⟩
 ·rw [if_neg (by rw [e1]; decide)];have hf := free_v v1 hg1;have e0 : lenF (none : Fi) = 0 := rfl;generalize rmN D = X at *
  rcases app_v (s := fr) d1 isN with r | r | r
  ·rw [if_pos (by rw [r.1]; decide)];exact .inl ⟨r.1, r.2.1, by omega, none, v1.fs r.2.2.1, .inl (by rw [e0]; exact Nat.zero_le _)⟩
  ·rw [if_pos (by rw [r.1]; decide)];exact .inr (.inl ⟨r.1, r.2.1, by omega, v1.fs r.2.2.1, by omega⟩)
  ·rw [if_neg (by rw [r.1]; decide)];have v2 := v1.appN r.2.2.1;have l2 := r.2.2.2.1;have d2 := r.2.1;generalize AppendD X.1 nN fr = Y at *
   rcases sync_v d2 (nm := nN) (by rw [v2.n]; simp [appF]) with r | r
   ·rw [if_pos (by rw [r.1]; decide)];exact .inl ⟨r.1, r.2.1, by omega, _, v2.fs r.2.2.1, .inr (by simp [appF, lenF, bl_len])⟩
   ·rw [if_neg (by rw [r.1]; decide)];have v3 := v2.synN r.2.2.1;have l3 := r.2.2.2;have d3 := r.2.1;generalize SyncD Y.1 nN = Zz at *
    rcases ren_v d3 (by rw [v3.n]; simp [appF, synF]) with r | r
    ·exact .inl ⟨r.1, r.2.1, by omega, _, v3.fs r.2.2.1, .inr (by simp [appF, synF, lenF, bl_len])⟩
    ·refine .inr (.inr ⟨r.1, r.2.1, by omega, ?_⟩);have := v3.ren r.2.2.1
     simpa [appF, synF] using this
section
variable {S : SS} {a b : Fi} {B R N : Nat}
theorem op_dn {D D2 : DS} {put er : Nat} (hd : D.down = true) (hl : D.left = 0) : opD D D2 put er = (D, 16) := by
 have e : spendD D = D := by
  unfold spendD
  rw [hl, if_pos rfl]
  cases D
  simp only at hl
  subst hl
  rfl
 unfold opD
 rw [e, if_pos hd]
theorem write_dn {S : SS} (hd : S.D.down = true) (hl : S.D.left = 0) (fr : ByteArray) : writeS S fr = (S, 16) := by
 have e : wrA S fr = (S, 16) := by
  unfold wrA AppendD
  rw [op_dn hd hl]
 have e2 : wrB S fr = (S, 16) := by
  unfold wrB
  rw [e];exact if_neg (show ¬ (16 : Nat) = 7 by decide)
 unfold writeS
 rw [e2];exact if_pos (show (16 : Nat) ≠ 0 by decide)
end
end Go.Proofs.YtckmlaempffpjaaGreat
