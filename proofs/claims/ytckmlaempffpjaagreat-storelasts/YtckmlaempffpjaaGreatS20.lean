/-
 replay.
-/
import Derived.Test.YtckmlaempffpjaaGreatSV
namespace Go.Proofs.YtckmlaempffpjaaGreat
open Go.RowKit

theorem perm_q (a b c q : Nat × TypeId × Array Value) (L : BL) : (a :: b :: c :: q :: L).Perm (q :: a :: b :: c :: L) := List.perm_middle (l₁ := [a, b, c]) (a := q) (l₂ := L)
theorem perm_3 (b c q : Nat × TypeId × Array Value) (L : BL) : (b :: c :: q :: L).Perm (q :: b :: c :: L) := List.perm_middle (l₁ := [b, c]) (a := q) (l₂ := L)
theorem HA.backR {z : Base} {q a b c : Nat × TypeId × Array Value} {A L : BL} {w : World} (h : HA z (q :: a :: b :: c :: (A ++ L)) w) : HA z (b :: c :: q :: L) w := by
 have h1 : HA z (q :: b :: c :: L) w := h.sub (List.Sublist.cons_cons _ (List.Sublist.cons _ (List.Sublist.cons_cons _ (List.Sublist.cons_cons _ (List.sublist_append_right _ _)))))
 exact h1.perm (perm_3 b c q L).symm
/-- a store that is given up: the map and the cell are there, whatever they say -/
def RHX (w0 : World) (m : Nat × MO) (M : ML) (q dq r : Nat) (L : BL) (w : World) : Prop := ∃ rows rs nx, rws rs = rows ∧ RK rs nx ∧ HA ⟨w0, m :: (r, .mp (eR rs) nx) :: M⟩ ((q, 73, scell dq r (laidR rows) 0) :: L) w
set_option linter.unusedVariables false in
set_option maxRecDepth 100000 in
set_option maxHeartbeats 4000000 in
theorem replay_any {w0 : World} {m : Nat × MO} {M : ML} {q dq r : Nat} {L : BL} {w : World} (h : RH w0 m M q dq r [] 0 L w) (log : ByteArray) (hs : log.size ≤ 1000000000) :
  Calls Tryz.prog 44 #[pt q, .string log] w fun e w' => ((rplB log).2.2 = true ∧ e = .returned (iN .i64 0) ∧ RH w0 m M q dq r (rplB log).1 (log.size - (rplB log).2.1.length) L w') ∨ ((rplB log).2.2 = false ∧ e = .returned (iN .i64 4) ∧ RHX w0 m M q dq r L w') := by
 obtain ⟨rs0, nx0, h1, hK, H0⟩ := h
 obtain ⟨RR, hRR⟩ : ∃ RR, rplF (log.size + 1) [] (bl log) = RR := ⟨_, rfl⟩
 have hrb9 : rplB log = RR := hRR
 go_enter Tryz.func44, Tryz.ntmps44
 refine wp_seq ?_
 refine wl_region ?_
 refine zwv (iN .i64 0) ?_
 refine wl_nil ?_
 refine then_at rfl ?_
 refine wp_seq ?_
 refine wl_region ?_
 refine zwv (.string log) ?_
 refine wl_callx (by kernel_rfl) enter90 #[.string log] (by kernel_rfl) (New_h H0 log hs) ?_
 rintro _ w1 ⟨b, d, cur, v0, rfl, hS0, hN0⟩
 refine ⟨_, rfl, ?_⟩
 have h2 : HA ⟨w0, m :: (r, .mp (eR rs0) nx0) :: M⟩ ((b, 171, #[.bool true, v0]) :: (d, 5, bc cur) :: (q, 73, scell dq r ((laidR [])) 0) :: L) w1 := hN0
 refine zwv (.pointer (some ⟨b, 0, none⟩)) ?_
 refine wl_nil ?_
 refine then_at rfl ?_
 refine wp_seq ?_
 refine wp_block ?_
 refine wp_while (fun mq A w' => ∃ (n : Nat) (rows : List Rw) (us : List UInt8) (v : Value) (rs : List Re) (nx : Nat) (u3 : Nat → Value), mq = n + 1 ∧ A = ⟨(pt q :: .string log :: un :: un :: u3 4 :: pt b :: u3 6 :: u3 7 :: u3 8 :: u3 9 :: .string log :: pt b :: u3 12 :: u3 13 :: u3 14 :: u3 15 :: u3 16 :: u3 17 :: u3 18 :: u3 19 :: u3 20 :: u3 21 :: u3 22 :: u3 23 :: u3 24 :: u3 25 :: u3 26 :: u3 27 :: u3 28 :: List.replicate 8 un).toArray, []⟩ ∧ rplF n rows us = RR ∧ us.length < n ∧ laidR rows + us.length ≤ log.size ∧ rws rs = rows ∧ RK rs nx ∧ RdS d cur v us ∧ HA ⟨w0, m :: (r, .mp (eR rs) nx) :: M⟩ ((b, 171, #[.bool true, v]) :: (d, 5, bc cur) :: (q, 73, scell dq r (laidR rows) 0) :: L) w') (log.size + 1 + 1) ?_ ?_
 ·exact ⟨log.size + 1, [], bl log, v0, rs0, nx0, fun ii => (([(4, iN .i64 0), (6, undef), (7, undef), (8, undef), (9, undef), (12, undef), (13, undef), (14, undef), (15, undef), (16, undef), (17, undef), (18, undef), (19, undef), (20, undef), (21, undef), (22, undef), (23, undef), (24, undef), (25, undef), (26, undef), (27, undef), (28, undef)] : List (Nat × Value)).find? (·.1 == ii)).elim undef (·.2), rfl, by kernel_rfl, hRR, by rw [bl_len]; omega, by rw [bl_len]; show 0 + _ ≤ _; omega, h1, hK, hS0, h2⟩
 rintro _ _ w4 ⟨n, rows, us, v, rs, nx, u3, rfl, rfl, hR1, hlt, hbd, h1, hK, hS, hL⟩
 rcases n with _ | n
 ·omega
 rw [rplF] at hR1
 refine wp_block ?_
 refine wp_seq ?_
 refine wl_region ?_
 refine zwv (.pointer (some ⟨b, 0, none⟩)) ?_
 refine wl_callx (by kernel_rfl) enter91 #[.pointer (some ⟨b, 0, none⟩), iN .i64 9223372036854775807] (by kernel_rfl) (Text_any hS hL MX (by decide)) ?_
 rintro _ w5 ⟨rfl, v2, hS2, hT2⟩
 refine ⟨_, rfl, ?_⟩
 have h6 : HA ⟨w0, m :: (r, .mp (eR rs) nx) :: M⟩ ((b, 171, #[.bool true, v2]) :: (d, 5, bc cur) :: (q, 73, scell dq r ((laidR rows)) 0) :: L) w5 := hT2
 refine zwv (.tuple #[.string ((nxt MX us).1), .bool ((nxt MX us).2.1)]) ?_
 refine zwv (.string ((nxt MX us).1)) ?_
 refine zwv (.bool ((nxt MX us).2.1)) ?_
 refine zwv (.string ((nxt MX us).1)) ?_
 refine zwv (.bool ((nxt MX us).2.1)) ?_
 refine wl_nil ?_
 refine then_at rfl ?_
 refine wp_seq ?_
 refine wp_seq ?_
 cases hwh : (nxt MX us).2.1
 ·refine wl_region ?_
  refine zwv (.bool false) ?_
  refine zwv (.bool true) ?_
  refine wl_nil ?_
  rw [if_pos hwh] at hR1
  rw [nxt_no hwh] at hS2
  refine then_at rfl ?_
  refine wp_cond_true (by kernel_rfl) ?_
  refine wp_exit ?_
  repeat first | refine then_exit ?_ | refine block_exit ?_ | refine block_exit_ne (by decide) ?_
  refine then_at rfl ?_
  refine wp_seq ?_
  refine wl_region ?_
  refine zwv (.pointer (some ⟨q, 0, none⟩)) ?_
  refine zwv (.string log) ?_
  refine zwx (iN .i64 log.size) (run_len (s := log) (by kernel_rfl)) ?_
  refine zwv (.pointer (some ⟨b, 0, none⟩)) ?_
  refine wl_call (v := iN .i64 us.length) h6 (by kernel_rfl) enter93 #[.pointer (some ⟨b, 0, none⟩)] (by kernel_rfl) (Left_h hS2 h6) ?_
  intro w7 h8
  refine zwx (iN .i64 (log.size - us.length)) (run_sub (k := .i64) (a := log.size) (b := us.length) (by kernel_rfl) (by kernel_rfl) (by first | omega | (simp only [top]; omega)) (by first | omega | (simp only [top]; omega))) ?_
  refine zwv (.pointer (some ⟨q, 0, none⟩)) ?_
  refine zwv (.pointer (some ⟨q, 3, none⟩)) ?_
  refine wl_putv (v := iN .i64 (log.size - us.length)) h8 2 rfl 3 (by show 3 < 4; decide) (by kernel_rfl) (fun w => Tryz.sizeOf3 w) (by kernel_rfl) (by kernel_rfl) (by kernel_rfl) ?_
  intro w9 (h10 : HA ⟨w0, m :: (r, .mp (eR rs) nx) :: M⟩ ((b, 171, #[.bool true, v2]) :: (d, 5, bc cur) :: (q, 73, #[.pointer (some ⟨dq, 0, none⟩), .map (some r), iN .i64 ((laidR rows)), iN .i64 (log.size - us.length)]) :: L) w9)
  refine wl_nil ?_
  refine then_at rfl ?_
  refine wp_seq ?_
  refine wl_region ?_
  refine zwv (iN .i64 0) ?_
  refine wl_nil ?_
  refine then_at rfl ?_
  refine wp_ret ?_
  repeat first | refine then_ret ?_ | refine block_ret ?_
  exact bodyPost_ret (v := iN .i64 0) (by kernel_rfl) rfl (by rw [hrb9, ← hR1]; exact .inl ⟨rfl, rfl, rs, nx, h1, hK, by have h9 := h10.perm (perm_3 _ _ _ L); exact h9.sub (List.Sublist.cons_cons _ (List.Sublist.cons _ (List.Sublist.cons _ (List.Sublist.refl _))))⟩)
 ·refine wl_region ?_
  refine zwv (.bool true) ?_
  refine zwv (.bool false) ?_
  refine wl_nil ?_
  rw [if_neg (by rw [hwh]; decide)] at hR1
  have hnl := nxt_len hwh
  refine then_at rfl ?_
  refine wp_cond_false (by kernel_rfl) ?_
  refine wp_skip ?_
  refine then_at rfl ?_
  refine wp_seq ?_
  cases hok : okB (pdB (bl (nxt MX us).1))
  ·rw [if_pos hok] at hR1
   refine wl_region ?_
   refine zwv (.string ((nxt MX us).1)) ?_
   refine wl_call (v := .tuple #[.agg #[.slice none 0 0, .slice none 0 0], .bool false]) h6 (by kernel_rfl) enter92 #[.string ((nxt MX us).1)] (by kernel_rfl) (changeOf_no _ (by omega) w5 hok) ?_
   intro w11 h12
   refine zwv (.tuple #[.agg #[.slice none 0 0, .slice none 0 0], .bool false]) ?_
   refine zwv (.agg #[.slice none 0 0, .slice none 0 0]) ?_
   refine zwv (.bool false) ?_
   refine wl_make (c := #[.slice none 0 0, .slice none 0 0]) h12 100 (by kernel_rfl) (by kernel_rfl) ?_
   intro q13 w14 (h15 : HA ⟨w0, m :: (r, .mp (eR rs) nx) :: M⟩ ((q13, 100, #[.slice none 0 0, .slice none 0 0]) :: (b, 171, #[.bool true, v2]) :: (d, 5, bc cur) :: (q, 73, scell dq r ((laidR rows)) 0) :: L) w14)
   refine wl_fill (c' := #[.slice none 0 0, .slice none 0 0]) h15 0 rfl (by kernel_rfl) (by kernel_rfl) (by kernel_rfl) rfl (by kernel_rfl) (by kernel_rfl) ?_
   intro w16 (h17 : HA ⟨w0, m :: (r, .mp (eR rs) nx) :: M⟩ ((q13, 100, #[.slice none 0 0, .slice none 0 0]) :: (b, 171, #[.bool true, v2]) :: (d, 5, bc cur) :: (q, 73, scell dq r ((laidR rows)) 0) :: L) w16)
   refine zwv (.bool false) ?_
   refine wl_nil ?_
   refine then_at rfl ?_
   refine wp_seq ?_
   refine wp_seq ?_
   refine wl_region ?_
   refine zwv (.bool false) ?_
   refine zwv (.bool true) ?_
   refine wl_nil ?_
   refine then_at rfl ?_
   refine wp_cond_true (by kernel_rfl) ?_
   refine wp_seq ?_
   refine wl_region ?_
   refine zwv (iN .i64 4) ?_
   refine wl_nil ?_
   refine then_at rfl ?_
   refine wp_ret ?_
   repeat first | refine then_ret ?_ | refine block_ret ?_
   exact bodyPost_ret (v := iN .i64 4) (by kernel_rfl) rfl (by rw [hrb9, ← hR1]; exact .inr ⟨rfl, rfl, rows, rs, nx, h1, hK, (h17.perm (perm_q _ _ _ _ L)).sub (List.Sublist.cons_cons _ (List.Sublist.cons _ (List.Sublist.cons _ (List.Sublist.cons _ (List.Sublist.refl _)))))⟩)
  ·rw [if_neg (by rw [hok]; decide)] at hR1
   have hob := okB_wh hok
   have hrb := ref_ok hob.2.2.2
   have hpl := pd_laid hob.1
   rw [bl_len] at hpl
   have hla := laid_apply rows (pdB (bl (nxt MX us).1)).ps (pdB (bl (nxt MX us).1)).ds
   refine wl_region ?_
   refine zwv (.string ((nxt MX us).1)) ?_
   refine wl_callx (by kernel_rfl) enter92 #[.string ((nxt MX us).1)] (by kernel_rfl) (changeOf_yes _ (by omega) w5 hok) ?_
   rintro _ w18 ⟨po, pc, do_, dc, Lp, Ld, rfl, hRp, hRd, hcc⟩
   refine ⟨_, rfl, ?_⟩
   have h19 : HA ⟨w0, m :: (r, .mp (eR rs) nx) :: M⟩ ((Lp ++ Ld) ++ ([(b, 171, #[.bool true, v2]), (d, 5, bc cur), (q, 73, scell dq r ((laidR rows)) 0)] ++ L)) w18 := HA.join h6 hcc
   have h20 : HA ⟨w0, m :: (r, .mp (eR rs) nx) :: M⟩ ((b, 171, #[.bool true, v2]) :: (d, 5, bc cur) :: (q, 73, scell dq r ((laidR rows)) 0) :: ((Lp ++ Ld) ++ L)) w18 := h19.perm (perm_mv (Lp ++ Ld) [(b, 171, #[.bool true, v2]), (d, 5, bc cur), (q, 73, scell dq r ((laidR rows)) 0)] L)
   refine zwv (.tuple #[.agg #[.slice po (pdB (bl (nxt MX us).1)).ps.length pc, .slice do_ (pdB (bl (nxt MX us).1)).ds.length dc], .bool true]) ?_
   refine zwv (.agg #[.slice po (pdB (bl (nxt MX us).1)).ps.length pc, .slice do_ (pdB (bl (nxt MX us).1)).ds.length dc]) ?_
   refine zwv (.bool true) ?_
   refine wl_make (c := #[.slice none 0 0, .slice none 0 0]) h20 100 (by kernel_rfl) (by kernel_rfl) ?_
   intro q21 w22 (h23 : HA ⟨w0, m :: (r, .mp (eR rs) nx) :: M⟩ ((q21, 100, #[.slice none 0 0, .slice none 0 0]) :: (b, 171, #[.bool true, v2]) :: (d, 5, bc cur) :: (q, 73, scell dq r ((laidR rows)) 0) :: ((Lp ++ Ld) ++ L)) w22)
   refine wl_fill (c' := #[.slice po (pdB (bl (nxt MX us).1)).ps.length pc, .slice do_ (pdB (bl (nxt MX us).1)).ds.length dc]) h23 0 rfl (by kernel_rfl) (by kernel_rfl) (by kernel_rfl) rfl (by kernel_rfl) (by kernel_rfl) ?_
   intro w24 (h25 : HA ⟨w0, m :: (r, .mp (eR rs) nx) :: M⟩ ((q21, 100, #[.slice po (pdB (bl (nxt MX us).1)).ps.length pc, .slice do_ (pdB (bl (nxt MX us).1)).ds.length dc]) :: (b, 171, #[.bool true, v2]) :: (d, 5, bc cur) :: (q, 73, scell dq r ((laidR rows)) 0) :: ((Lp ++ Ld) ++ L)) w24)
   refine zwv (.bool true) ?_
   refine wl_nil ?_
   refine then_at rfl ?_
   refine wp_seq ?_
   refine wp_seq ?_
   refine wl_region ?_
   refine zwv (.bool true) ?_
   refine zwv (.bool false) ?_
   refine wl_nil ?_
   refine then_at rfl ?_
   refine wp_cond_false (by kernel_rfl) ?_
   refine wp_skip ?_
   refine then_at rfl ?_
   refine wl_region ?_
   refine zwv (.pointer (some ⟨q, 0, none⟩)) ?_
   refine wl_load h25 0 rfl (by kernel_rfl) (by kernel_rfl) Tryz.underlying100 rfl (by kernel_rfl) ?_
   have h26 := h25.perm (perm_q _ _ _ _ ((Lp ++ Ld) ++ L))
   refine wl_callx (by kernel_rfl) enter56 #[.pointer (some ⟨q, 0, none⟩), .agg (#[.slice po (pdB (bl (nxt MX us).1)).ps.length pc, .slice do_ (pdB (bl (nxt MX us).1)).ds.length dc])] (by kernel_rfl) (apply_any (L := (q21, 100, #[.slice po (pdB (bl (nxt MX us).1)).ps.length pc, .slice do_ (pdB (bl (nxt MX us).1)).ds.length dc]) :: (b, 171, #[.bool true, v2]) :: (d, 5, bc cur) :: ((Lp ++ Ld) ++ L)) ⟨_, _, h1, hK, h26⟩ (fun M A w H => Row.rows hRp (fun y hy => H.blk y (by simp [hy]))) (fun M A w H => Row.keys hRd (fun y hy => H.blk y (by simp [hy]))) (fun x hx => ⟨by have := hrb.1.k x hx; omega, by have := hrb.1.v x hx; omega⟩) (by have := hrb.1.ct; omega) (by have := hrb.2.1; omega) (by omega)) ?_
   rintro _ w27 ⟨rfl, hap⟩
   refine ⟨_, rfl, ?_⟩
   obtain ⟨rs2, nx2, h21, hK2, hL2⟩ := hap
   have h28 : HA ⟨w0, m :: (r, .mp (eR rs2) nx2) :: M⟩ ((q, 73, scell dq r ((laidR ((applyR rows (pdB (bl (nxt MX us).1)).ps (pdB (bl (nxt MX us).1)).ds)))) 0) :: (q21, 100, #[.slice po (pdB (bl (nxt MX us).1)).ps.length pc, .slice do_ (pdB (bl (nxt MX us).1)).ds.length dc]) :: (b, 171, #[.bool true, v2]) :: (d, 5, bc cur) :: ((Lp ++ Ld) ++ L)) w27 := hL2
   refine wl_nil ?_
   refine block_normal ?_
   exact then_I ⟨n + 1, (by omega), n, (applyR rows (pdB (bl (nxt MX us).1)).ps (pdB (bl (nxt MX us).1)).ds), (nxt MX us).2.2, v2, rs2, nx2, fun ii => (([(4, u3 4), (6, .string ((nxt MX us).1)), (7, .bool true), (8, .pointer (some ⟨q21, 0, none⟩)), (9, .bool true), (12, .tuple #[.string ((nxt MX us).1), .bool true]), (13, .pointer (some ⟨b, 0, none⟩)), (14, .tuple #[.string ((nxt MX us).1), .bool true]), (15, .string ((nxt MX us).1)), (16, .bool true), (17, .bool true), (18, .bool false), (19, .tuple #[.agg #[.slice po (pdB (bl (nxt MX us).1)).ps.length pc, .slice do_ (pdB (bl (nxt MX us).1)).ds.length dc], .bool true]), (20, .string ((nxt MX us).1)), (21, .tuple #[.agg #[.slice po (pdB (bl (nxt MX us).1)).ps.length pc, .slice do_ (pdB (bl (nxt MX us).1)).ds.length dc], .bool true]), (22, .agg #[.slice po (pdB (bl (nxt MX us).1)).ps.length pc, .slice do_ (pdB (bl (nxt MX us).1)).ds.length dc]), (23, .bool true), (24, .bool true), (25, .bool false), (26, .pointer (some ⟨q, 0, none⟩)), (27, .agg (#[.slice po (pdB (bl (nxt MX us).1)).ps.length pc, .slice do_ (pdB (bl (nxt MX us).1)).ds.length dc])), (28, .tuple #[])] : List (Nat × Value)).find? (·.1 == ii)).elim undef (·.2), rfl, by kernel_rfl, hR1, by omega, by omega, h21, hK2, hS2, h28.backR⟩
end Go.Proofs.YtckmlaempffpjaaGreat
