/-
 changeOf.
-/
import Derived.Test.YtckmlaempffpjaaGreatGH
namespace Go.Proofs.YtckmlaempffpjaaGreat
open Go.RowKit

theorem okB_no {p : Pd} (h : p.wh = false ∨ 0 < p.left.length ∨ p.ps.length + p.ds.length = 0 ∨ refR p.ps p.ds ≠ 0) : okB p = false := by
 unfold okB
 rcases h with h | h | h | h
 ·rw [h]; rfl
 ·rw [decide_eq_false (p := p.left.length = 0) (by omega), Bool.and_false]; rfl
 ·rw [decide_eq_false (p := p.ps.length + p.ds.length ≠ 0) (by omega), Bool.and_false]; rfl
 ·rw [decide_eq_false (p := refR p.ps p.ds = 0) h, Bool.and_false]
theorem okB_yes {p : Pd} (h1 : p.wh = true) (h2 : ¬ 0 < p.left.length) (h3 : ¬ p.ps.length + p.ds.length = 0) (h4 : ¬ refR p.ps p.ds ≠ 0) : okB p = true := by
 unfold okB
 rw [h1, decide_eq_true (p := p.left.length = 0) (by omega), decide_eq_true (p := p.ps.length + p.ds.length ≠ 0) h3, decide_eq_true (p := refR p.ps p.ds = 0) (Decidable.not_not.1 h4)]; rfl
theorem perm6 {α : Type} (a b c d e f : α) : [a, b, c, d, e, f].Perm [d, e, c, b, a, f] := by
 have h1 : [a, b, c, d, e].Perm [d, e, c, b, a] := (List.reverse_perm [a, b, c, d, e]).symm.trans (List.Perm.swap d e [c, b, a])
 exact h1.append_right [f]
theorem run_sub1u {ρ : Operand → Value} {x y : Operand} {w : World} {dst : Option Tmp} {T T2 ty : TypeId} {pos : String} {aft : Array Edge} {gd : Option (Nat × Bool)} {P : Program} {n : Nat} (hx : ρ x = iN .u64 (n + 1)) (hy : ρ y = iN .u64 1) (hn : n < 65536 := by omega) : (execOp ρ ⟨dst, .binOp .sub T x y T2, ty, pos, aft, gd⟩).run P w = .ok (.value (iN .u64 n)) w := by
 have h := run_sub (k := .u64) (a := n + 1) (b := 1) (P := P) (w := w) (dst := dst) (T := T) (T2 := T2) (ty := ty) (pos := pos) (aft := aft) (gd := gd) hx hy (by omega) (by simp only [top]; omega)
 rw [Nat.add_sub_cancel] at h
 exact h
set_option linter.unusedVariables false in
set_option maxRecDepth 100000 in
set_option maxHeartbeats 8000000 in
theorem changeOf_any (s : ByteArray) (hs : s.size ≤ 1000000000) (w : World) :
  Calls Tryz.prog 92 #[.string s] w fun e w' => (okB (pdB (bl s)) = true ∧ ∃ po pc do_ dc Lp Ld, e = .returned (.tuple #[.agg #[.slice po (pdB (bl s)).ps.length pc, .slice do_ (pdB (bl s)).ds.length dc], .bool true]) ∧ Row 64 2 (.slice po (pdB (bl s)).ps.length pc) (pdB (bl s)).ps.length (rcl (pdB (bl s)).ps) Lp ∧ Row 9 1 (.slice do_ (pdB (bl s)).ds.length dc) (pdB (bl s)).ds.length (scl (pdB (bl s)).ds) Ld ∧ HA (bs w) (Lp ++ Ld) w') ∨ (okB (pdB (bl s)) = false ∧ e = .returned (.tuple #[.agg #[.slice none 0 0, .slice none 0 0], .bool false]) ∧ Below w.heap.size w w') := by
 have H0 := HA.start w
 go_enter Tryz.func92, Tryz.ntmps92
 refine wp_seq ?_
 refine wl_region ?_
 refine wl_make (c := #[.slice none 0 0, .slice none 0 0]) H0 100 (by kernel_rfl) (by kernel_rfl) ?_
 intro q1 w2 (h3 : HA (bs w) [(q1, 100, #[.slice none 0 0, .slice none 0 0])] w2)
 refine zwv (.bool false) ?_
 refine wl_nil ?_
 refine then_at rfl ?_
 refine wp_seq ?_
 refine wl_region ?_
 refine zwv (.string s) ?_
 refine wl_callx (by kernel_rfl) enter90 #[.string s] (by kernel_rfl) (New_h h3 s hs) ?_
 rintro _ w4 ⟨b, d, cur, v0, rfl, hS0, hN0⟩
 refine ⟨_, rfl, ?_⟩
 have h5 : HA (bs w) [(b, 171, #[.bool true, v0]), (d, 5, bc cur), (q1, 100, #[.slice none 0 0, .slice none 0 0])] w4 := hN0
 refine wl_make (c := #[.pointer none]) h5 141 (by kernel_rfl) (by kernel_rfl) ?_
 intro q6 w7 (h8 : HA (bs w) [(q6, 141, #[.pointer none]), (b, 171, #[.bool true, v0]), (d, 5, bc cur), (q1, 100, #[.slice none 0 0, .slice none 0 0])] w7)
 refine wl_make (c := #[.bool false]) h8 4 (by kernel_rfl) (by kernel_rfl) ?_
 intro q9 w10 (h11 : HA (bs w) [(q9, 4, #[.bool false]), (q6, 141, #[.pointer none]), (b, 171, #[.bool true, v0]), (d, 5, bc cur), (q1, 100, #[.slice none 0 0, .slice none 0 0])] w10)
 refine wl_putv (v := .pointer (some ⟨b, 0, none⟩)) h11 1 rfl 0 (by show 0 < 1; decide) (by kernel_rfl) (fun w => Tryz.sizeOf141 w) (by kernel_rfl) (by kernel_rfl) (by kernel_rfl) ?_
 intro w12 (h13 : HA (bs w) [(q9, 4, #[.bool false]), (q6, 141, #[.pointer (some ⟨b, 0, none⟩)]), (b, 171, #[.bool true, v0]), (d, 5, bc cur), (q1, 100, #[.slice none 0 0, .slice none 0 0])] w12)
 refine wl_putv (v := .bool true) h13 0 rfl 0 (by show 0 < 1; decide) (by kernel_rfl) (fun w => Tryz.sizeOf4 w) (by kernel_rfl) (by kernel_rfl) (by kernel_rfl) ?_
 intro w14 (h15 : HA (bs w) [(q9, 4, #[.bool true]), (q6, 141, #[.pointer (some ⟨b, 0, none⟩)]), (b, 171, #[.bool true, v0]), (d, 5, bc cur), (q1, 100, #[.slice none 0 0, .slice none 0 0])] w14)
 refine wl_nil ?_
 refine then_at rfl ?_
 refine wp_seq ?_
 refine wl_region ?_
 refine zwv (.func (.func 126) #[] #[.pointer (some ⟨q6, 0, none⟩), .pointer (some ⟨q9, 0, none⟩)]) ?_
 refine zwv (.func (.func 126) #[] #[.pointer (some ⟨q6, 0, none⟩), .pointer (some ⟨q9, 0, none⟩)]) ?_
 refine wl_nil ?_
 refine then_at rfl ?_
 refine wp_seq ?_
 refine wl_region ?_
 refine zwv (.func (.func 127) #[] #[.pointer (some ⟨q6, 0, none⟩), .pointer (some ⟨q9, 0, none⟩)]) ?_
 refine zwv (.func (.func 127) #[] #[.pointer (some ⟨q6, 0, none⟩), .pointer (some ⟨q9, 0, none⟩)]) ?_
 refine wl_nil ?_
 refine then_at rfl ?_
 refine wp_seq ?_
 refine wl_region ?_
 refine wl_make (c := #[.slice none 0 0, .slice none 0 0]) h15 100 (by kernel_rfl) (by kernel_rfl) ?_
 intro q16 w17 (h18 : HA (bs w) [(q16, 100, #[.slice none 0 0, .slice none 0 0]), (q9, 4, #[.bool true]), (q6, 141, #[.pointer (some ⟨b, 0, none⟩)]), (b, 171, #[.bool true, v0]), (d, 5, bc cur), (q1, 100, #[.slice none 0 0, .slice none 0 0])] w17)
 refine wl_nil ?_
 refine then_at rfl ?_
 refine wp_seq ?_
 refine wp_seq ?_
 have h19 := h18.perm (perm6 _ _ _ _ _ _)
 clear h18
 generalize q16 = q8_ at h19 ⊢
 generalize q9 = qw_ at h19 ⊢
 generalize q6 = qr_ at h19 ⊢
 generalize q1 = q2_ at h19 ⊢
 generalize q8_ = q8 at h19 ⊢
 generalize qw_ = qw at h19 ⊢
 generalize qr_ = qr at h19 ⊢
 generalize q2_ = q2 at h19 ⊢
 have h20 : HA (bs w) [(b, 171, #[.bool true, v0]), (d, 5, bc cur), (qr, 141, #[pt b]), (qw, 4, #[.bool true]), (q8, 100, #[.slice none 0 0, .slice none 0 0]), (q2, 100, #[.slice none 0 0, .slice none 0 0])] w17 := h19
 refine wl_region ?_
 refine zwv (.func (.func 127) #[] #[pt qr, pt qw]) ?_
 refine wl_callvx (cap := #[.pointer (some ⟨qr, 0, none⟩), .pointer (some ⟨qw, 0, none⟩)]) (args := #[.pointer (some ⟨qr, 0, none⟩), .pointer (some ⟨qw, 0, none⟩)]) (by kernel_rfl) enter127 (by kernel_rfl) (by kernel_rfl) (cntC hS0 h20) ?_
 rintro _ w22 ⟨rfl, v21r, hS21, hr21⟩
 refine ⟨_, rfl, ?_⟩
 have h23 : HA (bs w) [(b, 171, #[.bool true, v21r]), (d, 5, bc cur), (qr, 141, #[pt b]), (qw, 4, #[.bool (true && (nxn 2 (bl s)).2.1)]), (q8, 100, #[.slice none 0 0, .slice none 0 0]), (q2, 100, #[.slice none 0 0, .slice none 0 0])] w22 := hr21
 refine zwv (iN .u64 ((nxn 2 (bl s)).1)) ?_
 refine wl_nil ?_
 refine then_at rfl ?_
 obtain ⟨R1, hQ1⟩ : ∃ R1, ppR (nxn 2 (bl s)).1 (nxn 2 (bl s)).2.1 (nxn 2 (bl s)).2.2 [] = R1 := ⟨_, rfl⟩
 refine wp_block ?_
 refine wp_while (fun mq A w' => ∃ (n : Nat) (wh : Bool) (us : List UInt8) (acc : List Rw) (v : Value) (pp : Option Addr) (cp : Nat) (Lp : BL) (u24 : Nat → Value), mq = n + 1 ∧ A = ⟨(.string s :: un :: pt q2 :: .bool false :: pt qr :: pt qw :: .func (.func 126) #[] #[pt qr, pt qw] :: .func (.func 127) #[] #[pt qr, pt qw] :: pt q8 :: iN .u64 n :: u24 10 :: un :: .string s :: pt b :: .func (.func 126) #[] #[pt qr, pt qw] :: .func (.func 127) #[] #[pt qr, pt qw] :: .func (.func 127) #[] #[pt qr, pt qw] :: iN .u64 ((nxn 2 (bl s)).1) :: u24 18 :: u24 19 :: u24 20 :: u24 21 :: u24 22 :: u24 23 :: u24 24 :: u24 25 :: u24 26 :: u24 27 :: u24 28 :: u24 29 :: u24 30 :: u24 31 :: u24 32 :: u24 33 :: u24 34 :: u24 35 :: List.replicate 35 un).toArray, []⟩ ∧ ppR n wh us acc = R1 ∧ acc.length + n ≤ 65536 ∧ RdS d cur v us ∧ Row 64 2 (.slice pp acc.length cp) acc.length (rcl acc) Lp ∧ HA (bs w) ([(b, 171, #[.bool true, v]), (d, 5, bc cur), (qr, 141, #[pt b]), (qw, 4, #[.bool wh]), (q8, 100, #[.slice pp acc.length cp, .slice none 0 0]), (q2, 100, #[.slice none 0 0, .slice none 0 0])] ++ (Lp ++ [])) w') ((nxn 2 (bl s)).1 + 1) ?_ ?_
 ·exact ⟨(nxn 2 (bl s)).1, (true && (nxn 2 (bl s)).2.1), (nxn 2 (bl s)).2.2, [], v21r, none, 0, [], fun ii => (([(10, undef), (18, undef), (19, undef), (20, undef), (21, undef), (22, undef), (23, undef), (24, undef), (25, undef), (26, undef), (27, undef), (28, undef), (29, undef), (30, undef), (31, undef), (32, undef), (33, undef), (34, undef), (35, undef)] : List (Nat × Value)).find? (·.1 == ii)).elim undef (·.2), rfl, by kernel_rfl, by rw [Bool.true_and]; exact hQ1, by have := nxn_lt (bl s); simp only [List.length_nil]; omega, hS21, Row.nil 64 2, h23⟩
 rintro _ _ w25 ⟨n, wh, us, acc, v, pp, cp, Lp, u24, rfl, rfl, hR1, hnl, hS, hRow, hL⟩
 rcases n with _ | n
 ·refine wp_seq ?_
  refine wp_seq ?_
  refine wl_region ?_
  refine zwv (iN .u64 0) ?_
  refine zwx (.bool false) (run_gtr (k := .u64) (a := 0) (b := 0) (by kernel_rfl) (by kernel_rfl) false (by decide)) ?_
  refine zwv (.bool false) ?_
  refine wl_skip (by kernel_rfl) ?_
  refine zwv (.bool false) ?_
  refine wl_nil ?_
  refine then_at rfl ?_
  refine wp_cond_false (by kernel_rfl) ?_
  refine wp_exit ?_
  repeat first | refine then_exit ?_ | refine block_exit ?_ | refine block_exit_ne (by decide) ?_
  refine then_at rfl ?_
  refine wp_seq ?_
  refine wp_seq ?_
  have hR1e : R1 = (wh, us, acc) := hR1.symm.trans (by unfold ppR; rfl)
  rw [hR1e] at hQ1
  clear hR1e hR1
  refine wl_region ?_
  refine zwv (.func (.func 127) #[] #[pt qr, pt qw]) ?_
  refine wl_callvx (cap := #[.pointer (some ⟨qr, 0, none⟩), .pointer (some ⟨qw, 0, none⟩)]) (args := #[.pointer (some ⟨qr, 0, none⟩), .pointer (some ⟨qw, 0, none⟩)]) (by kernel_rfl) enter127 (by kernel_rfl) (by kernel_rfl) (cntC hS hL) ?_
  rintro _ w27 ⟨rfl, v26r, hS26, hr26⟩
  refine ⟨_, rfl, ?_⟩
  have h28 : HA (bs w) ((b, 171, #[.bool true, v26r]) :: (d, 5, bc cur) :: (qr, 141, #[pt b]) :: (qw, 4, #[.bool (wh && (nxn 2 us).2.1)]) :: (q8, 100, #[.slice pp acc.length cp, .slice none 0 0]) :: (q2, 100, #[.slice none 0 0, .slice none 0 0]) :: (Lp ++ [])) w27 := hr26
  refine zwv (iN .u64 ((nxn 2 us).1)) ?_
  refine wl_nil ?_
  refine then_at rfl ?_
  obtain ⟨R2, hQ2⟩ : ∃ R2, pdR (nxn 2 us).1 (wh && (nxn 2 us).2.1) (nxn 2 us).2.2 [] = R2 := ⟨_, rfl⟩
  refine wp_block ?_
  refine wp_while (fun mq A w' => ∃ (m : Nat) (wi : Bool) (ur : List UInt8) (acd : List ByteArray) (v : Value) (pd : Option Addr) (cd : Nat) (Ld : BL) (u29 : Nat → Value), mq = m + 1 ∧ A = ⟨(.string s :: un :: pt q2 :: .bool false :: pt qr :: pt qw :: .func (.func 126) #[] #[pt qr, pt qw] :: .func (.func 127) #[] #[pt qr, pt qw] :: pt q8 :: iN .u64 0 :: u24 10 :: iN .u64 m :: .string s :: pt b :: .func (.func 126) #[] #[pt qr, pt qw] :: .func (.func 127) #[] #[pt qr, pt qw] :: .func (.func 127) #[] #[pt qr, pt qw] :: iN .u64 ((nxn 2 (bl s)).1) :: iN .u64 0 :: .bool false :: .bool false :: un :: .bool false :: u24 23 :: u24 24 :: u24 25 :: u24 26 :: u24 27 :: u24 28 :: u24 29 :: u24 30 :: u24 31 :: u24 32 :: u24 33 :: u24 34 :: u24 35 :: .func (.func 127) #[] #[pt qr, pt qw] :: iN .u64 ((nxn 2 us).1) :: u29 38 :: u29 39 :: u29 40 :: u29 41 :: u29 42 :: u29 43 :: u29 44 :: u29 45 :: u29 46 :: u29 47 :: u29 48 :: u29 49 :: u29 50 :: u29 51 :: List.replicate 19 un).toArray, []⟩ ∧ pdR m wi ur acd = R2 ∧ acd.length + m ≤ 65536 ∧ RdS d cur v ur ∧ Row 9 1 (.slice pd acd.length cd) acd.length (scl acd) Ld ∧ HA (bs w) ([(b, 171, #[.bool true, v]), (d, 5, bc cur), (qr, 141, #[pt b]), (qw, 4, #[.bool wi]), (q8, 100, #[.slice pp acc.length cp, .slice pd acd.length cd]), (q2, 100, #[.slice none 0 0, .slice none 0 0])] ++ (Ld ++ (Lp ++ []))) w') ((nxn 2 us).1 + 1) ?_ ?_
  ·exact ⟨(nxn 2 us).1, (wh && (nxn 2 us).2.1), (nxn 2 us).2.2, [], v26r, none, 0, [], fun ii => (([(38, undef), (39, undef), (40, undef), (41, undef), (42, undef), (43, undef), (44, undef), (45, undef), (46, undef), (47, undef), (48, undef), (49, undef), (50, undef), (51, undef)] : List (Nat × Value)).find? (·.1 == ii)).elim undef (·.2), rfl, by kernel_rfl, hQ2, by have := nxn_lt us; simp only [List.length_nil]; omega, hS26, Row.nil 9 1, h28⟩
  rintro _ _ w30 ⟨m, wi, ur, acd, v, pd, cd, Ld, u29, rfl, rfl, hR2, hnl2, hS, hRowd, hL⟩
  rcases m with _ | m
  ·refine wp_seq ?_
   refine wp_seq ?_
   refine wl_region ?_
   refine zwv (iN .u64 0) ?_
   refine zwx (.bool false) (run_gtr (k := .u64) (a := 0) (b := 0) (by kernel_rfl) (by kernel_rfl) false (by decide)) ?_
   refine zwv (.bool false) ?_
   refine wl_skip (by kernel_rfl) ?_
   refine zwv (.bool false) ?_
   refine wl_nil ?_
   refine then_at rfl ?_
   refine wp_cond_false (by kernel_rfl) ?_
   refine wp_exit ?_
   repeat first | refine then_exit ?_ | refine block_exit ?_ | refine block_exit_ne (by decide) ?_
   refine then_at rfl ?_
   refine wp_seq ?_
   refine wp_seq ?_
   have hR2e : R2 = (wi, ur, acd) := hR2.symm.trans (by unfold pdR; rfl)
   rw [hR2e] at hQ2
   have hpd : pdB (bl s) = ⟨wi, acc, acd, ur⟩ := by simp only [pdB, hQ1, hQ2]
   have hPk : RowsAt _ pp acc := hRow.rows (fun y hy => hL.blk y (by simp [hy]))
   have hDk : KeysAt _ pd acd := hRowd.keys (fun y hy => hL.blk y (by simp [hy]))
   cases wi
   ·refine wl_region ?_
    refine zwx (.bool false) (run_load1 (fun w => Tryz.isAgg4 w) (by kernel_rfl) (((hL.get 3 rfl).cell 0).trans rfl)) ?_
    refine zwv (.bool true) ?_
    refine zwv (.bool true) ?_
    refine wl_skip (by kernel_rfl) ?_
    refine wl_skip (by kernel_rfl) ?_
    refine wl_skip (by kernel_rfl) ?_
    refine zwv (.bool true) ?_
    refine zwv (.bool true) ?_
    refine wl_skip (by kernel_rfl) ?_
    refine wl_skip (by kernel_rfl) ?_
    refine wl_skip (by kernel_rfl) ?_
    refine zwv (.bool true) ?_
    refine zwv (.bool true) ?_
    refine wl_skip (by kernel_rfl) ?_
    refine wl_skip (by kernel_rfl) ?_
    refine wl_skip (by kernel_rfl) ?_
    refine zwv (.bool true) ?_
    refine wl_nil ?_
    refine then_at rfl ?_
    refine wp_cond_true (by kernel_rfl) ?_
    refine wp_seq ?_
    refine wl_region ?_
    refine zwv (.agg #[.slice none 0 0, .slice none 0 0]) ?_
    refine wl_fill (c' := #[.slice none 0 0, .slice none 0 0]) hL 5 rfl (by kernel_rfl) (by kernel_rfl) (by kernel_rfl) rfl (by kernel_rfl) (by kernel_rfl) ?_
    intro w31 (h32 : HA (bs w) ((b, 171, #[.bool true, v]) :: (d, 5, bc cur) :: (qr, 141, #[pt b]) :: (qw, 4, #[.bool false]) :: (q8, 100, #[.slice pp acc.length cp, .slice pd acd.length cd]) :: (q2, 100, #[.slice none 0 0, .slice none 0 0]) :: (Ld ++ (Lp ++ []))) w31)
    refine zwv (.bool false) ?_
    refine wl_nil ?_
    refine then_at rfl ?_
    refine wp_ret ?_
    repeat first | refine then_ret ?_ | refine block_ret ?_
    exact bodyPost_ret (v := .tuple #[.agg (#[.slice none 0 0, .slice none 0 0]), .bool false]) (res_cell_tmp (p := 2) (r := 3) (by kernel_rfl) (by kernel_rfl) (by kernel_rfl) (h32.get 5 rfl) Tryz.underlying100 rfl (by kernel_rfl)) rfl (.inr ⟨by rw [hpd]; exact okB_no (.inl rfl), rfl, h32.old.old⟩)
   ·by_cases hlf : 0 < ur.length
    ·refine wl_region ?_
     refine zwx (.bool true) (run_load1 (fun w => Tryz.isAgg4 w) (by kernel_rfl) (((hL.get 3 rfl).cell 0).trans rfl)) ?_
     refine zwv (.bool false) ?_
     refine zwv (.bool false) ?_
     refine zwx (.pointer (some ⟨b, 0, none⟩)) (run_load1 (fun w => Tryz.isAgg141 w) (by kernel_rfl) (((hL.get 2 rfl).cell 0).trans rfl)) ?_
     refine wl_call (v := iN .i64 ur.length) hL (by kernel_rfl) enter93 #[.pointer (some ⟨b, 0, none⟩)] (by kernel_rfl) (Left_h hS hL) ?_
     intro w33 h34
     refine zwx (.bool true) (run_gtr (k := .i64) (a := ur.length) (b := 0) (by kernel_rfl) (by kernel_rfl) true (decide_eq_true hlf)) ?_
     refine zwv (.bool true) ?_
     refine zwv (.bool true) ?_
     refine wl_skip (by kernel_rfl) ?_
     refine wl_skip (by kernel_rfl) ?_
     refine wl_skip (by kernel_rfl) ?_
     refine zwv (.bool true) ?_
     refine zwv (.bool true) ?_
     refine wl_skip (by kernel_rfl) ?_
     refine wl_skip (by kernel_rfl) ?_
     refine wl_skip (by kernel_rfl) ?_
     refine zwv (.bool true) ?_
     refine wl_nil ?_
     refine then_at rfl ?_
     refine wp_cond_true (by kernel_rfl) ?_
     refine wp_seq ?_
     refine wl_region ?_
     refine zwv (.agg #[.slice none 0 0, .slice none 0 0]) ?_
     refine wl_fill (c' := #[.slice none 0 0, .slice none 0 0]) h34 5 rfl (by kernel_rfl) (by kernel_rfl) (by kernel_rfl) rfl (by kernel_rfl) (by kernel_rfl) ?_
     intro w35 (h36 : HA (bs w) ((b, 171, #[.bool true, v]) :: (d, 5, bc cur) :: (qr, 141, #[pt b]) :: (qw, 4, #[.bool true]) :: (q8, 100, #[.slice pp acc.length cp, .slice pd acd.length cd]) :: (q2, 100, #[.slice none 0 0, .slice none 0 0]) :: (Ld ++ (Lp ++ []))) w35)
     refine zwv (.bool false) ?_
     refine wl_nil ?_
     refine then_at rfl ?_
     refine wp_ret ?_
     repeat first | refine then_ret ?_ | refine block_ret ?_
     exact bodyPost_ret (v := .tuple #[.agg (#[.slice none 0 0, .slice none 0 0]), .bool false]) (res_cell_tmp (p := 2) (r := 3) (by kernel_rfl) (by kernel_rfl) (by kernel_rfl) (h36.get 5 rfl) Tryz.underlying100 rfl (by kernel_rfl)) rfl (.inr ⟨by rw [hpd]; exact okB_no (.inr (.inl hlf)), rfl, h36.old.old⟩)
    ·by_cases hct : acc.length + acd.length = 0
     ·refine wl_region ?_
      refine zwx (.bool true) (run_load1 (fun w => Tryz.isAgg4 w) (by kernel_rfl) (((hL.get 3 rfl).cell 0).trans rfl)) ?_
      refine zwv (.bool false) ?_
      refine zwv (.bool false) ?_
      refine zwx (.pointer (some ⟨b, 0, none⟩)) (run_load1 (fun w => Tryz.isAgg141 w) (by kernel_rfl) (((hL.get 2 rfl).cell 0).trans rfl)) ?_
      refine wl_call (v := iN .i64 ur.length) hL (by kernel_rfl) enter93 #[.pointer (some ⟨b, 0, none⟩)] (by kernel_rfl) (Left_h hS hL) ?_
      intro w37 h38
      refine zwx (.bool false) (run_gtr (k := .i64) (a := ur.length) (b := 0) (by kernel_rfl) (by kernel_rfl) false (decide_eq_false hlf)) ?_
      refine zwv (.bool false) ?_
      refine zwv (.bool false) ?_
      refine wl_load h38 4 rfl (by kernel_rfl) (by kernel_rfl) Tryz.underlying100 rfl (by kernel_rfl) ?_
      refine wl_call (v := iN .i64 (acc.length + acd.length)) h38 (by kernel_rfl) enter52 #[.agg (#[.slice pp acc.length cp, .slice pd acd.length cd])] (by kernel_rfl) (count_any (by omega) (by omega) w37) ?_
      intro w39 h40
      refine zwx (.bool true) (run_eqi (k := .i64) (a := acc.length + acd.length) (b := 0) (by kernel_rfl) (by kernel_rfl) true (decide_eq_true hct)) ?_
      refine zwv (.bool true) ?_
      refine zwv (.bool true) ?_
      refine wl_skip (by kernel_rfl) ?_
      refine wl_skip (by kernel_rfl) ?_
      refine wl_skip (by kernel_rfl) ?_
      refine zwv (.bool true) ?_
      refine wl_nil ?_
      refine then_at rfl ?_
      refine wp_cond_true (by kernel_rfl) ?_
      refine wp_seq ?_
      refine wl_region ?_
      refine zwv (.agg #[.slice none 0 0, .slice none 0 0]) ?_
      refine wl_fill (c' := #[.slice none 0 0, .slice none 0 0]) h40 5 rfl (by kernel_rfl) (by kernel_rfl) (by kernel_rfl) rfl (by kernel_rfl) (by kernel_rfl) ?_
      intro w41 (h42 : HA (bs w) ((b, 171, #[.bool true, v]) :: (d, 5, bc cur) :: (qr, 141, #[pt b]) :: (qw, 4, #[.bool true]) :: (q8, 100, #[.slice pp acc.length cp, .slice pd acd.length cd]) :: (q2, 100, #[.slice none 0 0, .slice none 0 0]) :: (Ld ++ (Lp ++ []))) w41)
      refine zwv (.bool false) ?_
      refine wl_nil ?_
      refine then_at rfl ?_
      refine wp_ret ?_
      repeat first | refine then_ret ?_ | refine block_ret ?_
      exact bodyPost_ret (v := .tuple #[.agg (#[.slice none 0 0, .slice none 0 0]), .bool false]) (res_cell_tmp (p := 2) (r := 3) (by kernel_rfl) (by kernel_rfl) (by kernel_rfl) (h42.get 5 rfl) Tryz.underlying100 rfl (by kernel_rfl)) rfl (.inr ⟨by rw [hpd]; exact okB_no (.inr (.inr (.inl hct))), rfl, h42.old.old⟩)
     ·by_cases hrf : refR acc acd ≠ 0
      ·refine wl_region ?_
       refine zwx (.bool true) (run_load1 (fun w => Tryz.isAgg4 w) (by kernel_rfl) (((hL.get 3 rfl).cell 0).trans rfl)) ?_
       refine zwv (.bool false) ?_
       refine zwv (.bool false) ?_
       refine zwx (.pointer (some ⟨b, 0, none⟩)) (run_load1 (fun w => Tryz.isAgg141 w) (by kernel_rfl) (((hL.get 2 rfl).cell 0).trans rfl)) ?_
       refine wl_call (v := iN .i64 ur.length) hL (by kernel_rfl) enter93 #[.pointer (some ⟨b, 0, none⟩)] (by kernel_rfl) (Left_h hS hL) ?_
       intro w43 h44
       refine zwx (.bool false) (run_gtr (k := .i64) (a := ur.length) (b := 0) (by kernel_rfl) (by kernel_rfl) false (decide_eq_false hlf)) ?_
       refine zwv (.bool false) ?_
       refine zwv (.bool false) ?_
       refine wl_load h44 4 rfl (by kernel_rfl) (by kernel_rfl) Tryz.underlying100 rfl (by kernel_rfl) ?_
       refine wl_call (v := iN .i64 (acc.length + acd.length)) h44 (by kernel_rfl) enter52 #[.agg (#[.slice pp acc.length cp, .slice pd acd.length cd])] (by kernel_rfl) (count_any (by omega) (by omega) w43) ?_
       intro w45 h46
       refine zwx (.bool false) (run_eqi (k := .i64) (a := acc.length + acd.length) (b := 0) (by kernel_rfl) (by kernel_rfl) false (decide_eq_false hct)) ?_
       refine zwv (.bool false) ?_
       refine zwv (.bool false) ?_
       refine wl_load h46 4 rfl (by kernel_rfl) (by kernel_rfl) Tryz.underlying100 rfl (by kernel_rfl) ?_
       refine wl_call (v := iN .i64 (refR acc acd)) h46 (by kernel_rfl) enter51 #[.agg (#[.slice pp acc.length cp, .slice pd acd.length cd])] (by kernel_rfl) (refused_any (hRow.rows (fun y hy => h46.blk y (by simp [hy]))) (hRowd.keys (fun y hy => h46.blk y (by simp [hy]))) (by omega) (by omega)) ?_
       intro w47 h48
       refine zwx (.bool true) (run_nei (k := .i64) (a := refR acc acd) (b := 0) (by kernel_rfl) (by kernel_rfl) true (decide_eq_true hrf)) ?_
       refine zwv (.bool true) ?_
       refine wl_nil ?_
       refine then_at rfl ?_
       refine wp_cond_true (by kernel_rfl) ?_
       refine wp_seq ?_
       refine wl_region ?_
       refine zwv (.agg #[.slice none 0 0, .slice none 0 0]) ?_
       refine wl_fill (c' := #[.slice none 0 0, .slice none 0 0]) h48 5 rfl (by kernel_rfl) (by kernel_rfl) (by kernel_rfl) rfl (by kernel_rfl) (by kernel_rfl) ?_
       intro w49 (h50 : HA (bs w) ((b, 171, #[.bool true, v]) :: (d, 5, bc cur) :: (qr, 141, #[pt b]) :: (qw, 4, #[.bool true]) :: (q8, 100, #[.slice pp acc.length cp, .slice pd acd.length cd]) :: (q2, 100, #[.slice none 0 0, .slice none 0 0]) :: (Ld ++ (Lp ++ []))) w49)
       refine zwv (.bool false) ?_
       refine wl_nil ?_
       refine then_at rfl ?_
       refine wp_ret ?_
       repeat first | refine then_ret ?_ | refine block_ret ?_
       exact bodyPost_ret (v := .tuple #[.agg (#[.slice none 0 0, .slice none 0 0]), .bool false]) (res_cell_tmp (p := 2) (r := 3) (by kernel_rfl) (by kernel_rfl) (by kernel_rfl) (h50.get 5 rfl) Tryz.underlying100 rfl (by kernel_rfl)) rfl (.inr ⟨by rw [hpd]; exact okB_no (.inr (.inr (.inr hrf))), rfl, h50.old.old⟩)
      ·refine wl_region ?_
       refine zwx (.bool true) (run_load1 (fun w => Tryz.isAgg4 w) (by kernel_rfl) (((hL.get 3 rfl).cell 0).trans rfl)) ?_
       refine zwv (.bool false) ?_
       refine zwv (.bool false) ?_
       refine zwx (.pointer (some ⟨b, 0, none⟩)) (run_load1 (fun w => Tryz.isAgg141 w) (by kernel_rfl) (((hL.get 2 rfl).cell 0).trans rfl)) ?_
       refine wl_call (v := iN .i64 ur.length) hL (by kernel_rfl) enter93 #[.pointer (some ⟨b, 0, none⟩)] (by kernel_rfl) (Left_h hS hL) ?_
       intro w51 h52
       refine zwx (.bool false) (run_gtr (k := .i64) (a := ur.length) (b := 0) (by kernel_rfl) (by kernel_rfl) false (decide_eq_false hlf)) ?_
       refine zwv (.bool false) ?_
       refine zwv (.bool false) ?_
       refine wl_load h52 4 rfl (by kernel_rfl) (by kernel_rfl) Tryz.underlying100 rfl (by kernel_rfl) ?_
       refine wl_call (v := iN .i64 (acc.length + acd.length)) h52 (by kernel_rfl) enter52 #[.agg (#[.slice pp acc.length cp, .slice pd acd.length cd])] (by kernel_rfl) (count_any (by omega) (by omega) w51) ?_
       intro w53 h54
       refine zwx (.bool false) (run_eqi (k := .i64) (a := acc.length + acd.length) (b := 0) (by kernel_rfl) (by kernel_rfl) false (decide_eq_false hct)) ?_
       refine zwv (.bool false) ?_
       refine zwv (.bool false) ?_
       refine wl_load h54 4 rfl (by kernel_rfl) (by kernel_rfl) Tryz.underlying100 rfl (by kernel_rfl) ?_
       refine wl_call (v := iN .i64 (refR acc acd)) h54 (by kernel_rfl) enter51 #[.agg (#[.slice pp acc.length cp, .slice pd acd.length cd])] (by kernel_rfl) (refused_any (hRow.rows (fun y hy => h54.blk y (by simp [hy]))) (hRowd.keys (fun y hy => h54.blk y (by simp [hy]))) (by omega) (by omega)) ?_
       intro w55 h56
       refine zwx (.bool false) (run_nei (k := .i64) (a := refR acc acd) (b := 0) (by kernel_rfl) (by kernel_rfl) false (decide_eq_false hrf)) ?_
       refine zwv (.bool false) ?_
       refine wl_nil ?_
       refine then_at rfl ?_
       refine wp_cond_false (by kernel_rfl) ?_
       refine wp_skip ?_
       refine then_at rfl ?_
       refine wp_seq ?_
       refine wl_region ?_
       refine wl_load h56 4 rfl (by kernel_rfl) (by kernel_rfl) Tryz.underlying100 rfl (by kernel_rfl) ?_
       refine wl_fill (c' := #[.slice pp acc.length cp, .slice pd acd.length cd]) h56 5 rfl (by kernel_rfl) (by kernel_rfl) (by kernel_rfl) rfl (by kernel_rfl) (by kernel_rfl) ?_
       intro w57 (h58 : HA (bs w) ((b, 171, #[.bool true, v]) :: (d, 5, bc cur) :: (qr, 141, #[pt b]) :: (qw, 4, #[.bool true]) :: (q8, 100, #[.slice pp acc.length cp, .slice pd acd.length cd]) :: (q2, 100, #[.slice pp acc.length cp, .slice pd acd.length cd]) :: (Ld ++ (Lp ++ []))) w57)
       refine zwv (.bool true) ?_
       refine wl_nil ?_
       refine then_at rfl ?_
       refine wp_ret ?_
       repeat first | refine then_ret ?_ | refine block_ret ?_
       exact bodyPost_ret (v := .tuple #[.agg (#[.slice pp acc.length cp, .slice pd acd.length cd]), .bool true]) (res_cell_tmp (p := 2) (r := 3) (by kernel_rfl) (by kernel_rfl) (by kernel_rfl) (h58.get 5 rfl) Tryz.underlying100 rfl (by kernel_rfl)) rfl (.inl ⟨by rw [hpd]; exact okB_yes rfl hlf hct hrf, pp, cp, pd, cd, Lp, Ld, by rw [hpd], by rw [hpd]; exact hRow, by rw [hpd]; exact hRowd, (h58.sub (List.Sublist.cons _ (List.Sublist.cons _ (List.Sublist.cons _ (List.Sublist.cons _ (List.Sublist.cons _ (List.Sublist.cons _ (List.Sublist.refl _)))))))).perm (by rw [List.append_nil]; exact List.perm_append_comm)⟩)
  ·cases wi
   ·refine wp_seq ?_
    refine wp_seq ?_
    refine wl_region ?_
    refine zwv (iN .u64 (m + 1)) ?_
    refine zwx (.bool true) (run_gtr (k := .u64) (a := m + 1) (b := 0) (by kernel_rfl) (by kernel_rfl) true (decide_eq_true (by omega))) ?_
    refine zwv (.bool true) ?_
    refine zwx (.bool false) (run_load1 (fun w => Tryz.isAgg4 w) (by kernel_rfl) (((hL.get 3 rfl).cell 0).trans rfl)) ?_
    refine zwv (.bool false) ?_
    refine wl_nil ?_
    refine then_at rfl ?_
    refine wp_cond_false (by kernel_rfl) ?_
    refine wp_exit ?_
    repeat first | refine then_exit ?_ | refine block_exit ?_ | refine block_exit_ne (by decide) ?_
    refine then_at rfl ?_
    refine wp_seq ?_
    refine wp_seq ?_
    have hR2e : R2 = (false, ur, acd) := hR2.symm.trans (by unfold pdR; rfl)
    rw [hR2e] at hQ2
    have hpd : pdB (bl s) = ⟨false, acc, acd, ur⟩ := by simp only [pdB, hQ1, hQ2]
    have hPk : RowsAt _ pp acc := hRow.rows (fun y hy => hL.blk y (by simp [hy]))
    have hDk : KeysAt _ pd acd := hRowd.keys (fun y hy => hL.blk y (by simp [hy]))
    refine wl_region ?_
    refine zwx (.bool false) (run_load1 (fun w => Tryz.isAgg4 w) (by kernel_rfl) (((hL.get 3 rfl).cell 0).trans rfl)) ?_
    refine zwv (.bool true) ?_
    refine zwv (.bool true) ?_
    refine wl_skip (by kernel_rfl) ?_
    refine wl_skip (by kernel_rfl) ?_
    refine wl_skip (by kernel_rfl) ?_
    refine zwv (.bool true) ?_
    refine zwv (.bool true) ?_
    refine wl_skip (by kernel_rfl) ?_
    refine wl_skip (by kernel_rfl) ?_
    refine wl_skip (by kernel_rfl) ?_
    refine zwv (.bool true) ?_
    refine zwv (.bool true) ?_
    refine wl_skip (by kernel_rfl) ?_
    refine wl_skip (by kernel_rfl) ?_
    refine wl_skip (by kernel_rfl) ?_
    refine zwv (.bool true) ?_
    refine wl_nil ?_
    refine then_at rfl ?_
    refine wp_cond_true (by kernel_rfl) ?_
    refine wp_seq ?_
    refine wl_region ?_
    refine zwv (.agg #[.slice none 0 0, .slice none 0 0]) ?_
    refine wl_fill (c' := #[.slice none 0 0, .slice none 0 0]) hL 5 rfl (by kernel_rfl) (by kernel_rfl) (by kernel_rfl) rfl (by kernel_rfl) (by kernel_rfl) ?_
    intro w59 (h60 : HA (bs w) ((b, 171, #[.bool true, v]) :: (d, 5, bc cur) :: (qr, 141, #[pt b]) :: (qw, 4, #[.bool false]) :: (q8, 100, #[.slice pp acc.length cp, .slice pd acd.length cd]) :: (q2, 100, #[.slice none 0 0, .slice none 0 0]) :: (Ld ++ (Lp ++ []))) w59)
    refine zwv (.bool false) ?_
    refine wl_nil ?_
    refine then_at rfl ?_
    refine wp_ret ?_
    repeat first | refine then_ret ?_ | refine block_ret ?_
    exact bodyPost_ret (v := .tuple #[.agg (#[.slice none 0 0, .slice none 0 0]), .bool false]) (res_cell_tmp (p := 2) (r := 3) (by kernel_rfl) (by kernel_rfl) (by kernel_rfl) (h60.get 5 rfl) Tryz.underlying100 rfl (by kernel_rfl)) rfl (.inr ⟨by rw [hpd]; exact okB_no (.inl rfl), rfl, h60.old.old⟩)
   ·have hk1 := nxt_size 262144 ur
    refine wp_seq ?_
    refine wp_seq ?_
    refine wl_region ?_
    refine zwv (iN .u64 (m + 1)) ?_
    refine zwx (.bool true) (run_gtr (k := .u64) (a := m + 1) (b := 0) (by kernel_rfl) (by kernel_rfl) true (decide_eq_true (by omega))) ?_
    refine zwv (.bool true) ?_
    refine zwx (.bool true) (run_load1 (fun w => Tryz.isAgg4 w) (by kernel_rfl) (((hL.get 3 rfl).cell 0).trans rfl)) ?_
    refine zwv (.bool true) ?_
    refine wl_nil ?_
    refine then_at rfl ?_
    refine wp_cond_true (by kernel_rfl) ?_
    refine wp_skip ?_
    refine then_at rfl ?_
    refine wp_seq ?_
    refine wp_block ?_
    refine wp_region_wx (HA (bs w) [(q8, 100, #[.slice pp acc.length cp, .slice pd acd.length cd])]) (fun AQ w' => ∃ (v63r : Value) (q70 : Nat) (pn73 : Option Addr) (cn73 : Nat) (La73 : BL), AQ = ⟨(.string s :: un :: pt q2 :: .bool false :: pt qr :: pt qw :: .func (.func 126) #[] #[pt qr, pt qw] :: .func (.func 127) #[] #[pt qr, pt qw] :: pt q8 :: iN .u64 0 :: u24 10 :: iN .u64 (m + 1) :: .string s :: pt b :: .func (.func 126) #[] #[pt qr, pt qw] :: .func (.func 127) #[] #[pt qr, pt qw] :: .func (.func 127) #[] #[pt qr, pt qw] :: iN .u64 ((nxn 2 (bl s)).1) :: iN .u64 0 :: .bool false :: .bool false :: un :: .bool false :: u24 23 :: u24 24 :: u24 25 :: u24 26 :: u24 27 :: u24 28 :: u24 29 :: u24 30 :: u24 31 :: u24 32 :: u24 33 :: u24 34 :: u24 35 :: .func (.func 127) #[] #[pt qr, pt qw] :: iN .u64 ((nxn 2 us).1) :: iN .u64 (m + 1) :: .bool true :: .bool true :: .bool true :: .bool true :: u29 43 :: u29 44 :: .pointer (some ⟨q8, 1, none⟩) :: .slice pd acd.length cd :: .func (.func 126) #[] #[pt qr, pt qw] :: .string ((nxt 262144 ur).1) :: .slice (some ⟨q70, 0, none⟩) 1 1 :: .slice pn73 (acd.length + 1) cn73 :: .pointer (some ⟨q8, 1, none⟩) :: List.replicate 19 un).toArray, []⟩ ∧ RdS d cur v63r (nxt 262144 ur).2.2 ∧ Row 9 1 (.slice pn73 (acd.length + 1) cn73) (acd.length + 1) (scl acd ++ [.string ((nxt 262144 ur).1)]) La73 ∧ HA (bs w) ((b, 171, #[.bool true, v63r]) :: (d, 5, bc cur) :: (qr, 141, #[pt b]) :: (qw, 4, #[.bool (true && (nxt 262144 ur).2.1)]) :: (q8, 100, #[.slice pp acc.length cp, .slice pn73 (acd.length + 1) cn73]) :: (q2, 100, #[.slice none 0 0, .slice none 0 0]) :: (La73 ++ (Lp ++ []))) w') 8 (by kernel_rfl) (by kernel_rfl) (by kernel_rfl) (by kernel_rfl) (by kernel_rfl) (hL.drew.sub (List.Sublist.cons _ (List.Sublist.cons _ (List.Sublist.cons _ (List.Sublist.cons _ (List.Sublist.cons_cons _ (List.Sublist.cons _ (List.nil_sublist _)))))))) ?_ ?_
    ·have h61 := hL.drew
     refine wx_pure (i := 0) (.pointer (some ⟨q8, 1, none⟩)) rfl rfl (by kernel_rfl) (by kernel_rfl) (fun _ => (by kernel_rfl)) ?_
     refine wx_val (i := 1) (.slice pd acd.length cd) rfl rfl (by kernel_rfl) (by kernel_rfl) (fun w' h' => run_load1 (fun w => Tryz.isAgg39 w) (by kernel_rfl) (((h'.get 0 rfl).cell 1).trans rfl)) ?_
     refine wx_pure (i := 2) (.func (.func 126) #[] #[pt qr, pt qw]) rfl rfl (by kernel_rfl) (by kernel_rfl) (fun _ => (by kernel_rfl)) ?_
     refine wx_one 3 (by kernel_rfl) ?_
     refine ex_callvx (f := 126) (cap := #[.pointer (some ⟨qr, 0, none⟩), .pointer (some ⟨qw, 0, none⟩)]) (args := #[.pointer (some ⟨qr, 0, none⟩), .pointer (some ⟨qw, 0, none⟩)]) rfl (by kernel_rfl) h61 enter126 (by kernel_rfl) (by kernel_rfl) (fun w64 h65 => textC hS h65) ?_
     rintro w64 h65 _ w66 ⟨rfl, v63r, hS63, hr63⟩
     have h67 : HA (bs w) ((b, 171, #[.bool true, v63r]) :: (d, 5, bc cur) :: (qr, 141, #[pt b]) :: (qw, 4, #[.bool (true && (nxt 262144 ur).2.1)]) :: (q8, 100, #[.slice pp acc.length cp, .slice pd acd.length cd]) :: (q2, 100, #[.slice none 0 0, .slice none 0 0]) :: (Ld ++ (Lp ++ []))) w66 := hr63
     refine ⟨_, rfl, (HA.sub h67 (List.Sublist.cons _ (List.Sublist.cons _ (List.Sublist.cons _ (List.Sublist.cons _ (List.Sublist.cons_cons _ (List.Sublist.cons _ (List.nil_sublist _)))))))), ?_⟩
     refine wx_one 4 (by kernel_rfl) ?_
     refine ex_mksS (c := #[.string ((nxt 262144 ur).1)]) rfl (by kernel_rfl) h67 9 1 1 (fun _ => (by kernel_rfl)) ?_
     intro q70 w68 h69
     refine ⟨(HA.sub h69 (List.Sublist.cons _ (List.Sublist.cons _ (List.Sublist.cons _ (List.Sublist.cons _ (List.Sublist.cons _ (List.Sublist.cons_cons _ (List.Sublist.cons _ (List.nil_sublist _))))))))), ?_⟩
     refine wx_one 5 (by kernel_rfl) ?_
     refine ex_doS rfl (by kernel_rfl) h69 fun w71 h72 => ?_
     obtain ⟨va73, wa73, La73, hrun73, hRa73, ha73⟩ := row_more (t := 39) hRowd (h72.perm (List.Perm.cons _ (perm_mv [(b, 171, #[.bool true, v63r]), (d, 5, bc cur), (qr, 141, #[pt b]), (qw, 4, #[.bool (true && (nxt 262144 ur).2.1)]), (q8, 100, #[.slice pp acc.length cp, .slice pd acd.length cd]), (q2, 100, #[.slice none 0 0, .slice none 0 0])] Ld (Lp ++ [])))) (by decide) (.string { data := #[] }) 16 39 Tryz.underlying39 info9s rfl (by decide) rfl (by kernel_rfl) (by unfold maxLen; omega) (by omega)
     obtain ⟨pn73, cn73, hvn73⟩ := hRa73.form
     subst hvn73
     have h74 : HA (bs w) ((b, 171, #[.bool true, v63r]) :: (d, 5, bc cur) :: (qr, 141, #[pt b]) :: (qw, 4, #[.bool (true && (nxt 262144 ur).2.1)]) :: (q8, 100, #[.slice pp acc.length cp, .slice pd acd.length cd]) :: (q2, 100, #[.slice none 0 0, .slice none 0 0]) :: (La73 ++ (Lp ++ []))) wa73 := ha73.perm (perm_mv [(b, 171, #[.bool true, v63r]), (d, 5, bc cur), (qr, 141, #[pt b]), (qw, 4, #[.bool (true && (nxt 262144 ur).2.1)]), (q8, 100, #[.slice pp acc.length cp, .slice pd acd.length cd]), (q2, 100, #[.slice none 0 0, .slice none 0 0])] La73 (Lp ++ [])).symm
     refine ⟨_, _, run_app_ops (by kernel_rfl) (by kernel_rfl) hrun73, (HA.sub h74 (List.Sublist.cons _ (List.Sublist.cons _ (List.Sublist.cons _ (List.Sublist.cons _ (List.Sublist.cons_cons _ (List.Sublist.cons _ (List.nil_sublist _)))))))), ?_⟩
     refine wx_pure (i := 6) (.pointer (some ⟨q8, 1, none⟩)) rfl rfl (by kernel_rfl) (by kernel_rfl) (fun _ => (by kernel_rfl)) ?_
     refine wx_one 7 (by kernel_rfl) ?_
     refine ex_skip rfl (by kernel_rfl) (by kernel_rfl) h74 fun w75 h76 => ⟨_, run_storev (v := .slice pn73 (acd.length + 1) cn73) (fun w => Tryz.sizeOf39 w) (by kernel_rfl) (by kernel_rfl) (by kernel_rfl) (by rw [(h76.get 4 rfl).cell]; rfl) ((h76.get 4 rfl).free _ (by show 1 < 2; decide)), _, h76.put 4 rfl 1 _, ?_⟩
     have h77 : HA (bs w) ((b, 171, #[.bool true, v63r]) :: (d, 5, bc cur) :: (qr, 141, #[pt b]) :: (qw, 4, #[.bool (true && (nxt 262144 ur).2.1)]) :: (q8, 100, #[.slice pp acc.length cp, .slice pn73 (acd.length + 1) cn73]) :: (q2, 100, #[.slice none 0 0, .slice none 0 0]) :: (La73 ++ (Lp ++ []))) _ := h76.put 4 rfl 1 (.slice pn73 (acd.length + 1) cn73)
     refine wx_end fun w78 hbx _ => ?_
     have h79 := HA.keep _ _ h77 hbx
     exact ⟨v63r, q70, pn73, cn73, La73, by kernel_rfl, hS63, hRa73, h79⟩
    ·rintro _ w80 ⟨v63r, q70, pn73, cn73, La73, rfl, hS63, hRa73, h81⟩
     refine block_normal ?_
     refine then_at rfl ?_
     refine wl_region ?_
     refine zwv (iN .u64 (m + 1)) ?_
     refine zwx (iN .u64 m) (run_sub1u (n := m) (by kernel_rfl) (by kernel_rfl)) ?_
     refine zwv (iN .u64 m) ?_
     refine wl_nil ?_
     exact then_I ⟨m + 1, (by omega), m, (true && (nxt 262144 ur).2.1), _, acd ++ [(nxt 262144 ur).1], v63r, pn73, cn73, La73, fun ii => (([(38, iN .u64 (m + 1)), (39, .bool true), (40, .bool true), (41, .bool true), (42, .bool true), (43, iN .u64 (m + 1)), (44, iN .u64 m), (45, .pointer (some ⟨q8, 1, none⟩)), (46, .slice pd acd.length cd), (47, .func (.func 126) #[] #[pt qr, pt qw]), (48, .string ((nxt 262144 ur).1)), (49, .slice (some ⟨q70, 0, none⟩) 1 1), (50, .slice pn73 (acd.length + 1) cn73), (51, .pointer (some ⟨q8, 1, none⟩))] : List (Nat × Value)).find? (·.1 == ii)).elim undef (·.2), rfl, by kernel_rfl, by rw [Bool.true_and]; exact hR2, by rw [List.length_append, List.length_singleton]; omega, hS63, by rw [scl_snoc, List.length_append, List.length_singleton]; exact hRa73, by rw [List.length_append, List.length_singleton]; exact h81⟩
 ·cases wh
  ·refine wp_seq ?_
   refine wp_seq ?_
   refine wl_region ?_
   refine zwv (iN .u64 (n + 1)) ?_
   refine zwx (.bool true) (run_gtr (k := .u64) (a := n + 1) (b := 0) (by kernel_rfl) (by kernel_rfl) true (decide_eq_true (by omega))) ?_
   refine zwv (.bool true) ?_
   refine zwx (.bool false) (run_load1 (fun w => Tryz.isAgg4 w) (by kernel_rfl) (((hL.get 3 rfl).cell 0).trans rfl)) ?_
   refine zwv (.bool false) ?_
   refine wl_nil ?_
   refine then_at (F := ⟨(.string s :: un :: pt q2 :: .bool false :: pt qr :: pt qw :: .func (.func 126) #[] #[pt qr, pt qw] :: .func (.func 127) #[] #[pt qr, pt qw] :: pt q8 :: iN .u64 (n + 1) :: u24 10 :: un :: .string s :: pt b :: .func (.func 126) #[] #[pt qr, pt qw] :: .func (.func 127) #[] #[pt qr, pt qw] :: .func (.func 127) #[] #[pt qr, pt qw] :: iN .u64 ((nxn 2 (bl s)).1) :: iN .u64 (n + 1) :: .bool true :: .bool true :: .bool false :: .bool false :: u24 23 :: u24 24 :: u24 25 :: u24 26 :: u24 27 :: u24 28 :: u24 29 :: u24 30 :: u24 31 :: u24 32 :: u24 33 :: u24 34 :: u24 35 :: List.replicate 35 un).toArray, []⟩) (by kernel_rfl) ?_
   refine wp_cond_false (by kernel_rfl) ?_
   refine wp_exit ?_
   repeat first | refine then_exit ?_ | refine block_exit ?_ | refine block_exit_ne (by decide) ?_
   refine then_at rfl ?_
   refine wp_seq ?_
   refine wp_seq ?_
   have hR1e : R1 = (false, us, acc) := hR1.symm.trans (by unfold ppR; rfl)
   rw [hR1e] at hQ1
   clear hR1e hR1
   refine wl_region ?_
   refine zwv (.func (.func 127) #[] #[pt qr, pt qw]) ?_
   refine wl_callvx (cap := #[.pointer (some ⟨qr, 0, none⟩), .pointer (some ⟨qw, 0, none⟩)]) (args := #[.pointer (some ⟨qr, 0, none⟩), .pointer (some ⟨qw, 0, none⟩)]) (by kernel_rfl) enter127 (by kernel_rfl) (by kernel_rfl) (cntC hS hL) ?_
   rintro _ w83 ⟨rfl, v82r, hS82, hr82⟩
   refine ⟨_, rfl, ?_⟩
   have h84 : HA (bs w) ((b, 171, #[.bool true, v82r]) :: (d, 5, bc cur) :: (qr, 141, #[pt b]) :: (qw, 4, #[.bool (false && (nxn 2 us).2.1)]) :: (q8, 100, #[.slice pp acc.length cp, .slice none 0 0]) :: (q2, 100, #[.slice none 0 0, .slice none 0 0]) :: (Lp ++ [])) w83 := hr82
   refine zwv (iN .u64 ((nxn 2 us).1)) ?_
   refine wl_nil ?_
   refine then_at rfl ?_
   obtain ⟨R2, hQ2⟩ : ∃ R2, pdR (nxn 2 us).1 (false && (nxn 2 us).2.1) (nxn 2 us).2.2 [] = R2 := ⟨_, rfl⟩
   refine wp_block ?_
   refine wp_while (fun mq A w' => ∃ (m : Nat) (wi : Bool) (ur : List UInt8) (acd : List ByteArray) (v : Value) (pd : Option Addr) (cd : Nat) (Ld : BL) (u85 : Nat → Value), mq = m + 1 ∧ A = ⟨(.string s :: un :: pt q2 :: .bool false :: pt qr :: pt qw :: .func (.func 126) #[] #[pt qr, pt qw] :: .func (.func 127) #[] #[pt qr, pt qw] :: pt q8 :: iN .u64 (n + 1) :: u24 10 :: iN .u64 m :: .string s :: pt b :: .func (.func 126) #[] #[pt qr, pt qw] :: .func (.func 127) #[] #[pt qr, pt qw] :: .func (.func 127) #[] #[pt qr, pt qw] :: iN .u64 ((nxn 2 (bl s)).1) :: iN .u64 (n + 1) :: .bool true :: .bool true :: .bool false :: .bool false :: u24 23 :: u24 24 :: u24 25 :: u24 26 :: u24 27 :: u24 28 :: u24 29 :: u24 30 :: u24 31 :: u24 32 :: u24 33 :: u24 34 :: u24 35 :: .func (.func 127) #[] #[pt qr, pt qw] :: iN .u64 ((nxn 2 us).1) :: u85 38 :: u85 39 :: u85 40 :: u85 41 :: u85 42 :: u85 43 :: u85 44 :: u85 45 :: u85 46 :: u85 47 :: u85 48 :: u85 49 :: u85 50 :: u85 51 :: List.replicate 19 un).toArray, []⟩ ∧ pdR m wi ur acd = R2 ∧ acd.length + m ≤ 65536 ∧ RdS d cur v ur ∧ Row 9 1 (.slice pd acd.length cd) acd.length (scl acd) Ld ∧ HA (bs w) ([(b, 171, #[.bool true, v]), (d, 5, bc cur), (qr, 141, #[pt b]), (qw, 4, #[.bool wi]), (q8, 100, #[.slice pp acc.length cp, .slice pd acd.length cd]), (q2, 100, #[.slice none 0 0, .slice none 0 0])] ++ (Ld ++ (Lp ++ []))) w') ((nxn 2 us).1 + 1) ?_ ?_
   ·exact ⟨(nxn 2 us).1, (false && (nxn 2 us).2.1), (nxn 2 us).2.2, [], v82r, none, 0, [], fun ii => (([(38, undef), (39, undef), (40, undef), (41, undef), (42, undef), (43, undef), (44, undef), (45, undef), (46, undef), (47, undef), (48, undef), (49, undef), (50, undef), (51, undef)] : List (Nat × Value)).find? (·.1 == ii)).elim undef (·.2), rfl, by kernel_rfl, hQ2, by have := nxn_lt us; simp only [List.length_nil]; omega, hS82, Row.nil 9 1, h84⟩
   rintro _ _ w86 ⟨m, wi, ur, acd, v, pd, cd, Ld, u85, rfl, rfl, hR2, hnl2, hS, hRowd, hL⟩
   rcases m with _ | m
   ·refine wp_seq ?_
    refine wp_seq ?_
    refine wl_region ?_
    refine zwv (iN .u64 0) ?_
    refine zwx (.bool false) (run_gtr (k := .u64) (a := 0) (b := 0) (by kernel_rfl) (by kernel_rfl) false (by decide)) ?_
    refine zwv (.bool false) ?_
    refine wl_skip (by kernel_rfl) ?_
    refine zwv (.bool false) ?_
    refine wl_nil ?_
    refine then_at rfl ?_
    refine wp_cond_false (by kernel_rfl) ?_
    refine wp_exit ?_
    repeat first | refine then_exit ?_ | refine block_exit ?_ | refine block_exit_ne (by decide) ?_
    refine then_at rfl ?_
    refine wp_seq ?_
    refine wp_seq ?_
    have hR2e : R2 = (wi, ur, acd) := hR2.symm.trans (by unfold pdR; rfl)
    rw [hR2e] at hQ2
    have hpd : pdB (bl s) = ⟨wi, acc, acd, ur⟩ := by simp only [pdB, hQ1, hQ2]
    have hPk : RowsAt _ pp acc := hRow.rows (fun y hy => hL.blk y (by simp [hy]))
    have hDk : KeysAt _ pd acd := hRowd.keys (fun y hy => hL.blk y (by simp [hy]))
    cases wi
    ·refine wl_region ?_
     refine zwx (.bool false) (run_load1 (fun w => Tryz.isAgg4 w) (by kernel_rfl) (((hL.get 3 rfl).cell 0).trans rfl)) ?_
     refine zwv (.bool true) ?_
     refine zwv (.bool true) ?_
     refine wl_skip (by kernel_rfl) ?_
     refine wl_skip (by kernel_rfl) ?_
     refine wl_skip (by kernel_rfl) ?_
     refine zwv (.bool true) ?_
     refine zwv (.bool true) ?_
     refine wl_skip (by kernel_rfl) ?_
     refine wl_skip (by kernel_rfl) ?_
     refine wl_skip (by kernel_rfl) ?_
     refine zwv (.bool true) ?_
     refine zwv (.bool true) ?_
     refine wl_skip (by kernel_rfl) ?_
     refine wl_skip (by kernel_rfl) ?_
     refine wl_skip (by kernel_rfl) ?_
     refine zwv (.bool true) ?_
     refine wl_nil ?_
     refine then_at rfl ?_
     refine wp_cond_true (by kernel_rfl) ?_
     refine wp_seq ?_
     refine wl_region ?_
     refine zwv (.agg #[.slice none 0 0, .slice none 0 0]) ?_
     refine wl_fill (c' := #[.slice none 0 0, .slice none 0 0]) hL 5 rfl (by kernel_rfl) (by kernel_rfl) (by kernel_rfl) rfl (by kernel_rfl) (by kernel_rfl) ?_
     intro w87 (h88 : HA (bs w) ((b, 171, #[.bool true, v]) :: (d, 5, bc cur) :: (qr, 141, #[pt b]) :: (qw, 4, #[.bool false]) :: (q8, 100, #[.slice pp acc.length cp, .slice pd acd.length cd]) :: (q2, 100, #[.slice none 0 0, .slice none 0 0]) :: (Ld ++ (Lp ++ []))) w87)
     refine zwv (.bool false) ?_
     refine wl_nil ?_
     refine then_at rfl ?_
     refine wp_ret ?_
     repeat first | refine then_ret ?_ | refine block_ret ?_
     exact bodyPost_ret (v := .tuple #[.agg (#[.slice none 0 0, .slice none 0 0]), .bool false]) (res_cell_tmp (p := 2) (r := 3) (by kernel_rfl) (by kernel_rfl) (by kernel_rfl) (h88.get 5 rfl) Tryz.underlying100 rfl (by kernel_rfl)) rfl (.inr ⟨by rw [hpd]; exact okB_no (.inl rfl), rfl, h88.old.old⟩)
    ·by_cases hlf : 0 < ur.length
     ·refine wl_region ?_
      refine zwx (.bool true) (run_load1 (fun w => Tryz.isAgg4 w) (by kernel_rfl) (((hL.get 3 rfl).cell 0).trans rfl)) ?_
      refine zwv (.bool false) ?_
      refine zwv (.bool false) ?_
      refine zwx (.pointer (some ⟨b, 0, none⟩)) (run_load1 (fun w => Tryz.isAgg141 w) (by kernel_rfl) (((hL.get 2 rfl).cell 0).trans rfl)) ?_
      refine wl_call (v := iN .i64 ur.length) hL (by kernel_rfl) enter93 #[.pointer (some ⟨b, 0, none⟩)] (by kernel_rfl) (Left_h hS hL) ?_
      intro w89 h90
      refine zwx (.bool true) (run_gtr (k := .i64) (a := ur.length) (b := 0) (by kernel_rfl) (by kernel_rfl) true (decide_eq_true hlf)) ?_
      refine zwv (.bool true) ?_
      refine zwv (.bool true) ?_
      refine wl_skip (by kernel_rfl) ?_
      refine wl_skip (by kernel_rfl) ?_
      refine wl_skip (by kernel_rfl) ?_
      refine zwv (.bool true) ?_
      refine zwv (.bool true) ?_
      refine wl_skip (by kernel_rfl) ?_
      refine wl_skip (by kernel_rfl) ?_
      refine wl_skip (by kernel_rfl) ?_
      refine zwv (.bool true) ?_
      refine wl_nil ?_
      refine then_at rfl ?_
      refine wp_cond_true (by kernel_rfl) ?_
      refine wp_seq ?_
      refine wl_region ?_
      refine zwv (.agg #[.slice none 0 0, .slice none 0 0]) ?_
      refine wl_fill (c' := #[.slice none 0 0, .slice none 0 0]) h90 5 rfl (by kernel_rfl) (by kernel_rfl) (by kernel_rfl) rfl (by kernel_rfl) (by kernel_rfl) ?_
      intro w91 (h92 : HA (bs w) ((b, 171, #[.bool true, v]) :: (d, 5, bc cur) :: (qr, 141, #[pt b]) :: (qw, 4, #[.bool true]) :: (q8, 100, #[.slice pp acc.length cp, .slice pd acd.length cd]) :: (q2, 100, #[.slice none 0 0, .slice none 0 0]) :: (Ld ++ (Lp ++ []))) w91)
      refine zwv (.bool false) ?_
      refine wl_nil ?_
      refine then_at rfl ?_
      refine wp_ret ?_
      repeat first | refine then_ret ?_ | refine block_ret ?_
      exact bodyPost_ret (v := .tuple #[.agg (#[.slice none 0 0, .slice none 0 0]), .bool false]) (res_cell_tmp (p := 2) (r := 3) (by kernel_rfl) (by kernel_rfl) (by kernel_rfl) (h92.get 5 rfl) Tryz.underlying100 rfl (by kernel_rfl)) rfl (.inr ⟨by rw [hpd]; exact okB_no (.inr (.inl hlf)), rfl, h92.old.old⟩)
     ·by_cases hct : acc.length + acd.length = 0
      ·refine wl_region ?_
       refine zwx (.bool true) (run_load1 (fun w => Tryz.isAgg4 w) (by kernel_rfl) (((hL.get 3 rfl).cell 0).trans rfl)) ?_
       refine zwv (.bool false) ?_
       refine zwv (.bool false) ?_
       refine zwx (.pointer (some ⟨b, 0, none⟩)) (run_load1 (fun w => Tryz.isAgg141 w) (by kernel_rfl) (((hL.get 2 rfl).cell 0).trans rfl)) ?_
       refine wl_call (v := iN .i64 ur.length) hL (by kernel_rfl) enter93 #[.pointer (some ⟨b, 0, none⟩)] (by kernel_rfl) (Left_h hS hL) ?_
       intro w93 h94
       refine zwx (.bool false) (run_gtr (k := .i64) (a := ur.length) (b := 0) (by kernel_rfl) (by kernel_rfl) false (decide_eq_false hlf)) ?_
       refine zwv (.bool false) ?_
       refine zwv (.bool false) ?_
       refine wl_load h94 4 rfl (by kernel_rfl) (by kernel_rfl) Tryz.underlying100 rfl (by kernel_rfl) ?_
       refine wl_call (v := iN .i64 (acc.length + acd.length)) h94 (by kernel_rfl) enter52 #[.agg (#[.slice pp acc.length cp, .slice pd acd.length cd])] (by kernel_rfl) (count_any (by omega) (by omega) w93) ?_
       intro w95 h96
       refine zwx (.bool true) (run_eqi (k := .i64) (a := acc.length + acd.length) (b := 0) (by kernel_rfl) (by kernel_rfl) true (decide_eq_true hct)) ?_
       refine zwv (.bool true) ?_
       refine zwv (.bool true) ?_
       refine wl_skip (by kernel_rfl) ?_
       refine wl_skip (by kernel_rfl) ?_
       refine wl_skip (by kernel_rfl) ?_
       refine zwv (.bool true) ?_
       refine wl_nil ?_
       refine then_at rfl ?_
       refine wp_cond_true (by kernel_rfl) ?_
       refine wp_seq ?_
       refine wl_region ?_
       refine zwv (.agg #[.slice none 0 0, .slice none 0 0]) ?_
       refine wl_fill (c' := #[.slice none 0 0, .slice none 0 0]) h96 5 rfl (by kernel_rfl) (by kernel_rfl) (by kernel_rfl) rfl (by kernel_rfl) (by kernel_rfl) ?_
       intro w97 (h98 : HA (bs w) ((b, 171, #[.bool true, v]) :: (d, 5, bc cur) :: (qr, 141, #[pt b]) :: (qw, 4, #[.bool true]) :: (q8, 100, #[.slice pp acc.length cp, .slice pd acd.length cd]) :: (q2, 100, #[.slice none 0 0, .slice none 0 0]) :: (Ld ++ (Lp ++ []))) w97)
       refine zwv (.bool false) ?_
       refine wl_nil ?_
       refine then_at rfl ?_
       refine wp_ret ?_
       repeat first | refine then_ret ?_ | refine block_ret ?_
       exact bodyPost_ret (v := .tuple #[.agg (#[.slice none 0 0, .slice none 0 0]), .bool false]) (res_cell_tmp (p := 2) (r := 3) (by kernel_rfl) (by kernel_rfl) (by kernel_rfl) (h98.get 5 rfl) Tryz.underlying100 rfl (by kernel_rfl)) rfl (.inr ⟨by rw [hpd]; exact okB_no (.inr (.inr (.inl hct))), rfl, h98.old.old⟩)
      ·by_cases hrf : refR acc acd ≠ 0
       ·refine wl_region ?_
        refine zwx (.bool true) (run_load1 (fun w => Tryz.isAgg4 w) (by kernel_rfl) (((hL.get 3 rfl).cell 0).trans rfl)) ?_
        refine zwv (.bool false) ?_
        refine zwv (.bool false) ?_
        refine zwx (.pointer (some ⟨b, 0, none⟩)) (run_load1 (fun w => Tryz.isAgg141 w) (by kernel_rfl) (((hL.get 2 rfl).cell 0).trans rfl)) ?_
        refine wl_call (v := iN .i64 ur.length) hL (by kernel_rfl) enter93 #[.pointer (some ⟨b, 0, none⟩)] (by kernel_rfl) (Left_h hS hL) ?_
        intro w99 h100
        refine zwx (.bool false) (run_gtr (k := .i64) (a := ur.length) (b := 0) (by kernel_rfl) (by kernel_rfl) false (decide_eq_false hlf)) ?_
        refine zwv (.bool false) ?_
        refine zwv (.bool false) ?_
        refine wl_load h100 4 rfl (by kernel_rfl) (by kernel_rfl) Tryz.underlying100 rfl (by kernel_rfl) ?_
        refine wl_call (v := iN .i64 (acc.length + acd.length)) h100 (by kernel_rfl) enter52 #[.agg (#[.slice pp acc.length cp, .slice pd acd.length cd])] (by kernel_rfl) (count_any (by omega) (by omega) w99) ?_
        intro w101 h102
        refine zwx (.bool false) (run_eqi (k := .i64) (a := acc.length + acd.length) (b := 0) (by kernel_rfl) (by kernel_rfl) false (decide_eq_false hct)) ?_
        refine zwv (.bool false) ?_
        refine zwv (.bool false) ?_
        refine wl_load h102 4 rfl (by kernel_rfl) (by kernel_rfl) Tryz.underlying100 rfl (by kernel_rfl) ?_
        refine wl_call (v := iN .i64 (refR acc acd)) h102 (by kernel_rfl) enter51 #[.agg (#[.slice pp acc.length cp, .slice pd acd.length cd])] (by kernel_rfl) (refused_any (hRow.rows (fun y hy => h102.blk y (by simp [hy]))) (hRowd.keys (fun y hy => h102.blk y (by simp [hy]))) (by omega) (by omega)) ?_
        intro w103 h104
        refine zwx (.bool true) (run_nei (k := .i64) (a := refR acc acd) (b := 0) (by kernel_rfl) (by kernel_rfl) true (decide_eq_true hrf)) ?_
        refine zwv (.bool true) ?_
        refine wl_nil ?_
        refine then_at rfl ?_
        refine wp_cond_true (by kernel_rfl) ?_
        refine wp_seq ?_
        refine wl_region ?_
        refine zwv (.agg #[.slice none 0 0, .slice none 0 0]) ?_
        refine wl_fill (c' := #[.slice none 0 0, .slice none 0 0]) h104 5 rfl (by kernel_rfl) (by kernel_rfl) (by kernel_rfl) rfl (by kernel_rfl) (by kernel_rfl) ?_
        intro w105 (h106 : HA (bs w) ((b, 171, #[.bool true, v]) :: (d, 5, bc cur) :: (qr, 141, #[pt b]) :: (qw, 4, #[.bool true]) :: (q8, 100, #[.slice pp acc.length cp, .slice pd acd.length cd]) :: (q2, 100, #[.slice none 0 0, .slice none 0 0]) :: (Ld ++ (Lp ++ []))) w105)
        refine zwv (.bool false) ?_
        refine wl_nil ?_
        refine then_at rfl ?_
        refine wp_ret ?_
        repeat first | refine then_ret ?_ | refine block_ret ?_
        exact bodyPost_ret (v := .tuple #[.agg (#[.slice none 0 0, .slice none 0 0]), .bool false]) (res_cell_tmp (p := 2) (r := 3) (by kernel_rfl) (by kernel_rfl) (by kernel_rfl) (h106.get 5 rfl) Tryz.underlying100 rfl (by kernel_rfl)) rfl (.inr ⟨by rw [hpd]; exact okB_no (.inr (.inr (.inr hrf))), rfl, h106.old.old⟩)
       ·refine wl_region ?_
        refine zwx (.bool true) (run_load1 (fun w => Tryz.isAgg4 w) (by kernel_rfl) (((hL.get 3 rfl).cell 0).trans rfl)) ?_
        refine zwv (.bool false) ?_
        refine zwv (.bool false) ?_
        refine zwx (.pointer (some ⟨b, 0, none⟩)) (run_load1 (fun w => Tryz.isAgg141 w) (by kernel_rfl) (((hL.get 2 rfl).cell 0).trans rfl)) ?_
        refine wl_call (v := iN .i64 ur.length) hL (by kernel_rfl) enter93 #[.pointer (some ⟨b, 0, none⟩)] (by kernel_rfl) (Left_h hS hL) ?_
        intro w107 h108
        refine zwx (.bool false) (run_gtr (k := .i64) (a := ur.length) (b := 0) (by kernel_rfl) (by kernel_rfl) false (decide_eq_false hlf)) ?_
        refine zwv (.bool false) ?_
        refine zwv (.bool false) ?_
        refine wl_load h108 4 rfl (by kernel_rfl) (by kernel_rfl) Tryz.underlying100 rfl (by kernel_rfl) ?_
        refine wl_call (v := iN .i64 (acc.length + acd.length)) h108 (by kernel_rfl) enter52 #[.agg (#[.slice pp acc.length cp, .slice pd acd.length cd])] (by kernel_rfl) (count_any (by omega) (by omega) w107) ?_
        intro w109 h110
        refine zwx (.bool false) (run_eqi (k := .i64) (a := acc.length + acd.length) (b := 0) (by kernel_rfl) (by kernel_rfl) false (decide_eq_false hct)) ?_
        refine zwv (.bool false) ?_
        refine zwv (.bool false) ?_
        refine wl_load h110 4 rfl (by kernel_rfl) (by kernel_rfl) Tryz.underlying100 rfl (by kernel_rfl) ?_
        refine wl_call (v := iN .i64 (refR acc acd)) h110 (by kernel_rfl) enter51 #[.agg (#[.slice pp acc.length cp, .slice pd acd.length cd])] (by kernel_rfl) (refused_any (hRow.rows (fun y hy => h110.blk y (by simp [hy]))) (hRowd.keys (fun y hy => h110.blk y (by simp [hy]))) (by omega) (by omega)) ?_
        intro w111 h112
        refine zwx (.bool false) (run_nei (k := .i64) (a := refR acc acd) (b := 0) (by kernel_rfl) (by kernel_rfl) false (decide_eq_false hrf)) ?_
        refine zwv (.bool false) ?_
        refine wl_nil ?_
        refine then_at rfl ?_
        refine wp_cond_false (by kernel_rfl) ?_
        refine wp_skip ?_
        refine then_at rfl ?_
        refine wp_seq ?_
        refine wl_region ?_
        refine wl_load h112 4 rfl (by kernel_rfl) (by kernel_rfl) Tryz.underlying100 rfl (by kernel_rfl) ?_
        refine wl_fill (c' := #[.slice pp acc.length cp, .slice pd acd.length cd]) h112 5 rfl (by kernel_rfl) (by kernel_rfl) (by kernel_rfl) rfl (by kernel_rfl) (by kernel_rfl) ?_
        intro w113 (h114 : HA (bs w) ((b, 171, #[.bool true, v]) :: (d, 5, bc cur) :: (qr, 141, #[pt b]) :: (qw, 4, #[.bool true]) :: (q8, 100, #[.slice pp acc.length cp, .slice pd acd.length cd]) :: (q2, 100, #[.slice pp acc.length cp, .slice pd acd.length cd]) :: (Ld ++ (Lp ++ []))) w113)
        refine zwv (.bool true) ?_
        refine wl_nil ?_
        refine then_at rfl ?_
        refine wp_ret ?_
        repeat first | refine then_ret ?_ | refine block_ret ?_
        exact bodyPost_ret (v := .tuple #[.agg (#[.slice pp acc.length cp, .slice pd acd.length cd]), .bool true]) (res_cell_tmp (p := 2) (r := 3) (by kernel_rfl) (by kernel_rfl) (by kernel_rfl) (h114.get 5 rfl) Tryz.underlying100 rfl (by kernel_rfl)) rfl (.inl ⟨by rw [hpd]; exact okB_yes rfl hlf hct hrf, pp, cp, pd, cd, Lp, Ld, by rw [hpd], by rw [hpd]; exact hRow, by rw [hpd]; exact hRowd, (h114.sub (List.Sublist.cons _ (List.Sublist.cons _ (List.Sublist.cons _ (List.Sublist.cons _ (List.Sublist.cons _ (List.Sublist.cons _ (List.Sublist.refl _)))))))).perm (by rw [List.append_nil]; exact List.perm_append_comm)⟩)
   ·cases wi
    ·refine wp_seq ?_
     refine wp_seq ?_
     refine wl_region ?_
     refine zwv (iN .u64 (m + 1)) ?_
     refine zwx (.bool true) (run_gtr (k := .u64) (a := m + 1) (b := 0) (by kernel_rfl) (by kernel_rfl) true (decide_eq_true (by omega))) ?_
     refine zwv (.bool true) ?_
     refine zwx (.bool false) (run_load1 (fun w => Tryz.isAgg4 w) (by kernel_rfl) (((hL.get 3 rfl).cell 0).trans rfl)) ?_
     refine zwv (.bool false) ?_
     refine wl_nil ?_
     refine then_at rfl ?_
     refine wp_cond_false (by kernel_rfl) ?_
     refine wp_exit ?_
     repeat first | refine then_exit ?_ | refine block_exit ?_ | refine block_exit_ne (by decide) ?_
     refine then_at rfl ?_
     refine wp_seq ?_
     refine wp_seq ?_
     have hR2e : R2 = (false, ur, acd) := hR2.symm.trans (by unfold pdR; rfl)
     rw [hR2e] at hQ2
     have hpd : pdB (bl s) = ⟨false, acc, acd, ur⟩ := by simp only [pdB, hQ1, hQ2]
     have hPk : RowsAt _ pp acc := hRow.rows (fun y hy => hL.blk y (by simp [hy]))
     have hDk : KeysAt _ pd acd := hRowd.keys (fun y hy => hL.blk y (by simp [hy]))
     refine wl_region ?_
     refine zwx (.bool false) (run_load1 (fun w => Tryz.isAgg4 w) (by kernel_rfl) (((hL.get 3 rfl).cell 0).trans rfl)) ?_
     refine zwv (.bool true) ?_
     refine zwv (.bool true) ?_
     refine wl_skip (by kernel_rfl) ?_
     refine wl_skip (by kernel_rfl) ?_
     refine wl_skip (by kernel_rfl) ?_
     refine zwv (.bool true) ?_
     refine zwv (.bool true) ?_
     refine wl_skip (by kernel_rfl) ?_
     refine wl_skip (by kernel_rfl) ?_
     refine wl_skip (by kernel_rfl) ?_
     refine zwv (.bool true) ?_
     refine zwv (.bool true) ?_
     refine wl_skip (by kernel_rfl) ?_
     refine wl_skip (by kernel_rfl) ?_
     refine wl_skip (by kernel_rfl) ?_
     refine zwv (.bool true) ?_
     refine wl_nil ?_
     refine then_at rfl ?_
     refine wp_cond_true (by kernel_rfl) ?_
     refine wp_seq ?_
     refine wl_region ?_
     refine zwv (.agg #[.slice none 0 0, .slice none 0 0]) ?_
     refine wl_fill (c' := #[.slice none 0 0, .slice none 0 0]) hL 5 rfl (by kernel_rfl) (by kernel_rfl) (by kernel_rfl) rfl (by kernel_rfl) (by kernel_rfl) ?_
     intro w115 (h116 : HA (bs w) ((b, 171, #[.bool true, v]) :: (d, 5, bc cur) :: (qr, 141, #[pt b]) :: (qw, 4, #[.bool false]) :: (q8, 100, #[.slice pp acc.length cp, .slice pd acd.length cd]) :: (q2, 100, #[.slice none 0 0, .slice none 0 0]) :: (Ld ++ (Lp ++ []))) w115)
     refine zwv (.bool false) ?_
     refine wl_nil ?_
     refine then_at rfl ?_
     refine wp_ret ?_
     repeat first | refine then_ret ?_ | refine block_ret ?_
     exact bodyPost_ret (v := .tuple #[.agg (#[.slice none 0 0, .slice none 0 0]), .bool false]) (res_cell_tmp (p := 2) (r := 3) (by kernel_rfl) (by kernel_rfl) (by kernel_rfl) (h116.get 5 rfl) Tryz.underlying100 rfl (by kernel_rfl)) rfl (.inr ⟨by rw [hpd]; exact okB_no (.inl rfl), rfl, h116.old.old⟩)
    ·have hk1 := nxt_size 262144 ur
     refine wp_seq ?_
     refine wp_seq ?_
     refine wl_region ?_
     refine zwv (iN .u64 (m + 1)) ?_
     refine zwx (.bool true) (run_gtr (k := .u64) (a := m + 1) (b := 0) (by kernel_rfl) (by kernel_rfl) true (decide_eq_true (by omega))) ?_
     refine zwv (.bool true) ?_
     refine zwx (.bool true) (run_load1 (fun w => Tryz.isAgg4 w) (by kernel_rfl) (((hL.get 3 rfl).cell 0).trans rfl)) ?_
     refine zwv (.bool true) ?_
     refine wl_nil ?_
     refine then_at rfl ?_
     refine wp_cond_true (by kernel_rfl) ?_
     refine wp_skip ?_
     refine then_at rfl ?_
     refine wp_seq ?_
     refine wp_block ?_
     refine wp_region_wx (HA (bs w) [(q8, 100, #[.slice pp acc.length cp, .slice pd acd.length cd])]) (fun AQ w' => ∃ (v119r : Value) (q126 : Nat) (pn129 : Option Addr) (cn129 : Nat) (La129 : BL), AQ = ⟨(.string s :: un :: pt q2 :: .bool false :: pt qr :: pt qw :: .func (.func 126) #[] #[pt qr, pt qw] :: .func (.func 127) #[] #[pt qr, pt qw] :: pt q8 :: iN .u64 (n + 1) :: u24 10 :: iN .u64 (m + 1) :: .string s :: pt b :: .func (.func 126) #[] #[pt qr, pt qw] :: .func (.func 127) #[] #[pt qr, pt qw] :: .func (.func 127) #[] #[pt qr, pt qw] :: iN .u64 ((nxn 2 (bl s)).1) :: iN .u64 (n + 1) :: .bool true :: .bool true :: .bool false :: .bool false :: u24 23 :: u24 24 :: u24 25 :: u24 26 :: u24 27 :: u24 28 :: u24 29 :: u24 30 :: u24 31 :: u24 32 :: u24 33 :: u24 34 :: u24 35 :: .func (.func 127) #[] #[pt qr, pt qw] :: iN .u64 ((nxn 2 us).1) :: iN .u64 (m + 1) :: .bool true :: .bool true :: .bool true :: .bool true :: u85 43 :: u85 44 :: .pointer (some ⟨q8, 1, none⟩) :: .slice pd acd.length cd :: .func (.func 126) #[] #[pt qr, pt qw] :: .string ((nxt 262144 ur).1) :: .slice (some ⟨q126, 0, none⟩) 1 1 :: .slice pn129 (acd.length + 1) cn129 :: .pointer (some ⟨q8, 1, none⟩) :: List.replicate 19 un).toArray, []⟩ ∧ RdS d cur v119r (nxt 262144 ur).2.2 ∧ Row 9 1 (.slice pn129 (acd.length + 1) cn129) (acd.length + 1) (scl acd ++ [.string ((nxt 262144 ur).1)]) La129 ∧ HA (bs w) ((b, 171, #[.bool true, v119r]) :: (d, 5, bc cur) :: (qr, 141, #[pt b]) :: (qw, 4, #[.bool (true && (nxt 262144 ur).2.1)]) :: (q8, 100, #[.slice pp acc.length cp, .slice pn129 (acd.length + 1) cn129]) :: (q2, 100, #[.slice none 0 0, .slice none 0 0]) :: (La129 ++ (Lp ++ []))) w') 8 (by kernel_rfl) (by kernel_rfl) (by kernel_rfl) (by kernel_rfl) (by kernel_rfl) (hL.drew.sub (List.Sublist.cons _ (List.Sublist.cons _ (List.Sublist.cons _ (List.Sublist.cons _ (List.Sublist.cons_cons _ (List.Sublist.cons _ (List.nil_sublist _)))))))) ?_ ?_
     ·have h117 := hL.drew
      refine wx_pure (i := 0) (.pointer (some ⟨q8, 1, none⟩)) rfl rfl (by kernel_rfl) (by kernel_rfl) (fun _ => (by kernel_rfl)) ?_
      refine wx_val (i := 1) (.slice pd acd.length cd) rfl rfl (by kernel_rfl) (by kernel_rfl) (fun w' h' => run_load1 (fun w => Tryz.isAgg39 w) (by kernel_rfl) (((h'.get 0 rfl).cell 1).trans rfl)) ?_
      refine wx_pure (i := 2) (.func (.func 126) #[] #[pt qr, pt qw]) rfl rfl (by kernel_rfl) (by kernel_rfl) (fun _ => (by kernel_rfl)) ?_
      refine wx_one 3 (by kernel_rfl) ?_
      refine ex_callvx (f := 126) (cap := #[.pointer (some ⟨qr, 0, none⟩), .pointer (some ⟨qw, 0, none⟩)]) (args := #[.pointer (some ⟨qr, 0, none⟩), .pointer (some ⟨qw, 0, none⟩)]) rfl (by kernel_rfl) h117 enter126 (by kernel_rfl) (by kernel_rfl) (fun w120 h121 => textC hS h121) ?_
      rintro w120 h121 _ w122 ⟨rfl, v119r, hS119, hr119⟩
      have h123 : HA (bs w) ((b, 171, #[.bool true, v119r]) :: (d, 5, bc cur) :: (qr, 141, #[pt b]) :: (qw, 4, #[.bool (true && (nxt 262144 ur).2.1)]) :: (q8, 100, #[.slice pp acc.length cp, .slice pd acd.length cd]) :: (q2, 100, #[.slice none 0 0, .slice none 0 0]) :: (Ld ++ (Lp ++ []))) w122 := hr119
      refine ⟨_, rfl, (HA.sub h123 (List.Sublist.cons _ (List.Sublist.cons _ (List.Sublist.cons _ (List.Sublist.cons _ (List.Sublist.cons_cons _ (List.Sublist.cons _ (List.nil_sublist _)))))))), ?_⟩
      refine wx_one 4 (by kernel_rfl) ?_
      refine ex_mksS (c := #[.string ((nxt 262144 ur).1)]) rfl (by kernel_rfl) h123 9 1 1 (fun _ => (by kernel_rfl)) ?_
      intro q126 w124 h125
      refine ⟨(HA.sub h125 (List.Sublist.cons _ (List.Sublist.cons _ (List.Sublist.cons _ (List.Sublist.cons _ (List.Sublist.cons _ (List.Sublist.cons_cons _ (List.Sublist.cons _ (List.nil_sublist _))))))))), ?_⟩
      refine wx_one 5 (by kernel_rfl) ?_
      refine ex_doS rfl (by kernel_rfl) h125 fun w127 h128 => ?_
      obtain ⟨va129, wa129, La129, hrun129, hRa129, ha129⟩ := row_more (t := 39) hRowd (h128.perm (List.Perm.cons _ (perm_mv [(b, 171, #[.bool true, v119r]), (d, 5, bc cur), (qr, 141, #[pt b]), (qw, 4, #[.bool (true && (nxt 262144 ur).2.1)]), (q8, 100, #[.slice pp acc.length cp, .slice pd acd.length cd]), (q2, 100, #[.slice none 0 0, .slice none 0 0])] Ld (Lp ++ [])))) (by decide) (.string { data := #[] }) 16 39 Tryz.underlying39 info9s rfl (by decide) rfl (by kernel_rfl) (by unfold maxLen; omega) (by omega)
      obtain ⟨pn129, cn129, hvn129⟩ := hRa129.form
      subst hvn129
      have h130 : HA (bs w) ((b, 171, #[.bool true, v119r]) :: (d, 5, bc cur) :: (qr, 141, #[pt b]) :: (qw, 4, #[.bool (true && (nxt 262144 ur).2.1)]) :: (q8, 100, #[.slice pp acc.length cp, .slice pd acd.length cd]) :: (q2, 100, #[.slice none 0 0, .slice none 0 0]) :: (La129 ++ (Lp ++ []))) wa129 := ha129.perm (perm_mv [(b, 171, #[.bool true, v119r]), (d, 5, bc cur), (qr, 141, #[pt b]), (qw, 4, #[.bool (true && (nxt 262144 ur).2.1)]), (q8, 100, #[.slice pp acc.length cp, .slice pd acd.length cd]), (q2, 100, #[.slice none 0 0, .slice none 0 0])] La129 (Lp ++ [])).symm
      refine ⟨_, _, run_app_ops (by kernel_rfl) (by kernel_rfl) hrun129, (HA.sub h130 (List.Sublist.cons _ (List.Sublist.cons _ (List.Sublist.cons _ (List.Sublist.cons _ (List.Sublist.cons_cons _ (List.Sublist.cons _ (List.nil_sublist _)))))))), ?_⟩
      refine wx_pure (i := 6) (.pointer (some ⟨q8, 1, none⟩)) rfl rfl (by kernel_rfl) (by kernel_rfl) (fun _ => (by kernel_rfl)) ?_
      refine wx_one 7 (by kernel_rfl) ?_
      refine ex_skip rfl (by kernel_rfl) (by kernel_rfl) h130 fun w131 h132 => ⟨_, run_storev (v := .slice pn129 (acd.length + 1) cn129) (fun w => Tryz.sizeOf39 w) (by kernel_rfl) (by kernel_rfl) (by kernel_rfl) (by rw [(h132.get 4 rfl).cell]; rfl) ((h132.get 4 rfl).free _ (by show 1 < 2; decide)), _, h132.put 4 rfl 1 _, ?_⟩
      have h133 : HA (bs w) ((b, 171, #[.bool true, v119r]) :: (d, 5, bc cur) :: (qr, 141, #[pt b]) :: (qw, 4, #[.bool (true && (nxt 262144 ur).2.1)]) :: (q8, 100, #[.slice pp acc.length cp, .slice pn129 (acd.length + 1) cn129]) :: (q2, 100, #[.slice none 0 0, .slice none 0 0]) :: (La129 ++ (Lp ++ []))) _ := h132.put 4 rfl 1 (.slice pn129 (acd.length + 1) cn129)
      refine wx_end fun w134 hbx _ => ?_
      have h135 := HA.keep _ _ h133 hbx
      exact ⟨v119r, q126, pn129, cn129, La129, by kernel_rfl, hS119, hRa129, h135⟩
     ·rintro _ w136 ⟨v119r, q126, pn129, cn129, La129, rfl, hS119, hRa129, h137⟩
      refine block_normal ?_
      refine then_at rfl ?_
      refine wl_region ?_
      refine zwv (iN .u64 (m + 1)) ?_
      refine zwx (iN .u64 m) (run_sub1u (n := m) (by kernel_rfl) (by kernel_rfl)) ?_
      refine zwv (iN .u64 m) ?_
      refine wl_nil ?_
      exact then_I ⟨m + 1, (by omega), m, (true && (nxt 262144 ur).2.1), _, acd ++ [(nxt 262144 ur).1], v119r, pn129, cn129, La129, fun ii => (([(38, iN .u64 (m + 1)), (39, .bool true), (40, .bool true), (41, .bool true), (42, .bool true), (43, iN .u64 (m + 1)), (44, iN .u64 m), (45, .pointer (some ⟨q8, 1, none⟩)), (46, .slice pd acd.length cd), (47, .func (.func 126) #[] #[pt qr, pt qw]), (48, .string ((nxt 262144 ur).1)), (49, .slice (some ⟨q126, 0, none⟩) 1 1), (50, .slice pn129 (acd.length + 1) cn129), (51, .pointer (some ⟨q8, 1, none⟩))] : List (Nat × Value)).find? (·.1 == ii)).elim undef (·.2), rfl, by kernel_rfl, by rw [Bool.true_and]; exact hR2, by rw [List.length_append, List.length_singleton]; omega, hS119, by rw [scl_snoc, List.length_append, List.length_singleton]; exact hRa129, by rw [List.length_append, List.length_singleton]; exact h137⟩
  ·have hk1 := nxt_size 262144 us
   have hk2 := nxt_size 262144 (nxt 262144 us).2.2
   refine wp_seq ?_
   refine wp_seq ?_
   refine wl_region ?_
   refine zwv (iN .u64 (n + 1)) ?_
   refine zwx (.bool true) (run_gtr (k := .u64) (a := n + 1) (b := 0) (by kernel_rfl) (by kernel_rfl) true (decide_eq_true (by omega))) ?_
   refine zwv (.bool true) ?_
   refine zwx (.bool true) (run_load1 (fun w => Tryz.isAgg4 w) (by kernel_rfl) (((hL.get 3 rfl).cell 0).trans rfl)) ?_
   refine zwv (.bool true) ?_
   refine wl_nil ?_
   refine then_at rfl ?_
   refine wp_cond_true (by kernel_rfl) ?_
   refine wp_skip ?_
   refine then_at rfl ?_
   refine wp_seq ?_
   refine wp_block ?_
   refine wp_seq ?_
   refine wl_region ?_
   refine zwv (.func (.func 126) #[] #[pt qr, pt qw]) ?_
   refine wl_callvx (cap := #[.pointer (some ⟨qr, 0, none⟩), .pointer (some ⟨qw, 0, none⟩)]) (args := #[.pointer (some ⟨qr, 0, none⟩), .pointer (some ⟨qw, 0, none⟩)]) (by kernel_rfl) enter126 (by kernel_rfl) (by kernel_rfl) (textC hS hL) ?_
   rintro _ w139 ⟨rfl, v138r, hS138, hr138⟩
   refine ⟨_, rfl, ?_⟩
   have h140 : HA (bs w) ((b, 171, #[.bool true, v138r]) :: (d, 5, bc cur) :: (qr, 141, #[pt b]) :: (qw, 4, #[.bool (true && (nxt 262144 us).2.1)]) :: (q8, 100, #[.slice pp acc.length cp, .slice none 0 0]) :: (q2, 100, #[.slice none 0 0, .slice none 0 0]) :: (Lp ++ [])) w139 := hr138
   refine zwv (.string ((nxt 262144 us).1)) ?_
   refine wl_nil ?_
   refine then_at rfl ?_
   refine wp_region_wx (HA (bs w) [(q8, 100, #[.slice pp acc.length cp, .slice none 0 0])]) (fun AQ w' => ∃ (v143r : Value) (q150 : Nat) (pn153 : Option Addr) (cn153 : Nat) (La153 : BL), AQ = ⟨(.string s :: un :: pt q2 :: .bool false :: pt qr :: pt qw :: .func (.func 126) #[] #[pt qr, pt qw] :: .func (.func 127) #[] #[pt qr, pt qw] :: pt q8 :: iN .u64 (n + 1) :: .string ((nxt 262144 us).1) :: un :: .string s :: pt b :: .func (.func 126) #[] #[pt qr, pt qw] :: .func (.func 127) #[] #[pt qr, pt qw] :: .func (.func 127) #[] #[pt qr, pt qw] :: iN .u64 ((nxn 2 (bl s)).1) :: iN .u64 (n + 1) :: .bool true :: .bool true :: .bool true :: .bool true :: u24 23 :: u24 24 :: .func (.func 126) #[] #[pt qr, pt qw] :: .string ((nxt 262144 us).1) :: pt q8 :: .slice pp acc.length cp :: .string ((nxt 262144 us).1) :: .func (.func 126) #[] #[pt qr, pt qw] :: .string ((nxt 262144 ((nxt 262144 us).2.2)).1) :: .agg #[.string ((nxt 262144 us).1), .string ((nxt 262144 ((nxt 262144 us).2.2)).1)] :: .slice (some ⟨q150, 0, none⟩) 1 1 :: .slice pn153 (acc.length + 1) cn153 :: pt q8 :: List.replicate 35 un).toArray, []⟩ ∧ RdS d cur v143r (nxt 262144 ((nxt 262144 us).2.2)).2.2 ∧ Row 64 2 (.slice pn153 (acc.length + 1) cn153) (acc.length + 1) (rcl acc ++ [.string ((nxt 262144 us).1), .string ((nxt 262144 ((nxt 262144 us).2.2)).1)]) La153 ∧ HA (bs w) ((b, 171, #[.bool true, v143r]) :: (d, 5, bc cur) :: (qr, 141, #[pt b]) :: (qw, 4, #[.bool ((true && (nxt 262144 us).2.1) && (nxt 262144 ((nxt 262144 us).2.2)).2.1)]) :: (q8, 100, #[.slice pn153 (acc.length + 1) cn153, .slice none 0 0]) :: (q2, 100, #[.slice none 0 0, .slice none 0 0]) :: (La153 ++ [])) w') 10 (by kernel_rfl) (by kernel_rfl) (by kernel_rfl) (by kernel_rfl) (by kernel_rfl) (h140.drew.sub (List.Sublist.cons _ (List.Sublist.cons _ (List.Sublist.cons _ (List.Sublist.cons _ (List.Sublist.cons_cons _ (List.Sublist.cons _ (List.nil_sublist _)))))))) ?_ ?_
   ·have h141 := h140.drew
    refine wx_pure (i := 0) (.pointer (some ⟨q8, 0, none⟩)) rfl rfl (by kernel_rfl) (by kernel_rfl) (fun _ => (by kernel_rfl)) ?_
    refine wx_val (i := 1) (.slice pp acc.length cp) rfl rfl (by kernel_rfl) (by kernel_rfl) (fun w' h' => run_load1 (fun w => Tryz.isAgg30 w) (by kernel_rfl) (((h'.get 0 rfl).cell 0).trans rfl)) ?_
    refine wx_pure (i := 2) (.string ((nxt 262144 us).1)) rfl rfl (by kernel_rfl) (by kernel_rfl) (fun _ => (by kernel_rfl)) ?_
    refine wx_pure (i := 3) (.func (.func 126) #[] #[pt qr, pt qw]) rfl rfl (by kernel_rfl) (by kernel_rfl) (fun _ => (by kernel_rfl)) ?_
    refine wx_one 4 (by kernel_rfl) ?_
    refine ex_callvx (f := 126) (cap := #[.pointer (some ⟨qr, 0, none⟩), .pointer (some ⟨qw, 0, none⟩)]) (args := #[.pointer (some ⟨qr, 0, none⟩), .pointer (some ⟨qw, 0, none⟩)]) rfl (by kernel_rfl) h141 enter126 (by kernel_rfl) (by kernel_rfl) (fun w144 h145 => textC hS138 h145) ?_
    rintro w144 h145 _ w146 ⟨rfl, v143r, hS143, hr143⟩
    have h147 : HA (bs w) ((b, 171, #[.bool true, v143r]) :: (d, 5, bc cur) :: (qr, 141, #[pt b]) :: (qw, 4, #[.bool ((true && (nxt 262144 us).2.1) && (nxt 262144 ((nxt 262144 us).2.2)).2.1)]) :: (q8, 100, #[.slice pp acc.length cp, .slice none 0 0]) :: (q2, 100, #[.slice none 0 0, .slice none 0 0]) :: (Lp ++ [])) w146 := hr143
    refine ⟨_, rfl, (HA.sub h147 (List.Sublist.cons _ (List.Sublist.cons _ (List.Sublist.cons _ (List.Sublist.cons _ (List.Sublist.cons_cons _ (List.Sublist.cons _ (List.nil_sublist _)))))))), ?_⟩
    refine wx_pure (i := 5) (.agg #[.string ((nxt 262144 us).1), .string ((nxt 262144 ((nxt 262144 us).2.2)).1)]) rfl rfl (by kernel_rfl) (by kernel_rfl) (fun _ => (by kernel_rfl)) ?_
    refine wx_one 6 (by kernel_rfl) ?_
    refine ex_mksS (c := #[.string ((nxt 262144 us).1), .string ((nxt 262144 ((nxt 262144 us).2.2)).1)]) rfl (by kernel_rfl) h147 64 1 1 (fun _ => (by kernel_rfl)) ?_
    intro q150 w148 h149
    refine ⟨(HA.sub h149 (List.Sublist.cons _ (List.Sublist.cons _ (List.Sublist.cons _ (List.Sublist.cons _ (List.Sublist.cons _ (List.Sublist.cons_cons _ (List.Sublist.cons _ (List.nil_sublist _))))))))), ?_⟩
    refine wx_one 7 (by kernel_rfl) ?_
    refine ex_doS rfl (by kernel_rfl) h149 fun w151 h152 => ?_
    obtain ⟨va153, wa153, La153, hrun153, hRa153, ha153⟩ := row_more (t := 30) hRow (h152.perm (List.Perm.cons _ (perm_mv [(b, 171, #[.bool true, v143r]), (d, 5, bc cur), (qr, 141, #[pt b]), (qw, 4, #[.bool ((true && (nxt 262144 us).2.1) && (nxt 262144 ((nxt 262144 us).2.2)).2.1)]), (q8, 100, #[.slice pp acc.length cp, .slice none 0 0]), (q2, 100, #[.slice none 0 0, .slice none 0 0])] Lp []))) (by decide) (.agg #[.string { data := #[] }, .string { data := #[] }]) 32 30 Tryz.underlying30 info64 rfl (by decide) rfl (by kernel_rfl) (by unfold maxLen; omega) (by omega)
    obtain ⟨pn153, cn153, hvn153⟩ := hRa153.form
    subst hvn153
    have h154 : HA (bs w) ((b, 171, #[.bool true, v143r]) :: (d, 5, bc cur) :: (qr, 141, #[pt b]) :: (qw, 4, #[.bool ((true && (nxt 262144 us).2.1) && (nxt 262144 ((nxt 262144 us).2.2)).2.1)]) :: (q8, 100, #[.slice pp acc.length cp, .slice none 0 0]) :: (q2, 100, #[.slice none 0 0, .slice none 0 0]) :: (La153 ++ [])) wa153 := ha153.perm (perm_mv [(b, 171, #[.bool true, v143r]), (d, 5, bc cur), (qr, 141, #[pt b]), (qw, 4, #[.bool ((true && (nxt 262144 us).2.1) && (nxt 262144 ((nxt 262144 us).2.2)).2.1)]), (q8, 100, #[.slice pp acc.length cp, .slice none 0 0]), (q2, 100, #[.slice none 0 0, .slice none 0 0])] La153 []).symm
    refine ⟨_, _, run_app_ops (by kernel_rfl) (by kernel_rfl) hrun153, (HA.sub h154 (List.Sublist.cons _ (List.Sublist.cons _ (List.Sublist.cons _ (List.Sublist.cons _ (List.Sublist.cons_cons _ (List.Sublist.cons _ (List.nil_sublist _)))))))), ?_⟩
    refine wx_pure (i := 8) (.pointer (some ⟨q8, 0, none⟩)) rfl rfl (by kernel_rfl) (by kernel_rfl) (fun _ => (by kernel_rfl)) ?_
    refine wx_one 9 (by kernel_rfl) ?_
    refine ex_skip rfl (by kernel_rfl) (by kernel_rfl) h154 fun w155 h156 => ⟨_, run_storev (v := .slice pn153 (acc.length + 1) cn153) (fun w => Tryz.sizeOf30 w) (by kernel_rfl) (by kernel_rfl) (by kernel_rfl) (by rw [(h156.get 4 rfl).cell]; rfl) ((h156.get 4 rfl).free _ (by show 0 < 2; decide)), _, h156.put 4 rfl 0 _, ?_⟩
    have h157 : HA (bs w) ((b, 171, #[.bool true, v143r]) :: (d, 5, bc cur) :: (qr, 141, #[pt b]) :: (qw, 4, #[.bool ((true && (nxt 262144 us).2.1) && (nxt 262144 ((nxt 262144 us).2.2)).2.1)]) :: (q8, 100, #[.slice pn153 (acc.length + 1) cn153, .slice none 0 0]) :: (q2, 100, #[.slice none 0 0, .slice none 0 0]) :: (La153 ++ [])) _ := h156.put 4 rfl 0 (.slice pn153 (acc.length + 1) cn153)
    refine wx_end fun w158 hbx _ => ?_
    have h159 := HA.keep _ _ h157 hbx
    exact ⟨v143r, q150, pn153, cn153, La153, by kernel_rfl, hS143, hRa153, h159⟩
   ·rintro _ w160 ⟨v143r, q150, pn153, cn153, La153, rfl, hS143, hRa153, h161⟩
    refine block_normal ?_
    refine then_at rfl ?_
    refine wl_region ?_
    refine zwv (iN .u64 (n + 1)) ?_
    refine zwx (iN .u64 n) (run_sub1u (n := n) (by kernel_rfl) (by kernel_rfl)) ?_
    refine zwv (iN .u64 n) ?_
    refine wl_nil ?_
    exact then_I ⟨n + 1, (by omega), n, ((true && (nxt 262144 us).2.1) && (nxt 262144 (nxt 262144 us).2.2).2.1), _, acc ++ [⟨(nxt 262144 us).1, (nxt 262144 (nxt 262144 us).2.2).1⟩], v143r, pn153, cn153, La153, fun ii => (([(10, .string ((nxt 262144 us).1)), (18, iN .u64 (n + 1)), (19, .bool true), (20, .bool true), (21, .bool true), (22, .bool true), (23, iN .u64 (n + 1)), (24, iN .u64 n), (25, .func (.func 126) #[] #[pt qr, pt qw]), (26, .string ((nxt 262144 us).1)), (27, .pointer (some ⟨q8, 0, none⟩)), (28, .slice pp acc.length cp), (29, .string ((nxt 262144 us).1)), (30, .func (.func 126) #[] #[pt qr, pt qw]), (31, .string ((nxt 262144 ((nxt 262144 us).2.2)).1)), (32, .agg #[.string ((nxt 262144 us).1), .string ((nxt 262144 ((nxt 262144 us).2.2)).1)]), (33, .slice (some ⟨q150, 0, none⟩) 1 1), (34, .slice pn153 (acc.length + 1) cn153), (35, .pointer (some ⟨q8, 0, none⟩))] : List (Nat × Value)).find? (·.1 == ii)).elim undef (·.2), rfl, by kernel_rfl, by rw [Bool.true_and]; exact hR1, by rw [List.length_append, List.length_singleton]; omega, hS143, by rw [rcl_snoc, List.length_append, List.length_singleton]; exact hRa153, by rw [List.length_append, List.length_singleton]; exact h161⟩
end Go.Proofs.YtckmlaempffpjaaGreat
