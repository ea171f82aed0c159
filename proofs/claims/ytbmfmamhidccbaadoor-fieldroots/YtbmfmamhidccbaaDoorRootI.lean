/-
  The reference's Root.
-/
import Derived.Test.YtbmfmamhidccbaaDoorRootH
namespace Go.Proofs.YtbmfmamhidccbaaDoor
open Go.RowKit Num

theorem rodd_yes (n : Nat) (h : n % 2 = 1) (w : World) : Calls Tryd.prog 16 #[rarr n] w fun e w' => e = .returned (.bool true) ∧ Below w.heap.size w w' := by
  have h1 := rodd_any n w
  rw [decide_eq_true h] at h1
  exact h1
theorem rodd_no (n : Nat) (h : n % 2 = 0) (w : World) : Calls Tryd.prog 16 #[rarr n] w fun e w' => e = .returned (.bool false) ∧ Below w.heap.size w w' := by
  have h1 := rodd_any n w
  rw [decide_eq_false (by omega)] at h1
  exact h1

theorem two_root : 2 ^ ((P - 1) / 4) % P = rootI := by
  rw [← pm_eq P 256 2 ((P - 1) / 4) (by decide)]
  decide +kernel
theorem rpower_two (s : ByteArray) (hs : s.size = 32) (h : numS s = (P - 1) / 4) (w : World) : Calls Tryd.prog 46 #[rarr 2, .string s] w fun e w' => e = .returned (rarr rootI) ∧ Below w.heap.size w w' := by
  have h1 := rpower_is 2 _ s (by decide) hs h w
  rw [two_root] at h1
  exact h1
theorem run_ne30 {ρ : Operand → Value} {x y : Operand} (a b : Nat) {w : World} {dst : Option Tmp} {ty : TypeId} {pos : String} {aft : Array Edge} {gd : Option (Nat × Bool)} (ha : a < 65536 ^ 16) (hb : b < 65536 ^ 16) (hx : ρ x = rarr a) (hy : ρ y = rarr b) (t : Bool) (ht : decide (a = b) = t) :
    (execOp ρ ⟨dst, .binOp .neq 30 x y 30, ty, pos, aft, gd⟩).run Tryd.prog w = .ok (.value (.bool (!t))) w := by
  have h := eq30 w (digs 65536 16 a) (digs 65536 16 b) (digs_length _ _ _) (digs_length _ _ _)
  rw [decide_eq_decide.2 (digs_eq a b ha hb), ht] at h
  have h2 : (Op.equalIn Op.maxDepth 30 (.agg (cl .u32 (digs 65536 16 a))) (.agg (cl .u32 (digs 65536 16 b)))).run Tryd.prog w = .ok t w := h
  simp only [execOp, hx, hy, rarr, rl]
  simp [binOp, go_sem, Op.equal, h2]


set_option linter.unusedVariables false in
set_option maxRecDepth 100000 in
set_option maxHeartbeats 2000000 in
theorem rr_1o (a t0 t1 ri : Nat) (ha : a < P) (ht0 : t0 < P) (ht1 : t1 < P) (hri : ri < P) (KP : ∀ w, Calls Tryd.prog 46 #[rarr a, .string ⟨(endsL 254 15).toArray⟩] w fun e w' => e = .returned (rarr t0) ∧ Below w.heap.size w w') (K2 : ∀ w, Calls Tryd.prog 46 #[rarr 2, .string ⟨(endsL 251 31).toArray⟩] w fun e w' => e = .returned (rarr ri) ∧ Below w.heap.size w w') (KT : ∀ w, Calls Tryd.prog 27 #[rarr t0, rarr ri] w fun e w' => e = .returned (rarr t1) ∧ Below w.heap.size w w') (hq1 : mulP t0 t0 = a) (hodd : (t0) % 2 = 1) (w : World) : Calls Tryd.prog 32 #[rarr a] w fun e w' => e = .returned (.tuple #[rarr (negP (t0)), .bool true]) ∧ Below w.heap.size w w' := by
  have H0 := HA.start w
  go_enter Tryd.func32, Tryd.ntmps32
  refine wp_seq ?_
  -- region 0
  refine wl_region ?_
  refine wl_make H0 30 (by kernel_rfl) (run_box30 (c := rl a) (by kernel_rfl)) ?_
  intro q1 w2 h3
  refine wl_make h3 30 (by kernel_rfl) run_alloc30 ?_
  intro q4 w5 h6
  refine wl_val (.bool false) (by kernel_rfl) (by kernel_rfl) ?_
  refine wl_nil ?_
  refine then_at (F := ⟨(rarr a :: pt q1 :: pt q4 :: .bool false :: List.replicate 25 un).toArray, []⟩) (by kernel_rfl) ?_
  refine wp_seq ?_
  -- region 1
  obtain ⟨B7, eB7⟩ : ∃ B, B = w5.heap.size := ⟨_, rfl⟩
  refine wp_region_ghost (fun g : Nat → Nat => (⟨(rarr a :: pt q1 :: pt q4 :: .bool false :: pt (g 3) :: rarr a :: .string ⟨(endsL 254 15).toArray⟩ :: rarr t0 :: List.replicate 21 un).toArray, []⟩ : Act)) (GS w [(q4, 30, rl 0), (q1, 30, rl a)] B7 1 3 4 30 (rl 0) (fun j => rl ([t0].getD j t0))) [rarr a, .string ⟨(endsL 254 15).toArray⟩, rarr t0, .pointer (some ⟨0, 0, none⟩), undef] (by kernel_rfl) (by kernel_rfl) (by kernel_rfl) (by kernel_rfl) (fun _ _ _ _ h => h) (fun d hd => GS.start h6.drew eB7 (by decide) (fun _ _ => rfl) (fun j hj => hd j (Nat.lt_of_lt_of_le hj (by decide)))) ?_ ?_
  · refine AllGhost.cons (ghost_load 1 rfl (by decide) (fun _ => by kernel_rfl) (fun _ => by kernel_rfl) (fun _ => by kernel_rfl) Tryd.underlying30 rfl (info_rl _)) ?_
    refine AllGhost.cons (ghost_call (v := .string ⟨(endsL 254 15).toArray⟩) (by decide) (fun _ => by kernel_rfl) (fun _ => by kernel_rfl) enter47 #[iN .u8 254, iN .u8 15] (fun _ => by kernel_rfl) (fun w' h' => rexp_any 254 15 w')) ?_
    refine AllGhost.cons (ghost_call (v := rarr t0) (by decide) (fun _ => by kernel_rfl) (fun _ => by kernel_rfl) enter46 #[rarr a, .string ⟨(endsL 254 15).toArray⟩] (fun _ => by kernel_rfl) (fun w' h' => KP w')) ?_
    refine AllGhost.cons (ghost_make 0 (by decide) rfl (fun _ => by kernel_rfl) (fun _ _ => by kernel_rfl) (fun _ _ => run_alloc30)) ?_
    refine AllGhost.cons (ghost_fill 0 (by decide) rfl (fun _ => by kernel_rfl) (fun _ => by kernel_rfl) (fun _ => by kernel_rfl) (fun _ => by kernel_rfl) (info_rl _) (one_rl _) (by kernel_rfl)) ?_
    exact AllGhost.nil
  intro g w8 g9
  have h10 : HA w [(g 3, 30, rl t0), (q4, 30, rl 0), (q1, 30, rl a)] w8 := g9.one
  clear g9 eB7
  generalize g 3 = q11 at h10 ⊢
  clear g
  refine then_at (F := ⟨(rarr a :: pt q1 :: pt q4 :: .bool false :: pt q11 :: rarr a :: .string ⟨(endsL 254 15).toArray⟩ :: rarr t0 :: List.replicate 21 un).toArray, []⟩) (by kernel_rfl) ?_
  refine wp_seq ?_
  refine wp_seq ?_
  -- region 2
  refine wp_region_sure ⟨(rarr a :: pt q1 :: pt q4 :: .bool false :: pt q11 :: rarr a :: .string ⟨(endsL 254 15).toArray⟩ :: rarr t0 :: rarr t0 :: rarr t0 :: rarr (mulP t0 t0) :: rarr a :: .bool false :: List.replicate 16 un).toArray, []⟩ (HA w [(q11, 30, rl t0), (q4, 30, rl 0), (q1, 30, rl a)]) [rarr t0, rarr t0, rarr (mulP t0 t0), rarr a, .bool false] (by kernel_rfl) (by kernel_rfl) (by kernel_rfl) (by kernel_rfl) (fun _ _ _ h => h) h10.drew ?_ ?_
  · refine AllSure.cons (OpSure.take (v := rarr t0) (by kernel_rfl) (by kernel_rfl) (fun _ h => run_load_blk (by kernel_rfl) (h.get 0 rfl) Tryd.underlying30 rfl (info_rl _))) ?_
    refine AllSure.cons (OpSure.take (v := rarr t0) (by kernel_rfl) (by kernel_rfl) (fun _ h => run_load_blk (by kernel_rfl) (h.get 0 rfl) Tryd.underlying30 rfl (info_rl _))) ?_
    refine AllSure.cons (sure_call (v := rarr (mulP t0 t0)) (by kernel_rfl) (by kernel_rfl) enter27 HA.keep #[rarr t0, rarr t0] (by kernel_rfl) (fun w' h' => rmul_any t0 t0 (Nat.lt_trans ht0 (by decide)) (Nat.lt_trans ht0 (by decide)) w')) ?_
    refine AllSure.cons (OpSure.take (v := rarr a) (by kernel_rfl) (by kernel_rfl) (fun _ h => run_load_blk (by kernel_rfl) (h.get 2 rfl) Tryd.underlying30 rfl (info_rl _))) ?_
    refine AllSure.cons (OpSure.take (v := .bool false) (by kernel_rfl) (by kernel_rfl) (fun _ _ => (run_ne30 (mulP t0 t0) a (Nat.lt_trans (mulP_lt _ _) (by decide)) (Nat.lt_trans ha (by decide)) (by kernel_rfl) (by kernel_rfl) true (decide_eq_true hq1)))) ?_
    exact AllSure.nil
  intro w12 h13
  refine then_at (F := ⟨(rarr a :: pt q1 :: pt q4 :: .bool false :: pt q11 :: rarr a :: .string ⟨(endsL 254 15).toArray⟩ :: rarr t0 :: rarr t0 :: rarr t0 :: rarr (mulP t0 t0) :: rarr a :: .bool false :: List.replicate 16 un).toArray, []⟩) (by kernel_rfl) ?_
  refine wp_cond_false (by kernel_rfl) ?_
  refine wp_skip ?_
  refine then_at (F := ⟨(rarr a :: pt q1 :: pt q4 :: .bool false :: pt q11 :: rarr a :: .string ⟨(endsL 254 15).toArray⟩ :: rarr t0 :: rarr t0 :: rarr t0 :: rarr (mulP t0 t0) :: rarr a :: .bool false :: List.replicate 16 un).toArray, []⟩) (by kernel_rfl) ?_
  refine wp_seq ?_
  refine wp_seq ?_
  -- region 4
  refine wp_region_sure ⟨(rarr a :: pt q1 :: pt q4 :: .bool false :: pt q11 :: rarr a :: .string ⟨(endsL 254 15).toArray⟩ :: rarr t0 :: rarr t0 :: rarr t0 :: rarr (mulP t0 t0) :: rarr a :: .bool false :: un :: un :: un :: un :: un :: rarr t0 :: rarr t0 :: rarr (mulP t0 t0) :: rarr a :: .bool false :: List.replicate 6 un).toArray, []⟩ (HA w [(q11, 30, rl t0), (q4, 30, rl 0), (q1, 30, rl a)]) [rarr t0, rarr t0, rarr (mulP t0 t0), rarr a, .bool false] (by kernel_rfl) (by kernel_rfl) (by kernel_rfl) (by kernel_rfl) (fun _ _ _ h => h) h13.drew ?_ ?_
  · refine AllSure.cons (OpSure.take (v := rarr t0) (by kernel_rfl) (by kernel_rfl) (fun _ h => run_load_blk (by kernel_rfl) (h.get 0 rfl) Tryd.underlying30 rfl (info_rl _))) ?_
    refine AllSure.cons (OpSure.take (v := rarr t0) (by kernel_rfl) (by kernel_rfl) (fun _ h => run_load_blk (by kernel_rfl) (h.get 0 rfl) Tryd.underlying30 rfl (info_rl _))) ?_
    refine AllSure.cons (sure_call (v := rarr (mulP t0 t0)) (by kernel_rfl) (by kernel_rfl) enter27 HA.keep #[rarr t0, rarr t0] (by kernel_rfl) (fun w' h' => rmul_any t0 t0 (Nat.lt_trans ht0 (by decide)) (Nat.lt_trans ht0 (by decide)) w')) ?_
    refine AllSure.cons (OpSure.take (v := rarr a) (by kernel_rfl) (by kernel_rfl) (fun _ h => run_load_blk (by kernel_rfl) (h.get 2 rfl) Tryd.underlying30 rfl (info_rl _))) ?_
    refine AllSure.cons (OpSure.take (v := .bool false) (by kernel_rfl) (by kernel_rfl) (fun _ _ => (run_ne30 (mulP t0 t0) a (Nat.lt_trans (mulP_lt _ _) (by decide)) (Nat.lt_trans ha (by decide)) (by kernel_rfl) (by kernel_rfl) true (decide_eq_true hq1)))) ?_
    exact AllSure.nil
  intro w14 h15
  refine then_at (F := ⟨(rarr a :: pt q1 :: pt q4 :: .bool false :: pt q11 :: rarr a :: .string ⟨(endsL 254 15).toArray⟩ :: rarr t0 :: rarr t0 :: rarr t0 :: rarr (mulP t0 t0) :: rarr a :: .bool false :: un :: un :: un :: un :: un :: rarr t0 :: rarr t0 :: rarr (mulP t0 t0) :: rarr a :: .bool false :: List.replicate 6 un).toArray, []⟩) (by kernel_rfl) ?_
  refine wp_cond_false (by kernel_rfl) ?_
  refine wp_skip ?_
  refine then_at (F := ⟨(rarr a :: pt q1 :: pt q4 :: .bool false :: pt q11 :: rarr a :: .string ⟨(endsL 254 15).toArray⟩ :: rarr t0 :: rarr t0 :: rarr t0 :: rarr (mulP t0 t0) :: rarr a :: .bool false :: un :: un :: un :: un :: un :: rarr t0 :: rarr t0 :: rarr (mulP t0 t0) :: rarr a :: .bool false :: List.replicate 6 un).toArray, []⟩) (by kernel_rfl) ?_
  refine wp_seq ?_
  refine wp_seq ?_
  -- region 6
  refine wl_region ?_
  refine wl_load h15 0 rfl (by kernel_rfl) (by kernel_rfl) Tryd.underlying30 rfl (info_rl _) ?_
  refine wl_call (v := .bool true) h15 (by kernel_rfl) enter16 #[rarr t0] (by kernel_rfl) (rodd_yes t0 hodd w14) ?_
  intro w16 h17
  refine wl_nil ?_
  refine then_at (F := ⟨(rarr a :: pt q1 :: pt q4 :: .bool false :: pt q11 :: rarr a :: .string ⟨(endsL 254 15).toArray⟩ :: rarr t0 :: rarr t0 :: rarr t0 :: rarr (mulP t0 t0) :: rarr a :: .bool false :: un :: un :: un :: un :: un :: rarr t0 :: rarr t0 :: rarr (mulP t0 t0) :: rarr a :: .bool false :: un :: rarr t0 :: .bool true :: List.replicate 3 un).toArray, []⟩) (by kernel_rfl) ?_
  refine wp_cond_true (by kernel_rfl) ?_
  -- region 7
  refine wl_region ?_
  refine wl_load h17 0 rfl (by kernel_rfl) (by kernel_rfl) Tryd.underlying30 rfl (info_rl _) ?_
  refine wl_call (v := rarr (negP (t0))) h17 (by kernel_rfl) enter29 #[rarr t0] (by kernel_rfl) (rneg_any (t0) ht0 w16) ?_
  intro w18 h19
  refine wl_fill (c' := rl (negP (t0))) h19 0 rfl (by kernel_rfl) (by kernel_rfl) (by kernel_rfl) (rl_sz _ _) (info_rl _) (one_rl _) ?_
  intro w20 (h21 : HA w [(q11, 30, rl (negP (t0))), (q4, 30, rl 0), (q1, 30, rl a)] w20)
  refine wl_nil ?_
  refine then_at (F := ⟨(rarr a :: pt q1 :: pt q4 :: .bool false :: pt q11 :: rarr a :: .string ⟨(endsL 254 15).toArray⟩ :: rarr t0 :: rarr t0 :: rarr t0 :: rarr (mulP t0 t0) :: rarr a :: .bool false :: un :: un :: un :: un :: un :: rarr t0 :: rarr t0 :: rarr (mulP t0 t0) :: rarr a :: .bool false :: un :: rarr t0 :: .bool true :: rarr t0 :: rarr (negP (t0)) :: List.replicate 1 un).toArray, []⟩) (by kernel_rfl) ?_
  refine wp_seq ?_
  -- region 8
  refine wl_region ?_
  refine wl_load h21 0 rfl (by kernel_rfl) (by kernel_rfl) Tryd.underlying30 rfl (info_rl _) ?_
  refine wl_fill (c' := rl (negP (t0))) h21 1 rfl (by kernel_rfl) (by kernel_rfl) (by kernel_rfl) (rl_sz _ _) (info_rl _) (one_rl _) ?_
  intro w22 (h23 : HA w [(q11, 30, rl (negP (t0))), (q4, 30, rl (negP (t0))), (q1, 30, rl a)] w22)
  refine wl_val (.bool true) (by kernel_rfl) (by kernel_rfl) ?_
  refine wl_nil ?_
  refine then_at (F := ⟨(rarr a :: pt q1 :: pt q4 :: .bool true :: pt q11 :: rarr a :: .string ⟨(endsL 254 15).toArray⟩ :: rarr t0 :: rarr t0 :: rarr t0 :: rarr (mulP t0 t0) :: rarr a :: .bool false :: un :: un :: un :: un :: un :: rarr t0 :: rarr t0 :: rarr (mulP t0 t0) :: rarr a :: .bool false :: un :: rarr t0 :: .bool true :: rarr t0 :: rarr (negP (t0)) :: rarr (negP (t0)) :: List.replicate 0 un).toArray, []⟩) (by kernel_rfl) ?_
  refine wp_ret ?_
  repeat first | refine then_ret ?_ | refine block_ret ?_
  exact bodyPost_ret (v := .tuple #[rarr (negP (t0)), .bool true]) (res_cell_tmp (p := 2) (r := 3) (by kernel_rfl) (by kernel_rfl) (by kernel_rfl) (h23.get 1 rfl) Tryd.underlying30 rfl (info_rl _)) rfl ⟨rfl, h23.old⟩

set_option linter.unusedVariables false in
set_option maxRecDepth 100000 in
set_option maxHeartbeats 2000000 in
theorem rr_1e (a t0 t1 ri : Nat) (ha : a < P) (ht0 : t0 < P) (ht1 : t1 < P) (hri : ri < P) (KP : ∀ w, Calls Tryd.prog 46 #[rarr a, .string ⟨(endsL 254 15).toArray⟩] w fun e w' => e = .returned (rarr t0) ∧ Below w.heap.size w w') (K2 : ∀ w, Calls Tryd.prog 46 #[rarr 2, .string ⟨(endsL 251 31).toArray⟩] w fun e w' => e = .returned (rarr ri) ∧ Below w.heap.size w w') (KT : ∀ w, Calls Tryd.prog 27 #[rarr t0, rarr ri] w fun e w' => e = .returned (rarr t1) ∧ Below w.heap.size w w') (hq1 : mulP t0 t0 = a) (hodd : (t0) % 2 = 0) (w : World) : Calls Tryd.prog 32 #[rarr a] w fun e w' => e = .returned (.tuple #[rarr (t0), .bool true]) ∧ Below w.heap.size w w' := by
  have H0 := HA.start w
  go_enter Tryd.func32, Tryd.ntmps32
  refine wp_seq ?_
  -- region 0
  refine wl_region ?_
  refine wl_make H0 30 (by kernel_rfl) (run_box30 (c := rl a) (by kernel_rfl)) ?_
  intro q1 w2 h3
  refine wl_make h3 30 (by kernel_rfl) run_alloc30 ?_
  intro q4 w5 h6
  refine wl_val (.bool false) (by kernel_rfl) (by kernel_rfl) ?_
  refine wl_nil ?_
  refine then_at (F := ⟨(rarr a :: pt q1 :: pt q4 :: .bool false :: List.replicate 25 un).toArray, []⟩) (by kernel_rfl) ?_
  refine wp_seq ?_
  -- region 1
  obtain ⟨B7, eB7⟩ : ∃ B, B = w5.heap.size := ⟨_, rfl⟩
  refine wp_region_ghost (fun g : Nat → Nat => (⟨(rarr a :: pt q1 :: pt q4 :: .bool false :: pt (g 3) :: rarr a :: .string ⟨(endsL 254 15).toArray⟩ :: rarr t0 :: List.replicate 21 un).toArray, []⟩ : Act)) (GS w [(q4, 30, rl 0), (q1, 30, rl a)] B7 1 3 4 30 (rl 0) (fun j => rl ([t0].getD j t0))) [rarr a, .string ⟨(endsL 254 15).toArray⟩, rarr t0, .pointer (some ⟨0, 0, none⟩), undef] (by kernel_rfl) (by kernel_rfl) (by kernel_rfl) (by kernel_rfl) (fun _ _ _ _ h => h) (fun d hd => GS.start h6.drew eB7 (by decide) (fun _ _ => rfl) (fun j hj => hd j (Nat.lt_of_lt_of_le hj (by decide)))) ?_ ?_
  · refine AllGhost.cons (ghost_load 1 rfl (by decide) (fun _ => by kernel_rfl) (fun _ => by kernel_rfl) (fun _ => by kernel_rfl) Tryd.underlying30 rfl (info_rl _)) ?_
    refine AllGhost.cons (ghost_call (v := .string ⟨(endsL 254 15).toArray⟩) (by decide) (fun _ => by kernel_rfl) (fun _ => by kernel_rfl) enter47 #[iN .u8 254, iN .u8 15] (fun _ => by kernel_rfl) (fun w' h' => rexp_any 254 15 w')) ?_
    refine AllGhost.cons (ghost_call (v := rarr t0) (by decide) (fun _ => by kernel_rfl) (fun _ => by kernel_rfl) enter46 #[rarr a, .string ⟨(endsL 254 15).toArray⟩] (fun _ => by kernel_rfl) (fun w' h' => KP w')) ?_
    refine AllGhost.cons (ghost_make 0 (by decide) rfl (fun _ => by kernel_rfl) (fun _ _ => by kernel_rfl) (fun _ _ => run_alloc30)) ?_
    refine AllGhost.cons (ghost_fill 0 (by decide) rfl (fun _ => by kernel_rfl) (fun _ => by kernel_rfl) (fun _ => by kernel_rfl) (fun _ => by kernel_rfl) (info_rl _) (one_rl _) (by kernel_rfl)) ?_
    exact AllGhost.nil
  intro g w8 g9
  have h10 : HA w [(g 3, 30, rl t0), (q4, 30, rl 0), (q1, 30, rl a)] w8 := g9.one
  clear g9 eB7
  generalize g 3 = q11 at h10 ⊢
  clear g
  refine then_at (F := ⟨(rarr a :: pt q1 :: pt q4 :: .bool false :: pt q11 :: rarr a :: .string ⟨(endsL 254 15).toArray⟩ :: rarr t0 :: List.replicate 21 un).toArray, []⟩) (by kernel_rfl) ?_
  refine wp_seq ?_
  refine wp_seq ?_
  -- region 2
  refine wp_region_sure ⟨(rarr a :: pt q1 :: pt q4 :: .bool false :: pt q11 :: rarr a :: .string ⟨(endsL 254 15).toArray⟩ :: rarr t0 :: rarr t0 :: rarr t0 :: rarr (mulP t0 t0) :: rarr a :: .bool false :: List.replicate 16 un).toArray, []⟩ (HA w [(q11, 30, rl t0), (q4, 30, rl 0), (q1, 30, rl a)]) [rarr t0, rarr t0, rarr (mulP t0 t0), rarr a, .bool false] (by kernel_rfl) (by kernel_rfl) (by kernel_rfl) (by kernel_rfl) (fun _ _ _ h => h) h10.drew ?_ ?_
  · refine AllSure.cons (OpSure.take (v := rarr t0) (by kernel_rfl) (by kernel_rfl) (fun _ h => run_load_blk (by kernel_rfl) (h.get 0 rfl) Tryd.underlying30 rfl (info_rl _))) ?_
    refine AllSure.cons (OpSure.take (v := rarr t0) (by kernel_rfl) (by kernel_rfl) (fun _ h => run_load_blk (by kernel_rfl) (h.get 0 rfl) Tryd.underlying30 rfl (info_rl _))) ?_
    refine AllSure.cons (sure_call (v := rarr (mulP t0 t0)) (by kernel_rfl) (by kernel_rfl) enter27 HA.keep #[rarr t0, rarr t0] (by kernel_rfl) (fun w' h' => rmul_any t0 t0 (Nat.lt_trans ht0 (by decide)) (Nat.lt_trans ht0 (by decide)) w')) ?_
    refine AllSure.cons (OpSure.take (v := rarr a) (by kernel_rfl) (by kernel_rfl) (fun _ h => run_load_blk (by kernel_rfl) (h.get 2 rfl) Tryd.underlying30 rfl (info_rl _))) ?_
    refine AllSure.cons (OpSure.take (v := .bool false) (by kernel_rfl) (by kernel_rfl) (fun _ _ => (run_ne30 (mulP t0 t0) a (Nat.lt_trans (mulP_lt _ _) (by decide)) (Nat.lt_trans ha (by decide)) (by kernel_rfl) (by kernel_rfl) true (decide_eq_true hq1)))) ?_
    exact AllSure.nil
  intro w12 h13
  refine then_at (F := ⟨(rarr a :: pt q1 :: pt q4 :: .bool false :: pt q11 :: rarr a :: .string ⟨(endsL 254 15).toArray⟩ :: rarr t0 :: rarr t0 :: rarr t0 :: rarr (mulP t0 t0) :: rarr a :: .bool false :: List.replicate 16 un).toArray, []⟩) (by kernel_rfl) ?_
  refine wp_cond_false (by kernel_rfl) ?_
  refine wp_skip ?_
  refine then_at (F := ⟨(rarr a :: pt q1 :: pt q4 :: .bool false :: pt q11 :: rarr a :: .string ⟨(endsL 254 15).toArray⟩ :: rarr t0 :: rarr t0 :: rarr t0 :: rarr (mulP t0 t0) :: rarr a :: .bool false :: List.replicate 16 un).toArray, []⟩) (by kernel_rfl) ?_
  refine wp_seq ?_
  refine wp_seq ?_
  -- region 4
  refine wp_region_sure ⟨(rarr a :: pt q1 :: pt q4 :: .bool false :: pt q11 :: rarr a :: .string ⟨(endsL 254 15).toArray⟩ :: rarr t0 :: rarr t0 :: rarr t0 :: rarr (mulP t0 t0) :: rarr a :: .bool false :: un :: un :: un :: un :: un :: rarr t0 :: rarr t0 :: rarr (mulP t0 t0) :: rarr a :: .bool false :: List.replicate 6 un).toArray, []⟩ (HA w [(q11, 30, rl t0), (q4, 30, rl 0), (q1, 30, rl a)]) [rarr t0, rarr t0, rarr (mulP t0 t0), rarr a, .bool false] (by kernel_rfl) (by kernel_rfl) (by kernel_rfl) (by kernel_rfl) (fun _ _ _ h => h) h13.drew ?_ ?_
  · refine AllSure.cons (OpSure.take (v := rarr t0) (by kernel_rfl) (by kernel_rfl) (fun _ h => run_load_blk (by kernel_rfl) (h.get 0 rfl) Tryd.underlying30 rfl (info_rl _))) ?_
    refine AllSure.cons (OpSure.take (v := rarr t0) (by kernel_rfl) (by kernel_rfl) (fun _ h => run_load_blk (by kernel_rfl) (h.get 0 rfl) Tryd.underlying30 rfl (info_rl _))) ?_
    refine AllSure.cons (sure_call (v := rarr (mulP t0 t0)) (by kernel_rfl) (by kernel_rfl) enter27 HA.keep #[rarr t0, rarr t0] (by kernel_rfl) (fun w' h' => rmul_any t0 t0 (Nat.lt_trans ht0 (by decide)) (Nat.lt_trans ht0 (by decide)) w')) ?_
    refine AllSure.cons (OpSure.take (v := rarr a) (by kernel_rfl) (by kernel_rfl) (fun _ h => run_load_blk (by kernel_rfl) (h.get 2 rfl) Tryd.underlying30 rfl (info_rl _))) ?_
    refine AllSure.cons (OpSure.take (v := .bool false) (by kernel_rfl) (by kernel_rfl) (fun _ _ => (run_ne30 (mulP t0 t0) a (Nat.lt_trans (mulP_lt _ _) (by decide)) (Nat.lt_trans ha (by decide)) (by kernel_rfl) (by kernel_rfl) true (decide_eq_true hq1)))) ?_
    exact AllSure.nil
  intro w14 h15
  refine then_at (F := ⟨(rarr a :: pt q1 :: pt q4 :: .bool false :: pt q11 :: rarr a :: .string ⟨(endsL 254 15).toArray⟩ :: rarr t0 :: rarr t0 :: rarr t0 :: rarr (mulP t0 t0) :: rarr a :: .bool false :: un :: un :: un :: un :: un :: rarr t0 :: rarr t0 :: rarr (mulP t0 t0) :: rarr a :: .bool false :: List.replicate 6 un).toArray, []⟩) (by kernel_rfl) ?_
  refine wp_cond_false (by kernel_rfl) ?_
  refine wp_skip ?_
  refine then_at (F := ⟨(rarr a :: pt q1 :: pt q4 :: .bool false :: pt q11 :: rarr a :: .string ⟨(endsL 254 15).toArray⟩ :: rarr t0 :: rarr t0 :: rarr t0 :: rarr (mulP t0 t0) :: rarr a :: .bool false :: un :: un :: un :: un :: un :: rarr t0 :: rarr t0 :: rarr (mulP t0 t0) :: rarr a :: .bool false :: List.replicate 6 un).toArray, []⟩) (by kernel_rfl) ?_
  refine wp_seq ?_
  refine wp_seq ?_
  -- region 6
  refine wl_region ?_
  refine wl_load h15 0 rfl (by kernel_rfl) (by kernel_rfl) Tryd.underlying30 rfl (info_rl _) ?_
  refine wl_call (v := .bool false) h15 (by kernel_rfl) enter16 #[rarr t0] (by kernel_rfl) (rodd_no t0 hodd w14) ?_
  intro w16 h17
  refine wl_nil ?_
  refine then_at (F := ⟨(rarr a :: pt q1 :: pt q4 :: .bool false :: pt q11 :: rarr a :: .string ⟨(endsL 254 15).toArray⟩ :: rarr t0 :: rarr t0 :: rarr t0 :: rarr (mulP t0 t0) :: rarr a :: .bool false :: un :: un :: un :: un :: un :: rarr t0 :: rarr t0 :: rarr (mulP t0 t0) :: rarr a :: .bool false :: un :: rarr t0 :: .bool false :: List.replicate 3 un).toArray, []⟩) (by kernel_rfl) ?_
  refine wp_cond_false (by kernel_rfl) ?_
  refine wp_skip ?_
  refine then_at (F := ⟨(rarr a :: pt q1 :: pt q4 :: .bool false :: pt q11 :: rarr a :: .string ⟨(endsL 254 15).toArray⟩ :: rarr t0 :: rarr t0 :: rarr t0 :: rarr (mulP t0 t0) :: rarr a :: .bool false :: un :: un :: un :: un :: un :: rarr t0 :: rarr t0 :: rarr (mulP t0 t0) :: rarr a :: .bool false :: un :: rarr t0 :: .bool false :: List.replicate 3 un).toArray, []⟩) (by kernel_rfl) ?_
  refine wp_seq ?_
  -- region 8
  refine wl_region ?_
  refine wl_load h17 0 rfl (by kernel_rfl) (by kernel_rfl) Tryd.underlying30 rfl (info_rl _) ?_
  refine wl_fill (c' := rl t0) h17 1 rfl (by kernel_rfl) (by kernel_rfl) (by kernel_rfl) (rl_sz _ _) (info_rl _) (one_rl _) ?_
  intro w18 (h19 : HA w [(q11, 30, rl t0), (q4, 30, rl t0), (q1, 30, rl a)] w18)
  refine wl_val (.bool true) (by kernel_rfl) (by kernel_rfl) ?_
  refine wl_nil ?_
  refine then_at (F := ⟨(rarr a :: pt q1 :: pt q4 :: .bool true :: pt q11 :: rarr a :: .string ⟨(endsL 254 15).toArray⟩ :: rarr t0 :: rarr t0 :: rarr t0 :: rarr (mulP t0 t0) :: rarr a :: .bool false :: un :: un :: un :: un :: un :: rarr t0 :: rarr t0 :: rarr (mulP t0 t0) :: rarr a :: .bool false :: un :: rarr t0 :: .bool false :: un :: un :: rarr t0 :: List.replicate 0 un).toArray, []⟩) (by kernel_rfl) ?_
  refine wp_ret ?_
  repeat first | refine then_ret ?_ | refine block_ret ?_
  exact bodyPost_ret (v := .tuple #[rarr (t0), .bool true]) (res_cell_tmp (p := 2) (r := 3) (by kernel_rfl) (by kernel_rfl) (by kernel_rfl) (h19.get 1 rfl) Tryd.underlying30 rfl (info_rl _)) rfl ⟨rfl, h19.old⟩

set_option linter.unusedVariables false in
set_option maxRecDepth 100000 in
set_option maxHeartbeats 2000000 in
theorem rr_2o (a t0 t1 ri : Nat) (ha : a < P) (ht0 : t0 < P) (ht1 : t1 < P) (hri : ri < P) (KP : ∀ w, Calls Tryd.prog 46 #[rarr a, .string ⟨(endsL 254 15).toArray⟩] w fun e w' => e = .returned (rarr t0) ∧ Below w.heap.size w w') (K2 : ∀ w, Calls Tryd.prog 46 #[rarr 2, .string ⟨(endsL 251 31).toArray⟩] w fun e w' => e = .returned (rarr ri) ∧ Below w.heap.size w w') (KT : ∀ w, Calls Tryd.prog 27 #[rarr t0, rarr ri] w fun e w' => e = .returned (rarr t1) ∧ Below w.heap.size w w') (hq1 : ¬ mulP t0 t0 = a) (hq2 : mulP t1 t1 = a) (hodd : (t1) % 2 = 1) (w : World) : Calls Tryd.prog 32 #[rarr a] w fun e w' => e = .returned (.tuple #[rarr (negP (t1)), .bool true]) ∧ Below w.heap.size w w' := by
  have H0 := HA.start w
  go_enter Tryd.func32, Tryd.ntmps32
  refine wp_seq ?_
  -- region 0
  refine wl_region ?_
  refine wl_make H0 30 (by kernel_rfl) (run_box30 (c := rl a) (by kernel_rfl)) ?_
  intro q1 w2 h3
  refine wl_make h3 30 (by kernel_rfl) run_alloc30 ?_
  intro q4 w5 h6
  refine wl_val (.bool false) (by kernel_rfl) (by kernel_rfl) ?_
  refine wl_nil ?_
  refine then_at (F := ⟨(rarr a :: pt q1 :: pt q4 :: .bool false :: List.replicate 25 un).toArray, []⟩) (by kernel_rfl) ?_
  refine wp_seq ?_
  -- region 1
  obtain ⟨B7, eB7⟩ : ∃ B, B = w5.heap.size := ⟨_, rfl⟩
  refine wp_region_ghost (fun g : Nat → Nat => (⟨(rarr a :: pt q1 :: pt q4 :: .bool false :: pt (g 3) :: rarr a :: .string ⟨(endsL 254 15).toArray⟩ :: rarr t0 :: List.replicate 21 un).toArray, []⟩ : Act)) (GS w [(q4, 30, rl 0), (q1, 30, rl a)] B7 1 3 4 30 (rl 0) (fun j => rl ([t0].getD j t0))) [rarr a, .string ⟨(endsL 254 15).toArray⟩, rarr t0, .pointer (some ⟨0, 0, none⟩), undef] (by kernel_rfl) (by kernel_rfl) (by kernel_rfl) (by kernel_rfl) (fun _ _ _ _ h => h) (fun d hd => GS.start h6.drew eB7 (by decide) (fun _ _ => rfl) (fun j hj => hd j (Nat.lt_of_lt_of_le hj (by decide)))) ?_ ?_
  · refine AllGhost.cons (ghost_load 1 rfl (by decide) (fun _ => by kernel_rfl) (fun _ => by kernel_rfl) (fun _ => by kernel_rfl) Tryd.underlying30 rfl (info_rl _)) ?_
    refine AllGhost.cons (ghost_call (v := .string ⟨(endsL 254 15).toArray⟩) (by decide) (fun _ => by kernel_rfl) (fun _ => by kernel_rfl) enter47 #[iN .u8 254, iN .u8 15] (fun _ => by kernel_rfl) (fun w' h' => rexp_any 254 15 w')) ?_
    refine AllGhost.cons (ghost_call (v := rarr t0) (by decide) (fun _ => by kernel_rfl) (fun _ => by kernel_rfl) enter46 #[rarr a, .string ⟨(endsL 254 15).toArray⟩] (fun _ => by kernel_rfl) (fun w' h' => KP w')) ?_
    refine AllGhost.cons (ghost_make 0 (by decide) rfl (fun _ => by kernel_rfl) (fun _ _ => by kernel_rfl) (fun _ _ => run_alloc30)) ?_
    refine AllGhost.cons (ghost_fill 0 (by decide) rfl (fun _ => by kernel_rfl) (fun _ => by kernel_rfl) (fun _ => by kernel_rfl) (fun _ => by kernel_rfl) (info_rl _) (one_rl _) (by kernel_rfl)) ?_
    exact AllGhost.nil
  intro g w8 g9
  have h10 : HA w [(g 3, 30, rl t0), (q4, 30, rl 0), (q1, 30, rl a)] w8 := g9.one
  clear g9 eB7
  generalize g 3 = q11 at h10 ⊢
  clear g
  refine then_at (F := ⟨(rarr a :: pt q1 :: pt q4 :: .bool false :: pt q11 :: rarr a :: .string ⟨(endsL 254 15).toArray⟩ :: rarr t0 :: List.replicate 21 un).toArray, []⟩) (by kernel_rfl) ?_
  refine wp_seq ?_
  refine wp_seq ?_
  -- region 2
  refine wp_region_sure ⟨(rarr a :: pt q1 :: pt q4 :: .bool false :: pt q11 :: rarr a :: .string ⟨(endsL 254 15).toArray⟩ :: rarr t0 :: rarr t0 :: rarr t0 :: rarr (mulP t0 t0) :: rarr a :: .bool true :: List.replicate 16 un).toArray, []⟩ (HA w [(q11, 30, rl t0), (q4, 30, rl 0), (q1, 30, rl a)]) [rarr t0, rarr t0, rarr (mulP t0 t0), rarr a, .bool true] (by kernel_rfl) (by kernel_rfl) (by kernel_rfl) (by kernel_rfl) (fun _ _ _ h => h) h10.drew ?_ ?_
  · refine AllSure.cons (OpSure.take (v := rarr t0) (by kernel_rfl) (by kernel_rfl) (fun _ h => run_load_blk (by kernel_rfl) (h.get 0 rfl) Tryd.underlying30 rfl (info_rl _))) ?_
    refine AllSure.cons (OpSure.take (v := rarr t0) (by kernel_rfl) (by kernel_rfl) (fun _ h => run_load_blk (by kernel_rfl) (h.get 0 rfl) Tryd.underlying30 rfl (info_rl _))) ?_
    refine AllSure.cons (sure_call (v := rarr (mulP t0 t0)) (by kernel_rfl) (by kernel_rfl) enter27 HA.keep #[rarr t0, rarr t0] (by kernel_rfl) (fun w' h' => rmul_any t0 t0 (Nat.lt_trans ht0 (by decide)) (Nat.lt_trans ht0 (by decide)) w')) ?_
    refine AllSure.cons (OpSure.take (v := rarr a) (by kernel_rfl) (by kernel_rfl) (fun _ h => run_load_blk (by kernel_rfl) (h.get 2 rfl) Tryd.underlying30 rfl (info_rl _))) ?_
    refine AllSure.cons (OpSure.take (v := .bool true) (by kernel_rfl) (by kernel_rfl) (fun _ _ => (run_ne30 (mulP t0 t0) a (Nat.lt_trans (mulP_lt _ _) (by decide)) (Nat.lt_trans ha (by decide)) (by kernel_rfl) (by kernel_rfl) false (decide_eq_false hq1)))) ?_
    exact AllSure.nil
  intro w12 h13
  refine then_at (F := ⟨(rarr a :: pt q1 :: pt q4 :: .bool false :: pt q11 :: rarr a :: .string ⟨(endsL 254 15).toArray⟩ :: rarr t0 :: rarr t0 :: rarr t0 :: rarr (mulP t0 t0) :: rarr a :: .bool true :: List.replicate 16 un).toArray, []⟩) (by kernel_rfl) ?_
  refine wp_cond_true (by kernel_rfl) ?_
  -- region 3
  refine wp_region_ghost (fun _ : Nat → Nat => (⟨(rarr a :: pt q1 :: pt q4 :: .bool false :: pt q11 :: rarr a :: .string ⟨(endsL 254 15).toArray⟩ :: rarr t0 :: rarr t0 :: rarr t0 :: rarr (mulP t0 t0) :: rarr a :: .bool true :: rarr t0 :: rarr 2 :: .string ⟨(endsL 251 31).toArray⟩ :: rarr ri :: rarr t1 :: List.replicate 11 un).toArray, []⟩ : Act)) (GF w [(q11, 30, rl t0), (q4, 30, rl 0), (q1, 30, rl a)] 5 0 0 q11 30 (rl t1)) [rarr t0, rarr 2, .string ⟨(endsL 251 31).toArray⟩, rarr ri, rarr t1, undef] (by kernel_rfl) (by kernel_rfl) (by kernel_rfl) (by kernel_rfl) (fun _ _ _ _ h => h) (fun d hd => GF.start h13.drew (hd 5 (by decide))) ?_ ?_
  · refine AllGhost.cons (gf_load 0 rfl (by decide) (fun _ => by kernel_rfl) (fun _ => by kernel_rfl) (fun _ => by kernel_rfl) Tryd.underlying30 rfl (info_rl _)) ?_
    refine AllGhost.cons (gf_call (v := rarr 2) (by decide) (fun _ => by kernel_rfl) (fun _ => by kernel_rfl) enter18 #[iN .u32 2] (fun _ => by kernel_rfl) (fun w' => rsmall_any 2 (by decide) w')) ?_
    refine AllGhost.cons (gf_call (v := .string ⟨(endsL 251 31).toArray⟩) (by decide) (fun _ => by kernel_rfl) (fun _ => by kernel_rfl) enter47 #[iN .u8 251, iN .u8 31] (fun _ => by kernel_rfl) (fun w' => rexp_any 251 31 w')) ?_
    refine AllGhost.cons (gf_call (v := rarr ri) (by decide) (fun _ => by kernel_rfl) (fun _ => by kernel_rfl) enter46 #[rarr 2, .string ⟨(endsL 251 31).toArray⟩] (fun _ => by kernel_rfl) (fun w' => K2 w')) ?_
    refine AllGhost.cons (gf_call (v := rarr t1) (by decide) (fun _ => by kernel_rfl) (fun _ => by kernel_rfl) enter27 #[rarr t0, rarr ri] (fun _ => by kernel_rfl) (fun w' => KT w')) ?_
    refine AllGhost.cons (gf_fill rfl (rl_sz _ _) (fun _ => by kernel_rfl) (fun _ => by kernel_rfl) (fun _ => by kernel_rfl) (fun _ => by kernel_rfl) (info_rl _) (one_rl _) (by decide) (by kernel_rfl)) ?_
    exact AllGhost.nil
  intro _ w14 g15
  have h16 : HA w [(q11, 30, rl t1), (q4, 30, rl 0), (q1, 30, rl a)] w14 := g15.held
  clear g15
  refine then_at (F := ⟨(rarr a :: pt q1 :: pt q4 :: .bool false :: pt q11 :: rarr a :: .string ⟨(endsL 254 15).toArray⟩ :: rarr t0 :: rarr t0 :: rarr t0 :: rarr (mulP t0 t0) :: rarr a :: .bool true :: rarr t0 :: rarr 2 :: .string ⟨(endsL 251 31).toArray⟩ :: rarr ri :: rarr t1 :: List.replicate 11 un).toArray, []⟩) (by kernel_rfl) ?_
  refine wp_seq ?_
  refine wp_seq ?_
  -- region 4
  refine wp_region_sure ⟨(rarr a :: pt q1 :: pt q4 :: .bool false :: pt q11 :: rarr a :: .string ⟨(endsL 254 15).toArray⟩ :: rarr t0 :: rarr t0 :: rarr t0 :: rarr (mulP t0 t0) :: rarr a :: .bool true :: rarr t0 :: rarr 2 :: .string ⟨(endsL 251 31).toArray⟩ :: rarr ri :: rarr t1 :: rarr t1 :: rarr t1 :: rarr (mulP t1 t1) :: rarr a :: .bool false :: List.replicate 6 un).toArray, []⟩ (HA w [(q11, 30, rl t1), (q4, 30, rl 0), (q1, 30, rl a)]) [rarr t1, rarr t1, rarr (mulP t1 t1), rarr a, .bool false] (by kernel_rfl) (by kernel_rfl) (by kernel_rfl) (by kernel_rfl) (fun _ _ _ h => h) h16.drew ?_ ?_
  · refine AllSure.cons (OpSure.take (v := rarr t1) (by kernel_rfl) (by kernel_rfl) (fun _ h => run_load_blk (by kernel_rfl) (h.get 0 rfl) Tryd.underlying30 rfl (info_rl _))) ?_
    refine AllSure.cons (OpSure.take (v := rarr t1) (by kernel_rfl) (by kernel_rfl) (fun _ h => run_load_blk (by kernel_rfl) (h.get 0 rfl) Tryd.underlying30 rfl (info_rl _))) ?_
    refine AllSure.cons (sure_call (v := rarr (mulP t1 t1)) (by kernel_rfl) (by kernel_rfl) enter27 HA.keep #[rarr t1, rarr t1] (by kernel_rfl) (fun w' h' => rmul_any t1 t1 (Nat.lt_trans ht1 (by decide)) (Nat.lt_trans ht1 (by decide)) w')) ?_
    refine AllSure.cons (OpSure.take (v := rarr a) (by kernel_rfl) (by kernel_rfl) (fun _ h => run_load_blk (by kernel_rfl) (h.get 2 rfl) Tryd.underlying30 rfl (info_rl _))) ?_
    refine AllSure.cons (OpSure.take (v := .bool false) (by kernel_rfl) (by kernel_rfl) (fun _ _ => (run_ne30 (mulP t1 t1) a (Nat.lt_trans (mulP_lt _ _) (by decide)) (Nat.lt_trans ha (by decide)) (by kernel_rfl) (by kernel_rfl) true (decide_eq_true hq2)))) ?_
    exact AllSure.nil
  intro w17 h18
  refine then_at (F := ⟨(rarr a :: pt q1 :: pt q4 :: .bool false :: pt q11 :: rarr a :: .string ⟨(endsL 254 15).toArray⟩ :: rarr t0 :: rarr t0 :: rarr t0 :: rarr (mulP t0 t0) :: rarr a :: .bool true :: rarr t0 :: rarr 2 :: .string ⟨(endsL 251 31).toArray⟩ :: rarr ri :: rarr t1 :: rarr t1 :: rarr t1 :: rarr (mulP t1 t1) :: rarr a :: .bool false :: List.replicate 6 un).toArray, []⟩) (by kernel_rfl) ?_
  refine wp_cond_false (by kernel_rfl) ?_
  refine wp_skip ?_
  refine then_at (F := ⟨(rarr a :: pt q1 :: pt q4 :: .bool false :: pt q11 :: rarr a :: .string ⟨(endsL 254 15).toArray⟩ :: rarr t0 :: rarr t0 :: rarr t0 :: rarr (mulP t0 t0) :: rarr a :: .bool true :: rarr t0 :: rarr 2 :: .string ⟨(endsL 251 31).toArray⟩ :: rarr ri :: rarr t1 :: rarr t1 :: rarr t1 :: rarr (mulP t1 t1) :: rarr a :: .bool false :: List.replicate 6 un).toArray, []⟩) (by kernel_rfl) ?_
  refine wp_seq ?_
  refine wp_seq ?_
  -- region 6
  refine wl_region ?_
  refine wl_load h18 0 rfl (by kernel_rfl) (by kernel_rfl) Tryd.underlying30 rfl (info_rl _) ?_
  refine wl_call (v := .bool true) h18 (by kernel_rfl) enter16 #[rarr t1] (by kernel_rfl) (rodd_yes t1 hodd w17) ?_
  intro w19 h20
  refine wl_nil ?_
  refine then_at (F := ⟨(rarr a :: pt q1 :: pt q4 :: .bool false :: pt q11 :: rarr a :: .string ⟨(endsL 254 15).toArray⟩ :: rarr t0 :: rarr t0 :: rarr t0 :: rarr (mulP t0 t0) :: rarr a :: .bool true :: rarr t0 :: rarr 2 :: .string ⟨(endsL 251 31).toArray⟩ :: rarr ri :: rarr t1 :: rarr t1 :: rarr t1 :: rarr (mulP t1 t1) :: rarr a :: .bool false :: un :: rarr t1 :: .bool true :: List.replicate 3 un).toArray, []⟩) (by kernel_rfl) ?_
  refine wp_cond_true (by kernel_rfl) ?_
  -- region 7
  refine wl_region ?_
  refine wl_load h20 0 rfl (by kernel_rfl) (by kernel_rfl) Tryd.underlying30 rfl (info_rl _) ?_
  refine wl_call (v := rarr (negP (t1))) h20 (by kernel_rfl) enter29 #[rarr t1] (by kernel_rfl) (rneg_any (t1) ht1 w19) ?_
  intro w21 h22
  refine wl_fill (c' := rl (negP (t1))) h22 0 rfl (by kernel_rfl) (by kernel_rfl) (by kernel_rfl) (rl_sz _ _) (info_rl _) (one_rl _) ?_
  intro w23 (h24 : HA w [(q11, 30, rl (negP (t1))), (q4, 30, rl 0), (q1, 30, rl a)] w23)
  refine wl_nil ?_
  refine then_at (F := ⟨(rarr a :: pt q1 :: pt q4 :: .bool false :: pt q11 :: rarr a :: .string ⟨(endsL 254 15).toArray⟩ :: rarr t0 :: rarr t0 :: rarr t0 :: rarr (mulP t0 t0) :: rarr a :: .bool true :: rarr t0 :: rarr 2 :: .string ⟨(endsL 251 31).toArray⟩ :: rarr ri :: rarr t1 :: rarr t1 :: rarr t1 :: rarr (mulP t1 t1) :: rarr a :: .bool false :: un :: rarr t1 :: .bool true :: rarr t1 :: rarr (negP (t1)) :: List.replicate 1 un).toArray, []⟩) (by kernel_rfl) ?_
  refine wp_seq ?_
  -- region 8
  refine wl_region ?_
  refine wl_load h24 0 rfl (by kernel_rfl) (by kernel_rfl) Tryd.underlying30 rfl (info_rl _) ?_
  refine wl_fill (c' := rl (negP (t1))) h24 1 rfl (by kernel_rfl) (by kernel_rfl) (by kernel_rfl) (rl_sz _ _) (info_rl _) (one_rl _) ?_
  intro w25 (h26 : HA w [(q11, 30, rl (negP (t1))), (q4, 30, rl (negP (t1))), (q1, 30, rl a)] w25)
  refine wl_val (.bool true) (by kernel_rfl) (by kernel_rfl) ?_
  refine wl_nil ?_
  refine then_at (F := ⟨(rarr a :: pt q1 :: pt q4 :: .bool true :: pt q11 :: rarr a :: .string ⟨(endsL 254 15).toArray⟩ :: rarr t0 :: rarr t0 :: rarr t0 :: rarr (mulP t0 t0) :: rarr a :: .bool true :: rarr t0 :: rarr 2 :: .string ⟨(endsL 251 31).toArray⟩ :: rarr ri :: rarr t1 :: rarr t1 :: rarr t1 :: rarr (mulP t1 t1) :: rarr a :: .bool false :: un :: rarr t1 :: .bool true :: rarr t1 :: rarr (negP (t1)) :: rarr (negP (t1)) :: List.replicate 0 un).toArray, []⟩) (by kernel_rfl) ?_
  refine wp_ret ?_
  repeat first | refine then_ret ?_ | refine block_ret ?_
  exact bodyPost_ret (v := .tuple #[rarr (negP (t1)), .bool true]) (res_cell_tmp (p := 2) (r := 3) (by kernel_rfl) (by kernel_rfl) (by kernel_rfl) (h26.get 1 rfl) Tryd.underlying30 rfl (info_rl _)) rfl ⟨rfl, h26.old⟩

set_option linter.unusedVariables false in
set_option maxRecDepth 100000 in
set_option maxHeartbeats 2000000 in
theorem rr_2e (a t0 t1 ri : Nat) (ha : a < P) (ht0 : t0 < P) (ht1 : t1 < P) (hri : ri < P) (KP : ∀ w, Calls Tryd.prog 46 #[rarr a, .string ⟨(endsL 254 15).toArray⟩] w fun e w' => e = .returned (rarr t0) ∧ Below w.heap.size w w') (K2 : ∀ w, Calls Tryd.prog 46 #[rarr 2, .string ⟨(endsL 251 31).toArray⟩] w fun e w' => e = .returned (rarr ri) ∧ Below w.heap.size w w') (KT : ∀ w, Calls Tryd.prog 27 #[rarr t0, rarr ri] w fun e w' => e = .returned (rarr t1) ∧ Below w.heap.size w w') (hq1 : ¬ mulP t0 t0 = a) (hq2 : mulP t1 t1 = a) (hodd : (t1) % 2 = 0) (w : World) : Calls Tryd.prog 32 #[rarr a] w fun e w' => e = .returned (.tuple #[rarr (t1), .bool true]) ∧ Below w.heap.size w w' := by
  have H0 := HA.start w
  go_enter Tryd.func32, Tryd.ntmps32
  refine wp_seq ?_
  -- region 0
  refine wl_region ?_
  refine wl_make H0 30 (by kernel_rfl) (run_box30 (c := rl a) (by kernel_rfl)) ?_
  intro q1 w2 h3
  refine wl_make h3 30 (by kernel_rfl) run_alloc30 ?_
  intro q4 w5 h6
  refine wl_val (.bool false) (by kernel_rfl) (by kernel_rfl) ?_
  refine wl_nil ?_
  refine then_at (F := ⟨(rarr a :: pt q1 :: pt q4 :: .bool false :: List.replicate 25 un).toArray, []⟩) (by kernel_rfl) ?_
  refine wp_seq ?_
  -- region 1
  obtain ⟨B7, eB7⟩ : ∃ B, B = w5.heap.size := ⟨_, rfl⟩
  refine wp_region_ghost (fun g : Nat → Nat => (⟨(rarr a :: pt q1 :: pt q4 :: .bool false :: pt (g 3) :: rarr a :: .string ⟨(endsL 254 15).toArray⟩ :: rarr t0 :: List.replicate 21 un).toArray, []⟩ : Act)) (GS w [(q4, 30, rl 0), (q1, 30, rl a)] B7 1 3 4 30 (rl 0) (fun j => rl ([t0].getD j t0))) [rarr a, .string ⟨(endsL 254 15).toArray⟩, rarr t0, .pointer (some ⟨0, 0, none⟩), undef] (by kernel_rfl) (by kernel_rfl) (by kernel_rfl) (by kernel_rfl) (fun _ _ _ _ h => h) (fun d hd => GS.start h6.drew eB7 (by decide) (fun _ _ => rfl) (fun j hj => hd j (Nat.lt_of_lt_of_le hj (by decide)))) ?_ ?_
  · refine AllGhost.cons (ghost_load 1 rfl (by decide) (fun _ => by kernel_rfl) (fun _ => by kernel_rfl) (fun _ => by kernel_rfl) Tryd.underlying30 rfl (info_rl _)) ?_
    refine AllGhost.cons (ghost_call (v := .string ⟨(endsL 254 15).toArray⟩) (by decide) (fun _ => by kernel_rfl) (fun _ => by kernel_rfl) enter47 #[iN .u8 254, iN .u8 15] (fun _ => by kernel_rfl) (fun w' h' => rexp_any 254 15 w')) ?_
    refine AllGhost.cons (ghost_call (v := rarr t0) (by decide) (fun _ => by kernel_rfl) (fun _ => by kernel_rfl) enter46 #[rarr a, .string ⟨(endsL 254 15).toArray⟩] (fun _ => by kernel_rfl) (fun w' h' => KP w')) ?_
    refine AllGhost.cons (ghost_make 0 (by decide) rfl (fun _ => by kernel_rfl) (fun _ _ => by kernel_rfl) (fun _ _ => run_alloc30)) ?_
    refine AllGhost.cons (ghost_fill 0 (by decide) rfl (fun _ => by kernel_rfl) (fun _ => by kernel_rfl) (fun _ => by kernel_rfl) (fun _ => by kernel_rfl) (info_rl _) (one_rl _) (by kernel_rfl)) ?_
    exact AllGhost.nil
  intro g w8 g9
  have h10 : HA w [(g 3, 30, rl t0), (q4, 30, rl 0), (q1, 30, rl a)] w8 := g9.one
  clear g9 eB7
  generalize g 3 = q11 at h10 ⊢
  clear g
  refine then_at (F := ⟨(rarr a :: pt q1 :: pt q4 :: .bool false :: pt q11 :: rarr a :: .string ⟨(endsL 254 15).toArray⟩ :: rarr t0 :: List.replicate 21 un).toArray, []⟩) (by kernel_rfl) ?_
  refine wp_seq ?_
  refine wp_seq ?_
  -- region 2
  refine wp_region_sure ⟨(rarr a :: pt q1 :: pt q4 :: .bool false :: pt q11 :: rarr a :: .string ⟨(endsL 254 15).toArray⟩ :: rarr t0 :: rarr t0 :: rarr t0 :: rarr (mulP t0 t0) :: rarr a :: .bool true :: List.replicate 16 un).toArray, []⟩ (HA w [(q11, 30, rl t0), (q4, 30, rl 0), (q1, 30, rl a)]) [rarr t0, rarr t0, rarr (mulP t0 t0), rarr a, .bool true] (by kernel_rfl) (by kernel_rfl) (by kernel_rfl) (by kernel_rfl) (fun _ _ _ h => h) h10.drew ?_ ?_
  · refine AllSure.cons (OpSure.take (v := rarr t0) (by kernel_rfl) (by kernel_rfl) (fun _ h => run_load_blk (by kernel_rfl) (h.get 0 rfl) Tryd.underlying30 rfl (info_rl _))) ?_
    refine AllSure.cons (OpSure.take (v := rarr t0) (by kernel_rfl) (by kernel_rfl) (fun _ h => run_load_blk (by kernel_rfl) (h.get 0 rfl) Tryd.underlying30 rfl (info_rl _))) ?_
    refine AllSure.cons (sure_call (v := rarr (mulP t0 t0)) (by kernel_rfl) (by kernel_rfl) enter27 HA.keep #[rarr t0, rarr t0] (by kernel_rfl) (fun w' h' => rmul_any t0 t0 (Nat.lt_trans ht0 (by decide)) (Nat.lt_trans ht0 (by decide)) w')) ?_
    refine AllSure.cons (OpSure.take (v := rarr a) (by kernel_rfl) (by kernel_rfl) (fun _ h => run_load_blk (by kernel_rfl) (h.get 2 rfl) Tryd.underlying30 rfl (info_rl _))) ?_
    refine AllSure.cons (OpSure.take (v := .bool true) (by kernel_rfl) (by kernel_rfl) (fun _ _ => (run_ne30 (mulP t0 t0) a (Nat.lt_trans (mulP_lt _ _) (by decide)) (Nat.lt_trans ha (by decide)) (by kernel_rfl) (by kernel_rfl) false (decide_eq_false hq1)))) ?_
    exact AllSure.nil
  intro w12 h13
  refine then_at (F := ⟨(rarr a :: pt q1 :: pt q4 :: .bool false :: pt q11 :: rarr a :: .string ⟨(endsL 254 15).toArray⟩ :: rarr t0 :: rarr t0 :: rarr t0 :: rarr (mulP t0 t0) :: rarr a :: .bool true :: List.replicate 16 un).toArray, []⟩) (by kernel_rfl) ?_
  refine wp_cond_true (by kernel_rfl) ?_
  -- region 3
  refine wp_region_ghost (fun _ : Nat → Nat => (⟨(rarr a :: pt q1 :: pt q4 :: .bool false :: pt q11 :: rarr a :: .string ⟨(endsL 254 15).toArray⟩ :: rarr t0 :: rarr t0 :: rarr t0 :: rarr (mulP t0 t0) :: rarr a :: .bool true :: rarr t0 :: rarr 2 :: .string ⟨(endsL 251 31).toArray⟩ :: rarr ri :: rarr t1 :: List.replicate 11 un).toArray, []⟩ : Act)) (GF w [(q11, 30, rl t0), (q4, 30, rl 0), (q1, 30, rl a)] 5 0 0 q11 30 (rl t1)) [rarr t0, rarr 2, .string ⟨(endsL 251 31).toArray⟩, rarr ri, rarr t1, undef] (by kernel_rfl) (by kernel_rfl) (by kernel_rfl) (by kernel_rfl) (fun _ _ _ _ h => h) (fun d hd => GF.start h13.drew (hd 5 (by decide))) ?_ ?_
  · refine AllGhost.cons (gf_load 0 rfl (by decide) (fun _ => by kernel_rfl) (fun _ => by kernel_rfl) (fun _ => by kernel_rfl) Tryd.underlying30 rfl (info_rl _)) ?_
    refine AllGhost.cons (gf_call (v := rarr 2) (by decide) (fun _ => by kernel_rfl) (fun _ => by kernel_rfl) enter18 #[iN .u32 2] (fun _ => by kernel_rfl) (fun w' => rsmall_any 2 (by decide) w')) ?_
    refine AllGhost.cons (gf_call (v := .string ⟨(endsL 251 31).toArray⟩) (by decide) (fun _ => by kernel_rfl) (fun _ => by kernel_rfl) enter47 #[iN .u8 251, iN .u8 31] (fun _ => by kernel_rfl) (fun w' => rexp_any 251 31 w')) ?_
    refine AllGhost.cons (gf_call (v := rarr ri) (by decide) (fun _ => by kernel_rfl) (fun _ => by kernel_rfl) enter46 #[rarr 2, .string ⟨(endsL 251 31).toArray⟩] (fun _ => by kernel_rfl) (fun w' => K2 w')) ?_
    refine AllGhost.cons (gf_call (v := rarr t1) (by decide) (fun _ => by kernel_rfl) (fun _ => by kernel_rfl) enter27 #[rarr t0, rarr ri] (fun _ => by kernel_rfl) (fun w' => KT w')) ?_
    refine AllGhost.cons (gf_fill rfl (rl_sz _ _) (fun _ => by kernel_rfl) (fun _ => by kernel_rfl) (fun _ => by kernel_rfl) (fun _ => by kernel_rfl) (info_rl _) (one_rl _) (by decide) (by kernel_rfl)) ?_
    exact AllGhost.nil
  intro _ w14 g15
  have h16 : HA w [(q11, 30, rl t1), (q4, 30, rl 0), (q1, 30, rl a)] w14 := g15.held
  clear g15
  refine then_at (F := ⟨(rarr a :: pt q1 :: pt q4 :: .bool false :: pt q11 :: rarr a :: .string ⟨(endsL 254 15).toArray⟩ :: rarr t0 :: rarr t0 :: rarr t0 :: rarr (mulP t0 t0) :: rarr a :: .bool true :: rarr t0 :: rarr 2 :: .string ⟨(endsL 251 31).toArray⟩ :: rarr ri :: rarr t1 :: List.replicate 11 un).toArray, []⟩) (by kernel_rfl) ?_
  refine wp_seq ?_
  refine wp_seq ?_
  -- region 4
  refine wp_region_sure ⟨(rarr a :: pt q1 :: pt q4 :: .bool false :: pt q11 :: rarr a :: .string ⟨(endsL 254 15).toArray⟩ :: rarr t0 :: rarr t0 :: rarr t0 :: rarr (mulP t0 t0) :: rarr a :: .bool true :: rarr t0 :: rarr 2 :: .string ⟨(endsL 251 31).toArray⟩ :: rarr ri :: rarr t1 :: rarr t1 :: rarr t1 :: rarr (mulP t1 t1) :: rarr a :: .bool false :: List.replicate 6 un).toArray, []⟩ (HA w [(q11, 30, rl t1), (q4, 30, rl 0), (q1, 30, rl a)]) [rarr t1, rarr t1, rarr (mulP t1 t1), rarr a, .bool false] (by kernel_rfl) (by kernel_rfl) (by kernel_rfl) (by kernel_rfl) (fun _ _ _ h => h) h16.drew ?_ ?_
  · refine AllSure.cons (OpSure.take (v := rarr t1) (by kernel_rfl) (by kernel_rfl) (fun _ h => run_load_blk (by kernel_rfl) (h.get 0 rfl) Tryd.underlying30 rfl (info_rl _))) ?_
    refine AllSure.cons (OpSure.take (v := rarr t1) (by kernel_rfl) (by kernel_rfl) (fun _ h => run_load_blk (by kernel_rfl) (h.get 0 rfl) Tryd.underlying30 rfl (info_rl _))) ?_
    refine AllSure.cons (sure_call (v := rarr (mulP t1 t1)) (by kernel_rfl) (by kernel_rfl) enter27 HA.keep #[rarr t1, rarr t1] (by kernel_rfl) (fun w' h' => rmul_any t1 t1 (Nat.lt_trans ht1 (by decide)) (Nat.lt_trans ht1 (by decide)) w')) ?_
    refine AllSure.cons (OpSure.take (v := rarr a) (by kernel_rfl) (by kernel_rfl) (fun _ h => run_load_blk (by kernel_rfl) (h.get 2 rfl) Tryd.underlying30 rfl (info_rl _))) ?_
    refine AllSure.cons (OpSure.take (v := .bool false) (by kernel_rfl) (by kernel_rfl) (fun _ _ => (run_ne30 (mulP t1 t1) a (Nat.lt_trans (mulP_lt _ _) (by decide)) (Nat.lt_trans ha (by decide)) (by kernel_rfl) (by kernel_rfl) true (decide_eq_true hq2)))) ?_
    exact AllSure.nil
  intro w17 h18
  refine then_at (F := ⟨(rarr a :: pt q1 :: pt q4 :: .bool false :: pt q11 :: rarr a :: .string ⟨(endsL 254 15).toArray⟩ :: rarr t0 :: rarr t0 :: rarr t0 :: rarr (mulP t0 t0) :: rarr a :: .bool true :: rarr t0 :: rarr 2 :: .string ⟨(endsL 251 31).toArray⟩ :: rarr ri :: rarr t1 :: rarr t1 :: rarr t1 :: rarr (mulP t1 t1) :: rarr a :: .bool false :: List.replicate 6 un).toArray, []⟩) (by kernel_rfl) ?_
  refine wp_cond_false (by kernel_rfl) ?_
  refine wp_skip ?_
  refine then_at (F := ⟨(rarr a :: pt q1 :: pt q4 :: .bool false :: pt q11 :: rarr a :: .string ⟨(endsL 254 15).toArray⟩ :: rarr t0 :: rarr t0 :: rarr t0 :: rarr (mulP t0 t0) :: rarr a :: .bool true :: rarr t0 :: rarr 2 :: .string ⟨(endsL 251 31).toArray⟩ :: rarr ri :: rarr t1 :: rarr t1 :: rarr t1 :: rarr (mulP t1 t1) :: rarr a :: .bool false :: List.replicate 6 un).toArray, []⟩) (by kernel_rfl) ?_
  refine wp_seq ?_
  refine wp_seq ?_
  -- region 6
  refine wl_region ?_
  refine wl_load h18 0 rfl (by kernel_rfl) (by kernel_rfl) Tryd.underlying30 rfl (info_rl _) ?_
  refine wl_call (v := .bool false) h18 (by kernel_rfl) enter16 #[rarr t1] (by kernel_rfl) (rodd_no t1 hodd w17) ?_
  intro w19 h20
  refine wl_nil ?_
  refine then_at (F := ⟨(rarr a :: pt q1 :: pt q4 :: .bool false :: pt q11 :: rarr a :: .string ⟨(endsL 254 15).toArray⟩ :: rarr t0 :: rarr t0 :: rarr t0 :: rarr (mulP t0 t0) :: rarr a :: .bool true :: rarr t0 :: rarr 2 :: .string ⟨(endsL 251 31).toArray⟩ :: rarr ri :: rarr t1 :: rarr t1 :: rarr t1 :: rarr (mulP t1 t1) :: rarr a :: .bool false :: un :: rarr t1 :: .bool false :: List.replicate 3 un).toArray, []⟩) (by kernel_rfl) ?_
  refine wp_cond_false (by kernel_rfl) ?_
  refine wp_skip ?_
  refine then_at (F := ⟨(rarr a :: pt q1 :: pt q4 :: .bool false :: pt q11 :: rarr a :: .string ⟨(endsL 254 15).toArray⟩ :: rarr t0 :: rarr t0 :: rarr t0 :: rarr (mulP t0 t0) :: rarr a :: .bool true :: rarr t0 :: rarr 2 :: .string ⟨(endsL 251 31).toArray⟩ :: rarr ri :: rarr t1 :: rarr t1 :: rarr t1 :: rarr (mulP t1 t1) :: rarr a :: .bool false :: un :: rarr t1 :: .bool false :: List.replicate 3 un).toArray, []⟩) (by kernel_rfl) ?_
  refine wp_seq ?_
  -- region 8
  refine wl_region ?_
  refine wl_load h20 0 rfl (by kernel_rfl) (by kernel_rfl) Tryd.underlying30 rfl (info_rl _) ?_
  refine wl_fill (c' := rl t1) h20 1 rfl (by kernel_rfl) (by kernel_rfl) (by kernel_rfl) (rl_sz _ _) (info_rl _) (one_rl _) ?_
  intro w21 (h22 : HA w [(q11, 30, rl t1), (q4, 30, rl t1), (q1, 30, rl a)] w21)
  refine wl_val (.bool true) (by kernel_rfl) (by kernel_rfl) ?_
  refine wl_nil ?_
  refine then_at (F := ⟨(rarr a :: pt q1 :: pt q4 :: .bool true :: pt q11 :: rarr a :: .string ⟨(endsL 254 15).toArray⟩ :: rarr t0 :: rarr t0 :: rarr t0 :: rarr (mulP t0 t0) :: rarr a :: .bool true :: rarr t0 :: rarr 2 :: .string ⟨(endsL 251 31).toArray⟩ :: rarr ri :: rarr t1 :: rarr t1 :: rarr t1 :: rarr (mulP t1 t1) :: rarr a :: .bool false :: un :: rarr t1 :: .bool false :: un :: un :: rarr t1 :: List.replicate 0 un).toArray, []⟩) (by kernel_rfl) ?_
  refine wp_ret ?_
  repeat first | refine then_ret ?_ | refine block_ret ?_
  exact bodyPost_ret (v := .tuple #[rarr (t1), .bool true]) (res_cell_tmp (p := 2) (r := 3) (by kernel_rfl) (by kernel_rfl) (by kernel_rfl) (h22.get 1 rfl) Tryd.underlying30 rfl (info_rl _)) rfl ⟨rfl, h22.old⟩

set_option linter.unusedVariables false in
set_option maxRecDepth 100000 in
set_option maxHeartbeats 2000000 in
theorem rr_n (a t0 t1 ri : Nat) (ha : a < P) (ht0 : t0 < P) (ht1 : t1 < P) (hri : ri < P) (KP : ∀ w, Calls Tryd.prog 46 #[rarr a, .string ⟨(endsL 254 15).toArray⟩] w fun e w' => e = .returned (rarr t0) ∧ Below w.heap.size w w') (K2 : ∀ w, Calls Tryd.prog 46 #[rarr 2, .string ⟨(endsL 251 31).toArray⟩] w fun e w' => e = .returned (rarr ri) ∧ Below w.heap.size w w') (KT : ∀ w, Calls Tryd.prog 27 #[rarr t0, rarr ri] w fun e w' => e = .returned (rarr t1) ∧ Below w.heap.size w w') (hq1 : ¬ mulP t0 t0 = a) (hq2 : ¬ mulP t1 t1 = a) (w : World) : Calls Tryd.prog 32 #[rarr a] w fun e w' => e = .returned (.tuple #[rarr 0, .bool false]) ∧ Below w.heap.size w w' := by
  have H0 := HA.start w
  go_enter Tryd.func32, Tryd.ntmps32
  refine wp_seq ?_
  -- region 0
  refine wl_region ?_
  refine wl_make H0 30 (by kernel_rfl) (run_box30 (c := rl a) (by kernel_rfl)) ?_
  intro q1 w2 h3
  refine wl_make h3 30 (by kernel_rfl) run_alloc30 ?_
  intro q4 w5 h6
  refine wl_val (.bool false) (by kernel_rfl) (by kernel_rfl) ?_
  refine wl_nil ?_
  refine then_at (F := ⟨(rarr a :: pt q1 :: pt q4 :: .bool false :: List.replicate 25 un).toArray, []⟩) (by kernel_rfl) ?_
  refine wp_seq ?_
  -- region 1
  obtain ⟨B7, eB7⟩ : ∃ B, B = w5.heap.size := ⟨_, rfl⟩
  refine wp_region_ghost (fun g : Nat → Nat => (⟨(rarr a :: pt q1 :: pt q4 :: .bool false :: pt (g 3) :: rarr a :: .string ⟨(endsL 254 15).toArray⟩ :: rarr t0 :: List.replicate 21 un).toArray, []⟩ : Act)) (GS w [(q4, 30, rl 0), (q1, 30, rl a)] B7 1 3 4 30 (rl 0) (fun j => rl ([t0].getD j t0))) [rarr a, .string ⟨(endsL 254 15).toArray⟩, rarr t0, .pointer (some ⟨0, 0, none⟩), undef] (by kernel_rfl) (by kernel_rfl) (by kernel_rfl) (by kernel_rfl) (fun _ _ _ _ h => h) (fun d hd => GS.start h6.drew eB7 (by decide) (fun _ _ => rfl) (fun j hj => hd j (Nat.lt_of_lt_of_le hj (by decide)))) ?_ ?_
  · refine AllGhost.cons (ghost_load 1 rfl (by decide) (fun _ => by kernel_rfl) (fun _ => by kernel_rfl) (fun _ => by kernel_rfl) Tryd.underlying30 rfl (info_rl _)) ?_
    refine AllGhost.cons (ghost_call (v := .string ⟨(endsL 254 15).toArray⟩) (by decide) (fun _ => by kernel_rfl) (fun _ => by kernel_rfl) enter47 #[iN .u8 254, iN .u8 15] (fun _ => by kernel_rfl) (fun w' h' => rexp_any 254 15 w')) ?_
    refine AllGhost.cons (ghost_call (v := rarr t0) (by decide) (fun _ => by kernel_rfl) (fun _ => by kernel_rfl) enter46 #[rarr a, .string ⟨(endsL 254 15).toArray⟩] (fun _ => by kernel_rfl) (fun w' h' => KP w')) ?_
    refine AllGhost.cons (ghost_make 0 (by decide) rfl (fun _ => by kernel_rfl) (fun _ _ => by kernel_rfl) (fun _ _ => run_alloc30)) ?_
    refine AllGhost.cons (ghost_fill 0 (by decide) rfl (fun _ => by kernel_rfl) (fun _ => by kernel_rfl) (fun _ => by kernel_rfl) (fun _ => by kernel_rfl) (info_rl _) (one_rl _) (by kernel_rfl)) ?_
    exact AllGhost.nil
  intro g w8 g9
  have h10 : HA w [(g 3, 30, rl t0), (q4, 30, rl 0), (q1, 30, rl a)] w8 := g9.one
  clear g9 eB7
  generalize g 3 = q11 at h10 ⊢
  clear g
  refine then_at (F := ⟨(rarr a :: pt q1 :: pt q4 :: .bool false :: pt q11 :: rarr a :: .string ⟨(endsL 254 15).toArray⟩ :: rarr t0 :: List.replicate 21 un).toArray, []⟩) (by kernel_rfl) ?_
  refine wp_seq ?_
  refine wp_seq ?_
  -- region 2
  refine wp_region_sure ⟨(rarr a :: pt q1 :: pt q4 :: .bool false :: pt q11 :: rarr a :: .string ⟨(endsL 254 15).toArray⟩ :: rarr t0 :: rarr t0 :: rarr t0 :: rarr (mulP t0 t0) :: rarr a :: .bool true :: List.replicate 16 un).toArray, []⟩ (HA w [(q11, 30, rl t0), (q4, 30, rl 0), (q1, 30, rl a)]) [rarr t0, rarr t0, rarr (mulP t0 t0), rarr a, .bool true] (by kernel_rfl) (by kernel_rfl) (by kernel_rfl) (by kernel_rfl) (fun _ _ _ h => h) h10.drew ?_ ?_
  · refine AllSure.cons (OpSure.take (v := rarr t0) (by kernel_rfl) (by kernel_rfl) (fun _ h => run_load_blk (by kernel_rfl) (h.get 0 rfl) Tryd.underlying30 rfl (info_rl _))) ?_
    refine AllSure.cons (OpSure.take (v := rarr t0) (by kernel_rfl) (by kernel_rfl) (fun _ h => run_load_blk (by kernel_rfl) (h.get 0 rfl) Tryd.underlying30 rfl (info_rl _))) ?_
    refine AllSure.cons (sure_call (v := rarr (mulP t0 t0)) (by kernel_rfl) (by kernel_rfl) enter27 HA.keep #[rarr t0, rarr t0] (by kernel_rfl) (fun w' h' => rmul_any t0 t0 (Nat.lt_trans ht0 (by decide)) (Nat.lt_trans ht0 (by decide)) w')) ?_
    refine AllSure.cons (OpSure.take (v := rarr a) (by kernel_rfl) (by kernel_rfl) (fun _ h => run_load_blk (by kernel_rfl) (h.get 2 rfl) Tryd.underlying30 rfl (info_rl _))) ?_
    refine AllSure.cons (OpSure.take (v := .bool true) (by kernel_rfl) (by kernel_rfl) (fun _ _ => (run_ne30 (mulP t0 t0) a (Nat.lt_trans (mulP_lt _ _) (by decide)) (Nat.lt_trans ha (by decide)) (by kernel_rfl) (by kernel_rfl) false (decide_eq_false hq1)))) ?_
    exact AllSure.nil
  intro w12 h13
  refine then_at (F := ⟨(rarr a :: pt q1 :: pt q4 :: .bool false :: pt q11 :: rarr a :: .string ⟨(endsL 254 15).toArray⟩ :: rarr t0 :: rarr t0 :: rarr t0 :: rarr (mulP t0 t0) :: rarr a :: .bool true :: List.replicate 16 un).toArray, []⟩) (by kernel_rfl) ?_
  refine wp_cond_true (by kernel_rfl) ?_
  -- region 3
  refine wp_region_ghost (fun _ : Nat → Nat => (⟨(rarr a :: pt q1 :: pt q4 :: .bool false :: pt q11 :: rarr a :: .string ⟨(endsL 254 15).toArray⟩ :: rarr t0 :: rarr t0 :: rarr t0 :: rarr (mulP t0 t0) :: rarr a :: .bool true :: rarr t0 :: rarr 2 :: .string ⟨(endsL 251 31).toArray⟩ :: rarr ri :: rarr t1 :: List.replicate 11 un).toArray, []⟩ : Act)) (GF w [(q11, 30, rl t0), (q4, 30, rl 0), (q1, 30, rl a)] 5 0 0 q11 30 (rl t1)) [rarr t0, rarr 2, .string ⟨(endsL 251 31).toArray⟩, rarr ri, rarr t1, undef] (by kernel_rfl) (by kernel_rfl) (by kernel_rfl) (by kernel_rfl) (fun _ _ _ _ h => h) (fun d hd => GF.start h13.drew (hd 5 (by decide))) ?_ ?_
  · refine AllGhost.cons (gf_load 0 rfl (by decide) (fun _ => by kernel_rfl) (fun _ => by kernel_rfl) (fun _ => by kernel_rfl) Tryd.underlying30 rfl (info_rl _)) ?_
    refine AllGhost.cons (gf_call (v := rarr 2) (by decide) (fun _ => by kernel_rfl) (fun _ => by kernel_rfl) enter18 #[iN .u32 2] (fun _ => by kernel_rfl) (fun w' => rsmall_any 2 (by decide) w')) ?_
    refine AllGhost.cons (gf_call (v := .string ⟨(endsL 251 31).toArray⟩) (by decide) (fun _ => by kernel_rfl) (fun _ => by kernel_rfl) enter47 #[iN .u8 251, iN .u8 31] (fun _ => by kernel_rfl) (fun w' => rexp_any 251 31 w')) ?_
    refine AllGhost.cons (gf_call (v := rarr ri) (by decide) (fun _ => by kernel_rfl) (fun _ => by kernel_rfl) enter46 #[rarr 2, .string ⟨(endsL 251 31).toArray⟩] (fun _ => by kernel_rfl) (fun w' => K2 w')) ?_
    refine AllGhost.cons (gf_call (v := rarr t1) (by decide) (fun _ => by kernel_rfl) (fun _ => by kernel_rfl) enter27 #[rarr t0, rarr ri] (fun _ => by kernel_rfl) (fun w' => KT w')) ?_
    refine AllGhost.cons (gf_fill rfl (rl_sz _ _) (fun _ => by kernel_rfl) (fun _ => by kernel_rfl) (fun _ => by kernel_rfl) (fun _ => by kernel_rfl) (info_rl _) (one_rl _) (by decide) (by kernel_rfl)) ?_
    exact AllGhost.nil
  intro _ w14 g15
  have h16 : HA w [(q11, 30, rl t1), (q4, 30, rl 0), (q1, 30, rl a)] w14 := g15.held
  clear g15
  refine then_at (F := ⟨(rarr a :: pt q1 :: pt q4 :: .bool false :: pt q11 :: rarr a :: .string ⟨(endsL 254 15).toArray⟩ :: rarr t0 :: rarr t0 :: rarr t0 :: rarr (mulP t0 t0) :: rarr a :: .bool true :: rarr t0 :: rarr 2 :: .string ⟨(endsL 251 31).toArray⟩ :: rarr ri :: rarr t1 :: List.replicate 11 un).toArray, []⟩) (by kernel_rfl) ?_
  refine wp_seq ?_
  refine wp_seq ?_
  -- region 4
  refine wp_region_sure ⟨(rarr a :: pt q1 :: pt q4 :: .bool false :: pt q11 :: rarr a :: .string ⟨(endsL 254 15).toArray⟩ :: rarr t0 :: rarr t0 :: rarr t0 :: rarr (mulP t0 t0) :: rarr a :: .bool true :: rarr t0 :: rarr 2 :: .string ⟨(endsL 251 31).toArray⟩ :: rarr ri :: rarr t1 :: rarr t1 :: rarr t1 :: rarr (mulP t1 t1) :: rarr a :: .bool true :: List.replicate 6 un).toArray, []⟩ (HA w [(q11, 30, rl t1), (q4, 30, rl 0), (q1, 30, rl a)]) [rarr t1, rarr t1, rarr (mulP t1 t1), rarr a, .bool true] (by kernel_rfl) (by kernel_rfl) (by kernel_rfl) (by kernel_rfl) (fun _ _ _ h => h) h16.drew ?_ ?_
  · refine AllSure.cons (OpSure.take (v := rarr t1) (by kernel_rfl) (by kernel_rfl) (fun _ h => run_load_blk (by kernel_rfl) (h.get 0 rfl) Tryd.underlying30 rfl (info_rl _))) ?_
    refine AllSure.cons (OpSure.take (v := rarr t1) (by kernel_rfl) (by kernel_rfl) (fun _ h => run_load_blk (by kernel_rfl) (h.get 0 rfl) Tryd.underlying30 rfl (info_rl _))) ?_
    refine AllSure.cons (sure_call (v := rarr (mulP t1 t1)) (by kernel_rfl) (by kernel_rfl) enter27 HA.keep #[rarr t1, rarr t1] (by kernel_rfl) (fun w' h' => rmul_any t1 t1 (Nat.lt_trans ht1 (by decide)) (Nat.lt_trans ht1 (by decide)) w')) ?_
    refine AllSure.cons (OpSure.take (v := rarr a) (by kernel_rfl) (by kernel_rfl) (fun _ h => run_load_blk (by kernel_rfl) (h.get 2 rfl) Tryd.underlying30 rfl (info_rl _))) ?_
    refine AllSure.cons (OpSure.take (v := .bool true) (by kernel_rfl) (by kernel_rfl) (fun _ _ => (run_ne30 (mulP t1 t1) a (Nat.lt_trans (mulP_lt _ _) (by decide)) (Nat.lt_trans ha (by decide)) (by kernel_rfl) (by kernel_rfl) false (decide_eq_false hq2)))) ?_
    exact AllSure.nil
  intro w17 h18
  refine then_at (F := ⟨(rarr a :: pt q1 :: pt q4 :: .bool false :: pt q11 :: rarr a :: .string ⟨(endsL 254 15).toArray⟩ :: rarr t0 :: rarr t0 :: rarr t0 :: rarr (mulP t0 t0) :: rarr a :: .bool true :: rarr t0 :: rarr 2 :: .string ⟨(endsL 251 31).toArray⟩ :: rarr ri :: rarr t1 :: rarr t1 :: rarr t1 :: rarr (mulP t1 t1) :: rarr a :: .bool true :: List.replicate 6 un).toArray, []⟩) (by kernel_rfl) ?_
  refine wp_cond_true (by kernel_rfl) ?_
  refine wp_seq ?_
  -- region 5
  refine wl_region ?_
  refine wl_val (rarr 0) (by kernel_rfl) run_build0 ?_
  refine wl_fill (c' := rl 0) h18 1 rfl (by kernel_rfl) (by kernel_rfl) (by kernel_rfl) (rl_sz _ _) (info_rl _) (one_rl _) ?_
  intro w19 (h20 : HA w [(q11, 30, rl t1), (q4, 30, rl 0), (q1, 30, rl a)] w19)
  refine wl_val (.bool false) (by kernel_rfl) (by kernel_rfl) ?_
  refine wl_nil ?_
  refine then_at (F := ⟨(rarr a :: pt q1 :: pt q4 :: .bool false :: pt q11 :: rarr a :: .string ⟨(endsL 254 15).toArray⟩ :: rarr t0 :: rarr t0 :: rarr t0 :: rarr (mulP t0 t0) :: rarr a :: .bool true :: rarr t0 :: rarr 2 :: .string ⟨(endsL 251 31).toArray⟩ :: rarr ri :: rarr t1 :: rarr t1 :: rarr t1 :: rarr (mulP t1 t1) :: rarr a :: .bool true :: rarr 0 :: List.replicate 5 un).toArray, []⟩) (by kernel_rfl) ?_
  refine wp_ret ?_
  repeat first | refine then_ret ?_ | refine block_ret ?_
  exact bodyPost_ret (v := .tuple #[rarr 0, .bool false]) (res_cell_tmp (p := 2) (r := 3) (by kernel_rfl) (by kernel_rfl) (by kernel_rfl) (h20.get 1 rfl) Tryd.underlying30 rfl (info_rl _)) rfl ⟨rfl, h20.old⟩

theorem rp_try0 (a : Nat) (ha : a < P) (w : World) : Calls Tryd.prog 46 #[rarr a, .string ⟨(endsL 254 15).toArray⟩] w fun e w' => e = .returned (rarr (try0 a)) ∧ Below w.heap.size w w' := by
  unfold try0
  exact rpower_is a eighth _ ha rfl exp_root w
theorem rp_try1 (a : Nat) (w : World) : Calls Tryd.prog 27 #[rarr (try0 a), rarr rootI] w fun e w' => e = .returned (rarr (try1 a)) ∧ Below w.heap.size w w' := by
  have h := rmul_any (try0 a) rootI (Nat.lt_trans (try0_lt a) (by decide)) (by decide) w
  unfold mulP at h
  unfold try1
  exact h
theorem rroot_yes (a r : Nat) (ha : a < P) (h : rootP a = some r) (w : World) : Calls Tryd.prog 32 #[rarr a] w fun e w' => e = .returned (.tuple #[rarr r, .bool true]) ∧ Below w.heap.size w w' := by
  unfold rootP at h
  split at h
  · rename_i hB
    have hr := Option.some.inj h
    rw [← hr]
    unfold rootB at hB ⊢
    by_cases hq1 : try0 a * try0 a % P = a
    · rw [if_pos hq1]
      rcases Nat.mod_two_eq_zero_or_one (try0 a) with ho | ho
      · rw [if_neg (by omega)]; exact rr_1e a (try0 a) (try1 a) rootI ha (try0_lt a) (try1_lt a) (by decide) (rp_try0 a ha) (rpower_two _ rfl exp_minus) (rp_try1 a) hq1 ho w
      · rw [if_pos ho]; exact rr_1o a (try0 a) (try1 a) rootI ha (try0_lt a) (try1_lt a) (by decide) (rp_try0 a ha) (rpower_two _ rfl exp_minus) (rp_try1 a) hq1 ho w
    · rw [if_neg hq1] at hB ⊢
      rcases Nat.mod_two_eq_zero_or_one (try1 a) with ho | ho
      · rw [if_neg (by omega)]; exact rr_2e a (try0 a) (try1 a) rootI ha (try0_lt a) (try1_lt a) (by decide) (rp_try0 a ha) (rpower_two _ rfl exp_minus) (rp_try1 a) hq1 hB ho w
      · rw [if_pos ho]; exact rr_2o a (try0 a) (try1 a) rootI ha (try0_lt a) (try1_lt a) (by decide) (rp_try0 a ha) (rpower_two _ rfl exp_minus) (rp_try1 a) hq1 hB ho w
  · cases h
theorem rroot_no (a : Nat) (ha : a < P) (h : rootP a = none) (w : World) : Calls Tryd.prog 32 #[rarr a] w fun e w' => e = .returned (.tuple #[rarr 0, .bool false]) ∧ Below w.heap.size w w' := by
  unfold rootP at h
  split at h
  · cases h
  · rename_i hB
    unfold rootB at hB
    by_cases hq1 : try0 a * try0 a % P = a
    · rw [if_pos hq1] at hB; exact absurd hq1 hB
    · rw [if_neg hq1] at hB
      exact rr_n a (try0 a) (try1 a) rootI ha (try0_lt a) (try1_lt a) (by decide) (rp_try0 a ha) (rpower_two _ rfl exp_minus) (rp_try1 a) hq1 hB w
end Go.Proofs.YtbmfmamhidccbaaDoor
