/-
  the reference's thin functions.
-/
import Derived.Test.YtpaendmdcdeemaaDoorCuH
namespace Go.Proofs.YtpaendmdcdeemaaDoor
open Go.RowKit Num


theorem P_lt16 : P < 65536 ^ 16 := by decide

set_option linter.unusedVariables false in
set_option maxRecDepth 100000 in
set_option maxHeartbeats 2000000 in
theorem wsmall_any (n : Nat) (hn : n < 4294967296) (w : World) :
    Calls Tryd.prog 67 #[iN .u32 n] w fun e w' => e = .returned (rarr n) ∧ Below w.heap.size w w' := by
  have H0 := HA.start w
  go_enter Tryd.func67, Tryd.ntmps67
  refine wp_seq ?_
  -- region 0
  refine wl_region ?_
  refine wl_make H0 32 (by kernel_rfl) run_alloc32 ?_
  intro q1 w2 h3
  refine wl_nil ?_
  refine then_at (F := ⟨(iN .u32 n :: un :: pt q1 :: List.replicate 2 un).toArray, []⟩) (by kernel_rfl) ?_
  refine wp_seq ?_
  -- region 1
  refine wl_region ?_
  refine wl_val (iN .u32 n) (by kernel_rfl) (by kernel_rfl) ?_
  refine wl_call (v := rarr n) h3 (by kernel_rfl) enter97 #[iN .u32 n] (by kernel_rfl) (rsmall_any n hn w2) ?_
  intro w4 h5
  refine wl_fill (c' := rl n) h5 0 rfl (by kernel_rfl) (by kernel_rfl) (by kernel_rfl) (rl_sz n 0) (info_rl n) (one_rl n) ?_
  intro w6 (h7 : HA w [(q1, 32, rl n)] w6)
  refine wl_nil ?_
  refine then_at (F := ⟨(iN .u32 n :: un :: pt q1 :: iN .u32 n :: rarr n :: List.replicate 0 un).toArray, []⟩) (by kernel_rfl) ?_
  refine wp_ret ?_
  repeat first | refine then_ret ?_ | refine block_ret ?_
  exact bodyPost_ret (v := rarr (n)) (res_cell (p := 2) (by kernel_rfl) (by kernel_rfl) (h7.get 0 rfl) Tryd.underlying32 rfl (info_rl _)) rfl ⟨rfl, h7.old⟩

set_option linter.unusedVariables false in
set_option maxRecDepth 100000 in
set_option maxHeartbeats 2000000 in
theorem wadd_any (a b : Nat) (ha : a < P) (hb : b < P) (w : World) :
    Calls Tryd.prog 68 #[rarr a, rarr b] w fun e w' => e = .returned (rarr (addP a b)) ∧ Below w.heap.size w w' := by
  have H0 := HA.start w
  go_enter Tryd.func68, Tryd.ntmps68
  refine wp_seq ?_
  -- region 0
  refine wl_region ?_
  refine wl_make H0 32 (by kernel_rfl) (run_box32 (c := rl a) (by kernel_rfl)) ?_
  intro q1 w2 h3
  refine wl_make h3 32 (by kernel_rfl) (run_box32 (c := rl b) (by kernel_rfl)) ?_
  intro q4 w5 h6
  refine wl_make h6 32 (by kernel_rfl) run_alloc32 ?_
  intro q7 w8 h9
  refine wl_nil ?_
  refine then_at (F := ⟨(rarr a :: rarr b :: pt q1 :: pt q4 :: pt q7 :: List.replicate 3 un).toArray, []⟩) (by kernel_rfl) ?_
  refine wp_seq ?_
  -- region 1
  refine wl_region ?_
  refine wl_load h9 2 rfl (by kernel_rfl) (by kernel_rfl) Tryd.underlying32 rfl (info_rl a) ?_
  refine wl_load h9 1 rfl (by kernel_rfl) (by kernel_rfl) Tryd.underlying32 rfl (info_rl b) ?_
  refine wl_call (v := rarr (addP a b)) h9 (by kernel_rfl) enter98 #[rarr a, rarr b] (by kernel_rfl) (radd_any a b (Nat.lt_trans ha P_lt16) (Nat.lt_trans hb P_lt16) w8) ?_
  intro w10 h11
  refine wl_fill (c' := rl (addP a b)) h11 0 rfl (by kernel_rfl) (by kernel_rfl) (by kernel_rfl) (rl_sz (addP a b) 0) (info_rl (addP a b)) (one_rl (addP a b)) ?_
  intro w12 (h13 : HA w [(q7, 32, rl (addP a b)), (q4, 32, rl b), (q1, 32, rl a)] w12)
  refine wl_nil ?_
  refine then_at (F := ⟨(rarr a :: rarr b :: pt q1 :: pt q4 :: pt q7 :: rarr a :: rarr b :: rarr (addP a b) :: List.replicate 0 un).toArray, []⟩) (by kernel_rfl) ?_
  refine wp_ret ?_
  repeat first | refine then_ret ?_ | refine block_ret ?_
  exact bodyPost_ret (v := rarr (addP a b)) (res_cell (p := 4) (by kernel_rfl) (by kernel_rfl) (h13.get 0 rfl) Tryd.underlying32 rfl (info_rl _)) rfl ⟨rfl, h13.old⟩

set_option linter.unusedVariables false in
set_option maxRecDepth 100000 in
set_option maxHeartbeats 2000000 in
theorem wsub_any (a b : Nat) (ha : a < P) (hb : b < P) (w : World) :
    Calls Tryd.prog 69 #[rarr a, rarr b] w fun e w' => e = .returned (rarr (subP a b)) ∧ Below w.heap.size w w' := by
  have H0 := HA.start w
  go_enter Tryd.func69, Tryd.ntmps69
  refine wp_seq ?_
  -- region 0
  refine wl_region ?_
  refine wl_make H0 32 (by kernel_rfl) (run_box32 (c := rl a) (by kernel_rfl)) ?_
  intro q1 w2 h3
  refine wl_make h3 32 (by kernel_rfl) (run_box32 (c := rl b) (by kernel_rfl)) ?_
  intro q4 w5 h6
  refine wl_make h6 32 (by kernel_rfl) run_alloc32 ?_
  intro q7 w8 h9
  refine wl_nil ?_
  refine then_at (F := ⟨(rarr a :: rarr b :: pt q1 :: pt q4 :: pt q7 :: List.replicate 3 un).toArray, []⟩) (by kernel_rfl) ?_
  refine wp_seq ?_
  -- region 1
  refine wl_region ?_
  refine wl_load h9 2 rfl (by kernel_rfl) (by kernel_rfl) Tryd.underlying32 rfl (info_rl a) ?_
  refine wl_load h9 1 rfl (by kernel_rfl) (by kernel_rfl) Tryd.underlying32 rfl (info_rl b) ?_
  refine wl_call (v := rarr (subP a b)) h9 (by kernel_rfl) enter99 #[rarr a, rarr b] (by kernel_rfl) (rsub_any a b ha hb w8) ?_
  intro w10 h11
  refine wl_fill (c' := rl (subP a b)) h11 0 rfl (by kernel_rfl) (by kernel_rfl) (by kernel_rfl) (rl_sz (subP a b) 0) (info_rl (subP a b)) (one_rl (subP a b)) ?_
  intro w12 (h13 : HA w [(q7, 32, rl (subP a b)), (q4, 32, rl b), (q1, 32, rl a)] w12)
  refine wl_nil ?_
  refine then_at (F := ⟨(rarr a :: rarr b :: pt q1 :: pt q4 :: pt q7 :: rarr a :: rarr b :: rarr (subP a b) :: List.replicate 0 un).toArray, []⟩) (by kernel_rfl) ?_
  refine wp_ret ?_
  repeat first | refine then_ret ?_ | refine block_ret ?_
  exact bodyPost_ret (v := rarr (subP a b)) (res_cell (p := 4) (by kernel_rfl) (by kernel_rfl) (h13.get 0 rfl) Tryd.underlying32 rfl (info_rl _)) rfl ⟨rfl, h13.old⟩

set_option linter.unusedVariables false in
set_option maxRecDepth 100000 in
set_option maxHeartbeats 2000000 in
theorem wmul_any (a b : Nat) (ha : a < P) (hb : b < P) (w : World) :
    Calls Tryd.prog 52 #[rarr a, rarr b] w fun e w' => e = .returned (rarr (mulP a b)) ∧ Below w.heap.size w w' := by
  have H0 := HA.start w
  go_enter Tryd.func52, Tryd.ntmps52
  refine wp_seq ?_
  -- region 0
  refine wl_region ?_
  refine wl_make H0 32 (by kernel_rfl) (run_box32 (c := rl a) (by kernel_rfl)) ?_
  intro q1 w2 h3
  refine wl_make h3 32 (by kernel_rfl) (run_box32 (c := rl b) (by kernel_rfl)) ?_
  intro q4 w5 h6
  refine wl_make h6 32 (by kernel_rfl) run_alloc32 ?_
  intro q7 w8 h9
  refine wl_nil ?_
  refine then_at (F := ⟨(rarr a :: rarr b :: pt q1 :: pt q4 :: pt q7 :: List.replicate 3 un).toArray, []⟩) (by kernel_rfl) ?_
  refine wp_seq ?_
  -- region 1
  refine wl_region ?_
  refine wl_load h9 2 rfl (by kernel_rfl) (by kernel_rfl) Tryd.underlying32 rfl (info_rl a) ?_
  refine wl_load h9 1 rfl (by kernel_rfl) (by kernel_rfl) Tryd.underlying32 rfl (info_rl b) ?_
  refine wl_call (v := rarr (mulP a b)) h9 (by kernel_rfl) enter90 #[rarr a, rarr b] (by kernel_rfl) (rmul_any a b (Nat.lt_trans ha P_lt16) (Nat.lt_trans hb P_lt16) w8) ?_
  intro w10 h11
  refine wl_fill (c' := rl (mulP a b)) h11 0 rfl (by kernel_rfl) (by kernel_rfl) (by kernel_rfl) (rl_sz (mulP a b) 0) (info_rl (mulP a b)) (one_rl (mulP a b)) ?_
  intro w12 (h13 : HA w [(q7, 32, rl (mulP a b)), (q4, 32, rl b), (q1, 32, rl a)] w12)
  refine wl_nil ?_
  refine then_at (F := ⟨(rarr a :: rarr b :: pt q1 :: pt q4 :: pt q7 :: rarr a :: rarr b :: rarr (mulP a b) :: List.replicate 0 un).toArray, []⟩) (by kernel_rfl) ?_
  refine wp_ret ?_
  repeat first | refine then_ret ?_ | refine block_ret ?_
  exact bodyPost_ret (v := rarr (mulP a b)) (res_cell (p := 4) (by kernel_rfl) (by kernel_rfl) (h13.get 0 rfl) Tryd.underlying32 rfl (info_rl _)) rfl ⟨rfl, h13.old⟩

set_option linter.unusedVariables false in
set_option maxRecDepth 100000 in
set_option maxHeartbeats 2000000 in
theorem wover_any (a b : Nat) (ha : a < P) (hb : b < P) (w : World) :
    Calls Tryd.prog 70 #[rarr a, rarr b] w fun e w' => e = .returned (rarr (mulP a (invE b))) ∧ Below w.heap.size w w' := by
  have H0 := HA.start w
  go_enter Tryd.func70, Tryd.ntmps70
  refine wp_seq ?_
  -- region 0
  refine wl_region ?_
  refine wl_make H0 32 (by kernel_rfl) (run_box32 (c := rl a) (by kernel_rfl)) ?_
  intro q1 w2 h3
  refine wl_make h3 32 (by kernel_rfl) (run_box32 (c := rl b) (by kernel_rfl)) ?_
  intro q4 w5 h6
  refine wl_make h6 32 (by kernel_rfl) run_alloc32 ?_
  intro q7 w8 h9
  refine wl_nil ?_
  refine then_at (F := ⟨(rarr a :: rarr b :: pt q1 :: pt q4 :: pt q7 :: List.replicate 4 un).toArray, []⟩) (by kernel_rfl) ?_
  refine wp_seq ?_
  -- region 1
  refine wp_region_ghost (fun _ : Nat → Nat => (⟨(rarr a :: rarr b :: pt q1 :: pt q4 :: pt q7 :: rarr a :: rarr b :: rarr (invE b) :: rarr (mulP a (invE b)) :: List.replicate 0 un).toArray, []⟩ : Act)) (GF w [(q7, 32, rl 0), (q4, 32, rl b), (q1, 32, rl a)] 4 3 0 q7 32 (rl (mulP a (invE b)))) [rarr a, rarr b, rarr (invE b), rarr (mulP a (invE b)), undef] (by kernel_rfl) (by kernel_rfl) (by kernel_rfl) (by kernel_rfl) (fun _ _ _ _ h => h) (fun d hd => GF.start h9.drew (hd 4 (by decide))) ?_ ?_
  · refine AllGhost.cons (gf_load2 2 (by decide) rfl (by decide) (fun _ => by kernel_rfl) (fun _ => by kernel_rfl) (fun _ => by kernel_rfl) Tryd.underlying32 rfl (info_rl a)) ?_
    refine AllGhost.cons (gf_load2 1 (by decide) rfl (by decide) (fun _ => by kernel_rfl) (fun _ => by kernel_rfl) (fun _ => by kernel_rfl) Tryd.underlying32 rfl (info_rl b)) ?_
    refine AllGhost.cons (gf_callh (v := rarr (invE b)) (by decide) (fun _ => by kernel_rfl) (fun _ => by kernel_rfl) enter50 #[rarr b] (fun _ => by kernel_rfl) (fun w' ho => rinv_any b hb w')) ?_
    refine AllGhost.cons (gf_callh (v := rarr (mulP a (invE b))) (by decide) (fun _ => by kernel_rfl) (fun _ => by kernel_rfl) enter52 #[rarr a, rarr (invE b)] (fun _ => by kernel_rfl) (fun w' ho => wmul_any a (invE b) ha (invE_lt _) w')) ?_
    refine AllGhost.cons (gf_fill rfl (rl_sz (mulP a (invE b)) 0) (fun _ => by kernel_rfl) (fun _ => by kernel_rfl) (fun _ => by kernel_rfl) (fun _ => by kernel_rfl) (info_rl (mulP a (invE b))) (one_rl (mulP a (invE b))) (by decide) (by kernel_rfl)) ?_
    exact AllGhost.nil
  intro _ w10 g11
  have h12 : HA w [(q7, 32, rl (mulP a (invE b))), (q4, 32, rl b), (q1, 32, rl a)] w10 := g11.held
  clear g11
  refine then_at (F := ⟨(rarr a :: rarr b :: pt q1 :: pt q4 :: pt q7 :: rarr a :: rarr b :: rarr (invE b) :: rarr (mulP a (invE b)) :: List.replicate 0 un).toArray, []⟩) (by kernel_rfl) ?_
  refine wp_ret ?_
  repeat first | refine then_ret ?_ | refine block_ret ?_
  exact bodyPost_ret (v := rarr (mulP a (invE b))) (res_cell (p := 4) (by kernel_rfl) (by kernel_rfl) (h12.get 0 rfl) Tryd.underlying32 rfl (info_rl _)) rfl ⟨rfl, h12.old⟩
end Go.Proofs.YtpaendmdcdeemaaDoor
