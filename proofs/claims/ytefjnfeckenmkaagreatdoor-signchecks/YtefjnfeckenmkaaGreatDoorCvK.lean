/-
 the reference's points out of bytes, and their bytes.
-/
import Derived.Test.YtefjnfeckenmkaaGreatDoorV2
namespace Go.Proofs.YtefjnfeckenmkaaGreatDoor
set_option linter.unusedVariables false
set_option maxRecDepth 100000
set_option maxHeartbeats 2000000
open Go.RowKit Num
theorem res34 {fn : Func} {p : Tmp} {ts : Array Value} {q : Nat} {w : World} (Q : Q4) (hf : fn.results = #[.cell p 53]) (ht : ts.getD p undef = .pointer (some ⟨q, 0, none⟩)) (h : Blk w q 53 (rq Q)) : (results fn ts).run Tryz.prog w = .ok (.agg (rq Q)) w := res_cell hf ht h Tryz.underlying53 rfl (info34q Q)
theorem res34b {fn : Func} {p r : Tmp} {ts : Array Value} {q : Nat} {v : Value} {w : World} (Q : Q4) (hf : fn.results = #[.cell p 53, .tmp r]) (ht : ts.getD p undef = .pointer (some ⟨q, 0, none⟩)) (hv : ts.getD r undef = v) (h : Blk w q 53 (rq Q)) : (results fn ts).run Tryz.prog w = .ok (.tuple #[.agg (rq Q), v]) w := res_cell_tmp hf ht hv h Tryz.underlying53 rfl (info34q Q)
theorem dN_eq : mulP (negP 121665) (invE 121666) = dN := by rw [invE_pm]; decide +kernel
def mdQ (x y : Nat) : Q4 := ⟨x, y, 1, mulP x y⟩
theorem mdQ_lt {x y : Nat} (hx : x < P) (hy : y < P) : (mdQ x y).lt := ⟨hx, hy, show 1 < P by decide, mulP_lt _ _⟩
def rsq (y : Nat) : Nat := mulP (subP (mulP y y) 1) (invE (addP (mulP dN (mulP y y)) 1))
theorem rsq_is (y : Nat) : rsq y = bsq y := by
 apply toF_inj (mulP_lt _ _) (bsq_lt _)
 have h := bsq_F y
 have e : toF (addP (mulP dN (mulP y y)) 1) = 1 + dE * toF y * toF y := by
  rw [toF_add, toF_mul, toF_mul, toF_one]
  show dE * (toF y * toF y) + 1 = _
  grobner
 have hm := mul_inv (dy_ne (toF y))
 show toF (mulP (subP (mulP y y) 1) (invE (addP (mulP dN (mulP y y)) 1))) = _
 rw [toF_mul, toF_sub _ _ (by decide), toF_mul, toF_inv _ (addP_lt _ _), e, toF_one]
 generalize inv (1 + dE * toF y * toF y) = v at *
 grobner
theorem bit31 (s : ByteArray) (hs : s.size = 32) : 128 ≤ ((bl s).getD 31 0).toNat ↔ numS s / 2 ^ 255 % 2 = 1 := by
 obtain ⟨m, b, hm, hl⟩ := split32' (bl s) (by rw [bl_len, hs])
 rw [numS_b, hl, last_get m b hm, num_last m b hm, show (2 : Nat) ^ 255 = 256 ^ 31 * 128 by decide, ← Nat.div_div_eq_div_mul, Nat.add_mul_div_left _ _ (by decide), Nat.div_eq_of_lt (num31_lt m hm), Nat.zero_add]
 have := UInt8.toNat_lt b
 omega
theorem D_any (w : World) :
  Calls Tryz.prog 75 #[] w fun e w' => e = .returned (rarr dN) ∧ Below w.heap.size w w' := by
 have H0 := HA.start w
 go_enter Tryz.func75, Tryz.ntmps75
 refine zsr ?_
 refine wl_make H0 51 run_alloc32 ?_
 intro q1 w2 h3
 refine znt ?_
 refine zsr ?_
 refine zwc h3 enter67 (wsmall_any 121665 (by decide) w2) ?_
 intro w4 h5
 refine zwc h5 enter60 (rneg_any 121665 (by decide) w4) ?_
 intro w6 h7
 refine zwc h7 enter67 (wsmall_any 121666 (by decide) w6) ?_
 intro w8 h9
 refine zwc (v := rarr (mulP (negP 121665) (invE 121666))) (args := #[rarr (negP 121665), rarr 121666]) h9 enter70 (wover_any (negP 121665) 121666 (negP_lt _) (by decide) w8) ?_
 intro w10 h11
 refine wl_fill (c' := rl (mulP (negP 121665) (invE 121666))) h11 0 rfl (rl_sz (mulP (negP 121665) (invE 121666)) 0) (info_rl (mulP (negP 121665) (invE 121666))) (one_rl (mulP (negP 121665) (invE 121666))) ?_
 intro w12 (h13 : HA w [(q1, 51, rl (mulP (negP 121665) (invE 121666)))] w12)
 refine znt ?_
 refine wp_ret ?_
 repeat first | refine then_ret ?_ | refine block_ret ?_
 exact bodyPost_ret (v := rarr (mulP (negP 121665) (invE 121666))) (res_cell (p := 0) (by kernel_rfl) (by kernel_rfl) (h13.get 0 rfl) Tryz.underlying51 rfl (info_rl _)) rfl ⟨by rw [dN_eq], h13.old⟩
theorem made_any (a b : Nat) (ha : a < P) (hb : b < P) (w : World) :
  Calls Tryz.prog 105 #[rarr a, rarr b] w fun e w' => e = .returned (.agg (rq (mdQ a b))) ∧ Below w.heap.size w w' := by
 have H0 := HA.start w
 go_enter Tryz.func105, Tryz.ntmps105
 refine zsr ?_
 refine wl_make H0 51 (run_box32 (c := rl a)) ?_
 intro q1 w2 h3
 refine wl_make h3 51 (run_box32 (c := rl b)) ?_
 intro q4 w5 h6
 refine wl_make h6 53 run_alloc34 ?_
 intro q7 w8 h9
 refine znt ?_
 refine wp_seq ?_
 obtain ⟨C10, hC10⟩ : ∃ C, C = rq (Q4.mk a b 1 (mulP a b)) := ⟨_, rfl⟩
 refine zrg (fun _ : Nat → Nat => (⟨(rarr a :: rarr b :: pt q1 :: pt q4 :: pt q7 :: rarr a :: rarr b :: rarr 1 :: rarr a :: rarr b :: rarr (mulP a b) :: .agg C10 :: List.replicate 0 un).toArray, []⟩ : Act)) (GF w [(q7, 53, rq (Q4.mk 0 0 0 0)), (q4, 51, rl b), (q1, 51, rl a)] 7 6 0 q7 53 (C10)) (fun d hd => GF.start h9.drew (hd 7 (by decide))) ?_ ?_
 ·refine zg (gf_load2 2 rfl Tryz.underlying51 rfl (info_rl a)) ?_
  refine zg (gf_load2 1 rfl Tryz.underlying51 rfl (info_rl b)) ?_
  refine zg (gf_callh (v := rarr 1) enter67 #[iN .u32 1] (fun w' ho => wsmall_any 1 (by decide) w')) ?_
  refine zg (gf_load2 2 rfl Tryz.underlying51 rfl (info_rl a)) ?_
  refine zg (gf_load2 1 rfl Tryz.underlying51 rfl (info_rl b)) ?_
  refine zg (gf_callh (v := rarr (mulP a b)) enter52 #[rarr a, rarr b] (fun w' ho => wmul_any a b ha hb w')) ?_
  refine zg (gf_plain (v := .agg C10) (hr := (fun _ _ => (by rw [hC10]; exact (run_build34 (a := a) (b := b) (c := 1) (d := mulP a b) (by kernel_rfl) (by kernel_rfl) (by kernel_rfl) (by kernel_rfl)))))) ?_
  refine zg (gf_fill rfl (by rw [hC10]; exact (rq_sz (Q4.mk a b 1 (mulP a b)) (Q4.mk 0 0 0 0))) (by rw [hC10]; exact (info34q (Q4.mk a b 1 (mulP a b)))) (by rw [hC10]; exact (one_rq (Q4.mk a b 1 (mulP a b))))) ?_
  exact AllGhost.nil
 intro _ w11 g12
 have h13 : HA w [(q7, 53, C10), (q4, 51, rl b), (q1, 51, rl a)] w11 := g12.held
 clear g12
 subst hC10
 refine then_at rfl ?_
 refine wp_ret ?_
 repeat first | refine then_ret ?_ | refine block_ret ?_
 have hB : Blk w11 q7 53 (rq (Q4.mk a b 1 (mulP a b))) := h13.get 0 rfl
 exact bodyPost_ret (v := .agg (rq (Q4.mk a b 1 (mulP a b)))) (res34 (p := 4) (Q4.mk a b 1 (mulP a b)) (by kernel_rfl) (by kernel_rfl) hB) rfl ⟨by rw [show mdQ a b = Q4.mk a b 1 (mulP a b) from rfl], h13.old⟩
theorem rNone_any (w : World) :
  Calls Tryz.prog 72 #[] w fun e w' => e = .returned (.agg (rq (mdQ 0 1))) ∧ Below w.heap.size w w' := by
 have H0 := HA.start w
 go_enter Tryz.func72, Tryz.ntmps72
 refine zsr ?_
 refine wl_make H0 53 run_alloc34 ?_
 intro q1 w2 h3
 refine znt ?_
 refine zsr ?_
 refine zwc h3 enter67 (wsmall_any 0 (by decide) w2) ?_
 intro w4 h5
 refine zwc h5 enter67 (wsmall_any 1 (by decide) w4) ?_
 intro w6 h7
 refine zwc h7 enter83 (made_any 0 1 (by decide) (by decide) w6) ?_
 intro w8 h9
 refine wl_fill (c' := rq (mdQ 0 1)) h9 0 rfl (rq_sz (mdQ 0 1) (Q4.mk 0 0 0 0)) (info34q (mdQ 0 1)) (one_rq (mdQ 0 1)) ?_
 intro w10 (h11 : HA w [(q1, 53, rq (mdQ 0 1))] w10)
 refine znt ?_
 refine wp_ret ?_
 repeat first | refine then_ret ?_ | refine block_ret ?_
 have hB : Blk w10 q1 53 (rq (mdQ 0 1)) := h11.get 0 rfl
 exact bodyPost_ret (res34 (p := 0) (mdQ 0 1) (by kernel_rfl) (by kernel_rfl) hB) rfl ⟨rfl, h11.old⟩
theorem rof_yes_even (y : Nat) (hy : y < P) (rt : Nat) (hrt : rt < P) (hroot : rootP (bsq y) = some rt) (w : World) :
  Calls Tryz.prog 74 #[rarr y, .bool false] w fun e w' => e = .returned (.tuple #[.agg (rq (mdQ rt y)), .bool true]) ∧ Below w.heap.size w w' := by
 have H0 := HA.start w
 go_enter Tryz.func74, Tryz.ntmps74
 refine zsr ?_
 refine wl_make H0 51 (run_box32 (c := rl y)) ?_
 intro q1 w2 h3
 refine wl_make h3 53 run_alloc34 ?_
 intro q4 w5 h6
 refine zwv (.bool false) ?_
 refine znt ?_
 refine zsr ?_
 refine wl_load h6 1 rfl Tryz.underlying51 rfl (info_rl y) ?_
 refine wl_load h6 1 rfl Tryz.underlying51 rfl (info_rl y) ?_
 refine zwc h6 enter52 (wmul_any y y hy hy w5) ?_
 intro w7 h8
 refine wl_make h8 51 run_alloc32 ?_
 intro q9 w10 h11
 refine wl_fill (c' := rl (mulP y y)) h11 0 rfl (rl_sz (mulP y y) 0) (info_rl (mulP y y)) (one_rl (mulP y y)) ?_
 intro w12 (h13 : HA w [(q9, 51, rl (mulP y y)), (q4, 53, rq (Q4.mk 0 0 0 0)), (q1, 51, rl y)] w12)
 refine znt ?_
 refine wp_seq ?_
 obtain ⟨B14, eB14⟩ : ∃ B, B = w12.heap.size := ⟨_, rfl⟩
 refine zrg (fun g : Nat → Nat => (⟨(rarr y :: .bool false :: pt q1 :: un :: pt q4 :: .bool false :: pt q9 :: pt (g 13) :: .bool true :: rarr y :: rarr y :: rarr (mulP y y) :: .tuple #[rarr rt, .bool true] :: rarr (mulP y y) :: rarr 1 :: rarr (subP (mulP y y) 1) :: rarr dN :: rarr (mulP y y) :: rarr (mulP dN (mulP y y)) :: rarr 1 :: rarr (addP (mulP dN (mulP y y)) 1) :: rarr (mulP (subP (mulP y y) 1) (invE (addP (mulP dN (mulP y y)) 1))) :: .tuple #[rarr rt, .bool true] :: rarr rt :: .bool true :: List.replicate 17 un).toArray, []⟩ : Act)) (GS w [(q9, 51, rl (mulP y y)), (q4, 53, rq (Q4.mk 0 0 0 0)), (q1, 51, rl y)] B14 1 13 14 51 (rl 0) (fun _ => rl rt)) (fun d hd => GS.start h13.drew eB14 (by decide) (fun _ _ => (rl_sz _ _)) (fun j hj => hd j (Nat.lt_of_lt_of_le hj (by decide)))) ?_ ?_
 ·refine zg (ghost_load 0 rfl Tryz.underlying51 rfl (info_rl (mulP y y))) ?_
  refine zg (ghost_call (v := rarr 1) enter67 #[iN .u32 1] (fun w' h' => wsmall_any 1 (by decide) w')) ?_
  refine zg (ghost_call (v := rarr (subP (mulP y y) 1)) enter69 #[rarr (mulP y y), rarr 1] (fun w' h' => wsub_any (mulP y y) 1 (mulP_lt _ _) (by decide) w')) ?_
  refine zg (ghost_call (v := rarr dN) enter59 #[] (fun w' h' => D_any w')) ?_
  refine zg (ghost_load 0 rfl Tryz.underlying51 rfl (info_rl (mulP y y))) ?_
  refine zg (ghost_call (v := rarr (mulP dN (mulP y y))) enter52 #[rarr dN, rarr (mulP y y)] (fun w' h' => wmul_any dN (mulP y y) dN_lt (mulP_lt _ _) w')) ?_
  refine zg (ghost_call (v := rarr 1) enter67 #[iN .u32 1] (fun w' h' => wsmall_any 1 (by decide) w')) ?_
  refine zg (ghost_call (v := rarr (addP (mulP dN (mulP y y)) 1)) enter68 #[rarr (mulP dN (mulP y y)), rarr 1] (fun w' h' => wadd_any (mulP dN (mulP y y)) 1 (mulP_lt _ _) (by decide) w')) ?_
  refine zg (ghost_call (v := rarr (mulP (subP (mulP y y) 1) (invE (addP (mulP dN (mulP y y)) 1)))) enter70 #[rarr (subP (mulP y y) 1), rarr (addP (mulP dN (mulP y y)) 1)] (fun w' h' => wover_any (subP (mulP y y) 1) (addP (mulP dN (mulP y y)) 1) (subP_lt _ _) (addP_lt _ _) w')) ?_
  refine zg (ghost_call (v := .tuple #[rarr rt, .bool true]) enter86 #[rarr (mulP (subP (mulP y y) 1) (invE (addP (mulP dN (mulP y y)) 1)))] (fun w' h' => rroot_yes (mulP (subP (mulP y y) 1) (invE (addP (mulP dN (mulP y y)) 1))) rt (mulP_lt _ _) (by rw [show mulP (subP (mulP y y) 1) (invE (addP (mulP dN (mulP y y)) 1)) = bsq y from rsq_is y]; exact hroot) w')) ?_
  refine zg (ghost_plain (v := .tuple #[rarr rt, .bool true])) ?_
  refine zg (ghost_plain (v := rarr rt)) ?_
  refine zg (ghost_plain (v := .bool true)) ?_
  refine zg (ghost_make 0 rfl (fun _ _ => run_alloc32)) ?_
  refine zg (ghost_fill 0 rfl (info_rl rt) (one_rl rt)) ?_
  refine zg (ghost_plain (v := .bool true)) ?_
  exact AllGhost.nil
 intro g w15 g16
 have h17 : HA w [(g 13, 51, rl rt), (q9, 51, rl (mulP y y)), (q4, 53, rq (Q4.mk 0 0 0 0)), (q1, 51, rl y)] w15 := g16.one
 clear g16 eB14
 generalize g 13 = q18 at h17 ⊢
 clear g
 refine then_at rfl ?_
 refine wp_seq ?_
 refine wp_seq ?_
 refine zrs ⟨(rarr y :: .bool false :: pt q1 :: un :: pt q4 :: .bool false :: pt q9 :: pt q18 :: .bool true :: rarr y :: rarr y :: rarr (mulP y y) :: .tuple #[rarr rt, .bool true] :: rarr (mulP y y) :: rarr 1 :: rarr (subP (mulP y y) 1) :: rarr dN :: rarr (mulP y y) :: rarr (mulP dN (mulP y y)) :: rarr 1 :: rarr (addP (mulP dN (mulP y y)) 1) :: rarr (mulP (subP (mulP y y) 1) (invE (addP (mulP dN (mulP y y)) 1))) :: .tuple #[rarr rt, .bool true] :: rarr rt :: .bool true :: .bool true :: .bool false :: .bool false :: .bool false :: .bool false :: un :: un :: un :: .bool false :: .bool false :: List.replicate 7 un).toArray, []⟩ (HA w [(q18, 51, rl rt), (q9, 51, rl (mulP y y)), (q4, 53, rq (Q4.mk 0 0 0 0)), (q1, 51, rl y)]) h17.drew ?_ ?_
 ·refine zsp (.bool true) ?_
  refine zsp (.bool false) ?_
  refine zsp (.bool false) ?_
  refine zsp (.bool false) ?_
  refine zsp (.bool false) ?_
  refine zsk ?_
  refine zsk ?_
  refine zsk ?_
  refine zsp (.bool false) ?_
  refine zsp (.bool false) ?_
  exact AllSure.nil
 intro w19 h20
 refine then_at rfl ?_
 refine zcf ?_
 refine wp_skip ?_
 refine then_at rfl ?_
 refine wp_seq ?_
 refine zsr ?_
 refine zwv (.bool false) ?_
 refine znt ?_
 refine zcf ?_
 refine wp_skip ?_
 refine then_at rfl ?_
 refine zsr ?_
 refine wl_load h20 0 rfl Tryz.underlying51 rfl (info_rl rt) ?_
 refine wl_load h20 3 rfl Tryz.underlying51 rfl (info_rl y) ?_
 refine zwc h20 enter83 (made_any rt y hrt hy w19) ?_
 intro w21 h22
 refine wl_fill (c' := rq (mdQ rt y)) h22 2 rfl (rq_sz (mdQ rt y) (Q4.mk 0 0 0 0)) (info34q (mdQ rt y)) (one_rq (mdQ rt y)) ?_
 intro w23 (h24 : HA w [(q18, 51, rl rt), (q9, 51, rl (mulP y y)), (q4, 53, rq (mdQ rt y)), (q1, 51, rl y)] w23)
 refine zwv (.bool true) ?_
 refine znt ?_
 refine wp_ret ?_
 repeat first | refine then_ret ?_ | refine block_ret ?_
 have hB : Blk w23 q4 53 (rq (mdQ rt y)) := h24.get 2 rfl
 exact bodyPost_ret (res34b (p := 4) (r := 5) (mdQ rt y) (by kernel_rfl) (by kernel_rfl) (by kernel_rfl) hB) rfl ⟨rfl, h24.old⟩
theorem rof_yes_odd (y : Nat) (hy : y < P) (rt : Nat) (hrt : rt < P) (hroot : rootP (bsq y) = some rt) (hz : ¬ rt = 0) (w : World) :
  Calls Tryz.prog 74 #[rarr y, .bool true] w fun e w' => e = .returned (.tuple #[.agg (rq (mdQ (negP rt) y)), .bool true]) ∧ Below w.heap.size w w' := by
 have H0 := HA.start w
 go_enter Tryz.func74, Tryz.ntmps74
 refine zsr ?_
 refine wl_make H0 51 (run_box32 (c := rl y)) ?_
 intro q1 w2 h3
 refine wl_make h3 53 run_alloc34 ?_
 intro q4 w5 h6
 refine zwv (.bool false) ?_
 refine znt ?_
 refine zsr ?_
 refine wl_load h6 1 rfl Tryz.underlying51 rfl (info_rl y) ?_
 refine wl_load h6 1 rfl Tryz.underlying51 rfl (info_rl y) ?_
 refine zwc h6 enter52 (wmul_any y y hy hy w5) ?_
 intro w7 h8
 refine wl_make h8 51 run_alloc32 ?_
 intro q9 w10 h11
 refine wl_fill (c' := rl (mulP y y)) h11 0 rfl (rl_sz (mulP y y) 0) (info_rl (mulP y y)) (one_rl (mulP y y)) ?_
 intro w12 (h13 : HA w [(q9, 51, rl (mulP y y)), (q4, 53, rq (Q4.mk 0 0 0 0)), (q1, 51, rl y)] w12)
 refine znt ?_
 refine wp_seq ?_
 obtain ⟨B14, eB14⟩ : ∃ B, B = w12.heap.size := ⟨_, rfl⟩
 refine zrg (fun g : Nat → Nat => (⟨(rarr y :: .bool true :: pt q1 :: un :: pt q4 :: .bool false :: pt q9 :: pt (g 13) :: .bool true :: rarr y :: rarr y :: rarr (mulP y y) :: .tuple #[rarr rt, .bool true] :: rarr (mulP y y) :: rarr 1 :: rarr (subP (mulP y y) 1) :: rarr dN :: rarr (mulP y y) :: rarr (mulP dN (mulP y y)) :: rarr 1 :: rarr (addP (mulP dN (mulP y y)) 1) :: rarr (mulP (subP (mulP y y) 1) (invE (addP (mulP dN (mulP y y)) 1))) :: .tuple #[rarr rt, .bool true] :: rarr rt :: .bool true :: List.replicate 17 un).toArray, []⟩ : Act)) (GS w [(q9, 51, rl (mulP y y)), (q4, 53, rq (Q4.mk 0 0 0 0)), (q1, 51, rl y)] B14 1 13 14 51 (rl 0) (fun _ => rl rt)) (fun d hd => GS.start h13.drew eB14 (by decide) (fun _ _ => (rl_sz _ _)) (fun j hj => hd j (Nat.lt_of_lt_of_le hj (by decide)))) ?_ ?_
 ·refine zg (ghost_load 0 rfl Tryz.underlying51 rfl (info_rl (mulP y y))) ?_
  refine zg (ghost_call (v := rarr 1) enter67 #[iN .u32 1] (fun w' h' => wsmall_any 1 (by decide) w')) ?_
  refine zg (ghost_call (v := rarr (subP (mulP y y) 1)) enter69 #[rarr (mulP y y), rarr 1] (fun w' h' => wsub_any (mulP y y) 1 (mulP_lt _ _) (by decide) w')) ?_
  refine zg (ghost_call (v := rarr dN) enter59 #[] (fun w' h' => D_any w')) ?_
  refine zg (ghost_load 0 rfl Tryz.underlying51 rfl (info_rl (mulP y y))) ?_
  refine zg (ghost_call (v := rarr (mulP dN (mulP y y))) enter52 #[rarr dN, rarr (mulP y y)] (fun w' h' => wmul_any dN (mulP y y) dN_lt (mulP_lt _ _) w')) ?_
  refine zg (ghost_call (v := rarr 1) enter67 #[iN .u32 1] (fun w' h' => wsmall_any 1 (by decide) w')) ?_
  refine zg (ghost_call (v := rarr (addP (mulP dN (mulP y y)) 1)) enter68 #[rarr (mulP dN (mulP y y)), rarr 1] (fun w' h' => wadd_any (mulP dN (mulP y y)) 1 (mulP_lt _ _) (by decide) w')) ?_
  refine zg (ghost_call (v := rarr (mulP (subP (mulP y y) 1) (invE (addP (mulP dN (mulP y y)) 1)))) enter70 #[rarr (subP (mulP y y) 1), rarr (addP (mulP dN (mulP y y)) 1)] (fun w' h' => wover_any (subP (mulP y y) 1) (addP (mulP dN (mulP y y)) 1) (subP_lt _ _) (addP_lt _ _) w')) ?_
  refine zg (ghost_call (v := .tuple #[rarr rt, .bool true]) enter86 #[rarr (mulP (subP (mulP y y) 1) (invE (addP (mulP dN (mulP y y)) 1)))] (fun w' h' => rroot_yes (mulP (subP (mulP y y) 1) (invE (addP (mulP dN (mulP y y)) 1))) rt (mulP_lt _ _) (by rw [show mulP (subP (mulP y y) 1) (invE (addP (mulP dN (mulP y y)) 1)) = bsq y from rsq_is y]; exact hroot) w')) ?_
  refine zg (ghost_plain (v := .tuple #[rarr rt, .bool true])) ?_
  refine zg (ghost_plain (v := rarr rt)) ?_
  refine zg (ghost_plain (v := .bool true)) ?_
  refine zg (ghost_make 0 rfl (fun _ _ => run_alloc32)) ?_
  refine zg (ghost_fill 0 rfl (info_rl rt) (one_rl rt)) ?_
  refine zg (ghost_plain (v := .bool true)) ?_
  exact AllGhost.nil
 intro g w15 g16
 have h17 : HA w [(g 13, 51, rl rt), (q9, 51, rl (mulP y y)), (q4, 53, rq (Q4.mk 0 0 0 0)), (q1, 51, rl y)] w15 := g16.one
 clear g16 eB14
 generalize g 13 = q18 at h17 ⊢
 clear g
 refine then_at rfl ?_
 refine wp_seq ?_
 refine wp_seq ?_
 refine zrs ⟨(rarr y :: .bool true :: pt q1 :: un :: pt q4 :: .bool false :: pt q9 :: pt q18 :: .bool true :: rarr y :: rarr y :: rarr (mulP y y) :: .tuple #[rarr rt, .bool true] :: rarr (mulP y y) :: rarr 1 :: rarr (subP (mulP y y) 1) :: rarr dN :: rarr (mulP y y) :: rarr (mulP dN (mulP y y)) :: rarr 1 :: rarr (addP (mulP dN (mulP y y)) 1) :: rarr (mulP (subP (mulP y y) 1) (invE (addP (mulP dN (mulP y y)) 1))) :: .tuple #[rarr rt, .bool true] :: rarr rt :: .bool true :: .bool true :: .bool false :: .bool false :: .bool true :: .bool true :: rarr rt :: rarr 0 :: .bool false :: .bool false :: .bool false :: List.replicate 7 un).toArray, []⟩ (HA w [(q18, 51, rl rt), (q9, 51, rl (mulP y y)), (q4, 53, rq (Q4.mk 0 0 0 0)), (q1, 51, rl y)]) h17.drew ?_ ?_
 ·refine zsp (.bool true) ?_
  refine zsp (.bool false) ?_
  refine zsp (.bool false) ?_
  refine zsp (.bool true) ?_
  refine zsp (.bool true) ?_
  refine zst (v := rarr rt) (fun _ h => run_load_blk (h.get 0 rfl) Tryz.underlying51 rfl (info_rl rt)) ?_
  refine zsc enter67 HA.keep (fun w' h' => wsmall_any 0 (by decide) w') ?_
  refine zst (fun _ _ => (run_eq32 rt 0 (Nat.lt_trans hrt P_lt16) (Nat.lt_trans (by decide) P_lt16) false (decide_eq_false hz))) ?_
  refine zsp (.bool false) ?_
  refine zsp (.bool false) ?_
  exact AllSure.nil
 intro w19 h20
 refine then_at rfl ?_
 refine zcf ?_
 refine wp_skip ?_
 refine then_at rfl ?_
 refine wp_seq ?_
 refine zsr ?_
 refine zwv (.bool true) ?_
 refine znt ?_
 refine zct ?_
 refine wl_region ?_
 refine wl_load h20 0 rfl Tryz.underlying51 rfl (info_rl rt) ?_
 refine zwc h20 enter60 (rneg_any rt hrt w19) ?_
 intro w21 h22
 refine wl_fill (c' := rl (negP rt)) h22 0 rfl (rl_sz (negP rt) rt) (info_rl (negP rt)) (one_rl (negP rt)) ?_
 intro w23 (h24 : HA w [(q18, 51, rl (negP rt)), (q9, 51, rl (mulP y y)), (q4, 53, rq (Q4.mk 0 0 0 0)), (q1, 51, rl y)] w23)
 refine znt ?_
 refine zsr ?_
 refine wl_load h24 0 rfl Tryz.underlying51 rfl (info_rl (negP rt)) ?_
 refine wl_load h24 3 rfl Tryz.underlying51 rfl (info_rl y) ?_
 refine zwc (v := .agg (rq (mdQ (negP rt) y))) (args := #[rarr (negP rt), rarr y]) h24 enter83 (made_any (negP rt) y (negP_lt _) hy w23) ?_
 intro w25 h26
 refine wl_fill (c' := rq (mdQ (negP rt) y)) h26 2 rfl (rq_sz (mdQ (negP rt) y) (Q4.mk 0 0 0 0)) (info34q (mdQ (negP rt) y)) (one_rq (mdQ (negP rt) y)) ?_
 intro w27 (h28 : HA w [(q18, 51, rl (negP rt)), (q9, 51, rl (mulP y y)), (q4, 53, rq (mdQ (negP rt) y)), (q1, 51, rl y)] w27)
 refine zwv (.bool true) ?_
 refine znt ?_
 refine wp_ret ?_
 repeat first | refine then_ret ?_ | refine block_ret ?_
 have hB : Blk w27 q4 53 (rq (mdQ (negP rt) y)) := h28.get 2 rfl
 exact bodyPost_ret (res34b (p := 4) (r := 5) (mdQ (negP rt) y) (by kernel_rfl) (by kernel_rfl) (by kernel_rfl) hB) rfl ⟨rfl, h28.old⟩
theorem rof_no_zero (y : Nat) (hy : y < P) (rt : Nat) (hrt : rt < P) (hroot : rootP (bsq y) = some rt) (hz : rt = 0) (w : World) :
  Calls Tryz.prog 74 #[rarr y, .bool true] w fun e w' => e = .returned (.tuple #[.agg (rq (mdQ 0 1)), .bool false]) ∧ Below w.heap.size w w' := by
 have H0 := HA.start w
 go_enter Tryz.func74, Tryz.ntmps74
 refine zsr ?_
 refine wl_make H0 51 (run_box32 (c := rl y)) ?_
 intro q1 w2 h3
 refine wl_make h3 53 run_alloc34 ?_
 intro q4 w5 h6
 refine zwv (.bool false) ?_
 refine znt ?_
 refine zsr ?_
 refine wl_load h6 1 rfl Tryz.underlying51 rfl (info_rl y) ?_
 refine wl_load h6 1 rfl Tryz.underlying51 rfl (info_rl y) ?_
 refine zwc h6 enter52 (wmul_any y y hy hy w5) ?_
 intro w7 h8
 refine wl_make h8 51 run_alloc32 ?_
 intro q9 w10 h11
 refine wl_fill (c' := rl (mulP y y)) h11 0 rfl (rl_sz (mulP y y) 0) (info_rl (mulP y y)) (one_rl (mulP y y)) ?_
 intro w12 (h13 : HA w [(q9, 51, rl (mulP y y)), (q4, 53, rq (Q4.mk 0 0 0 0)), (q1, 51, rl y)] w12)
 refine znt ?_
 refine wp_seq ?_
 obtain ⟨B14, eB14⟩ : ∃ B, B = w12.heap.size := ⟨_, rfl⟩
 refine zrg (fun g : Nat → Nat => (⟨(rarr y :: .bool true :: pt q1 :: un :: pt q4 :: .bool false :: pt q9 :: pt (g 13) :: .bool true :: rarr y :: rarr y :: rarr (mulP y y) :: .tuple #[rarr rt, .bool true] :: rarr (mulP y y) :: rarr 1 :: rarr (subP (mulP y y) 1) :: rarr dN :: rarr (mulP y y) :: rarr (mulP dN (mulP y y)) :: rarr 1 :: rarr (addP (mulP dN (mulP y y)) 1) :: rarr (mulP (subP (mulP y y) 1) (invE (addP (mulP dN (mulP y y)) 1))) :: .tuple #[rarr rt, .bool true] :: rarr rt :: .bool true :: List.replicate 17 un).toArray, []⟩ : Act)) (GS w [(q9, 51, rl (mulP y y)), (q4, 53, rq (Q4.mk 0 0 0 0)), (q1, 51, rl y)] B14 1 13 14 51 (rl 0) (fun _ => rl rt)) (fun d hd => GS.start h13.drew eB14 (by decide) (fun _ _ => (rl_sz _ _)) (fun j hj => hd j (Nat.lt_of_lt_of_le hj (by decide)))) ?_ ?_
 ·refine zg (ghost_load 0 rfl Tryz.underlying51 rfl (info_rl (mulP y y))) ?_
  refine zg (ghost_call (v := rarr 1) enter67 #[iN .u32 1] (fun w' h' => wsmall_any 1 (by decide) w')) ?_
  refine zg (ghost_call (v := rarr (subP (mulP y y) 1)) enter69 #[rarr (mulP y y), rarr 1] (fun w' h' => wsub_any (mulP y y) 1 (mulP_lt _ _) (by decide) w')) ?_
  refine zg (ghost_call (v := rarr dN) enter59 #[] (fun w' h' => D_any w')) ?_
  refine zg (ghost_load 0 rfl Tryz.underlying51 rfl (info_rl (mulP y y))) ?_
  refine zg (ghost_call (v := rarr (mulP dN (mulP y y))) enter52 #[rarr dN, rarr (mulP y y)] (fun w' h' => wmul_any dN (mulP y y) dN_lt (mulP_lt _ _) w')) ?_
  refine zg (ghost_call (v := rarr 1) enter67 #[iN .u32 1] (fun w' h' => wsmall_any 1 (by decide) w')) ?_
  refine zg (ghost_call (v := rarr (addP (mulP dN (mulP y y)) 1)) enter68 #[rarr (mulP dN (mulP y y)), rarr 1] (fun w' h' => wadd_any (mulP dN (mulP y y)) 1 (mulP_lt _ _) (by decide) w')) ?_
  refine zg (ghost_call (v := rarr (mulP (subP (mulP y y) 1) (invE (addP (mulP dN (mulP y y)) 1)))) enter70 #[rarr (subP (mulP y y) 1), rarr (addP (mulP dN (mulP y y)) 1)] (fun w' h' => wover_any (subP (mulP y y) 1) (addP (mulP dN (mulP y y)) 1) (subP_lt _ _) (addP_lt _ _) w')) ?_
  refine zg (ghost_call (v := .tuple #[rarr rt, .bool true]) enter86 #[rarr (mulP (subP (mulP y y) 1) (invE (addP (mulP dN (mulP y y)) 1)))] (fun w' h' => rroot_yes (mulP (subP (mulP y y) 1) (invE (addP (mulP dN (mulP y y)) 1))) rt (mulP_lt _ _) (by rw [show mulP (subP (mulP y y) 1) (invE (addP (mulP dN (mulP y y)) 1)) = bsq y from rsq_is y]; exact hroot) w')) ?_
  refine zg (ghost_plain (v := .tuple #[rarr rt, .bool true])) ?_
  refine zg (ghost_plain (v := rarr rt)) ?_
  refine zg (ghost_plain (v := .bool true)) ?_
  refine zg (ghost_make 0 rfl (fun _ _ => run_alloc32)) ?_
  refine zg (ghost_fill 0 rfl (info_rl rt) (one_rl rt)) ?_
  refine zg (ghost_plain (v := .bool true)) ?_
  exact AllGhost.nil
 intro g w15 g16
 have h17 : HA w [(g 13, 51, rl rt), (q9, 51, rl (mulP y y)), (q4, 53, rq (Q4.mk 0 0 0 0)), (q1, 51, rl y)] w15 := g16.one
 clear g16 eB14
 generalize g 13 = q18 at h17 ⊢
 clear g
 refine then_at rfl ?_
 refine wp_seq ?_
 refine wp_seq ?_
 refine zrs ⟨(rarr y :: .bool true :: pt q1 :: un :: pt q4 :: .bool false :: pt q9 :: pt q18 :: .bool true :: rarr y :: rarr y :: rarr (mulP y y) :: .tuple #[rarr rt, .bool true] :: rarr (mulP y y) :: rarr 1 :: rarr (subP (mulP y y) 1) :: rarr dN :: rarr (mulP y y) :: rarr (mulP dN (mulP y y)) :: rarr 1 :: rarr (addP (mulP dN (mulP y y)) 1) :: rarr (mulP (subP (mulP y y) 1) (invE (addP (mulP dN (mulP y y)) 1))) :: .tuple #[rarr rt, .bool true] :: rarr rt :: .bool true :: .bool true :: .bool false :: .bool false :: .bool true :: .bool true :: rarr rt :: rarr 0 :: .bool true :: .bool true :: .bool true :: List.replicate 7 un).toArray, []⟩ (HA w [(q18, 51, rl rt), (q9, 51, rl (mulP y y)), (q4, 53, rq (Q4.mk 0 0 0 0)), (q1, 51, rl y)]) h17.drew ?_ ?_
 ·refine zsp (.bool true) ?_
  refine zsp (.bool false) ?_
  refine zsp (.bool false) ?_
  refine zsp (.bool true) ?_
  refine zsp (.bool true) ?_
  refine zst (v := rarr rt) (fun _ h => run_load_blk (h.get 0 rfl) Tryz.underlying51 rfl (info_rl rt)) ?_
  refine zsc enter67 HA.keep (fun w' h' => wsmall_any 0 (by decide) w') ?_
  refine zst (fun _ _ => (run_eq32 rt 0 (Nat.lt_trans hrt P_lt16) (Nat.lt_trans (by decide) P_lt16) true (decide_eq_true hz))) ?_
  refine zsp (.bool true) ?_
  refine zsp (.bool true) ?_
  exact AllSure.nil
 intro w19 h20
 refine then_at rfl ?_
 refine zct ?_
 refine zsr ?_
 refine zwc h20 enter44 (rNone_any w19) ?_
 intro w21 h22
 refine wl_fill (c' := rq (mdQ 0 1)) h22 2 rfl (rq_sz (mdQ 0 1) (Q4.mk 0 0 0 0)) (info34q (mdQ 0 1)) (one_rq (mdQ 0 1)) ?_
 intro w23 (h24 : HA w [(q18, 51, rl rt), (q9, 51, rl (mulP y y)), (q4, 53, rq (mdQ 0 1)), (q1, 51, rl y)] w23)
 refine zwv (.bool false) ?_
 refine znt ?_
 refine wp_ret ?_
 repeat first | refine then_ret ?_ | refine block_ret ?_
 have hB : Blk w23 q4 53 (rq (mdQ 0 1)) := h24.get 2 rfl
 exact bodyPost_ret (res34b (p := 4) (r := 5) (mdQ 0 1) (by kernel_rfl) (by kernel_rfl) (by kernel_rfl) hB) rfl ⟨rfl, h24.old⟩
theorem rof_no_root1 (y : Nat) (hy : y < P) (hroot : rootP (bsq y) = none) (w : World) :
  Calls Tryz.prog 74 #[rarr y, .bool true] w fun e w' => e = .returned (.tuple #[.agg (rq (mdQ 0 1)), .bool false]) ∧ Below w.heap.size w w' := by
 have H0 := HA.start w
 go_enter Tryz.func74, Tryz.ntmps74
 refine zsr ?_
 refine wl_make H0 51 (run_box32 (c := rl y)) ?_
 intro q1 w2 h3
 refine wl_make h3 53 run_alloc34 ?_
 intro q4 w5 h6
 refine zwv (.bool false) ?_
 refine znt ?_
 refine zsr ?_
 refine wl_load h6 1 rfl Tryz.underlying51 rfl (info_rl y) ?_
 refine wl_load h6 1 rfl Tryz.underlying51 rfl (info_rl y) ?_
 refine zwc h6 enter52 (wmul_any y y hy hy w5) ?_
 intro w7 h8
 refine wl_make h8 51 run_alloc32 ?_
 intro q9 w10 h11
 refine wl_fill (c' := rl (mulP y y)) h11 0 rfl (rl_sz (mulP y y) 0) (info_rl (mulP y y)) (one_rl (mulP y y)) ?_
 intro w12 (h13 : HA w [(q9, 51, rl (mulP y y)), (q4, 53, rq (Q4.mk 0 0 0 0)), (q1, 51, rl y)] w12)
 refine znt ?_
 refine wp_seq ?_
 obtain ⟨B14, eB14⟩ : ∃ B, B = w12.heap.size := ⟨_, rfl⟩
 refine zrg (fun g : Nat → Nat => (⟨(rarr y :: .bool true :: pt q1 :: un :: pt q4 :: .bool false :: pt q9 :: pt (g 13) :: .bool false :: rarr y :: rarr y :: rarr (mulP y y) :: .tuple #[rarr 0, .bool false] :: rarr (mulP y y) :: rarr 1 :: rarr (subP (mulP y y) 1) :: rarr dN :: rarr (mulP y y) :: rarr (mulP dN (mulP y y)) :: rarr 1 :: rarr (addP (mulP dN (mulP y y)) 1) :: rarr (mulP (subP (mulP y y) 1) (invE (addP (mulP dN (mulP y y)) 1))) :: .tuple #[rarr 0, .bool false] :: rarr 0 :: .bool false :: List.replicate 17 un).toArray, []⟩ : Act)) (GS w [(q9, 51, rl (mulP y y)), (q4, 53, rq (Q4.mk 0 0 0 0)), (q1, 51, rl y)] B14 1 13 14 51 (rl 0) (fun _ => rl 0)) (fun d hd => GS.start h13.drew eB14 (by decide) (fun _ _ => (rl_sz _ _)) (fun j hj => hd j (Nat.lt_of_lt_of_le hj (by decide)))) ?_ ?_
 ·refine zg (ghost_load 0 rfl Tryz.underlying51 rfl (info_rl (mulP y y))) ?_
  refine zg (ghost_call (v := rarr 1) enter67 #[iN .u32 1] (fun w' h' => wsmall_any 1 (by decide) w')) ?_
  refine zg (ghost_call (v := rarr (subP (mulP y y) 1)) enter69 #[rarr (mulP y y), rarr 1] (fun w' h' => wsub_any (mulP y y) 1 (mulP_lt _ _) (by decide) w')) ?_
  refine zg (ghost_call (v := rarr dN) enter59 #[] (fun w' h' => D_any w')) ?_
  refine zg (ghost_load 0 rfl Tryz.underlying51 rfl (info_rl (mulP y y))) ?_
  refine zg (ghost_call (v := rarr (mulP dN (mulP y y))) enter52 #[rarr dN, rarr (mulP y y)] (fun w' h' => wmul_any dN (mulP y y) dN_lt (mulP_lt _ _) w')) ?_
  refine zg (ghost_call (v := rarr 1) enter67 #[iN .u32 1] (fun w' h' => wsmall_any 1 (by decide) w')) ?_
  refine zg (ghost_call (v := rarr (addP (mulP dN (mulP y y)) 1)) enter68 #[rarr (mulP dN (mulP y y)), rarr 1] (fun w' h' => wadd_any (mulP dN (mulP y y)) 1 (mulP_lt _ _) (by decide) w')) ?_
  refine zg (ghost_call (v := rarr (mulP (subP (mulP y y) 1) (invE (addP (mulP dN (mulP y y)) 1)))) enter70 #[rarr (subP (mulP y y) 1), rarr (addP (mulP dN (mulP y y)) 1)] (fun w' h' => wover_any (subP (mulP y y) 1) (addP (mulP dN (mulP y y)) 1) (subP_lt _ _) (addP_lt _ _) w')) ?_
  refine zg (ghost_call (v := .tuple #[rarr 0, .bool false]) enter86 #[rarr (mulP (subP (mulP y y) 1) (invE (addP (mulP dN (mulP y y)) 1)))] (fun w' h' => rroot_no (mulP (subP (mulP y y) 1) (invE (addP (mulP dN (mulP y y)) 1))) (mulP_lt _ _) (by rw [show mulP (subP (mulP y y) 1) (invE (addP (mulP dN (mulP y y)) 1)) = bsq y from rsq_is y]; exact hroot) w')) ?_
  refine zg (ghost_plain (v := .tuple #[rarr 0, .bool false])) ?_
  refine zg (ghost_plain (v := rarr 0)) ?_
  refine zg (ghost_plain (v := .bool false)) ?_
  refine zg (ghost_make 0 rfl (fun _ _ => run_alloc32)) ?_
  refine zg (ghost_fill 0 rfl (info_rl 0) (one_rl 0)) ?_
  refine zg (ghost_plain (v := .bool false)) ?_
  exact AllGhost.nil
 intro g w15 g16
 have h17 : HA w [(g 13, 51, rl 0), (q9, 51, rl (mulP y y)), (q4, 53, rq (Q4.mk 0 0 0 0)), (q1, 51, rl y)] w15 := g16.one
 clear g16 eB14
 generalize g 13 = q18 at h17 ⊢
 clear g
 refine then_at rfl ?_
 refine wp_seq ?_
 refine wp_seq ?_
 refine zrs ⟨(rarr y :: .bool true :: pt q1 :: un :: pt q4 :: .bool false :: pt q9 :: pt q18 :: .bool false :: rarr y :: rarr y :: rarr (mulP y y) :: .tuple #[rarr 0, .bool false] :: rarr (mulP y y) :: rarr 1 :: rarr (subP (mulP y y) 1) :: rarr dN :: rarr (mulP y y) :: rarr (mulP dN (mulP y y)) :: rarr 1 :: rarr (addP (mulP dN (mulP y y)) 1) :: rarr (mulP (subP (mulP y y) 1) (invE (addP (mulP dN (mulP y y)) 1))) :: .tuple #[rarr 0, .bool false] :: rarr 0 :: .bool false :: .bool false :: .bool true :: .bool true :: un :: un :: un :: un :: un :: un :: .bool true :: List.replicate 7 un).toArray, []⟩ (HA w [(q18, 51, rl 0), (q9, 51, rl (mulP y y)), (q4, 53, rq (Q4.mk 0 0 0 0)), (q1, 51, rl y)]) h17.drew ?_ ?_
 ·refine zsp (.bool false) ?_
  refine zsp (.bool true) ?_
  refine zsp (.bool true) ?_
  refine zsk ?_
  refine zsk ?_
  refine zsk ?_
  refine zsk ?_
  refine zsk ?_
  refine zsk ?_
  refine zsp (.bool true) ?_
  exact AllSure.nil
 intro w19 h20
 refine then_at rfl ?_
 refine zct ?_
 refine zsr ?_
 refine zwc h20 enter44 (rNone_any w19) ?_
 intro w21 h22
 refine wl_fill (c' := rq (mdQ 0 1)) h22 2 rfl (rq_sz (mdQ 0 1) (Q4.mk 0 0 0 0)) (info34q (mdQ 0 1)) (one_rq (mdQ 0 1)) ?_
 intro w23 (h24 : HA w [(q18, 51, rl 0), (q9, 51, rl (mulP y y)), (q4, 53, rq (mdQ 0 1)), (q1, 51, rl y)] w23)
 refine zwv (.bool false) ?_
 refine znt ?_
 refine wp_ret ?_
 repeat first | refine then_ret ?_ | refine block_ret ?_
 have hB : Blk w23 q4 53 (rq (mdQ 0 1)) := h24.get 2 rfl
 exact bodyPost_ret (res34b (p := 4) (r := 5) (mdQ 0 1) (by kernel_rfl) (by kernel_rfl) (by kernel_rfl) hB) rfl ⟨rfl, h24.old⟩
theorem rof_no_root0 (y : Nat) (hy : y < P) (hroot : rootP (bsq y) = none) (w : World) :
  Calls Tryz.prog 74 #[rarr y, .bool false] w fun e w' => e = .returned (.tuple #[.agg (rq (mdQ 0 1)), .bool false]) ∧ Below w.heap.size w w' := by
 have H0 := HA.start w
 go_enter Tryz.func74, Tryz.ntmps74
 refine zsr ?_
 refine wl_make H0 51 (run_box32 (c := rl y)) ?_
 intro q1 w2 h3
 refine wl_make h3 53 run_alloc34 ?_
 intro q4 w5 h6
 refine zwv (.bool false) ?_
 refine znt ?_
 refine zsr ?_
 refine wl_load h6 1 rfl Tryz.underlying51 rfl (info_rl y) ?_
 refine wl_load h6 1 rfl Tryz.underlying51 rfl (info_rl y) ?_
 refine zwc h6 enter52 (wmul_any y y hy hy w5) ?_
 intro w7 h8
 refine wl_make h8 51 run_alloc32 ?_
 intro q9 w10 h11
 refine wl_fill (c' := rl (mulP y y)) h11 0 rfl (rl_sz (mulP y y) 0) (info_rl (mulP y y)) (one_rl (mulP y y)) ?_
 intro w12 (h13 : HA w [(q9, 51, rl (mulP y y)), (q4, 53, rq (Q4.mk 0 0 0 0)), (q1, 51, rl y)] w12)
 refine znt ?_
 refine wp_seq ?_
 obtain ⟨B14, eB14⟩ : ∃ B, B = w12.heap.size := ⟨_, rfl⟩
 refine zrg (fun g : Nat → Nat => (⟨(rarr y :: .bool false :: pt q1 :: un :: pt q4 :: .bool false :: pt q9 :: pt (g 13) :: .bool false :: rarr y :: rarr y :: rarr (mulP y y) :: .tuple #[rarr 0, .bool false] :: rarr (mulP y y) :: rarr 1 :: rarr (subP (mulP y y) 1) :: rarr dN :: rarr (mulP y y) :: rarr (mulP dN (mulP y y)) :: rarr 1 :: rarr (addP (mulP dN (mulP y y)) 1) :: rarr (mulP (subP (mulP y y) 1) (invE (addP (mulP dN (mulP y y)) 1))) :: .tuple #[rarr 0, .bool false] :: rarr 0 :: .bool false :: List.replicate 17 un).toArray, []⟩ : Act)) (GS w [(q9, 51, rl (mulP y y)), (q4, 53, rq (Q4.mk 0 0 0 0)), (q1, 51, rl y)] B14 1 13 14 51 (rl 0) (fun _ => rl 0)) (fun d hd => GS.start h13.drew eB14 (by decide) (fun _ _ => (rl_sz _ _)) (fun j hj => hd j (Nat.lt_of_lt_of_le hj (by decide)))) ?_ ?_
 ·refine zg (ghost_load 0 rfl Tryz.underlying51 rfl (info_rl (mulP y y))) ?_
  refine zg (ghost_call (v := rarr 1) enter67 #[iN .u32 1] (fun w' h' => wsmall_any 1 (by decide) w')) ?_
  refine zg (ghost_call (v := rarr (subP (mulP y y) 1)) enter69 #[rarr (mulP y y), rarr 1] (fun w' h' => wsub_any (mulP y y) 1 (mulP_lt _ _) (by decide) w')) ?_
  refine zg (ghost_call (v := rarr dN) enter59 #[] (fun w' h' => D_any w')) ?_
  refine zg (ghost_load 0 rfl Tryz.underlying51 rfl (info_rl (mulP y y))) ?_
  refine zg (ghost_call (v := rarr (mulP dN (mulP y y))) enter52 #[rarr dN, rarr (mulP y y)] (fun w' h' => wmul_any dN (mulP y y) dN_lt (mulP_lt _ _) w')) ?_
  refine zg (ghost_call (v := rarr 1) enter67 #[iN .u32 1] (fun w' h' => wsmall_any 1 (by decide) w')) ?_
  refine zg (ghost_call (v := rarr (addP (mulP dN (mulP y y)) 1)) enter68 #[rarr (mulP dN (mulP y y)), rarr 1] (fun w' h' => wadd_any (mulP dN (mulP y y)) 1 (mulP_lt _ _) (by decide) w')) ?_
  refine zg (ghost_call (v := rarr (mulP (subP (mulP y y) 1) (invE (addP (mulP dN (mulP y y)) 1)))) enter70 #[rarr (subP (mulP y y) 1), rarr (addP (mulP dN (mulP y y)) 1)] (fun w' h' => wover_any (subP (mulP y y) 1) (addP (mulP dN (mulP y y)) 1) (subP_lt _ _) (addP_lt _ _) w')) ?_
  refine zg (ghost_call (v := .tuple #[rarr 0, .bool false]) enter86 #[rarr (mulP (subP (mulP y y) 1) (invE (addP (mulP dN (mulP y y)) 1)))] (fun w' h' => rroot_no (mulP (subP (mulP y y) 1) (invE (addP (mulP dN (mulP y y)) 1))) (mulP_lt _ _) (by rw [show mulP (subP (mulP y y) 1) (invE (addP (mulP dN (mulP y y)) 1)) = bsq y from rsq_is y]; exact hroot) w')) ?_
  refine zg (ghost_plain (v := .tuple #[rarr 0, .bool false])) ?_
  refine zg (ghost_plain (v := rarr 0)) ?_
  refine zg (ghost_plain (v := .bool false)) ?_
  refine zg (ghost_make 0 rfl (fun _ _ => run_alloc32)) ?_
  refine zg (ghost_fill 0 rfl (info_rl 0) (one_rl 0)) ?_
  refine zg (ghost_plain (v := .bool false)) ?_
  exact AllGhost.nil
 intro g w15 g16
 have h17 : HA w [(g 13, 51, rl 0), (q9, 51, rl (mulP y y)), (q4, 53, rq (Q4.mk 0 0 0 0)), (q1, 51, rl y)] w15 := g16.one
 clear g16 eB14
 generalize g 13 = q18 at h17 ⊢
 clear g
 refine then_at rfl ?_
 refine wp_seq ?_
 refine wp_seq ?_
 refine zrs ⟨(rarr y :: .bool false :: pt q1 :: un :: pt q4 :: .bool false :: pt q9 :: pt q18 :: .bool false :: rarr y :: rarr y :: rarr (mulP y y) :: .tuple #[rarr 0, .bool false] :: rarr (mulP y y) :: rarr 1 :: rarr (subP (mulP y y) 1) :: rarr dN :: rarr (mulP y y) :: rarr (mulP dN (mulP y y)) :: rarr 1 :: rarr (addP (mulP dN (mulP y y)) 1) :: rarr (mulP (subP (mulP y y) 1) (invE (addP (mulP dN (mulP y y)) 1))) :: .tuple #[rarr 0, .bool false] :: rarr 0 :: .bool false :: .bool false :: .bool true :: .bool true :: un :: un :: un :: un :: un :: un :: .bool true :: List.replicate 7 un).toArray, []⟩ (HA w [(q18, 51, rl 0), (q9, 51, rl (mulP y y)), (q4, 53, rq (Q4.mk 0 0 0 0)), (q1, 51, rl y)]) h17.drew ?_ ?_
 ·refine zsp (.bool false) ?_
  refine zsp (.bool true) ?_
  refine zsp (.bool true) ?_
  refine zsk ?_
  refine zsk ?_
  refine zsk ?_
  refine zsk ?_
  refine zsk ?_
  refine zsk ?_
  refine zsp (.bool true) ?_
  exact AllSure.nil
 intro w19 h20
 refine then_at rfl ?_
 refine zct ?_
 refine zsr ?_
 refine zwc h20 enter44 (rNone_any w19) ?_
 intro w21 h22
 refine wl_fill (c' := rq (mdQ 0 1)) h22 2 rfl (rq_sz (mdQ 0 1) (Q4.mk 0 0 0 0)) (info34q (mdQ 0 1)) (one_rq (mdQ 0 1)) ?_
 intro w23 (h24 : HA w [(q18, 51, rl 0), (q9, 51, rl (mulP y y)), (q4, 53, rq (mdQ 0 1)), (q1, 51, rl y)] w23)
 refine zwv (.bool false) ?_
 refine znt ?_
 refine wp_ret ?_
 repeat first | refine then_ret ?_ | refine block_ret ?_
 have hB : Blk w23 q4 53 (rq (mdQ 0 1)) := h24.get 2 rfl
 exact bodyPost_ret (res34b (p := 4) (r := 5) (mdQ 0 1) (by kernel_rfl) (by kernel_rfl) (by kernel_rfl) hB) rfl ⟨rfl, h24.old⟩
theorem QOf_size (s : ByteArray) (hs : s.size ≠ 32) (w : World) :
  Calls Tryz.prog 32 #[.string s] w fun e w' => e = .returned (.tuple #[.agg (rq (mdQ 0 1)), .bool false]) ∧ Below w.heap.size w w' := by
 have H0 := HA.start w
 go_enter Tryz.func32, Tryz.ntmps32
 refine zsr ?_
 refine wl_make H0 53 run_alloc34 ?_
 intro q1 w2 h3
 refine zwv (.bool false) ?_
 refine znt ?_
 refine wp_seq ?_
 refine zsr ?_
 refine zwv (.string s) ?_
 refine zwu (run_len (s := s)) ?_
 refine zwu (run_nei (k := .i64) (a := s.size) (b := 32) true (decide_eq_true hs)) ?_
 refine znt ?_
 refine zct ?_
 refine zsr ?_
 refine zwc h3 enter44 (rNone_any w2) ?_
 intro w4 h5
 refine wl_fill (c' := rq (mdQ 0 1)) h5 0 rfl (rq_sz (mdQ 0 1) (Q4.mk 0 0 0 0)) (info34q (mdQ 0 1)) (one_rq (mdQ 0 1)) ?_
 intro w6 (h7 : HA w [(q1, 53, rq (mdQ 0 1))] w6)
 refine zwv (.bool false) ?_
 refine znt ?_
 refine wp_ret ?_
 repeat first | refine then_ret ?_ | refine block_ret ?_
 have hB : Blk w6 q1 53 (rq (mdQ 0 1)) := h7.get 0 rfl
 exact bodyPost_ret (res34b (p := 2) (r := 3) (mdQ 0 1) (by kernel_rfl) (by kernel_rfl) (by kernel_rfl) hB) rfl ⟨rfl, h7.old⟩
theorem QOf_no_of1 (s : ByteArray) (hs : s.size = 32) (hof : ofP (topS s) = none) (hbit : numS s / 2 ^ 255 % 2 = 1) (w : World) :
  Calls Tryz.prog 32 #[.string s] w fun e w' => e = .returned (.tuple #[.agg (rq (mdQ 0 1)), .bool false]) ∧ Below w.heap.size w w' := by
 have hls : ∀ {i : Nat}, i < 32 → i < (bl s).length := fun h => by rw [bl_len, hs]; exact h
 have H0 := HA.start w
 go_enter Tryz.func32, Tryz.ntmps32
 refine zsr ?_
 refine wl_make H0 53 run_alloc34 ?_
 intro q1 w2 h3
 refine zwv (.bool false) ?_
 refine znt ?_
 refine wp_seq ?_
 refine zsr ?_
 refine zwv (.string s) ?_
 refine zwu (run_len (s := s)) ?_
 refine zwu (run_nei (k := .i64) (a := s.size) (b := 32) false (decide_eq_false (not_not_intro hs))) ?_
 refine znt ?_
 refine zcf ?_
 refine wp_skip ?_
 refine then_at rfl ?_
 refine zsr ?_
 refine zwv (.string s) ?_
 refine wl_bytes (s := s) h3 ?_
 intro q4 cp5 m6 w7 h8
 refine zwv (.slice (some ⟨q4, 0, none⟩) s.size cp5) ?_
 refine znt ?_
 refine zsr ?_
 refine zwv (.slice (some ⟨q4, 0, none⟩) s.size cp5) ?_
 refine zwu (run_addr_slice (q := q4) (n := s.size) (m := cp5) (a := 31) Tryz.underlying71 Tryz.sizeOf5 (by omega)) ?_
 refine zwu (run_load1 Tryz.isAgg5 (((h8.get 0 rfl).cell 31).trans (byC_get (bl s) m6 31 (hls (i := 31) (by decide))))) ?_
 refine zwu (run_geq (k := .u8) (a := ((bl s).getD 31 0).toNat) (b := 128) true (decide_eq_true ((bit31 s hs).2 hbit))) ?_
 refine zwv (.bool true) ?_
 refine znt ?_
 refine zsr ?_
 refine zwv (.slice (some ⟨q4, 0, none⟩) s.size cp5) ?_
 refine zwv (.slice (some ⟨q4, 0, none⟩) s.size cp5) ?_
 refine zwu (run_addr_slice (q := q4) (n := s.size) (m := cp5) (a := 31) Tryz.underlying71 Tryz.sizeOf5 (by omega)) ?_
 refine zwu (run_load1 Tryz.isAgg5 (((h8.get 0 rfl).cell 31).trans (byC_get (bl s) m6 31 (hls (i := 31) (by decide))))) ?_
 refine zwu (run_and8 (a := ((bl s).getD 31 0).toNat) (b := 127) (u8_lt _)) ?_
 refine zwu (run_addr_slice (q := q4) (n := s.size) (m := cp5) (a := 31) Tryz.underlying71 Tryz.sizeOf5 (by omega)) ?_
 refine wl_put (k := .u8) (z := (((((bl s).getD 31 0).toNat) &&& 127 : Nat) : Int)) h8 0 rfl 31 (by rw [byC_size]; exact Nat.lt_add_right _ (hls (i := 31) (by decide))) Tryz.sizeOf5 ?_
 intro w9 h10
 have h11 : HA w [(q4, 5, byC ((bl s).set 31 (UInt8.ofNat ((((bl s).getD 31 0).toNat) &&& 127))) m6), (q1, 53, rq (Q4.mk 0 0 0 0))] w9 := (by rw [← byC_put (bl s) m6 31 ((((bl s).getD 31 0).toNat) &&& 127) (hls (i := 31) (by decide)) (Nat.lt_of_le_of_lt Nat.and_le_left (u8_lt _))]; exact h10)
 clear h10
 refine znt ?_
 refine zsr ?_
 refine zwv (.slice (some ⟨q4, 0, none⟩) s.size cp5) ?_
 refine zwu (run_byText (n := s.size) (c := cp5) (m := m6) (l := (bl s).set 31 (UInt8.ofNat ((((bl s).getD 31 0).toNat) &&& 127))) (by simp [bl_len]) (h11.get 0 rfl)) ?_
 refine zwc h11 enter45 (rof_none (ByteArray.mk ((bl s).set 31 (UInt8.ofNat ((((bl s).getD 31 0).toNat) &&& 127))).toArray) hof w9) ?_
 intro w12 h13
 refine zwv (.tuple #[rarr 0, .bool false]) ?_
 refine zwv (rarr 0) ?_
 refine zwv (.bool false) ?_
 refine wl_make h13 51 run_alloc32 ?_
 intro q14 w15 h16
 refine wl_fill (c' := rl 0) h16 0 rfl (rl_sz 0 0) (info_rl 0) (one_rl 0) ?_
 intro w17 (h18 : HA w [(q14, 51, rl 0), (q4, 5, byC ((bl s).set 31 (UInt8.ofNat ((((bl s).getD 31 0).toNat) &&& 127))) m6), (q1, 53, rq (Q4.mk 0 0 0 0))] w17)
 refine zwv (.bool false) ?_
 refine znt ?_
 refine wp_seq ?_
 refine zsr ?_
 refine zwv (.bool false) ?_
 refine zwv (.bool true) ?_
 refine znt ?_
 refine zct ?_
 refine zsr ?_
 refine zwc h18 enter44 (rNone_any w17) ?_
 intro w19 h20
 refine wl_fill (c' := rq (mdQ 0 1)) h20 2 rfl (rq_sz (mdQ 0 1) (Q4.mk 0 0 0 0)) (info34q (mdQ 0 1)) (one_rq (mdQ 0 1)) ?_
 intro w21 (h22 : HA w [(q14, 51, rl 0), (q4, 5, byC ((bl s).set 31 (UInt8.ofNat ((((bl s).getD 31 0).toNat) &&& 127))) m6), (q1, 53, rq (mdQ 0 1))] w21)
 refine zwv (.bool false) ?_
 refine znt ?_
 refine wp_ret ?_
 repeat first | refine then_ret ?_ | refine block_ret ?_
 have hB : Blk w21 q1 53 (rq (mdQ 0 1)) := h22.get 2 rfl
 exact bodyPost_ret (res34b (p := 2) (r := 3) (mdQ 0 1) (by kernel_rfl) (by kernel_rfl) (by kernel_rfl) hB) rfl ⟨rfl, h22.old⟩
theorem QOf_no_root1 (s : ByteArray) (hs : s.size = 32) (y : Nat) (hy : y < P) (hof : ofP (topS s) = some y) (hroot : rootP (bsq y) = none) (hbit : numS s / 2 ^ 255 % 2 = 1) (w : World) :
  Calls Tryz.prog 32 #[.string s] w fun e w' => e = .returned (.tuple #[.agg (rq (mdQ 0 1)), .bool false]) ∧ Below w.heap.size w w' := by
 have hls : ∀ {i : Nat}, i < 32 → i < (bl s).length := fun h => by rw [bl_len, hs]; exact h
 have H0 := HA.start w
 go_enter Tryz.func32, Tryz.ntmps32
 refine zsr ?_
 refine wl_make H0 53 run_alloc34 ?_
 intro q1 w2 h3
 refine zwv (.bool false) ?_
 refine znt ?_
 refine wp_seq ?_
 refine zsr ?_
 refine zwv (.string s) ?_
 refine zwu (run_len (s := s)) ?_
 refine zwu (run_nei (k := .i64) (a := s.size) (b := 32) false (decide_eq_false (not_not_intro hs))) ?_
 refine znt ?_
 refine zcf ?_
 refine wp_skip ?_
 refine then_at rfl ?_
 refine zsr ?_
 refine zwv (.string s) ?_
 refine wl_bytes (s := s) h3 ?_
 intro q4 cp5 m6 w7 h8
 refine zwv (.slice (some ⟨q4, 0, none⟩) s.size cp5) ?_
 refine znt ?_
 refine zsr ?_
 refine zwv (.slice (some ⟨q4, 0, none⟩) s.size cp5) ?_
 refine zwu (run_addr_slice (q := q4) (n := s.size) (m := cp5) (a := 31) Tryz.underlying71 Tryz.sizeOf5 (by omega)) ?_
 refine zwu (run_load1 Tryz.isAgg5 (((h8.get 0 rfl).cell 31).trans (byC_get (bl s) m6 31 (hls (i := 31) (by decide))))) ?_
 refine zwu (run_geq (k := .u8) (a := ((bl s).getD 31 0).toNat) (b := 128) true (decide_eq_true ((bit31 s hs).2 hbit))) ?_
 refine zwv (.bool true) ?_
 refine znt ?_
 refine zsr ?_
 refine zwv (.slice (some ⟨q4, 0, none⟩) s.size cp5) ?_
 refine zwv (.slice (some ⟨q4, 0, none⟩) s.size cp5) ?_
 refine zwu (run_addr_slice (q := q4) (n := s.size) (m := cp5) (a := 31) Tryz.underlying71 Tryz.sizeOf5 (by omega)) ?_
 refine zwu (run_load1 Tryz.isAgg5 (((h8.get 0 rfl).cell 31).trans (byC_get (bl s) m6 31 (hls (i := 31) (by decide))))) ?_
 refine zwu (run_and8 (a := ((bl s).getD 31 0).toNat) (b := 127) (u8_lt _)) ?_
 refine zwu (run_addr_slice (q := q4) (n := s.size) (m := cp5) (a := 31) Tryz.underlying71 Tryz.sizeOf5 (by omega)) ?_
 refine wl_put (k := .u8) (z := (((((bl s).getD 31 0).toNat) &&& 127 : Nat) : Int)) h8 0 rfl 31 (by rw [byC_size]; exact Nat.lt_add_right _ (hls (i := 31) (by decide))) Tryz.sizeOf5 ?_
 intro w9 h10
 have h11 : HA w [(q4, 5, byC ((bl s).set 31 (UInt8.ofNat ((((bl s).getD 31 0).toNat) &&& 127))) m6), (q1, 53, rq (Q4.mk 0 0 0 0))] w9 := (by rw [← byC_put (bl s) m6 31 ((((bl s).getD 31 0).toNat) &&& 127) (hls (i := 31) (by decide)) (Nat.lt_of_le_of_lt Nat.and_le_left (u8_lt _))]; exact h10)
 clear h10
 refine znt ?_
 refine zsr ?_
 refine zwv (.slice (some ⟨q4, 0, none⟩) s.size cp5) ?_
 refine zwu (run_byText (n := s.size) (c := cp5) (m := m6) (l := (bl s).set 31 (UInt8.ofNat ((((bl s).getD 31 0).toNat) &&& 127))) (by simp [bl_len]) (h11.get 0 rfl)) ?_
 refine zwc h11 enter45 (rof_some (ByteArray.mk ((bl s).set 31 (UInt8.ofNat ((((bl s).getD 31 0).toNat) &&& 127))).toArray) hof w9) ?_
 intro w12 h13
 refine zwv (.tuple #[rarr y, .bool true]) ?_
 refine zwv (rarr y) ?_
 refine zwv (.bool true) ?_
 refine wl_make h13 51 run_alloc32 ?_
 intro q14 w15 h16
 refine wl_fill (c' := rl y) h16 0 rfl (rl_sz y 0) (info_rl y) (one_rl y) ?_
 intro w17 (h18 : HA w [(q14, 51, rl y), (q4, 5, byC ((bl s).set 31 (UInt8.ofNat ((((bl s).getD 31 0).toNat) &&& 127))) m6), (q1, 53, rq (Q4.mk 0 0 0 0))] w17)
 refine zwv (.bool true) ?_
 refine znt ?_
 refine wp_seq ?_
 refine zsr ?_
 refine zwv (.bool true) ?_
 refine zwv (.bool false) ?_
 refine znt ?_
 refine zcf ?_
 refine wp_skip ?_
 refine then_at rfl ?_
 refine zsr ?_
 refine wl_load h18 0 rfl Tryz.underlying51 rfl (info_rl y) ?_
 refine zwv (.bool true) ?_
 refine zwc h18 enter46 (rof_no_root1 y hy hroot w17) ?_
 intro w19 h20
 refine zwv (.agg (rq (mdQ 0 1))) ?_
 refine zwv (.bool false) ?_
 refine wl_fill (c' := rq (mdQ 0 1)) h20 2 rfl (rq_sz (mdQ 0 1) (Q4.mk 0 0 0 0)) (info34q (mdQ 0 1)) (one_rq (mdQ 0 1)) ?_
 intro w21 (h22 : HA w [(q14, 51, rl y), (q4, 5, byC ((bl s).set 31 (UInt8.ofNat ((((bl s).getD 31 0).toNat) &&& 127))) m6), (q1, 53, rq (mdQ 0 1))] w21)
 refine zwv (.bool false) ?_
 refine znt ?_
 refine wp_ret ?_
 repeat first | refine then_ret ?_ | refine block_ret ?_
 have hB : Blk w21 q1 53 (rq (mdQ 0 1)) := h22.get 2 rfl
 exact bodyPost_ret (res34b (p := 2) (r := 3) (mdQ 0 1) (by kernel_rfl) (by kernel_rfl) (by kernel_rfl) hB) rfl ⟨rfl, h22.old⟩
theorem QOf_no_of0 (s : ByteArray) (hs : s.size = 32) (hof : ofP (topS s) = none) (hbit : ¬ numS s / 2 ^ 255 % 2 = 1) (w : World) :
  Calls Tryz.prog 32 #[.string s] w fun e w' => e = .returned (.tuple #[.agg (rq (mdQ 0 1)), .bool false]) ∧ Below w.heap.size w w' := by
 have hls : ∀ {i : Nat}, i < 32 → i < (bl s).length := fun h => by rw [bl_len, hs]; exact h
 have H0 := HA.start w
 go_enter Tryz.func32, Tryz.ntmps32
 refine zsr ?_
 refine wl_make H0 53 run_alloc34 ?_
 intro q1 w2 h3
 refine zwv (.bool false) ?_
 refine znt ?_
 refine wp_seq ?_
 refine zsr ?_
 refine zwv (.string s) ?_
 refine zwu (run_len (s := s)) ?_
 refine zwu (run_nei (k := .i64) (a := s.size) (b := 32) false (decide_eq_false (not_not_intro hs))) ?_
 refine znt ?_
 refine zcf ?_
 refine wp_skip ?_
 refine then_at rfl ?_
 refine zsr ?_
 refine zwv (.string s) ?_
 refine wl_bytes (s := s) h3 ?_
 intro q4 cp5 m6 w7 h8
 refine zwv (.slice (some ⟨q4, 0, none⟩) s.size cp5) ?_
 refine znt ?_
 refine zsr ?_
 refine zwv (.slice (some ⟨q4, 0, none⟩) s.size cp5) ?_
 refine zwu (run_addr_slice (q := q4) (n := s.size) (m := cp5) (a := 31) Tryz.underlying71 Tryz.sizeOf5 (by omega)) ?_
 refine zwu (run_load1 Tryz.isAgg5 (((h8.get 0 rfl).cell 31).trans (byC_get (bl s) m6 31 (hls (i := 31) (by decide))))) ?_
 refine zwu (run_geq (k := .u8) (a := ((bl s).getD 31 0).toNat) (b := 128) false (decide_eq_false (fun h => hbit ((bit31 s hs).1 h)))) ?_
 refine zwv (.bool false) ?_
 refine znt ?_
 refine zsr ?_
 refine zwv (.slice (some ⟨q4, 0, none⟩) s.size cp5) ?_
 refine zwv (.slice (some ⟨q4, 0, none⟩) s.size cp5) ?_
 refine zwu (run_addr_slice (q := q4) (n := s.size) (m := cp5) (a := 31) Tryz.underlying71 Tryz.sizeOf5 (by omega)) ?_
 refine zwu (run_load1 Tryz.isAgg5 (((h8.get 0 rfl).cell 31).trans (byC_get (bl s) m6 31 (hls (i := 31) (by decide))))) ?_
 refine zwu (run_and8 (a := ((bl s).getD 31 0).toNat) (b := 127) (u8_lt _)) ?_
 refine zwu (run_addr_slice (q := q4) (n := s.size) (m := cp5) (a := 31) Tryz.underlying71 Tryz.sizeOf5 (by omega)) ?_
 refine wl_put (k := .u8) (z := (((((bl s).getD 31 0).toNat) &&& 127 : Nat) : Int)) h8 0 rfl 31 (by rw [byC_size]; exact Nat.lt_add_right _ (hls (i := 31) (by decide))) Tryz.sizeOf5 ?_
 intro w9 h10
 have h11 : HA w [(q4, 5, byC ((bl s).set 31 (UInt8.ofNat ((((bl s).getD 31 0).toNat) &&& 127))) m6), (q1, 53, rq (Q4.mk 0 0 0 0))] w9 := (by rw [← byC_put (bl s) m6 31 ((((bl s).getD 31 0).toNat) &&& 127) (hls (i := 31) (by decide)) (Nat.lt_of_le_of_lt Nat.and_le_left (u8_lt _))]; exact h10)
 clear h10
 refine znt ?_
 refine zsr ?_
 refine zwv (.slice (some ⟨q4, 0, none⟩) s.size cp5) ?_
 refine zwu (run_byText (n := s.size) (c := cp5) (m := m6) (l := (bl s).set 31 (UInt8.ofNat ((((bl s).getD 31 0).toNat) &&& 127))) (by simp [bl_len]) (h11.get 0 rfl)) ?_
 refine zwc h11 enter45 (rof_none (ByteArray.mk ((bl s).set 31 (UInt8.ofNat ((((bl s).getD 31 0).toNat) &&& 127))).toArray) hof w9) ?_
 intro w12 h13
 refine zwv (.tuple #[rarr 0, .bool false]) ?_
 refine zwv (rarr 0) ?_
 refine zwv (.bool false) ?_
 refine wl_make h13 51 run_alloc32 ?_
 intro q14 w15 h16
 refine wl_fill (c' := rl 0) h16 0 rfl (rl_sz 0 0) (info_rl 0) (one_rl 0) ?_
 intro w17 (h18 : HA w [(q14, 51, rl 0), (q4, 5, byC ((bl s).set 31 (UInt8.ofNat ((((bl s).getD 31 0).toNat) &&& 127))) m6), (q1, 53, rq (Q4.mk 0 0 0 0))] w17)
 refine zwv (.bool false) ?_
 refine znt ?_
 refine wp_seq ?_
 refine zsr ?_
 refine zwv (.bool false) ?_
 refine zwv (.bool true) ?_
 refine znt ?_
 refine zct ?_
 refine zsr ?_
 refine zwc h18 enter44 (rNone_any w17) ?_
 intro w19 h20
 refine wl_fill (c' := rq (mdQ 0 1)) h20 2 rfl (rq_sz (mdQ 0 1) (Q4.mk 0 0 0 0)) (info34q (mdQ 0 1)) (one_rq (mdQ 0 1)) ?_
 intro w21 (h22 : HA w [(q14, 51, rl 0), (q4, 5, byC ((bl s).set 31 (UInt8.ofNat ((((bl s).getD 31 0).toNat) &&& 127))) m6), (q1, 53, rq (mdQ 0 1))] w21)
 refine zwv (.bool false) ?_
 refine znt ?_
 refine wp_ret ?_
 repeat first | refine then_ret ?_ | refine block_ret ?_
 have hB : Blk w21 q1 53 (rq (mdQ 0 1)) := h22.get 2 rfl
 exact bodyPost_ret (res34b (p := 2) (r := 3) (mdQ 0 1) (by kernel_rfl) (by kernel_rfl) (by kernel_rfl) hB) rfl ⟨rfl, h22.old⟩
theorem QOf_no_root0 (s : ByteArray) (hs : s.size = 32) (y : Nat) (hy : y < P) (hof : ofP (topS s) = some y) (hroot : rootP (bsq y) = none) (hbit : ¬ numS s / 2 ^ 255 % 2 = 1) (w : World) :
  Calls Tryz.prog 32 #[.string s] w fun e w' => e = .returned (.tuple #[.agg (rq (mdQ 0 1)), .bool false]) ∧ Below w.heap.size w w' := by
 have hls : ∀ {i : Nat}, i < 32 → i < (bl s).length := fun h => by rw [bl_len, hs]; exact h
 have H0 := HA.start w
 go_enter Tryz.func32, Tryz.ntmps32
 refine zsr ?_
 refine wl_make H0 53 run_alloc34 ?_
 intro q1 w2 h3
 refine zwv (.bool false) ?_
 refine znt ?_
 refine wp_seq ?_
 refine zsr ?_
 refine zwv (.string s) ?_
 refine zwu (run_len (s := s)) ?_
 refine zwu (run_nei (k := .i64) (a := s.size) (b := 32) false (decide_eq_false (not_not_intro hs))) ?_
 refine znt ?_
 refine zcf ?_
 refine wp_skip ?_
 refine then_at rfl ?_
 refine zsr ?_
 refine zwv (.string s) ?_
 refine wl_bytes (s := s) h3 ?_
 intro q4 cp5 m6 w7 h8
 refine zwv (.slice (some ⟨q4, 0, none⟩) s.size cp5) ?_
 refine znt ?_
 refine zsr ?_
 refine zwv (.slice (some ⟨q4, 0, none⟩) s.size cp5) ?_
 refine zwu (run_addr_slice (q := q4) (n := s.size) (m := cp5) (a := 31) Tryz.underlying71 Tryz.sizeOf5 (by omega)) ?_
 refine zwu (run_load1 Tryz.isAgg5 (((h8.get 0 rfl).cell 31).trans (byC_get (bl s) m6 31 (hls (i := 31) (by decide))))) ?_
 refine zwu (run_geq (k := .u8) (a := ((bl s).getD 31 0).toNat) (b := 128) false (decide_eq_false (fun h => hbit ((bit31 s hs).1 h)))) ?_
 refine zwv (.bool false) ?_
 refine znt ?_
 refine zsr ?_
 refine zwv (.slice (some ⟨q4, 0, none⟩) s.size cp5) ?_
 refine zwv (.slice (some ⟨q4, 0, none⟩) s.size cp5) ?_
 refine zwu (run_addr_slice (q := q4) (n := s.size) (m := cp5) (a := 31) Tryz.underlying71 Tryz.sizeOf5 (by omega)) ?_
 refine zwu (run_load1 Tryz.isAgg5 (((h8.get 0 rfl).cell 31).trans (byC_get (bl s) m6 31 (hls (i := 31) (by decide))))) ?_
 refine zwu (run_and8 (a := ((bl s).getD 31 0).toNat) (b := 127) (u8_lt _)) ?_
 refine zwu (run_addr_slice (q := q4) (n := s.size) (m := cp5) (a := 31) Tryz.underlying71 Tryz.sizeOf5 (by omega)) ?_
 refine wl_put (k := .u8) (z := (((((bl s).getD 31 0).toNat) &&& 127 : Nat) : Int)) h8 0 rfl 31 (by rw [byC_size]; exact Nat.lt_add_right _ (hls (i := 31) (by decide))) Tryz.sizeOf5 ?_
 intro w9 h10
 have h11 : HA w [(q4, 5, byC ((bl s).set 31 (UInt8.ofNat ((((bl s).getD 31 0).toNat) &&& 127))) m6), (q1, 53, rq (Q4.mk 0 0 0 0))] w9 := (by rw [← byC_put (bl s) m6 31 ((((bl s).getD 31 0).toNat) &&& 127) (hls (i := 31) (by decide)) (Nat.lt_of_le_of_lt Nat.and_le_left (u8_lt _))]; exact h10)
 clear h10
 refine znt ?_
 refine zsr ?_
 refine zwv (.slice (some ⟨q4, 0, none⟩) s.size cp5) ?_
 refine zwu (run_byText (n := s.size) (c := cp5) (m := m6) (l := (bl s).set 31 (UInt8.ofNat ((((bl s).getD 31 0).toNat) &&& 127))) (by simp [bl_len]) (h11.get 0 rfl)) ?_
 refine zwc h11 enter45 (rof_some (ByteArray.mk ((bl s).set 31 (UInt8.ofNat ((((bl s).getD 31 0).toNat) &&& 127))).toArray) hof w9) ?_
 intro w12 h13
 refine zwv (.tuple #[rarr y, .bool true]) ?_
 refine zwv (rarr y) ?_
 refine zwv (.bool true) ?_
 refine wl_make h13 51 run_alloc32 ?_
 intro q14 w15 h16
 refine wl_fill (c' := rl y) h16 0 rfl (rl_sz y 0) (info_rl y) (one_rl y) ?_
 intro w17 (h18 : HA w [(q14, 51, rl y), (q4, 5, byC ((bl s).set 31 (UInt8.ofNat ((((bl s).getD 31 0).toNat) &&& 127))) m6), (q1, 53, rq (Q4.mk 0 0 0 0))] w17)
 refine zwv (.bool true) ?_
 refine znt ?_
 refine wp_seq ?_
 refine zsr ?_
 refine zwv (.bool true) ?_
 refine zwv (.bool false) ?_
 refine znt ?_
 refine zcf ?_
 refine wp_skip ?_
 refine then_at rfl ?_
 refine zsr ?_
 refine wl_load h18 0 rfl Tryz.underlying51 rfl (info_rl y) ?_
 refine zwv (.bool false) ?_
 refine zwc h18 enter46 (rof_no_root0 y hy hroot w17) ?_
 intro w19 h20
 refine zwv (.agg (rq (mdQ 0 1))) ?_
 refine zwv (.bool false) ?_
 refine wl_fill (c' := rq (mdQ 0 1)) h20 2 rfl (rq_sz (mdQ 0 1) (Q4.mk 0 0 0 0)) (info34q (mdQ 0 1)) (one_rq (mdQ 0 1)) ?_
 intro w21 (h22 : HA w [(q14, 51, rl y), (q4, 5, byC ((bl s).set 31 (UInt8.ofNat ((((bl s).getD 31 0).toNat) &&& 127))) m6), (q1, 53, rq (mdQ 0 1))] w21)
 refine zwv (.bool false) ?_
 refine znt ?_
 refine wp_ret ?_
 repeat first | refine then_ret ?_ | refine block_ret ?_
 have hB : Blk w21 q1 53 (rq (mdQ 0 1)) := h22.get 2 rfl
 exact bodyPost_ret (res34b (p := 2) (r := 3) (mdQ 0 1) (by kernel_rfl) (by kernel_rfl) (by kernel_rfl) hB) rfl ⟨rfl, h22.old⟩
theorem QOf_no_zero (s : ByteArray) (hs : s.size = 32) (y : Nat) (hy : y < P) (hof : ofP (topS s) = some y) (rt : Nat) (hrt : rt < P) (hroot : rootP (bsq y) = some rt) (hbit : numS s / 2 ^ 255 % 2 = 1) (hz : rt = 0) (w : World) :
  Calls Tryz.prog 32 #[.string s] w fun e w' => e = .returned (.tuple #[.agg (rq (mdQ 0 1)), .bool false]) ∧ Below w.heap.size w w' := by
 have hls : ∀ {i : Nat}, i < 32 → i < (bl s).length := fun h => by rw [bl_len, hs]; exact h
 have H0 := HA.start w
 go_enter Tryz.func32, Tryz.ntmps32
 refine zsr ?_
 refine wl_make H0 53 run_alloc34 ?_
 intro q1 w2 h3
 refine zwv (.bool false) ?_
 refine znt ?_
 refine wp_seq ?_
 refine zsr ?_
 refine zwv (.string s) ?_
 refine zwu (run_len (s := s)) ?_
 refine zwu (run_nei (k := .i64) (a := s.size) (b := 32) false (decide_eq_false (not_not_intro hs))) ?_
 refine znt ?_
 refine zcf ?_
 refine wp_skip ?_
 refine then_at rfl ?_
 refine zsr ?_
 refine zwv (.string s) ?_
 refine wl_bytes (s := s) h3 ?_
 intro q4 cp5 m6 w7 h8
 refine zwv (.slice (some ⟨q4, 0, none⟩) s.size cp5) ?_
 refine znt ?_
 refine zsr ?_
 refine zwv (.slice (some ⟨q4, 0, none⟩) s.size cp5) ?_
 refine zwu (run_addr_slice (q := q4) (n := s.size) (m := cp5) (a := 31) Tryz.underlying71 Tryz.sizeOf5 (by omega)) ?_
 refine zwu (run_load1 Tryz.isAgg5 (((h8.get 0 rfl).cell 31).trans (byC_get (bl s) m6 31 (hls (i := 31) (by decide))))) ?_
 refine zwu (run_geq (k := .u8) (a := ((bl s).getD 31 0).toNat) (b := 128) true (decide_eq_true ((bit31 s hs).2 hbit))) ?_
 refine zwv (.bool true) ?_
 refine znt ?_
 refine zsr ?_
 refine zwv (.slice (some ⟨q4, 0, none⟩) s.size cp5) ?_
 refine zwv (.slice (some ⟨q4, 0, none⟩) s.size cp5) ?_
 refine zwu (run_addr_slice (q := q4) (n := s.size) (m := cp5) (a := 31) Tryz.underlying71 Tryz.sizeOf5 (by omega)) ?_
 refine zwu (run_load1 Tryz.isAgg5 (((h8.get 0 rfl).cell 31).trans (byC_get (bl s) m6 31 (hls (i := 31) (by decide))))) ?_
 refine zwu (run_and8 (a := ((bl s).getD 31 0).toNat) (b := 127) (u8_lt _)) ?_
 refine zwu (run_addr_slice (q := q4) (n := s.size) (m := cp5) (a := 31) Tryz.underlying71 Tryz.sizeOf5 (by omega)) ?_
 refine wl_put (k := .u8) (z := (((((bl s).getD 31 0).toNat) &&& 127 : Nat) : Int)) h8 0 rfl 31 (by rw [byC_size]; exact Nat.lt_add_right _ (hls (i := 31) (by decide))) Tryz.sizeOf5 ?_
 intro w9 h10
 have h11 : HA w [(q4, 5, byC ((bl s).set 31 (UInt8.ofNat ((((bl s).getD 31 0).toNat) &&& 127))) m6), (q1, 53, rq (Q4.mk 0 0 0 0))] w9 := (by rw [← byC_put (bl s) m6 31 ((((bl s).getD 31 0).toNat) &&& 127) (hls (i := 31) (by decide)) (Nat.lt_of_le_of_lt Nat.and_le_left (u8_lt _))]; exact h10)
 clear h10
 refine znt ?_
 refine zsr ?_
 refine zwv (.slice (some ⟨q4, 0, none⟩) s.size cp5) ?_
 refine zwu (run_byText (n := s.size) (c := cp5) (m := m6) (l := (bl s).set 31 (UInt8.ofNat ((((bl s).getD 31 0).toNat) &&& 127))) (by simp [bl_len]) (h11.get 0 rfl)) ?_
 refine zwc h11 enter45 (rof_some (ByteArray.mk ((bl s).set 31 (UInt8.ofNat ((((bl s).getD 31 0).toNat) &&& 127))).toArray) hof w9) ?_
 intro w12 h13
 refine zwv (.tuple #[rarr y, .bool true]) ?_
 refine zwv (rarr y) ?_
 refine zwv (.bool true) ?_
 refine wl_make h13 51 run_alloc32 ?_
 intro q14 w15 h16
 refine wl_fill (c' := rl y) h16 0 rfl (rl_sz y 0) (info_rl y) (one_rl y) ?_
 intro w17 (h18 : HA w [(q14, 51, rl y), (q4, 5, byC ((bl s).set 31 (UInt8.ofNat ((((bl s).getD 31 0).toNat) &&& 127))) m6), (q1, 53, rq (Q4.mk 0 0 0 0))] w17)
 refine zwv (.bool true) ?_
 refine znt ?_
 refine wp_seq ?_
 refine zsr ?_
 refine zwv (.bool true) ?_
 refine zwv (.bool false) ?_
 refine znt ?_
 refine zcf ?_
 refine wp_skip ?_
 refine then_at rfl ?_
 refine zsr ?_
 refine wl_load h18 0 rfl Tryz.underlying51 rfl (info_rl y) ?_
 refine zwv (.bool true) ?_
 refine zwc h18 enter46 (rof_no_zero y hy rt hrt hroot hz w17) ?_
 intro w19 h20
 refine zwv (.agg (rq (mdQ 0 1))) ?_
 refine zwv (.bool false) ?_
 refine wl_fill (c' := rq (mdQ 0 1)) h20 2 rfl (rq_sz (mdQ 0 1) (Q4.mk 0 0 0 0)) (info34q (mdQ 0 1)) (one_rq (mdQ 0 1)) ?_
 intro w21 (h22 : HA w [(q14, 51, rl y), (q4, 5, byC ((bl s).set 31 (UInt8.ofNat ((((bl s).getD 31 0).toNat) &&& 127))) m6), (q1, 53, rq (mdQ 0 1))] w21)
 refine zwv (.bool false) ?_
 refine znt ?_
 refine wp_ret ?_
 repeat first | refine then_ret ?_ | refine block_ret ?_
 have hB : Blk w21 q1 53 (rq (mdQ 0 1)) := h22.get 2 rfl
 exact bodyPost_ret (res34b (p := 2) (r := 3) (mdQ 0 1) (by kernel_rfl) (by kernel_rfl) (by kernel_rfl) hB) rfl ⟨rfl, h22.old⟩
theorem QOf_yes_odd (s : ByteArray) (hs : s.size = 32) (y : Nat) (hy : y < P) (hof : ofP (topS s) = some y) (rt : Nat) (hrt : rt < P) (hroot : rootP (bsq y) = some rt) (hbit : numS s / 2 ^ 255 % 2 = 1) (hz : ¬ rt = 0) (w : World) :
  Calls Tryz.prog 32 #[.string s] w fun e w' => e = .returned (.tuple #[.agg (rq (mdQ (negP rt) y)), .bool true]) ∧ Below w.heap.size w w' := by
 have hls : ∀ {i : Nat}, i < 32 → i < (bl s).length := fun h => by rw [bl_len, hs]; exact h
 have H0 := HA.start w
 go_enter Tryz.func32, Tryz.ntmps32
 refine zsr ?_
 refine wl_make H0 53 run_alloc34 ?_
 intro q1 w2 h3
 refine zwv (.bool false) ?_
 refine znt ?_
 refine wp_seq ?_
 refine zsr ?_
 refine zwv (.string s) ?_
 refine zwu (run_len (s := s)) ?_
 refine zwu (run_nei (k := .i64) (a := s.size) (b := 32) false (decide_eq_false (not_not_intro hs))) ?_
 refine znt ?_
 refine zcf ?_
 refine wp_skip ?_
 refine then_at rfl ?_
 refine zsr ?_
 refine zwv (.string s) ?_
 refine wl_bytes (s := s) h3 ?_
 intro q4 cp5 m6 w7 h8
 refine zwv (.slice (some ⟨q4, 0, none⟩) s.size cp5) ?_
 refine znt ?_
 refine zsr ?_
 refine zwv (.slice (some ⟨q4, 0, none⟩) s.size cp5) ?_
 refine zwu (run_addr_slice (q := q4) (n := s.size) (m := cp5) (a := 31) Tryz.underlying71 Tryz.sizeOf5 (by omega)) ?_
 refine zwu (run_load1 Tryz.isAgg5 (((h8.get 0 rfl).cell 31).trans (byC_get (bl s) m6 31 (hls (i := 31) (by decide))))) ?_
 refine zwu (run_geq (k := .u8) (a := ((bl s).getD 31 0).toNat) (b := 128) true (decide_eq_true ((bit31 s hs).2 hbit))) ?_
 refine zwv (.bool true) ?_
 refine znt ?_
 refine zsr ?_
 refine zwv (.slice (some ⟨q4, 0, none⟩) s.size cp5) ?_
 refine zwv (.slice (some ⟨q4, 0, none⟩) s.size cp5) ?_
 refine zwu (run_addr_slice (q := q4) (n := s.size) (m := cp5) (a := 31) Tryz.underlying71 Tryz.sizeOf5 (by omega)) ?_
 refine zwu (run_load1 Tryz.isAgg5 (((h8.get 0 rfl).cell 31).trans (byC_get (bl s) m6 31 (hls (i := 31) (by decide))))) ?_
 refine zwu (run_and8 (a := ((bl s).getD 31 0).toNat) (b := 127) (u8_lt _)) ?_
 refine zwu (run_addr_slice (q := q4) (n := s.size) (m := cp5) (a := 31) Tryz.underlying71 Tryz.sizeOf5 (by omega)) ?_
 refine wl_put (k := .u8) (z := (((((bl s).getD 31 0).toNat) &&& 127 : Nat) : Int)) h8 0 rfl 31 (by rw [byC_size]; exact Nat.lt_add_right _ (hls (i := 31) (by decide))) Tryz.sizeOf5 ?_
 intro w9 h10
 have h11 : HA w [(q4, 5, byC ((bl s).set 31 (UInt8.ofNat ((((bl s).getD 31 0).toNat) &&& 127))) m6), (q1, 53, rq (Q4.mk 0 0 0 0))] w9 := (by rw [← byC_put (bl s) m6 31 ((((bl s).getD 31 0).toNat) &&& 127) (hls (i := 31) (by decide)) (Nat.lt_of_le_of_lt Nat.and_le_left (u8_lt _))]; exact h10)
 clear h10
 refine znt ?_
 refine zsr ?_
 refine zwv (.slice (some ⟨q4, 0, none⟩) s.size cp5) ?_
 refine zwu (run_byText (n := s.size) (c := cp5) (m := m6) (l := (bl s).set 31 (UInt8.ofNat ((((bl s).getD 31 0).toNat) &&& 127))) (by simp [bl_len]) (h11.get 0 rfl)) ?_
 refine zwc h11 enter45 (rof_some (ByteArray.mk ((bl s).set 31 (UInt8.ofNat ((((bl s).getD 31 0).toNat) &&& 127))).toArray) hof w9) ?_
 intro w12 h13
 refine zwv (.tuple #[rarr y, .bool true]) ?_
 refine zwv (rarr y) ?_
 refine zwv (.bool true) ?_
 refine wl_make h13 51 run_alloc32 ?_
 intro q14 w15 h16
 refine wl_fill (c' := rl y) h16 0 rfl (rl_sz y 0) (info_rl y) (one_rl y) ?_
 intro w17 (h18 : HA w [(q14, 51, rl y), (q4, 5, byC ((bl s).set 31 (UInt8.ofNat ((((bl s).getD 31 0).toNat) &&& 127))) m6), (q1, 53, rq (Q4.mk 0 0 0 0))] w17)
 refine zwv (.bool true) ?_
 refine znt ?_
 refine wp_seq ?_
 refine zsr ?_
 refine zwv (.bool true) ?_
 refine zwv (.bool false) ?_
 refine znt ?_
 refine zcf ?_
 refine wp_skip ?_
 refine then_at rfl ?_
 refine zsr ?_
 refine wl_load h18 0 rfl Tryz.underlying51 rfl (info_rl y) ?_
 refine zwv (.bool true) ?_
 refine zwc h18 enter46 (rof_yes_odd y hy rt hrt hroot hz w17) ?_
 intro w19 h20
 refine zwv (.agg (rq (mdQ (negP rt) y))) ?_
 refine zwv (.bool true) ?_
 refine wl_fill (c' := rq (mdQ (negP rt) y)) h20 2 rfl (rq_sz (mdQ (negP rt) y) (Q4.mk 0 0 0 0)) (info34q (mdQ (negP rt) y)) (one_rq (mdQ (negP rt) y)) ?_
 intro w21 (h22 : HA w [(q14, 51, rl y), (q4, 5, byC ((bl s).set 31 (UInt8.ofNat ((((bl s).getD 31 0).toNat) &&& 127))) m6), (q1, 53, rq (mdQ (negP rt) y))] w21)
 refine zwv (.bool true) ?_
 refine znt ?_
 refine wp_ret ?_
 repeat first | refine then_ret ?_ | refine block_ret ?_
 have hB : Blk w21 q1 53 (rq (mdQ (negP rt) y)) := h22.get 2 rfl
 exact bodyPost_ret (res34b (p := 2) (r := 3) (mdQ (negP rt) y) (by kernel_rfl) (by kernel_rfl) (by kernel_rfl) hB) rfl ⟨rfl, h22.old⟩
theorem QOf_yes_even (s : ByteArray) (hs : s.size = 32) (y : Nat) (hy : y < P) (hof : ofP (topS s) = some y) (rt : Nat) (hrt : rt < P) (hroot : rootP (bsq y) = some rt) (hbit : ¬ numS s / 2 ^ 255 % 2 = 1) (w : World) :
  Calls Tryz.prog 32 #[.string s] w fun e w' => e = .returned (.tuple #[.agg (rq (mdQ rt y)), .bool true]) ∧ Below w.heap.size w w' := by
 have hls : ∀ {i : Nat}, i < 32 → i < (bl s).length := fun h => by rw [bl_len, hs]; exact h
 have H0 := HA.start w
 go_enter Tryz.func32, Tryz.ntmps32
 refine zsr ?_
 refine wl_make H0 53 run_alloc34 ?_
 intro q1 w2 h3
 refine zwv (.bool false) ?_
 refine znt ?_
 refine wp_seq ?_
 refine zsr ?_
 refine zwv (.string s) ?_
 refine zwu (run_len (s := s)) ?_
 refine zwu (run_nei (k := .i64) (a := s.size) (b := 32) false (decide_eq_false (not_not_intro hs))) ?_
 refine znt ?_
 refine zcf ?_
 refine wp_skip ?_
 refine then_at rfl ?_
 refine zsr ?_
 refine zwv (.string s) ?_
 refine wl_bytes (s := s) h3 ?_
 intro q4 cp5 m6 w7 h8
 refine zwv (.slice (some ⟨q4, 0, none⟩) s.size cp5) ?_
 refine znt ?_
 refine zsr ?_
 refine zwv (.slice (some ⟨q4, 0, none⟩) s.size cp5) ?_
 refine zwu (run_addr_slice (q := q4) (n := s.size) (m := cp5) (a := 31) Tryz.underlying71 Tryz.sizeOf5 (by omega)) ?_
 refine zwu (run_load1 Tryz.isAgg5 (((h8.get 0 rfl).cell 31).trans (byC_get (bl s) m6 31 (hls (i := 31) (by decide))))) ?_
 refine zwu (run_geq (k := .u8) (a := ((bl s).getD 31 0).toNat) (b := 128) false (decide_eq_false (fun h => hbit ((bit31 s hs).1 h)))) ?_
 refine zwv (.bool false) ?_
 refine znt ?_
 refine zsr ?_
 refine zwv (.slice (some ⟨q4, 0, none⟩) s.size cp5) ?_
 refine zwv (.slice (some ⟨q4, 0, none⟩) s.size cp5) ?_
 refine zwu (run_addr_slice (q := q4) (n := s.size) (m := cp5) (a := 31) Tryz.underlying71 Tryz.sizeOf5 (by omega)) ?_
 refine zwu (run_load1 Tryz.isAgg5 (((h8.get 0 rfl).cell 31).trans (byC_get (bl s) m6 31 (hls (i := 31) (by decide))))) ?_
 refine zwu (run_and8 (a := ((bl s).getD 31 0).toNat) (b := 127) (u8_lt _)) ?_
 refine zwu (run_addr_slice (q := q4) (n := s.size) (m := cp5) (a := 31) Tryz.underlying71 Tryz.sizeOf5 (by omega)) ?_
 refine wl_put (k := .u8) (z := (((((bl s).getD 31 0).toNat) &&& 127 : Nat) : Int)) h8 0 rfl 31 (by rw [byC_size]; exact Nat.lt_add_right _ (hls (i := 31) (by decide))) Tryz.sizeOf5 ?_
 intro w9 h10
 have h11 : HA w [(q4, 5, byC ((bl s).set 31 (UInt8.ofNat ((((bl s).getD 31 0).toNat) &&& 127))) m6), (q1, 53, rq (Q4.mk 0 0 0 0))] w9 := (by rw [← byC_put (bl s) m6 31 ((((bl s).getD 31 0).toNat) &&& 127) (hls (i := 31) (by decide)) (Nat.lt_of_le_of_lt Nat.and_le_left (u8_lt _))]; exact h10)
 clear h10
 refine znt ?_
 refine zsr ?_
 refine zwv (.slice (some ⟨q4, 0, none⟩) s.size cp5) ?_
 refine zwu (run_byText (n := s.size) (c := cp5) (m := m6) (l := (bl s).set 31 (UInt8.ofNat ((((bl s).getD 31 0).toNat) &&& 127))) (by simp [bl_len]) (h11.get 0 rfl)) ?_
 refine zwc h11 enter45 (rof_some (ByteArray.mk ((bl s).set 31 (UInt8.ofNat ((((bl s).getD 31 0).toNat) &&& 127))).toArray) hof w9) ?_
 intro w12 h13
 refine zwv (.tuple #[rarr y, .bool true]) ?_
 refine zwv (rarr y) ?_
 refine zwv (.bool true) ?_
 refine wl_make h13 51 run_alloc32 ?_
 intro q14 w15 h16
 refine wl_fill (c' := rl y) h16 0 rfl (rl_sz y 0) (info_rl y) (one_rl y) ?_
 intro w17 (h18 : HA w [(q14, 51, rl y), (q4, 5, byC ((bl s).set 31 (UInt8.ofNat ((((bl s).getD 31 0).toNat) &&& 127))) m6), (q1, 53, rq (Q4.mk 0 0 0 0))] w17)
 refine zwv (.bool true) ?_
 refine znt ?_
 refine wp_seq ?_
 refine zsr ?_
 refine zwv (.bool true) ?_
 refine zwv (.bool false) ?_
 refine znt ?_
 refine zcf ?_
 refine wp_skip ?_
 refine then_at rfl ?_
 refine zsr ?_
 refine wl_load h18 0 rfl Tryz.underlying51 rfl (info_rl y) ?_
 refine zwv (.bool false) ?_
 refine zwc h18 enter46 (rof_yes_even y hy rt hrt hroot w17) ?_
 intro w19 h20
 refine zwv (.agg (rq (mdQ rt y))) ?_
 refine zwv (.bool true) ?_
 refine wl_fill (c' := rq (mdQ rt y)) h20 2 rfl (rq_sz (mdQ rt y) (Q4.mk 0 0 0 0)) (info34q (mdQ rt y)) (one_rq (mdQ rt y)) ?_
 intro w21 (h22 : HA w [(q14, 51, rl y), (q4, 5, byC ((bl s).set 31 (UInt8.ofNat ((((bl s).getD 31 0).toNat) &&& 127))) m6), (q1, 53, rq (mdQ rt y))] w21)
 refine zwv (.bool true) ?_
 refine znt ?_
 refine wp_ret ?_
 repeat first | refine then_ret ?_ | refine block_ret ?_
 have hB : Blk w21 q1 53 (rq (mdQ rt y)) := h22.get 2 rfl
 exact bodyPost_ret (res34b (p := 2) (r := 3) (mdQ rt y) (by kernel_rfl) (by kernel_rfl) (by kernel_rfl) hB) rfl ⟨rfl, h22.old⟩
end Go.Proofs.YtefjnfeckenmkaaGreatDoor
