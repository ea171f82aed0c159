/-
 the reference's points out of bytes, and their bytes.
-/
import Derived.Test.YtefjnfeckenmkaaGreatDoorV2
namespace Go.Proofs.YtefjnfeckenmkaaGreatDoor
set_option linter.unusedVariables false
set_option maxRecDepth 100000
set_option maxHeartbeats 2000000
open Go.RowKit Num
theorem res34 {fn : Func} {p : Tmp} {ts : Array Value} {q : Nat} {w : World} (Q : Q4) (hf : fn.results = #[.cell p 53]) (ht : ts.getD p undef = .pointer (some ⟨q, 0, none⟩)) (h : Blk w q 53 (rq Q)) : (results fn ts).run Tryz.prog w = .ok (.agg (rq Q)) w := res_cell hf ht h Tryz.underlying53 rfl (info34q Q)
theorem res34b {fn : Func} {p r : Tmp} {ts : Array Value} {q : Nat} {v : Value} {w : World} (Q : Q4) (hf : fn.results = #[.cell p 53, .tmp r]) (ht : ts.getD p undef = .pointer (some ⟨q, 0, none⟩)) (hv : ts.getD r undef = v) (h : Blk w q 53 (rq Q)) : (results fn ts).run Tryz.prog w = .ok (.tuple #[.agg (rq Q), v]) w := res_cell_tmp hf ht hv h Tryz.underlying53 rfl (info34q Q)
theorem dN_eq : mulP (negP 121665) (invE 121666) = dN := by rw [invE_pm]; decide +kernel
def mdQ (x y : Nat) : Q4 := ⟨x, y, 1, mulP x y⟩
theorem mdQ_lt {x y : Nat} (hx : x < P) (hy : y < P) : (mdQ x y).lt := ⟨hx, hy, show 1 < P by decide, mulP_lt _ _⟩
def rsq (y : Nat) : Nat := mulP (subP (mulP y y) 1) (invE (addP (mulP dN (mulP y y)) 1))
theorem rsq_is (y : Nat) : rsq y = bsq y := by
 apply toF_inj (mulP_lt _ _) (bsq_lt _)
 have h := bsq_F y
 have e : toF (addP (mulP dN (mulP y y)) 1) = 1 + dE * toF y * toF y := by
  rw [toF_add, toF_mul, toF_mul, toF_one]
  show dE * (toF y * toF y) + 1 = _
  grobner
 have hm := mul_inv (dy_ne (toF y))
 show toF (mulP (subP (mulP y y) 1) (invE (addP (mulP dN (mulP y y)) 1))) = _
 rw [toF_mul, toF_sub _ _ (by decide), toF_mul, toF_inv _ (addP_lt _ _), e, toF_one]
 generalize inv (1 + dE * toF y * toF y) = v at *
 grobner
theorem D_any (w : World) :
  Calls Tryz.prog 75 #[] w fun e w' => e = .returned (rarr dN) ∧ Below w.heap.size w w' := by
 have H0 := HA.start w
 go_enter Tryz.func75, Tryz.ntmps75
 refine zsr ?_
 refine wl_make H0 51 run_alloc32 ?_
 intro q1 w2 h3
 refine znt ?_
 refine zsr ?_
 refine zwc h3 enter67 (wsmall_any 121665 (by decide) w2) ?_
 intro w4 h5
 refine zwc h5 enter60 (rneg_any 121665 (by decide) w4) ?_
 intro w6 h7
 refine zwc h7 enter67 (wsmall_any 121666 (by decide) w6) ?_
 intro w8 h9
 refine zwc (v := rarr (mulP (negP 121665) (invE 121666))) (args := #[rarr (negP 121665), rarr 121666]) h9 enter70 (wover_any (negP 121665) 121666 (negP_lt _) (by decide) w8) ?_
 intro w10 h11
 refine wl_fill (c' := rl (mulP (negP 121665) (invE 121666))) h11 0 rfl (rl_sz (mulP (negP 121665) (invE 121666)) 0) (info_rl (mulP (negP 121665) (invE 121666))) (one_rl (mulP (negP 121665) (invE 121666))) ?_
 intro w12 (h13 : HA w [(q1, 51, rl (mulP (negP 121665) (invE 121666)))] w12)
 refine znt ?_
 refine wp_ret ?_
 repeat first | refine then_ret ?_ | refine block_ret ?_
 exact bodyPost_ret (v := rarr (mulP (negP 121665) (invE 121666))) (res_cell (p := 0) (by kernel_rfl) (by kernel_rfl) (h13.get 0 rfl) Tryz.underlying51 rfl (info_rl _)) rfl ⟨by rw [dN_eq], h13.old⟩
theorem made_any (a b : Nat) (ha : a < P) (hb : b < P) (w : World) :
  Calls Tryz.prog 105 #[rarr a, rarr b] w fun e w' => e = .returned (.agg (rq (mdQ a b))) ∧ Below w.heap.size w w' := by
 have H0 := HA.start w
 go_enter Tryz.func105, Tryz.ntmps105
 refine zsr ?_
 refine wl_make H0 51 (run_box32 (c := rl a)) ?_
 intro q1 w2 h3
 refine wl_make h3 51 (run_box32 (c := rl b)) ?_
 intro q4 w5 h6
 refine wl_make h6 53 run_alloc34 ?_
 intro q7 w8 h9
 refine znt ?_
 refine wp_seq ?_
 obtain ⟨C10, hC10⟩ : ∃ C, C = rq (Q4.mk a b 1 (mulP a b)) := ⟨_, rfl⟩
 refine zrg (fun _ : Nat → Nat => (⟨(rarr a :: rarr b :: pt q1 :: pt q4 :: pt q7 :: rarr a :: rarr b :: rarr 1 :: rarr a :: rarr b :: rarr (mulP a b) :: .agg C10 :: List.replicate 0 un).toArray, []⟩ : Act)) (GF w [(q7, 53, rq (Q4.mk 0 0 0 0)), (q4, 51, rl b), (q1, 51, rl a)] 7 6 0 q7 53 (C10)) (fun d hd => GF.start h9.drew (hd 7 (by decide))) ?_ ?_
 ·refine zg (gf_load2 2 rfl Tryz.underlying51 rfl (info_rl a)) ?_
  refine zg (gf_load2 1 rfl Tryz.underlying51 rfl (info_rl b)) ?_
  refine zg (gf_callh (v := rarr 1) enter67 #[iN .u32 1] (fun w' ho => wsmall_any 1 (by decide) w')) ?_
  refine zg (gf_load2 2 rfl Tryz.underlying51 rfl (info_rl a)) ?_
  refine zg (gf_load2 1 rfl Tryz.underlying51 rfl (info_rl b)) ?_
  refine zg (gf_callh (v := rarr (mulP a b)) enter52 #[rarr a, rarr b] (fun w' ho => wmul_any a b ha hb w')) ?_
  refine zg (gf_plain (v := .agg C10) (hr := (fun _ _ => (by rw [hC10]; exact (run_build34 (a := a) (b := b) (c := 1) (d := mulP a b) (by kernel_rfl) (by kernel_rfl) (by kernel_rfl) (by kernel_rfl)))))) ?_
  refine zg (gf_fill rfl (by rw [hC10]; exact (rq_sz (Q4.mk a b 1 (mulP a b)) (Q4.mk 0 0 0 0))) (by rw [hC10]; exact (info34q (Q4.mk a b 1 (mulP a b)))) (by rw [hC10]; exact (one_rq (Q4.mk a b 1 (mulP a b))))) ?_
  exact AllGhost.nil
 intro _ w11 g12
 have h13 : HA w [(q7, 53, C10), (q4, 51, rl b), (q1, 51, rl a)] w11 := g12.held
 clear g12
 subst hC10
 refine then_at rfl ?_
 refine wp_ret ?_
 repeat first | refine then_ret ?_ | refine block_ret ?_
 have hB : Blk w11 q7 53 (rq (Q4.mk a b 1 (mulP a b))) := h13.get 0 rfl
 exact bodyPost_ret (v := .agg (rq (Q4.mk a b 1 (mulP a b)))) (res34 (p := 4) (Q4.mk a b 1 (mulP a b)) (by kernel_rfl) (by kernel_rfl) hB) rfl ⟨by rw [show mdQ a b = Q4.mk a b 1 (mulP a b) from rfl], h13.old⟩
theorem rNone_any (w : World) :
  Calls Tryz.prog 72 #[] w fun e w' => e = .returned (.agg (rq (mdQ 0 1))) ∧ Below w.heap.size w w' := by
 have H0 := HA.start w
 go_enter Tryz.func72, Tryz.ntmps72
 refine zsr ?_
 refine wl_make H0 53 run_alloc34 ?_
 intro q1 w2 h3
 refine znt ?_
 refine zsr ?_
 refine zwc h3 enter67 (wsmall_any 0 (by decide) w2) ?_
 intro w4 h5
 refine zwc h5 enter67 (wsmall_any 1 (by decide) w4) ?_
 intro w6 h7
 refine zwc h7 enter83 (made_any 0 1 (by decide) (by decide) w6) ?_
 intro w8 h9
 refine wl_fill (c' := rq (mdQ 0 1)) h9 0 rfl (rq_sz (mdQ 0 1) (Q4.mk 0 0 0 0)) (info34q (mdQ 0 1)) (one_rq (mdQ 0 1)) ?_
 intro w10 (h11 : HA w [(q1, 53, rq (mdQ 0 1))] w10)
 refine znt ?_
 refine wp_ret ?_
 repeat first | refine then_ret ?_ | refine block_ret ?_
 have hB : Blk w10 q1 53 (rq (mdQ 0 1)) := h11.get 0 rfl
 exact bodyPost_ret (res34 (p := 0) (mdQ 0 1) (by kernel_rfl) (by kernel_rfl) hB) rfl ⟨rfl, h11.old⟩
theorem rof_yes_even (y : Nat) (hy : y < P) (rt : Nat) (hrt : rt < P) (hroot : rootP (bsq y) = some rt) (w : World) :
  Calls Tryz.prog 74 #[rarr y, .bool false] w fun e w' => e = .returned (.tuple #[.agg (rq (mdQ rt y)), .bool true]) ∧ Below w.heap.size w w' := by
 have H0 := HA.start w
 go_enter Tryz.func74, Tryz.ntmps74
 refine zsr ?_
 refine wl_make H0 51 (run_box32 (c := rl y)) ?_
 intro q1 w2 h3
 refine wl_make h3 53 run_alloc34 ?_
 intro q4 w5 h6
 refine zwv (.bool false) ?_
 refine znt ?_
 refine zsr ?_
 refine wl_load h6 1 rfl Tryz.underlying51 rfl (info_rl y) ?_
 refine wl_load h6 1 rfl Tryz.underlying51 rfl (info_rl y) ?_
 refine zwc h6 enter52 (wmul_any y y hy hy w5) ?_
 intro w7 h8
 refine wl_make h8 51 run_alloc32 ?_
 intro q9 w10 h11
 refine wl_fill (c' := rl (mulP y y)) h11 0 rfl (rl_sz (mulP y y) 0) (info_rl (mulP y y)) (one_rl (mulP y y)) ?_
 intro w12 (h13 : HA w [(q9, 51, rl (mulP y y)), (q4, 53, rq (Q4.mk 0 0 0 0)), (q1, 51, rl y)] w12)
 refine znt ?_
 refine wp_seq ?_
 obtain ⟨B14, eB14⟩ : ∃ B, B = w12.heap.size := ⟨_, rfl⟩
 refine zrg (fun g : Nat → Nat => (⟨(rarr y :: .bool false :: pt q1 :: un :: pt q4 :: .bool false :: pt q9 :: pt (g 13) :: .bool true :: rarr y :: rarr y :: rarr (mulP y y) :: .tuple #[rarr rt, .bool true] :: rarr (mulP y y) :: rarr 1 :: rarr (subP (mulP y y) 1) :: rarr dN :: rarr (mulP y y) :: rarr (mulP dN (mulP y y)) :: rarr 1 :: rarr (addP (mulP dN (mulP y y)) 1) :: rarr (mulP (subP (mulP y y) 1) (invE (addP (mulP dN (mulP y y)) 1))) :: .tuple #[rarr rt, .bool true] :: rarr rt :: .bool true :: List.replicate 17 un).toArray, []⟩ : Act)) (GS w [(q9, 51, rl (mulP y y)), (q4, 53, rq (Q4.mk 0 0 0 0)), (q1, 51, rl y)] B14 1 13 14 51 (rl 0) (fun _ => rl rt)) (fun d hd => GS.start h13.drew eB14 (by decide) (fun _ _ => (rl_sz _ _)) (fun j hj => hd j (Nat.lt_of_lt_of_le hj (by decide)))) ?_ ?_
 ·refine zg (ghost_load 0 rfl Tryz.underlying51 rfl (info_rl (mulP y y))) ?_
  refine zg (ghost_call (v := rarr 1) enter67 #[iN .u32 1] (fun w' h' => wsmall_any 1 (by decide) w')) ?_
  refine zg (ghost_call (v := rarr (subP (mulP y y) 1)) enter69 #[rarr (mulP y y), rarr 1] (fun w' h' => wsub_any (mulP y y) 1 (mulP_lt _ _) (by decide) w')) ?_
  refine zg (ghost_call (v := rarr dN) enter59 #[] (fun w' h' => D_any w')) ?_
  refine zg (ghost_load 0 rfl Tryz.underlying51 rfl (info_rl (mulP y y))) ?_
  refine zg (ghost_call (v := rarr (mulP dN (mulP y y))) enter52 #[rarr dN, rarr (mulP y y)] (fun w' h' => wmul_any dN (mulP y y) dN_lt (mulP_lt _ _) w')) ?_
  refine zg (ghost_call (v := rarr 1) enter67 #[iN .u32 1] (fun w' h' => wsmall_any 1 (by decide) w')) ?_
  refine zg (ghost_call (v := rarr (addP (mulP dN (mulP y y)) 1)) enter68 #[rarr (mulP dN (mulP y y)), rarr 1] (fun w' h' => wadd_any (mulP dN (mulP y y)) 1 (mulP_lt _ _) (by decide) w')) ?_
  refine zg (ghost_call (v := rarr (mulP (subP (mulP y y) 1) (invE (addP (mulP dN (mulP y y)) 1)))) enter70 #[rarr (subP (mulP y y) 1), rarr (addP (mulP dN (mulP y y)) 1)] (fun w' h' => wover_any (subP (mulP y y) 1) (addP (mulP dN (mulP y y)) 1) (subP_lt _ _) (addP_lt _ _) w')) ?_
  refine zg (ghost_call (v := .tuple #[rarr rt, .bool true]) enter86 #[rarr (mulP (subP (mulP y y) 1) (invE (addP (mulP dN (mulP y y)) 1)))] (fun w' h' => rroot_yes (mulP (subP (mulP y y) 1) (invE (addP (mulP dN (mulP y y)) 1))) rt (mulP_lt _ _) (by rw [show mulP (subP (mulP y y) 1) (invE (addP (mulP dN (mulP y y)) 1)) = bsq y from rsq_is y]; exact hroot) w')) ?_
  refine zg (ghost_plain (v := .tuple #[rarr rt, .bool true])) ?_
  refine zg (ghost_plain (v := rarr rt)) ?_
  refine zg (ghost_plain (v := .bool true)) ?_
  refine zg (ghost_make 0 rfl (fun _ _ => run_alloc32)) ?_
  refine zg (ghost_fill 0 rfl (info_rl rt) (one_rl rt)) ?_
  refine zg (ghost_plain (v := .bool true)) ?_
  exact AllGhost.nil
 intro g w15 g16
 have h17 : HA w [(g 13, 51, rl rt), (q9, 51, rl (mulP y y)), (q4, 53, rq (Q4.mk 0 0 0 0)), (q1, 51, rl y)] w15 := g16.one
 clear g16 eB14
 generalize g 13 = q18 at h17 ⊢
 clear g
 refine then_at rfl ?_
 refine wp_seq ?_
 refine wp_seq ?_
 refine zrs ⟨(rarr y :: .bool false :: pt q1 :: un :: pt q4 :: .bool false :: pt q9 :: pt q18 :: .bool true :: rarr y :: rarr y :: rarr (mulP y y) :: .tuple #[rarr rt, .bool true] :: rarr (mulP y y) :: rarr 1 :: rarr (subP (mulP y y) 1) :: rarr dN :: rarr (mulP y y) :: rarr (mulP dN (mulP y y)) :: rarr 1 :: rarr (addP (mulP dN (mulP y y)) 1) :: rarr (mulP (subP (mulP y y) 1) (invE (addP (mulP dN (mulP y y)) 1))) :: .tuple #[rarr rt, .bool true] :: rarr rt :: .bool true :: .bool true :: .bool false :: .bool false :: .bool false :: .bool false :: un :: un :: un :: .bool false :: .bool false :: List.replicate 7 un).toArray, []⟩ (HA w [(q18, 51, rl rt), (q9, 51, rl (mulP y y)), (q4, 53, rq (Q4.mk 0 0 0 0)), (q1, 51, rl y)]) h17.drew ?_ ?_
 ·refine zsp (.bool true) ?_
  refine zsp (.bool false) ?_
  refine zsp (.bool false) ?_
  refine zsp (.bool false) ?_
  refine zsp (.bool false) ?_
  refine zsk ?_
  refine zsk ?_
  refine zsk ?_
  refine zsp (.bool false) ?_
  refine zsp (.bool false) ?_
  exact AllSure.nil
 intro w19 h20
 refine then_at rfl ?_
 refine zcf ?_
 refine wp_skip ?_
 refine then_at rfl ?_
 refine wp_seq ?_
 refine zsr ?_
 refine zwv (.bool false) ?_
 refine znt ?_
 refine zcf ?_
 refine wp_skip ?_
 refine then_at rfl ?_
 refine zsr ?_
 refine wl_load h20 0 rfl Tryz.underlying51 rfl (info_rl rt) ?_
 refine wl_load h20 3 rfl Tryz.underlying51 rfl (info_rl y) ?_
 refine zwc h20 enter83 (made_any rt y hrt hy w19) ?_
 intro w21 h22
 refine wl_fill (c' := rq (mdQ rt y)) h22 2 rfl (rq_sz (mdQ rt y) (Q4.mk 0 0 0 0)) (info34q (mdQ rt y)) (one_rq (mdQ rt y)) ?_
 intro w23 (h24 : HA w [(q18, 51, rl rt), (q9, 51, rl (mulP y y)), (q4, 53, rq (mdQ rt y)), (q1, 51, rl y)] w23)
 refine zwv (.bool true) ?_
 refine znt ?_
 refine wp_ret ?_
 repeat first | refine then_ret ?_ | refine block_ret ?_
 have hB : Blk w23 q4 53 (rq (mdQ rt y)) := h24.get 2 rfl
 exact bodyPost_ret (res34b (p := 4) (r := 5) (mdQ rt y) (by kernel_rfl) (by kernel_rfl) (by kernel_rfl) hB) rfl ⟨rfl, h24.old⟩
theorem QBytes_odd (q : Q4) (hq : q.lt) (hodd : mulP q.X (invE q.Z) % 2 = 1) (w : World) :
  Calls Tryz.prog 40 #[.agg (rq q)] w fun e w' => e = .returned (.string (oddS (mulP q.Y (invE q.Z)))) ∧ Below w.heap.size w w' := by
 have hls : ∀ {i : Nat}, i < 32 → i < (bl (bytesOf (mulP q.Y (invE q.Z)))).length := fun h => by rw [bl_len, bytesOf_size]; exact h
 have H0 := HA.start w
 go_enter Tryz.func40, Tryz.ntmps40
 refine zsr ?_
 refine wl_make H0 53 (run_box34 (c := rq q)) ?_
 intro q1 w2 h3
 refine zwv (.string { data := #[] }) ?_
 refine znt ?_
 refine zsr ?_
 refine zwv (.pointer (some ⟨q1, 32, none⟩)) ?_
 refine zwu (run_part32 (q := q1) (off := 16 * 2) (n := q.Z) (h3.get 0 rfl) (rq_get q).2.2.1) ?_
 refine zwc h3 enter50 (rinv_any q.Z hq.2.2.1 w2) ?_
 intro w4 h5
 refine wl_make h5 51 run_alloc32 ?_
 intro q6 w7 h8
 refine wl_fill (c' := rl (invE q.Z)) h8 0 rfl (rl_sz (invE q.Z) 0) (info_rl (invE q.Z)) (one_rl (invE q.Z)) ?_
 intro w9 (h10 : HA w [(q6, 51, rl (invE q.Z)), (q1, 53, rq q)] w9)
 refine znt ?_
 refine zsr ?_
 refine zwv (.pointer (some ⟨q1, 16, none⟩)) ?_
 refine zwu (run_part32 (q := q1) (off := 16 * 1) (n := q.Y) (h10.get 1 rfl) (rq_get q).2.1) ?_
 refine wl_load h10 0 rfl Tryz.underlying51 rfl (info_rl (invE q.Z)) ?_
 refine zwc (v := rarr (mulP q.Y (invE q.Z))) (args := #[rarr q.Y, rarr (invE q.Z)]) h10 enter52 (wmul_any q.Y (invE q.Z) hq.2.1 (invE_lt _) w9) ?_
 intro w11 h12
 refine zwc h12 enter51 (rbytes_any (mulP q.Y (invE q.Z)) w11) ?_
 intro w13 h14
 refine wl_bytes (s := (bytesOf (mulP q.Y (invE q.Z)))) h14 ?_
 intro q15 cp16 m17 w18 h19
 refine zwv (.slice (some ⟨q15, 0, none⟩) (bytesOf (mulP q.Y (invE q.Z))).size cp16) ?_
 refine znt ?_
 refine wp_seq ?_
 refine zsr ?_
 refine zwv (.pointer (some ⟨q1, 0, none⟩)) ?_
 refine zwu (run_part32 (q := q1) (off := 16 * 0) (n := q.X) (h19.get 2 rfl) (rq_get q).1) ?_
 refine wl_load h19 1 rfl Tryz.underlying51 rfl (info_rl (invE q.Z)) ?_
 refine zwc (v := rarr (mulP q.X (invE q.Z))) (args := #[rarr q.X, rarr (invE q.Z)]) h19 enter52 (wmul_any q.X (invE q.Z) hq.1 (invE_lt _) w18) ?_
 intro w20 h21
 refine zwc h21 enter53 (rodd_yes (mulP q.X (invE q.Z)) hodd w20) ?_
 intro w22 h23
 refine znt ?_
 refine zct ?_
 refine wl_region ?_
 refine zwv (.slice (some ⟨q15, 0, none⟩) (bytesOf (mulP q.Y (invE q.Z))).size cp16) ?_
 refine zwv (.slice (some ⟨q15, 0, none⟩) (bytesOf (mulP q.Y (invE q.Z))).size cp16) ?_
 refine zwu (run_addr_slice (q := q15) (n := (bytesOf (mulP q.Y (invE q.Z))).size) (m := cp16) (a := 31) Tryz.underlying71 Tryz.sizeOf5 (by rw [bytesOf_size]; decide)) ?_
 refine zwu (run_load1 Tryz.isAgg5 (((h23.get 0 rfl).cell 31).trans (byC_get (bl ((bytesOf (mulP q.Y (invE q.Z))))) m17 31 (hls (i := 31) (by decide))))) ?_
 refine zwu (run_or8 (a := ((bl ((bytesOf (mulP q.Y (invE q.Z))))).getD 31 0).toNat) (b := 128) (u8_lt _)) ?_
 refine zwu (run_addr_slice (q := q15) (n := (bytesOf (mulP q.Y (invE q.Z))).size) (m := cp16) (a := 31) Tryz.underlying71 Tryz.sizeOf5 (by rw [bytesOf_size]; decide)) ?_
 refine wl_put (k := .u8) (z := (((((bl ((bytesOf (mulP q.Y (invE q.Z))))).getD 31 0).toNat) ||| 128 : Nat) : Int)) h23 0 rfl 31 (by rw [byC_size]; exact Nat.lt_add_right _ (hls (i := 31) (by decide))) Tryz.sizeOf5 ?_
 intro w24 h25
 have h26 : HA w [(q15, 5, byC ((bl ((bytesOf (mulP q.Y (invE q.Z))))).set 31 (UInt8.ofNat ((((bl ((bytesOf (mulP q.Y (invE q.Z))))).getD 31 0).toNat) ||| 128))) m17), (q6, 51, rl (invE q.Z)), (q1, 53, rq q)] w24 := (by rw [← byC_put (bl ((bytesOf (mulP q.Y (invE q.Z))))) m17 31 ((((bl ((bytesOf (mulP q.Y (invE q.Z))))).getD 31 0).toNat) ||| 128) (hls (i := 31) (by decide)) (or128_lt _)]; exact h25)
 clear h25
 refine zna ⟨(.agg (rq q) :: pt q1 :: .string { data := #[] } :: pt q6 :: .slice (some ⟨q15, 0, none⟩) (bytesOf (mulP q.Y (invE q.Z))).size cp16 :: .pointer (some ⟨q1, 32, none⟩) :: rarr q.Z :: rarr (invE q.Z) :: .pointer (some ⟨q1, 16, none⟩) :: rarr q.Y :: rarr (invE q.Z) :: rarr (mulP q.Y (invE q.Z)) :: .string (bytesOf (mulP q.Y (invE q.Z))) :: .slice (some ⟨q15, 0, none⟩) (bytesOf (mulP q.Y (invE q.Z))).size cp16 :: pt q1 :: rarr q.X :: rarr (invE q.Z) :: rarr (mulP q.X (invE q.Z)) :: .bool true :: .slice (some ⟨q15, 0, none⟩) (bytesOf (mulP q.Y (invE q.Z))).size cp16 :: .slice (some ⟨q15, 0, none⟩) (bytesOf (mulP q.Y (invE q.Z))).size cp16 :: .pointer (some ⟨q15, 31, none⟩) :: iN .u8 (((bl ((bytesOf (mulP q.Y (invE q.Z))))).getD 31 0).toNat) :: iN .u8 ((((bl ((bytesOf (mulP q.Y (invE q.Z))))).getD 31 0).toNat) ||| 128) :: .pointer (some ⟨q15, 31, none⟩) :: List.replicate 2 un).toArray, []⟩ ?_
 refine zsr ?_
 refine zwv (.slice (some ⟨q15, 0, none⟩) (bytesOf (mulP q.Y (invE q.Z))).size cp16) ?_
 refine zwu (run_byText (n := (bytesOf (mulP q.Y (invE q.Z))).size) (c := cp16) (m := m17) (l := (bl ((bytesOf (mulP q.Y (invE q.Z))))).set 31 (UInt8.ofNat ((((bl ((bytesOf (mulP q.Y (invE q.Z))))).getD 31 0).toNat) ||| 128))) (by simp [bl_len]) (h26.get 0 rfl)) ?_
 refine zwv (.string ⟨((bl ((bytesOf (mulP q.Y (invE q.Z))))).set 31 (UInt8.ofNat ((((bl ((bytesOf (mulP q.Y (invE q.Z))))).getD 31 0).toNat) ||| 128))).toArray⟩) ?_
 refine znt ?_
 refine wp_ret ?_
 repeat first | refine then_ret ?_ | refine block_ret ?_
 exact bodyPost_ret (by kernel_rfl) rfl ⟨rfl, h26.old⟩
theorem QBytes_even (q : Q4) (hq : q.lt) (hodd : mulP q.X (invE q.Z) % 2 = 0) (w : World) :
  Calls Tryz.prog 40 #[.agg (rq q)] w fun e w' => e = .returned (.string (bytesOf (mulP q.Y (invE q.Z)))) ∧ Below w.heap.size w w' := by
 have hls : ∀ {i : Nat}, i < 32 → i < (bl (bytesOf (mulP q.Y (invE q.Z)))).length := fun h => by rw [bl_len, bytesOf_size]; exact h
 have H0 := HA.start w
 go_enter Tryz.func40, Tryz.ntmps40
 refine zsr ?_
 refine wl_make H0 53 (run_box34 (c := rq q)) ?_
 intro q1 w2 h3
 refine zwv (.string { data := #[] }) ?_
 refine znt ?_
 refine zsr ?_
 refine zwv (.pointer (some ⟨q1, 32, none⟩)) ?_
 refine zwu (run_part32 (q := q1) (off := 16 * 2) (n := q.Z) (h3.get 0 rfl) (rq_get q).2.2.1) ?_
 refine zwc h3 enter50 (rinv_any q.Z hq.2.2.1 w2) ?_
 intro w4 h5
 refine wl_make h5 51 run_alloc32 ?_
 intro q6 w7 h8
 refine wl_fill (c' := rl (invE q.Z)) h8 0 rfl (rl_sz (invE q.Z) 0) (info_rl (invE q.Z)) (one_rl (invE q.Z)) ?_
 intro w9 (h10 : HA w [(q6, 51, rl (invE q.Z)), (q1, 53, rq q)] w9)
 refine znt ?_
 refine zsr ?_
 refine zwv (.pointer (some ⟨q1, 16, none⟩)) ?_
 refine zwu (run_part32 (q := q1) (off := 16 * 1) (n := q.Y) (h10.get 1 rfl) (rq_get q).2.1) ?_
 refine wl_load h10 0 rfl Tryz.underlying51 rfl (info_rl (invE q.Z)) ?_
 refine zwc (v := rarr (mulP q.Y (invE q.Z))) (args := #[rarr q.Y, rarr (invE q.Z)]) h10 enter52 (wmul_any q.Y (invE q.Z) hq.2.1 (invE_lt _) w9) ?_
 intro w11 h12
 refine zwc h12 enter51 (rbytes_any (mulP q.Y (invE q.Z)) w11) ?_
 intro w13 h14
 refine wl_bytes (s := (bytesOf (mulP q.Y (invE q.Z)))) h14 ?_
 intro q15 cp16 m17 w18 h19
 refine zwv (.slice (some ⟨q15, 0, none⟩) (bytesOf (mulP q.Y (invE q.Z))).size cp16) ?_
 refine znt ?_
 refine wp_seq ?_
 refine zsr ?_
 refine zwv (.pointer (some ⟨q1, 0, none⟩)) ?_
 refine zwu (run_part32 (q := q1) (off := 16 * 0) (n := q.X) (h19.get 2 rfl) (rq_get q).1) ?_
 refine wl_load h19 1 rfl Tryz.underlying51 rfl (info_rl (invE q.Z)) ?_
 refine zwc (v := rarr (mulP q.X (invE q.Z))) (args := #[rarr q.X, rarr (invE q.Z)]) h19 enter52 (wmul_any q.X (invE q.Z) hq.1 (invE_lt _) w18) ?_
 intro w20 h21
 refine zwc h21 enter53 (rodd_no (mulP q.X (invE q.Z)) hodd w20) ?_
 intro w22 h23
 refine znt ?_
 refine zcf ?_
 refine wp_skip ?_
 refine then_at rfl ?_
 refine zsr ?_
 refine zwv (.slice (some ⟨q15, 0, none⟩) (bytesOf (mulP q.Y (invE q.Z))).size cp16) ?_
 refine zwu (run_byText (n := (bytesOf (mulP q.Y (invE q.Z))).size) (c := cp16) (m := m17) (l := bl ((bytesOf (mulP q.Y (invE q.Z))))) (by simp [bl_len]) (h23.get 0 rfl)) ?_
 refine zwv (.string ⟨(bl ((bytesOf (mulP q.Y (invE q.Z))))).toArray⟩) ?_
 refine znt ?_
 refine wp_ret ?_
 repeat first | refine then_ret ?_ | refine block_ret ?_
 exact bodyPost_ret (by kernel_rfl) rfl ⟨rfl, h23.old⟩
end Go.Proofs.YtefjnfeckenmkaaGreatDoor
