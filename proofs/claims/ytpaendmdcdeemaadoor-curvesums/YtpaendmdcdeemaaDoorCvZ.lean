/-
  The reference's points: four numbers of sixteen digits.
-/
import Derived.Test.YtpaendmdcdeemaaDoorCvX
namespace Go.Proofs.YtpaendmdcdeemaaDoor
open Go.RowKit Num

def rq (q : Q4) : Array Value := rl q.X ++ rl q.Y ++ rl q.Z ++ rl q.T
theorem rq_size (q : Q4) : (rq q).size = 64 := by unfold rq; rw [Array.size_append, Array.size_append, Array.size_append, rl_size, rl_size, rl_size, rl_size]
theorem rq_sz (q r : Q4) : (rq q).size = (rq r).size := by rw [rq_size, rq_size]
theorem one_rq (q : Q4) : (rq q).all (·.oneCell') = true := all_append (all_append (all_append (one_rl _) (one_rl _)) (one_rl _)) (one_rl _)
theorem info34 : (Tryd.prog.info? 34).map (·.size) = some 64 := by kernel_rfl
theorem info34q (q : Q4) : (Tryd.prog.info? 34).map (·.size) = some (rq q).size := by rw [rq_size]; exact info34
theorem rq_get (q : Q4) : (∀ i, i < 16 → (rq q)[16 * 0 + i]? = (rl q.X)[i]?) ∧ (∀ i, i < 16 → (rq q)[16 * 1 + i]? = (rl q.Y)[i]?) ∧ (∀ i, i < 16 → (rq q)[16 * 2 + i]? = (rl q.Z)[i]?) ∧ (∀ i, i < 16 → (rq q)[16 * 3 + i]? = (rl q.T)[i]?) := by
  unfold rq
  have s2 : (rl q.X ++ rl q.Y).size = 32 := by rw [Array.size_append, rl_size, rl_size]
  have s3 : (rl q.X ++ rl q.Y ++ rl q.Z).size = 48 := by rw [Array.size_append, Array.size_append, rl_size, rl_size, rl_size]
  refine ⟨fun i hi => ?_, fun i hi => ?_, fun i hi => ?_, fun i hi => ?_⟩
  · rw [Array.getElem?_append_left (by rw [s3]; omega), Array.getElem?_append_left (by rw [s2]; omega), Array.getElem?_append_left (by rw [rl_size]; omega), Nat.mul_zero, Nat.zero_add]
  · rw [Array.getElem?_append_left (by rw [s3]; omega), Array.getElem?_append_left (by rw [s2]; omega), Array.getElem?_append_right (by rw [rl_size]; omega), rl_size, show 16 * 1 + i - 16 = i by omega]
  · rw [Array.getElem?_append_left (by rw [s3]; omega), Array.getElem?_append_right (by rw [s2]; omega), s2, show 16 * 2 + i - 32 = i by omega]
  · rw [Array.getElem?_append_right (by rw [s3]; omega), s3, show 16 * 3 + i - 48 = i by omega]
section
variable {ρ : Operand → Value} {x y z v : Operand} {w : World} {dst : Option Tmp} {ty : TypeId} {pos : String} {aft : Array Edge} {gd : Option (Nat × Bool)} {q a b c d : Nat}
theorem run_alloc34 : (execOp ρ ⟨dst, .alloc 34, ty, pos, aft, gd⟩).run Tryd.prog w = .ok (.value (.pointer (some ⟨w.heap.size, 0, none⟩))) (w.alloc (.cells (rq ⟨0, 0, 0, 0⟩) 34)) := by kernel_rfl
theorem run_box34 {c : Array Value} (hx : ρ x = .agg c) : (execOp ρ ⟨dst, .box 34 x, ty, pos, aft, gd⟩).run Tryd.prog w = .ok (.value (.pointer (some ⟨w.heap.size, 0, none⟩))) (w.alloc (.cells c 34)) := by
  simp only [execOp, hx]
  go_simp
theorem run_part32 {off n : Nat} {t : TypeId} {c : Array Value} (hx : ρ x = .pointer (some ⟨q, off, none⟩)) (h : Blk w q t c) (hc : ∀ i, i < 16 → c[off + i]? = (rl n)[i]?) : (execOp ρ ⟨dst, .load 32 x, ty, pos, aft, gd⟩).run Tryd.prog w = .ok (.value (rarr n)) w := by
  have hr : w.rangeAt q off (rl n).toList := fun j v hv => by
    have hj : j < 16 := by have := (List.getElem?_eq_some_iff.1 hv).1; simpa [rl_size] using this
    rw [h.cell (off + j), hc j hj]
    rwa [Array.getElem?_toList] at hv
  simp only [execOp, hx, Instr.loadAt, Instr.sureAddr, Sem.run_bind, Sem.run_pure, Result.andThen_ok, run_loadVar_mid w q off 32 (rl n).toList _ hr Tryd.underlying32 rfl (by rw [Array.length_toList]; exact info_rl n)]
  rfl
theorem agg_r (n : Nat) : ∃ a0 a1 a2 a3 a4 a5 a6 a7 a8 a9 a10 a11 a12 a13 a14 a15 : Value, rl n = #[a0, a1, a2, a3, a4, a5, a6, a7, a8, a9, a10, a11, a12, a13, a14, a15] ∧ rarr n = .agg #[a0, a1, a2, a3, a4, a5, a6, a7, a8, a9, a10, a11, a12, a13, a14, a15] := ⟨_, _, _, _, _, _, _, _, _, _, _, _, _, _, _, _, rfl, rfl⟩
set_option maxRecDepth 100000 in
set_option maxHeartbeats 4000000 in
theorem run_build34 (hx : ρ x = rarr a) (hy : ρ y = rarr b) (hz : ρ z = rarr c) (hv : ρ v = rarr d) : (execOp ρ ⟨dst, .build 34 #[(0, x), (1, y), (2, z), (3, v)], ty, pos, aft, gd⟩).run Tryd.prog w = .ok (.value (.agg (rq ⟨a, b, c, d⟩))) w := by
  obtain ⟨a0, a1, a2, a3, a4, a5, a6, a7, a8, a9, a10, a11, a12, a13, a14, a15, ea, fa⟩ := agg_r a
  rw [fa] at hx
  obtain ⟨b0, b1, b2, b3, b4, b5, b6, b7, b8, b9, b10, b11, b12, b13, b14, b15, eb, fb⟩ := agg_r b
  rw [fb] at hy
  obtain ⟨c0, c1, c2, c3, c4, c5, c6, c7, c8, c9, c10, c11, c12, c13, c14, c15, ec, fc⟩ := agg_r c
  rw [fc] at hz
  obtain ⟨d0, d1, d2, d3, d4, d5, d6, d7, d8, d9, d10, d11, d12, d13, d14, d15, ed, fd⟩ := agg_r d
  rw [fd] at hv
  unfold rq
  rw [ea, eb, ec, ed]
  simp only [execOp, Array.map]
  go_simp
end
end Go.Proofs.YtpaendmdcdeemaaDoor

namespace Go.Proofs.YtpaendmdcdeemaaDoor
open Go.RowKit Num


theorem res34 {fn : Func} {p : Tmp} {ts : Array Value} {q : Nat} {w : World} (Q : Q4) (hf : fn.results = #[.cell p 34]) (ht : ts.getD p undef = .pointer (some ⟨q, 0, none⟩)) (h : Blk w q 34 (rq Q)) : (results fn ts).run Tryd.prog w = .ok (.agg (rq Q)) w := res_cell hf ht h Tryd.underlying34 rfl (info34q Q)
theorem res34b {fn : Func} {p r : Tmp} {ts : Array Value} {q : Nat} {v : Value} {w : World} (Q : Q4) (hf : fn.results = #[.cell p 34, .tmp r]) (ht : ts.getD p undef = .pointer (some ⟨q, 0, none⟩)) (hv : ts.getD r undef = v) (h : Blk w q 34 (rq Q)) : (results fn ts).run Tryd.prog w = .ok (.tuple #[.agg (rq Q), v]) w := res_cell_tmp hf ht hv h Tryd.underlying34 rfl (info34q Q)
theorem dN_eq : mulP (negP 121665) (invE 121666) = dN := by rw [invE_pm]; decide +kernel
def mdQ (x y : Nat) : Q4 := ⟨x, y, 1, mulP x y⟩
theorem mdQ_lt {x y : Nat} (hx : x < P) (hy : y < P) : (mdQ x y).lt := ⟨hx, hy, show 1 < P by decide, mulP_lt _ _⟩
def rsq (y : Nat) : Nat := mulP (subP (mulP y y) 1) (invE (addP (mulP dN (mulP y y)) 1))
theorem rsq_is (y : Nat) : rsq y = bsq y := by
  apply toF_inj (mulP_lt _ _) (bsq_lt _)
  have h := bsq_F y
  have e : toF (addP (mulP dN (mulP y y)) 1) = 1 + dE * toF y * toF y := by
    rw [toF_add, toF_mul, toF_mul, toF_one]
    show dE * (toF y * toF y) + 1 = _
    grobner
  have hm := mul_inv (dy_ne (toF y))
  show toF (mulP (subP (mulP y y) 1) (invE (addP (mulP dN (mulP y y)) 1))) = _
  rw [toF_mul, toF_sub _ _ (by decide), toF_mul, toF_inv _ (addP_lt _ _), e, toF_one]
  generalize inv (1 + dE * toF y * toF y) = v at *
  grobner
theorem bit31 (s : ByteArray) (hs : s.size = 32) : 128 ≤ ((bl s).getD 31 0).toNat ↔ numS s / 2 ^ 255 % 2 = 1 := by
  obtain ⟨m, b, hm, hl⟩ := split32' (bl s) (by rw [bl_len, hs])
  rw [numS_b, hl, last_get m b hm, num_last m b hm, show (2 : Nat) ^ 255 = 256 ^ 31 * 128 by decide, ← Nat.div_div_eq_div_mul, Nat.add_mul_div_left _ _ (by decide), Nat.div_eq_of_lt (num31_lt m hm), Nat.zero_add]
  have := UInt8.toNat_lt b
  omega

set_option linter.unusedVariables false in
set_option maxRecDepth 100000 in
set_option maxHeartbeats 2000000 in
theorem D_any (w : World) :
    Calls Tryd.prog 59 #[] w fun e w' => e = .returned (rarr dN) ∧ Below w.heap.size w w' := by
  have H0 := HA.start w
  go_enter Tryd.func59, Tryd.ntmps59
  refine wp_seq ?_
  refine wl_region ?_
  refine wl_make H0 32 (by kernel_rfl) run_alloc32 ?_
  intro q1 w2 h3
  refine wl_nil ?_
  refine then_at (F := ⟨(pt q1 :: List.replicate 4 un).toArray, []⟩) (by kernel_rfl) ?_
  refine wp_seq ?_
  refine wl_region ?_
  refine wl_call (v := rarr 121665) h3 (by kernel_rfl) enter67 #[iN .u32 121665] (by kernel_rfl) (wsmall_any 121665 (by decide) w2) ?_
  intro w4 h5
  refine wl_call (v := rarr (negP 121665)) h5 (by kernel_rfl) enter60 #[rarr 121665] (by kernel_rfl) (rneg_any 121665 (by decide) w4) ?_
  intro w6 h7
  refine wl_call (v := rarr 121666) h7 (by kernel_rfl) enter67 #[iN .u32 121666] (by kernel_rfl) (wsmall_any 121666 (by decide) w6) ?_
  intro w8 h9
  refine wl_call (v := rarr (mulP (negP 121665) (invE 121666))) h9 (by kernel_rfl) enter70 #[rarr (negP 121665), rarr 121666] (by kernel_rfl) (wover_any (negP 121665) 121666 (negP_lt _) (by decide) w8) ?_
  intro w10 h11
  refine wl_fill (c' := rl (mulP (negP 121665) (invE 121666))) h11 0 rfl (by kernel_rfl) (by kernel_rfl) (by kernel_rfl) (rl_sz (mulP (negP 121665) (invE 121666)) 0) (info_rl (mulP (negP 121665) (invE 121666))) (one_rl (mulP (negP 121665) (invE 121666))) ?_
  intro w12 (h13 : HA w [(q1, 32, rl (mulP (negP 121665) (invE 121666)))] w12)
  refine wl_nil ?_
  refine then_at (F := ⟨(pt q1 :: rarr 121665 :: rarr (negP 121665) :: rarr 121666 :: rarr (mulP (negP 121665) (invE 121666)) :: List.replicate 0 un).toArray, []⟩) (by kernel_rfl) ?_
  refine wp_ret ?_
  repeat first | refine then_ret ?_ | refine block_ret ?_
  exact bodyPost_ret (v := rarr (mulP (negP 121665) (invE 121666))) (res_cell (p := 0) (by kernel_rfl) (by kernel_rfl) (h13.get 0 rfl) Tryd.underlying32 rfl (info_rl _)) rfl ⟨by rw [dN_eq], h13.old⟩

set_option linter.unusedVariables false in
set_option maxRecDepth 100000 in
set_option maxHeartbeats 2000000 in
theorem made_any (a b : Nat) (ha : a < P) (hb : b < P) (w : World) :
    Calls Tryd.prog 83 #[rarr a, rarr b] w fun e w' => e = .returned (.agg (rq (mdQ a b))) ∧ Below w.heap.size w w' := by
  have H0 := HA.start w
  go_enter Tryd.func83, Tryd.ntmps83
  refine wp_seq ?_
  refine wl_region ?_
  refine wl_make H0 32 (by kernel_rfl) (run_box32 (c := rl a) (by kernel_rfl)) ?_
  intro q1 w2 h3
  refine wl_make h3 32 (by kernel_rfl) (run_box32 (c := rl b) (by kernel_rfl)) ?_
  intro q4 w5 h6
  refine wl_make h6 34 (by kernel_rfl) run_alloc34 ?_
  intro q7 w8 h9
  refine wl_nil ?_
  refine then_at (F := ⟨(rarr a :: rarr b :: pt q1 :: pt q4 :: pt q7 :: List.replicate 7 un).toArray, []⟩) (by kernel_rfl) ?_
  refine wp_seq ?_
  obtain ⟨C10, hC10⟩ : ∃ C, C = rq (Q4.mk a b 1 (mulP a b)) := ⟨_, rfl⟩
  refine wp_region_ghost (fun _ : Nat → Nat => (⟨(rarr a :: rarr b :: pt q1 :: pt q4 :: pt q7 :: rarr a :: rarr b :: rarr 1 :: rarr a :: rarr b :: rarr (mulP a b) :: .agg C10 :: List.replicate 0 un).toArray, []⟩ : Act)) (GF w [(q7, 34, rq (Q4.mk 0 0 0 0)), (q4, 32, rl b), (q1, 32, rl a)] 7 6 0 q7 34 (C10)) [rarr a, rarr b, rarr 1, rarr a, rarr b, rarr (mulP a b), .agg C10, undef] (by kernel_rfl) (by kernel_rfl) (by kernel_rfl) (by kernel_rfl) (fun _ _ _ _ h => h) (fun d hd => GF.start h9.drew (hd 7 (by decide))) ?_ ?_
  · refine AllGhost.cons (gf_load2 2 (by decide) rfl (by decide) (fun _ => by kernel_rfl) (fun _ => by kernel_rfl) (fun _ => by kernel_rfl) Tryd.underlying32 rfl (info_rl a)) ?_
    refine AllGhost.cons (gf_load2 1 (by decide) rfl (by decide) (fun _ => by kernel_rfl) (fun _ => by kernel_rfl) (fun _ => by kernel_rfl) Tryd.underlying32 rfl (info_rl b)) ?_
    refine AllGhost.cons (gf_callh (v := rarr 1) (by decide) (fun _ => by kernel_rfl) (fun _ => by kernel_rfl) enter67 #[iN .u32 1] (fun _ => by kernel_rfl) (fun w' ho => wsmall_any 1 (by decide) w')) ?_
    refine AllGhost.cons (gf_load2 2 (by decide) rfl (by decide) (fun _ => by kernel_rfl) (fun _ => by kernel_rfl) (fun _ => by kernel_rfl) Tryd.underlying32 rfl (info_rl a)) ?_
    refine AllGhost.cons (gf_load2 1 (by decide) rfl (by decide) (fun _ => by kernel_rfl) (fun _ => by kernel_rfl) (fun _ => by kernel_rfl) Tryd.underlying32 rfl (info_rl b)) ?_
    refine AllGhost.cons (gf_callh (v := rarr (mulP a b)) (by decide) (fun _ => by kernel_rfl) (fun _ => by kernel_rfl) enter52 #[rarr a, rarr b] (fun _ => by kernel_rfl) (fun w' ho => wmul_any a b ha hb w')) ?_
    refine AllGhost.cons (gf_plain (v := .agg C10) (by decide) (fun _ => by kernel_rfl) (fun _ => by kernel_rfl) (fun _ _ => (by rw [hC10]; exact (run_build34 (a := a) (b := b) (c := 1) (d := mulP a b) (by kernel_rfl) (by kernel_rfl) (by kernel_rfl) (by kernel_rfl))))) ?_
    refine AllGhost.cons (gf_fill rfl (by rw [hC10]; exact (rq_sz (Q4.mk a b 1 (mulP a b)) (Q4.mk 0 0 0 0))) (fun _ => by kernel_rfl) (fun _ => by kernel_rfl) (fun _ => by kernel_rfl) (fun _ => by kernel_rfl) (by rw [hC10]; exact (info34q (Q4.mk a b 1 (mulP a b)))) (by rw [hC10]; exact (one_rq (Q4.mk a b 1 (mulP a b)))) (by decide) (by kernel_rfl)) ?_
    exact AllGhost.nil
  intro _ w11 g12
  have h13 : HA w [(q7, 34, C10), (q4, 32, rl b), (q1, 32, rl a)] w11 := g12.held
  clear g12
  subst hC10
  refine then_at (F := ⟨(rarr a :: rarr b :: pt q1 :: pt q4 :: pt q7 :: rarr a :: rarr b :: rarr 1 :: rarr a :: rarr b :: rarr (mulP a b) :: .agg (rq (Q4.mk a b 1 (mulP a b))) :: List.replicate 0 un).toArray, []⟩) (by kernel_rfl) ?_
  refine wp_ret ?_
  repeat first | refine then_ret ?_ | refine block_ret ?_
  have hB : Blk w11 q7 34 (rq (Q4.mk a b 1 (mulP a b))) := h13.get 0 rfl
  exact bodyPost_ret (v := .agg (rq (Q4.mk a b 1 (mulP a b)))) (res34 (p := 4) (Q4.mk a b 1 (mulP a b)) (by kernel_rfl) (by kernel_rfl) hB) rfl ⟨by rw [show mdQ a b = Q4.mk a b 1 (mulP a b) from rfl], h13.old⟩

set_option linter.unusedVariables false in
set_option maxRecDepth 100000 in
set_option maxHeartbeats 2000000 in
theorem rNone_any (w : World) :
    Calls Tryd.prog 44 #[] w fun e w' => e = .returned (.agg (rq (mdQ 0 1))) ∧ Below w.heap.size w w' := by
  have H0 := HA.start w
  go_enter Tryd.func44, Tryd.ntmps44
  refine wp_seq ?_
  refine wl_region ?_
  refine wl_make H0 34 (by kernel_rfl) run_alloc34 ?_
  intro q1 w2 h3
  refine wl_nil ?_
  refine then_at (F := ⟨(pt q1 :: List.replicate 3 un).toArray, []⟩) (by kernel_rfl) ?_
  refine wp_seq ?_
  refine wl_region ?_
  refine wl_call (v := rarr 0) h3 (by kernel_rfl) enter67 #[iN .u32 0] (by kernel_rfl) (wsmall_any 0 (by decide) w2) ?_
  intro w4 h5
  refine wl_call (v := rarr 1) h5 (by kernel_rfl) enter67 #[iN .u32 1] (by kernel_rfl) (wsmall_any 1 (by decide) w4) ?_
  intro w6 h7
  refine wl_call (v := .agg (rq (mdQ 0 1))) h7 (by kernel_rfl) enter83 #[rarr 0, rarr 1] (by kernel_rfl) (made_any 0 1 (by decide) (by decide) w6) ?_
  intro w8 h9
  refine wl_fill (c' := rq (mdQ 0 1)) h9 0 rfl (by kernel_rfl) (by kernel_rfl) (by kernel_rfl) (rq_sz (mdQ 0 1) (Q4.mk 0 0 0 0)) (info34q (mdQ 0 1)) (one_rq (mdQ 0 1)) ?_
  intro w10 (h11 : HA w [(q1, 34, rq (mdQ 0 1))] w10)
  refine wl_nil ?_
  refine then_at (F := ⟨(pt q1 :: rarr 0 :: rarr 1 :: .agg (rq (mdQ 0 1)) :: List.replicate 0 un).toArray, []⟩) (by kernel_rfl) ?_
  refine wp_ret ?_
  repeat first | refine then_ret ?_ | refine block_ret ?_
  have hB : Blk w10 q1 34 (rq (mdQ 0 1)) := h11.get 0 rfl
  exact bodyPost_ret (v := .agg (rq (mdQ 0 1))) (res34 (p := 0) (mdQ 0 1) (by kernel_rfl) (by kernel_rfl) hB) rfl ⟨rfl, h11.old⟩

set_option linter.unusedVariables false in
set_option maxRecDepth 100000 in
set_option maxHeartbeats 2000000 in
theorem rof_yes_even (y : Nat) (hy : y < P) (rt : Nat) (hrt : rt < P) (hroot : rootP (bsq y) = some rt) (w : World) :
    Calls Tryd.prog 46 #[rarr y, .bool false] w fun e w' => e = .returned (.tuple #[.agg (rq (mdQ rt y)), .bool true]) ∧ Below w.heap.size w w' := by
  have H0 := HA.start w
  go_enter Tryd.func46, Tryd.ntmps46
  refine wp_seq ?_
  refine wl_region ?_
  refine wl_make H0 32 (by kernel_rfl) (run_box32 (c := rl y) (by kernel_rfl)) ?_
  intro q1 w2 h3
  refine wl_make h3 34 (by kernel_rfl) run_alloc34 ?_
  intro q4 w5 h6
  refine wl_val (.bool false) (by kernel_rfl) (by kernel_rfl) ?_
  refine wl_nil ?_
  refine then_at (F := ⟨(rarr y :: .bool false :: pt q1 :: un :: pt q4 :: .bool false :: List.replicate 36 un).toArray, []⟩) (by kernel_rfl) ?_
  refine wp_seq ?_
  refine wl_region ?_
  refine wl_load h6 1 rfl (by kernel_rfl) (by kernel_rfl) Tryd.underlying32 rfl (info_rl y) ?_
  refine wl_load h6 1 rfl (by kernel_rfl) (by kernel_rfl) Tryd.underlying32 rfl (info_rl y) ?_
  refine wl_call (v := rarr (mulP y y)) h6 (by kernel_rfl) enter52 #[rarr y, rarr y] (by kernel_rfl) (wmul_any y y hy hy w5) ?_
  intro w7 h8
  refine wl_make h8 32 (by kernel_rfl) run_alloc32 ?_
  intro q9 w10 h11
  refine wl_fill (c' := rl (mulP y y)) h11 0 rfl (by kernel_rfl) (by kernel_rfl) (by kernel_rfl) (rl_sz (mulP y y) 0) (info_rl (mulP y y)) (one_rl (mulP y y)) ?_
  intro w12 (h13 : HA w [(q9, 32, rl (mulP y y)), (q4, 34, rq (Q4.mk 0 0 0 0)), (q1, 32, rl y)] w12)
  refine wl_nil ?_
  refine then_at (F := ⟨(rarr y :: .bool false :: pt q1 :: un :: pt q4 :: .bool false :: pt q9 :: un :: un :: rarr y :: rarr y :: rarr (mulP y y) :: List.replicate 30 un).toArray, []⟩) (by kernel_rfl) ?_
  refine wp_seq ?_
  obtain ⟨B14, eB14⟩ : ∃ B, B = w12.heap.size := ⟨_, rfl⟩
  refine wp_region_ghost (fun g : Nat → Nat => (⟨(rarr y :: .bool false :: pt q1 :: un :: pt q4 :: .bool false :: pt q9 :: pt (g 13) :: .bool true :: rarr y :: rarr y :: rarr (mulP y y) :: .tuple #[rarr rt, .bool true] :: rarr (mulP y y) :: rarr 1 :: rarr (subP (mulP y y) 1) :: rarr dN :: rarr (mulP y y) :: rarr (mulP dN (mulP y y)) :: rarr 1 :: rarr (addP (mulP dN (mulP y y)) 1) :: rarr (mulP (subP (mulP y y) 1) (invE (addP (mulP dN (mulP y y)) 1))) :: .tuple #[rarr rt, .bool true] :: rarr rt :: .bool true :: List.replicate 17 un).toArray, []⟩ : Act)) (GS w [(q9, 32, rl (mulP y y)), (q4, 34, rq (Q4.mk 0 0 0 0)), (q1, 32, rl y)] B14 1 13 14 32 (rl 0) (fun _ => rl rt)) [rarr (mulP y y), rarr 1, rarr (subP (mulP y y) 1), rarr dN, rarr (mulP y y), rarr (mulP dN (mulP y y)), rarr 1, rarr (addP (mulP dN (mulP y y)) 1), rarr (mulP (subP (mulP y y) 1) (invE (addP (mulP dN (mulP y y)) 1))), .tuple #[rarr rt, .bool true], .tuple #[rarr rt, .bool true], rarr rt, .bool true, .pointer (some ⟨0, 0, none⟩), undef, .bool true] (by kernel_rfl) (by kernel_rfl) (by kernel_rfl) (by kernel_rfl) (fun _ _ _ _ h => h) (fun d hd => GS.start h13.drew eB14 (by decide) (fun _ _ => (rl_sz _ _)) (fun j hj => hd j (Nat.lt_of_lt_of_le hj (by decide)))) ?_ ?_
  · refine AllGhost.cons (ghost_load 0 rfl (by decide) (fun _ => by kernel_rfl) (fun _ => by kernel_rfl) (fun _ => by kernel_rfl) Tryd.underlying32 rfl (info_rl (mulP y y))) ?_
    refine AllGhost.cons (ghost_call (v := rarr 1) (by decide) (fun _ => by kernel_rfl) (fun _ => by kernel_rfl) enter67 #[iN .u32 1] (fun _ => by kernel_rfl) (fun w' h' => wsmall_any 1 (by decide) w')) ?_
    refine AllGhost.cons (ghost_call (v := rarr (subP (mulP y y) 1)) (by decide) (fun _ => by kernel_rfl) (fun _ => by kernel_rfl) enter69 #[rarr (mulP y y), rarr 1] (fun _ => by kernel_rfl) (fun w' h' => wsub_any (mulP y y) 1 (mulP_lt _ _) (by decide) w')) ?_
    refine AllGhost.cons (ghost_call (v := rarr dN) (by decide) (fun _ => by kernel_rfl) (fun _ => by kernel_rfl) enter59 #[] (fun _ => by kernel_rfl) (fun w' h' => D_any w')) ?_
    refine AllGhost.cons (ghost_load 0 rfl (by decide) (fun _ => by kernel_rfl) (fun _ => by kernel_rfl) (fun _ => by kernel_rfl) Tryd.underlying32 rfl (info_rl (mulP y y))) ?_
    refine AllGhost.cons (ghost_call (v := rarr (mulP dN (mulP y y))) (by decide) (fun _ => by kernel_rfl) (fun _ => by kernel_rfl) enter52 #[rarr dN, rarr (mulP y y)] (fun _ => by kernel_rfl) (fun w' h' => wmul_any dN (mulP y y) dN_lt (mulP_lt _ _) w')) ?_
    refine AllGhost.cons (ghost_call (v := rarr 1) (by decide) (fun _ => by kernel_rfl) (fun _ => by kernel_rfl) enter67 #[iN .u32 1] (fun _ => by kernel_rfl) (fun w' h' => wsmall_any 1 (by decide) w')) ?_
    refine AllGhost.cons (ghost_call (v := rarr (addP (mulP dN (mulP y y)) 1)) (by decide) (fun _ => by kernel_rfl) (fun _ => by kernel_rfl) enter68 #[rarr (mulP dN (mulP y y)), rarr 1] (fun _ => by kernel_rfl) (fun w' h' => wadd_any (mulP dN (mulP y y)) 1 (mulP_lt _ _) (by decide) w')) ?_
    refine AllGhost.cons (ghost_call (v := rarr (mulP (subP (mulP y y) 1) (invE (addP (mulP dN (mulP y y)) 1)))) (by decide) (fun _ => by kernel_rfl) (fun _ => by kernel_rfl) enter70 #[rarr (subP (mulP y y) 1), rarr (addP (mulP dN (mulP y y)) 1)] (fun _ => by kernel_rfl) (fun w' h' => wover_any (subP (mulP y y) 1) (addP (mulP dN (mulP y y)) 1) (subP_lt _ _) (addP_lt _ _) w')) ?_
    refine AllGhost.cons (ghost_call (v := .tuple #[rarr rt, .bool true]) (by decide) (fun _ => by kernel_rfl) (fun _ => by kernel_rfl) enter86 #[rarr (mulP (subP (mulP y y) 1) (invE (addP (mulP dN (mulP y y)) 1)))] (fun _ => by kernel_rfl) (fun w' h' => rroot_yes (mulP (subP (mulP y y) 1) (invE (addP (mulP dN (mulP y y)) 1))) rt (mulP_lt _ _) (by rw [show mulP (subP (mulP y y) 1) (invE (addP (mulP dN (mulP y y)) 1)) = bsq y from rsq_is y]; exact hroot) w')) ?_
    refine AllGhost.cons (ghost_plain (v := .tuple #[rarr rt, .bool true]) (by decide) (fun _ => by kernel_rfl) (fun _ => by kernel_rfl) (fun _ _ => (by kernel_rfl))) ?_
    refine AllGhost.cons (ghost_plain (v := rarr rt) (by decide) (fun _ => by kernel_rfl) (fun _ => by kernel_rfl) (fun _ _ => (by kernel_rfl))) ?_
    refine AllGhost.cons (ghost_plain (v := .bool true) (by decide) (fun _ => by kernel_rfl) (fun _ => by kernel_rfl) (fun _ _ => (by kernel_rfl))) ?_
    refine AllGhost.cons (ghost_make 0 (by decide) rfl (fun _ => by kernel_rfl) (fun _ _ => by kernel_rfl) (fun _ _ => run_alloc32)) ?_
    refine AllGhost.cons (ghost_fill 0 (by decide) rfl (fun _ => by kernel_rfl) (fun _ => by kernel_rfl) (fun _ => by kernel_rfl) (fun _ => by kernel_rfl) (info_rl rt) (one_rl rt) (by kernel_rfl)) ?_
    refine AllGhost.cons (ghost_plain (v := .bool true) (by decide) (fun _ => by kernel_rfl) (fun _ => by kernel_rfl) (fun _ _ => (by kernel_rfl))) ?_
    exact AllGhost.nil
  intro g w15 g16
  have h17 : HA w [(g 13, 32, rl rt), (q9, 32, rl (mulP y y)), (q4, 34, rq (Q4.mk 0 0 0 0)), (q1, 32, rl y)] w15 := g16.one
  clear g16 eB14
  generalize g 13 = q18 at h17 ⊢
  clear g
  refine then_at (F := ⟨(rarr y :: .bool false :: pt q1 :: un :: pt q4 :: .bool false :: pt q9 :: pt q18 :: .bool true :: rarr y :: rarr y :: rarr (mulP y y) :: .tuple #[rarr rt, .bool true] :: rarr (mulP y y) :: rarr 1 :: rarr (subP (mulP y y) 1) :: rarr dN :: rarr (mulP y y) :: rarr (mulP dN (mulP y y)) :: rarr 1 :: rarr (addP (mulP dN (mulP y y)) 1) :: rarr (mulP (subP (mulP y y) 1) (invE (addP (mulP dN (mulP y y)) 1))) :: .tuple #[rarr rt, .bool true] :: rarr rt :: .bool true :: List.replicate 17 un).toArray, []⟩) (by kernel_rfl) ?_
  refine wp_seq ?_
  refine wp_seq ?_
  refine wp_region_sure ⟨(rarr y :: .bool false :: pt q1 :: un :: pt q4 :: .bool false :: pt q9 :: pt q18 :: .bool true :: rarr y :: rarr y :: rarr (mulP y y) :: .tuple #[rarr rt, .bool true] :: rarr (mulP y y) :: rarr 1 :: rarr (subP (mulP y y) 1) :: rarr dN :: rarr (mulP y y) :: rarr (mulP dN (mulP y y)) :: rarr 1 :: rarr (addP (mulP dN (mulP y y)) 1) :: rarr (mulP (subP (mulP y y) 1) (invE (addP (mulP dN (mulP y y)) 1))) :: .tuple #[rarr rt, .bool true] :: rarr rt :: .bool true :: .bool true :: .bool false :: .bool false :: .bool false :: .bool false :: un :: un :: un :: .bool false :: .bool false :: List.replicate 7 un).toArray, []⟩ (HA w [(q18, 32, rl rt), (q9, 32, rl (mulP y y)), (q4, 34, rq (Q4.mk 0 0 0 0)), (q1, 32, rl y)]) [.bool true, .bool false, .bool false, .bool false, .bool false, undef, undef, undef, .bool false, .bool false] (by kernel_rfl) (by kernel_rfl) (by kernel_rfl) (by kernel_rfl) (fun _ _ _ h => h) h17.drew ?_ ?_
  · refine AllSure.cons (OpSure.take (v := .bool true) (by kernel_rfl) (by kernel_rfl) (fun _ _ => (by kernel_rfl))) ?_
    refine AllSure.cons (OpSure.take (v := .bool false) (by kernel_rfl) (by kernel_rfl) (fun _ _ => (by kernel_rfl))) ?_
    refine AllSure.cons (OpSure.take (v := .bool false) (by kernel_rfl) (by kernel_rfl) (fun _ _ => (by kernel_rfl))) ?_
    refine AllSure.cons (OpSure.take (v := .bool false) (by kernel_rfl) (by kernel_rfl) (fun _ _ => (by kernel_rfl))) ?_
    refine AllSure.cons (OpSure.take (v := .bool false) (by kernel_rfl) (by kernel_rfl) (fun _ _ => (by kernel_rfl))) ?_
    refine AllSure.cons (OpSure.skip (by kernel_rfl) (by kernel_rfl)) ?_
    refine AllSure.cons (OpSure.skip (by kernel_rfl) (by kernel_rfl)) ?_
    refine AllSure.cons (OpSure.skip (by kernel_rfl) (by kernel_rfl)) ?_
    refine AllSure.cons (OpSure.take (v := .bool false) (by kernel_rfl) (by kernel_rfl) (fun _ _ => (by kernel_rfl))) ?_
    refine AllSure.cons (OpSure.take (v := .bool false) (by kernel_rfl) (by kernel_rfl) (fun _ _ => (by kernel_rfl))) ?_
    exact AllSure.nil
  intro w19 h20
  refine then_at (F := ⟨(rarr y :: .bool false :: pt q1 :: un :: pt q4 :: .bool false :: pt q9 :: pt q18 :: .bool true :: rarr y :: rarr y :: rarr (mulP y y) :: .tuple #[rarr rt, .bool true] :: rarr (mulP y y) :: rarr 1 :: rarr (subP (mulP y y) 1) :: rarr dN :: rarr (mulP y y) :: rarr (mulP dN (mulP y y)) :: rarr 1 :: rarr (addP (mulP dN (mulP y y)) 1) :: rarr (mulP (subP (mulP y y) 1) (invE (addP (mulP dN (mulP y y)) 1))) :: .tuple #[rarr rt, .bool true] :: rarr rt :: .bool true :: .bool true :: .bool false :: .bool false :: .bool false :: .bool false :: un :: un :: un :: .bool false :: .bool false :: List.replicate 7 un).toArray, []⟩) (by kernel_rfl) ?_
  refine wp_cond_false (by kernel_rfl) ?_
  refine wp_skip ?_
  refine then_at (F := ⟨(rarr y :: .bool false :: pt q1 :: un :: pt q4 :: .bool false :: pt q9 :: pt q18 :: .bool true :: rarr y :: rarr y :: rarr (mulP y y) :: .tuple #[rarr rt, .bool true] :: rarr (mulP y y) :: rarr 1 :: rarr (subP (mulP y y) 1) :: rarr dN :: rarr (mulP y y) :: rarr (mulP dN (mulP y y)) :: rarr 1 :: rarr (addP (mulP dN (mulP y y)) 1) :: rarr (mulP (subP (mulP y y) 1) (invE (addP (mulP dN (mulP y y)) 1))) :: .tuple #[rarr rt, .bool true] :: rarr rt :: .bool true :: .bool true :: .bool false :: .bool false :: .bool false :: .bool false :: un :: un :: un :: .bool false :: .bool false :: List.replicate 7 un).toArray, []⟩) (by kernel_rfl) ?_
  refine wp_seq ?_
  refine wp_seq ?_
  refine wl_region ?_
  refine wl_val (.bool false) (by kernel_rfl) (by kernel_rfl) ?_
  refine wl_nil ?_
  refine then_at (F := ⟨(rarr y :: .bool false :: pt q1 :: un :: pt q4 :: .bool false :: pt q9 :: pt q18 :: .bool true :: rarr y :: rarr y :: rarr (mulP y y) :: .tuple #[rarr rt, .bool true] :: rarr (mulP y y) :: rarr 1 :: rarr (subP (mulP y y) 1) :: rarr dN :: rarr (mulP y y) :: rarr (mulP dN (mulP y y)) :: rarr 1 :: rarr (addP (mulP dN (mulP y y)) 1) :: rarr (mulP (subP (mulP y y) 1) (invE (addP (mulP dN (mulP y y)) 1))) :: .tuple #[rarr rt, .bool true] :: rarr rt :: .bool true :: .bool true :: .bool false :: .bool false :: .bool false :: .bool false :: un :: un :: un :: .bool false :: .bool false :: un :: .bool false :: List.replicate 5 un).toArray, []⟩) (by kernel_rfl) ?_
  refine wp_cond_false (by kernel_rfl) ?_
  refine wp_skip ?_
  refine then_at (F := ⟨(rarr y :: .bool false :: pt q1 :: un :: pt q4 :: .bool false :: pt q9 :: pt q18 :: .bool true :: rarr y :: rarr y :: rarr (mulP y y) :: .tuple #[rarr rt, .bool true] :: rarr (mulP y y) :: rarr 1 :: rarr (subP (mulP y y) 1) :: rarr dN :: rarr (mulP y y) :: rarr (mulP dN (mulP y y)) :: rarr 1 :: rarr (addP (mulP dN (mulP y y)) 1) :: rarr (mulP (subP (mulP y y) 1) (invE (addP (mulP dN (mulP y y)) 1))) :: .tuple #[rarr rt, .bool true] :: rarr rt :: .bool true :: .bool true :: .bool false :: .bool false :: .bool false :: .bool false :: un :: un :: un :: .bool false :: .bool false :: un :: .bool false :: List.replicate 5 un).toArray, []⟩) (by kernel_rfl) ?_
  refine wp_seq ?_
  refine wl_region ?_
  refine wl_load h20 0 rfl (by kernel_rfl) (by kernel_rfl) Tryd.underlying32 rfl (info_rl rt) ?_
  refine wl_load h20 3 rfl (by kernel_rfl) (by kernel_rfl) Tryd.underlying32 rfl (info_rl y) ?_
  refine wl_call (v := .agg (rq (mdQ rt y))) h20 (by kernel_rfl) enter83 #[rarr rt, rarr y] (by kernel_rfl) (made_any rt y hrt hy w19) ?_
  intro w21 h22
  refine wl_fill (c' := rq (mdQ rt y)) h22 2 rfl (by kernel_rfl) (by kernel_rfl) (by kernel_rfl) (rq_sz (mdQ rt y) (Q4.mk 0 0 0 0)) (info34q (mdQ rt y)) (one_rq (mdQ rt y)) ?_
  intro w23 (h24 : HA w [(q18, 32, rl rt), (q9, 32, rl (mulP y y)), (q4, 34, rq (mdQ rt y)), (q1, 32, rl y)] w23)
  refine wl_val (.bool true) (by kernel_rfl) (by kernel_rfl) ?_
  refine wl_nil ?_
  refine then_at (F := ⟨(rarr y :: .bool false :: pt q1 :: un :: pt q4 :: .bool true :: pt q9 :: pt q18 :: .bool true :: rarr y :: rarr y :: rarr (mulP y y) :: .tuple #[rarr rt, .bool true] :: rarr (mulP y y) :: rarr 1 :: rarr (subP (mulP y y) 1) :: rarr dN :: rarr (mulP y y) :: rarr (mulP dN (mulP y y)) :: rarr 1 :: rarr (addP (mulP dN (mulP y y)) 1) :: rarr (mulP (subP (mulP y y) 1) (invE (addP (mulP dN (mulP y y)) 1))) :: .tuple #[rarr rt, .bool true] :: rarr rt :: .bool true :: .bool true :: .bool false :: .bool false :: .bool false :: .bool false :: un :: un :: un :: .bool false :: .bool false :: un :: .bool false :: un :: un :: rarr rt :: rarr y :: .agg (rq (mdQ rt y)) :: List.replicate 0 un).toArray, []⟩) (by kernel_rfl) ?_
  refine wp_ret ?_
  repeat first | refine then_ret ?_ | refine block_ret ?_
  have hB : Blk w23 q4 34 (rq (mdQ rt y)) := h24.get 2 rfl
  exact bodyPost_ret (v := .tuple #[.agg (rq (mdQ rt y)), .bool true]) (res34b (p := 4) (r := 5) (mdQ rt y) (by kernel_rfl) (by kernel_rfl) (by kernel_rfl) hB) rfl ⟨rfl, h24.old⟩

set_option linter.unusedVariables false in
set_option maxRecDepth 100000 in
set_option maxHeartbeats 2000000 in
theorem rof_yes_odd (y : Nat) (hy : y < P) (rt : Nat) (hrt : rt < P) (hroot : rootP (bsq y) = some rt) (hz : ¬ rt = 0) (w : World) :
    Calls Tryd.prog 46 #[rarr y, .bool true] w fun e w' => e = .returned (.tuple #[.agg (rq (mdQ (negP rt) y)), .bool true]) ∧ Below w.heap.size w w' := by
  have H0 := HA.start w
  go_enter Tryd.func46, Tryd.ntmps46
  refine wp_seq ?_
  refine wl_region ?_
  refine wl_make H0 32 (by kernel_rfl) (run_box32 (c := rl y) (by kernel_rfl)) ?_
  intro q1 w2 h3
  refine wl_make h3 34 (by kernel_rfl) run_alloc34 ?_
  intro q4 w5 h6
  refine wl_val (.bool false) (by kernel_rfl) (by kernel_rfl) ?_
  refine wl_nil ?_
  refine then_at (F := ⟨(rarr y :: .bool true :: pt q1 :: un :: pt q4 :: .bool false :: List.replicate 36 un).toArray, []⟩) (by kernel_rfl) ?_
  refine wp_seq ?_
  refine wl_region ?_
  refine wl_load h6 1 rfl (by kernel_rfl) (by kernel_rfl) Tryd.underlying32 rfl (info_rl y) ?_
  refine wl_load h6 1 rfl (by kernel_rfl) (by kernel_rfl) Tryd.underlying32 rfl (info_rl y) ?_
  refine wl_call (v := rarr (mulP y y)) h6 (by kernel_rfl) enter52 #[rarr y, rarr y] (by kernel_rfl) (wmul_any y y hy hy w5) ?_
  intro w7 h8
  refine wl_make h8 32 (by kernel_rfl) run_alloc32 ?_
  intro q9 w10 h11
  refine wl_fill (c' := rl (mulP y y)) h11 0 rfl (by kernel_rfl) (by kernel_rfl) (by kernel_rfl) (rl_sz (mulP y y) 0) (info_rl (mulP y y)) (one_rl (mulP y y)) ?_
  intro w12 (h13 : HA w [(q9, 32, rl (mulP y y)), (q4, 34, rq (Q4.mk 0 0 0 0)), (q1, 32, rl y)] w12)
  refine wl_nil ?_
  refine then_at (F := ⟨(rarr y :: .bool true :: pt q1 :: un :: pt q4 :: .bool false :: pt q9 :: un :: un :: rarr y :: rarr y :: rarr (mulP y y) :: List.replicate 30 un).toArray, []⟩) (by kernel_rfl) ?_
  refine wp_seq ?_
  obtain ⟨B14, eB14⟩ : ∃ B, B = w12.heap.size := ⟨_, rfl⟩
  refine wp_region_ghost (fun g : Nat → Nat => (⟨(rarr y :: .bool true :: pt q1 :: un :: pt q4 :: .bool false :: pt q9 :: pt (g 13) :: .bool true :: rarr y :: rarr y :: rarr (mulP y y) :: .tuple #[rarr rt, .bool true] :: rarr (mulP y y) :: rarr 1 :: rarr (subP (mulP y y) 1) :: rarr dN :: rarr (mulP y y) :: rarr (mulP dN (mulP y y)) :: rarr 1 :: rarr (addP (mulP dN (mulP y y)) 1) :: rarr (mulP (subP (mulP y y) 1) (invE (addP (mulP dN (mulP y y)) 1))) :: .tuple #[rarr rt, .bool true] :: rarr rt :: .bool true :: List.replicate 17 un).toArray, []⟩ : Act)) (GS w [(q9, 32, rl (mulP y y)), (q4, 34, rq (Q4.mk 0 0 0 0)), (q1, 32, rl y)] B14 1 13 14 32 (rl 0) (fun _ => rl rt)) [rarr (mulP y y), rarr 1, rarr (subP (mulP y y) 1), rarr dN, rarr (mulP y y), rarr (mulP dN (mulP y y)), rarr 1, rarr (addP (mulP dN (mulP y y)) 1), rarr (mulP (subP (mulP y y) 1) (invE (addP (mulP dN (mulP y y)) 1))), .tuple #[rarr rt, .bool true], .tuple #[rarr rt, .bool true], rarr rt, .bool true, .pointer (some ⟨0, 0, none⟩), undef, .bool true] (by kernel_rfl) (by kernel_rfl) (by kernel_rfl) (by kernel_rfl) (fun _ _ _ _ h => h) (fun d hd => GS.start h13.drew eB14 (by decide) (fun _ _ => (rl_sz _ _)) (fun j hj => hd j (Nat.lt_of_lt_of_le hj (by decide)))) ?_ ?_
  · refine AllGhost.cons (ghost_load 0 rfl (by decide) (fun _ => by kernel_rfl) (fun _ => by kernel_rfl) (fun _ => by kernel_rfl) Tryd.underlying32 rfl (info_rl (mulP y y))) ?_
    refine AllGhost.cons (ghost_call (v := rarr 1) (by decide) (fun _ => by kernel_rfl) (fun _ => by kernel_rfl) enter67 #[iN .u32 1] (fun _ => by kernel_rfl) (fun w' h' => wsmall_any 1 (by decide) w')) ?_
    refine AllGhost.cons (ghost_call (v := rarr (subP (mulP y y) 1)) (by decide) (fun _ => by kernel_rfl) (fun _ => by kernel_rfl) enter69 #[rarr (mulP y y), rarr 1] (fun _ => by kernel_rfl) (fun w' h' => wsub_any (mulP y y) 1 (mulP_lt _ _) (by decide) w')) ?_
    refine AllGhost.cons (ghost_call (v := rarr dN) (by decide) (fun _ => by kernel_rfl) (fun _ => by kernel_rfl) enter59 #[] (fun _ => by kernel_rfl) (fun w' h' => D_any w')) ?_
    refine AllGhost.cons (ghost_load 0 rfl (by decide) (fun _ => by kernel_rfl) (fun _ => by kernel_rfl) (fun _ => by kernel_rfl) Tryd.underlying32 rfl (info_rl (mulP y y))) ?_
    refine AllGhost.cons (ghost_call (v := rarr (mulP dN (mulP y y))) (by decide) (fun _ => by kernel_rfl) (fun _ => by kernel_rfl) enter52 #[rarr dN, rarr (mulP y y)] (fun _ => by kernel_rfl) (fun w' h' => wmul_any dN (mulP y y) dN_lt (mulP_lt _ _) w')) ?_
    refine AllGhost.cons (ghost_call (v := rarr 1) (by decide) (fun _ => by kernel_rfl) (fun _ => by kernel_rfl) enter67 #[iN .u32 1] (fun _ => by kernel_rfl) (fun w' h' => wsmall_any 1 (by decide) w')) ?_
    refine AllGhost.cons (ghost_call (v := rarr (addP (mulP dN (mulP y y)) 1)) (by decide) (fun _ => by kernel_rfl) (fun _ => by kernel_rfl) enter68 #[rarr (mulP dN (mulP y y)), rarr 1] (fun _ => by kernel_rfl) (fun w' h' => wadd_any (mulP dN (mulP y y)) 1 (mulP_lt _ _) (by decide) w')) ?_
    refine AllGhost.cons (ghost_call (v := rarr (mulP (subP (mulP y y) 1) (invE (addP (mulP dN (mulP y y)) 1)))) (by decide) (fun _ => by kernel_rfl) (fun _ => by kernel_rfl) enter70 #[rarr (subP (mulP y y) 1), rarr (addP (mulP dN (mulP y y)) 1)] (fun _ => by kernel_rfl) (fun w' h' => wover_any (subP (mulP y y) 1) (addP (mulP dN (mulP y y)) 1) (subP_lt _ _) (addP_lt _ _) w')) ?_
    refine AllGhost.cons (ghost_call (v := .tuple #[rarr rt, .bool true]) (by decide) (fun _ => by kernel_rfl) (fun _ => by kernel_rfl) enter86 #[rarr (mulP (subP (mulP y y) 1) (invE (addP (mulP dN (mulP y y)) 1)))] (fun _ => by kernel_rfl) (fun w' h' => rroot_yes (mulP (subP (mulP y y) 1) (invE (addP (mulP dN (mulP y y)) 1))) rt (mulP_lt _ _) (by rw [show mulP (subP (mulP y y) 1) (invE (addP (mulP dN (mulP y y)) 1)) = bsq y from rsq_is y]; exact hroot) w')) ?_
    refine AllGhost.cons (ghost_plain (v := .tuple #[rarr rt, .bool true]) (by decide) (fun _ => by kernel_rfl) (fun _ => by kernel_rfl) (fun _ _ => (by kernel_rfl))) ?_
    refine AllGhost.cons (ghost_plain (v := rarr rt) (by decide) (fun _ => by kernel_rfl) (fun _ => by kernel_rfl) (fun _ _ => (by kernel_rfl))) ?_
    refine AllGhost.cons (ghost_plain (v := .bool true) (by decide) (fun _ => by kernel_rfl) (fun _ => by kernel_rfl) (fun _ _ => (by kernel_rfl))) ?_
    refine AllGhost.cons (ghost_make 0 (by decide) rfl (fun _ => by kernel_rfl) (fun _ _ => by kernel_rfl) (fun _ _ => run_alloc32)) ?_
    refine AllGhost.cons (ghost_fill 0 (by decide) rfl (fun _ => by kernel_rfl) (fun _ => by kernel_rfl) (fun _ => by kernel_rfl) (fun _ => by kernel_rfl) (info_rl rt) (one_rl rt) (by kernel_rfl)) ?_
    refine AllGhost.cons (ghost_plain (v := .bool true) (by decide) (fun _ => by kernel_rfl) (fun _ => by kernel_rfl) (fun _ _ => (by kernel_rfl))) ?_
    exact AllGhost.nil
  intro g w15 g16
  have h17 : HA w [(g 13, 32, rl rt), (q9, 32, rl (mulP y y)), (q4, 34, rq (Q4.mk 0 0 0 0)), (q1, 32, rl y)] w15 := g16.one
  clear g16 eB14
  generalize g 13 = q18 at h17 ⊢
  clear g
  refine then_at (F := ⟨(rarr y :: .bool true :: pt q1 :: un :: pt q4 :: .bool false :: pt q9 :: pt q18 :: .bool true :: rarr y :: rarr y :: rarr (mulP y y) :: .tuple #[rarr rt, .bool true] :: rarr (mulP y y) :: rarr 1 :: rarr (subP (mulP y y) 1) :: rarr dN :: rarr (mulP y y) :: rarr (mulP dN (mulP y y)) :: rarr 1 :: rarr (addP (mulP dN (mulP y y)) 1) :: rarr (mulP (subP (mulP y y) 1) (invE (addP (mulP dN (mulP y y)) 1))) :: .tuple #[rarr rt, .bool true] :: rarr rt :: .bool true :: List.replicate 17 un).toArray, []⟩) (by kernel_rfl) ?_
  refine wp_seq ?_
  refine wp_seq ?_
  refine wp_region_sure ⟨(rarr y :: .bool true :: pt q1 :: un :: pt q4 :: .bool false :: pt q9 :: pt q18 :: .bool true :: rarr y :: rarr y :: rarr (mulP y y) :: .tuple #[rarr rt, .bool true] :: rarr (mulP y y) :: rarr 1 :: rarr (subP (mulP y y) 1) :: rarr dN :: rarr (mulP y y) :: rarr (mulP dN (mulP y y)) :: rarr 1 :: rarr (addP (mulP dN (mulP y y)) 1) :: rarr (mulP (subP (mulP y y) 1) (invE (addP (mulP dN (mulP y y)) 1))) :: .tuple #[rarr rt, .bool true] :: rarr rt :: .bool true :: .bool true :: .bool false :: .bool false :: .bool true :: .bool true :: rarr rt :: rarr 0 :: .bool false :: .bool false :: .bool false :: List.replicate 7 un).toArray, []⟩ (HA w [(q18, 32, rl rt), (q9, 32, rl (mulP y y)), (q4, 34, rq (Q4.mk 0 0 0 0)), (q1, 32, rl y)]) [.bool true, .bool false, .bool false, .bool true, .bool true, rarr rt, rarr 0, .bool false, .bool false, .bool false] (by kernel_rfl) (by kernel_rfl) (by kernel_rfl) (by kernel_rfl) (fun _ _ _ h => h) h17.drew ?_ ?_
  · refine AllSure.cons (OpSure.take (v := .bool true) (by kernel_rfl) (by kernel_rfl) (fun _ _ => (by kernel_rfl))) ?_
    refine AllSure.cons (OpSure.take (v := .bool false) (by kernel_rfl) (by kernel_rfl) (fun _ _ => (by kernel_rfl))) ?_
    refine AllSure.cons (OpSure.take (v := .bool false) (by kernel_rfl) (by kernel_rfl) (fun _ _ => (by kernel_rfl))) ?_
    refine AllSure.cons (OpSure.take (v := .bool true) (by kernel_rfl) (by kernel_rfl) (fun _ _ => (by kernel_rfl))) ?_
    refine AllSure.cons (OpSure.take (v := .bool true) (by kernel_rfl) (by kernel_rfl) (fun _ _ => (by kernel_rfl))) ?_
    refine AllSure.cons (OpSure.take (v := rarr rt) (by kernel_rfl) (by kernel_rfl) (fun _ h => run_load_blk (by kernel_rfl) (h.get 0 rfl) Tryd.underlying32 rfl (info_rl rt))) ?_
    refine AllSure.cons (sure_call (v := rarr 0) (by kernel_rfl) (by kernel_rfl) enter67 HA.keep #[iN .u32 0] (by kernel_rfl) (fun w' h' => wsmall_any 0 (by decide) w')) ?_
    refine AllSure.cons (OpSure.take (v := .bool false) (by kernel_rfl) (by kernel_rfl) (fun _ _ => (run_eq32 rt 0 (Nat.lt_trans hrt P_lt16) (Nat.lt_trans (by decide) P_lt16) (by kernel_rfl) (by kernel_rfl) false (decide_eq_false hz)))) ?_
    refine AllSure.cons (OpSure.take (v := .bool false) (by kernel_rfl) (by kernel_rfl) (fun _ _ => (by kernel_rfl))) ?_
    refine AllSure.cons (OpSure.take (v := .bool false) (by kernel_rfl) (by kernel_rfl) (fun _ _ => (by kernel_rfl))) ?_
    exact AllSure.nil
  intro w19 h20
  refine then_at (F := ⟨(rarr y :: .bool true :: pt q1 :: un :: pt q4 :: .bool false :: pt q9 :: pt q18 :: .bool true :: rarr y :: rarr y :: rarr (mulP y y) :: .tuple #[rarr rt, .bool true] :: rarr (mulP y y) :: rarr 1 :: rarr (subP (mulP y y) 1) :: rarr dN :: rarr (mulP y y) :: rarr (mulP dN (mulP y y)) :: rarr 1 :: rarr (addP (mulP dN (mulP y y)) 1) :: rarr (mulP (subP (mulP y y) 1) (invE (addP (mulP dN (mulP y y)) 1))) :: .tuple #[rarr rt, .bool true] :: rarr rt :: .bool true :: .bool true :: .bool false :: .bool false :: .bool true :: .bool true :: rarr rt :: rarr 0 :: .bool false :: .bool false :: .bool false :: List.replicate 7 un).toArray, []⟩) (by kernel_rfl) ?_
  refine wp_cond_false (by kernel_rfl) ?_
  refine wp_skip ?_
  refine then_at (F := ⟨(rarr y :: .bool true :: pt q1 :: un :: pt q4 :: .bool false :: pt q9 :: pt q18 :: .bool true :: rarr y :: rarr y :: rarr (mulP y y) :: .tuple #[rarr rt, .bool true] :: rarr (mulP y y) :: rarr 1 :: rarr (subP (mulP y y) 1) :: rarr dN :: rarr (mulP y y) :: rarr (mulP dN (mulP y y)) :: rarr 1 :: rarr (addP (mulP dN (mulP y y)) 1) :: rarr (mulP (subP (mulP y y) 1) (invE (addP (mulP dN (mulP y y)) 1))) :: .tuple #[rarr rt, .bool true] :: rarr rt :: .bool true :: .bool true :: .bool false :: .bool false :: .bool true :: .bool true :: rarr rt :: rarr 0 :: .bool false :: .bool false :: .bool false :: List.replicate 7 un).toArray, []⟩) (by kernel_rfl) ?_
  refine wp_seq ?_
  refine wp_seq ?_
  refine wl_region ?_
  refine wl_val (.bool true) (by kernel_rfl) (by kernel_rfl) ?_
  refine wl_nil ?_
  refine then_at (F := ⟨(rarr y :: .bool true :: pt q1 :: un :: pt q4 :: .bool false :: pt q9 :: pt q18 :: .bool true :: rarr y :: rarr y :: rarr (mulP y y) :: .tuple #[rarr rt, .bool true] :: rarr (mulP y y) :: rarr 1 :: rarr (subP (mulP y y) 1) :: rarr dN :: rarr (mulP y y) :: rarr (mulP dN (mulP y y)) :: rarr 1 :: rarr (addP (mulP dN (mulP y y)) 1) :: rarr (mulP (subP (mulP y y) 1) (invE (addP (mulP dN (mulP y y)) 1))) :: .tuple #[rarr rt, .bool true] :: rarr rt :: .bool true :: .bool true :: .bool false :: .bool false :: .bool true :: .bool true :: rarr rt :: rarr 0 :: .bool false :: .bool false :: .bool false :: un :: .bool true :: List.replicate 5 un).toArray, []⟩) (by kernel_rfl) ?_
  refine wp_cond_true (by kernel_rfl) ?_
  refine wl_region ?_
  refine wl_load h20 0 rfl (by kernel_rfl) (by kernel_rfl) Tryd.underlying32 rfl (info_rl rt) ?_
  refine wl_call (v := rarr (negP rt)) h20 (by kernel_rfl) enter60 #[rarr rt] (by kernel_rfl) (rneg_any rt hrt w19) ?_
  intro w21 h22
  refine wl_fill (c' := rl (negP rt)) h22 0 rfl (by kernel_rfl) (by kernel_rfl) (by kernel_rfl) (rl_sz (negP rt) rt) (info_rl (negP rt)) (one_rl (negP rt)) ?_
  intro w23 (h24 : HA w [(q18, 32, rl (negP rt)), (q9, 32, rl (mulP y y)), (q4, 34, rq (Q4.mk 0 0 0 0)), (q1, 32, rl y)] w23)
  refine wl_nil ?_
  refine then_at (F := ⟨(rarr y :: .bool true :: pt q1 :: un :: pt q4 :: .bool false :: pt q9 :: pt q18 :: .bool true :: rarr y :: rarr y :: rarr (mulP y y) :: .tuple #[rarr rt, .bool true] :: rarr (mulP y y) :: rarr 1 :: rarr (subP (mulP y y) 1) :: rarr dN :: rarr (mulP y y) :: rarr (mulP dN (mulP y y)) :: rarr 1 :: rarr (addP (mulP dN (mulP y y)) 1) :: rarr (mulP (subP (mulP y y) 1) (invE (addP (mulP dN (mulP y y)) 1))) :: .tuple #[rarr rt, .bool true] :: rarr rt :: .bool true :: .bool true :: .bool false :: .bool false :: .bool true :: .bool true :: rarr rt :: rarr 0 :: .bool false :: .bool false :: .bool false :: un :: .bool true :: rarr rt :: rarr (negP rt) :: List.replicate 3 un).toArray, []⟩) (by kernel_rfl) ?_
  refine wp_seq ?_
  refine wl_region ?_
  refine wl_load h24 0 rfl (by kernel_rfl) (by kernel_rfl) Tryd.underlying32 rfl (info_rl (negP rt)) ?_
  refine wl_load h24 3 rfl (by kernel_rfl) (by kernel_rfl) Tryd.underlying32 rfl (info_rl y) ?_
  refine wl_call (v := .agg (rq (mdQ (negP rt) y))) h24 (by kernel_rfl) enter83 #[rarr (negP rt), rarr y] (by kernel_rfl) (made_any (negP rt) y (negP_lt _) hy w23) ?_
  intro w25 h26
  refine wl_fill (c' := rq (mdQ (negP rt) y)) h26 2 rfl (by kernel_rfl) (by kernel_rfl) (by kernel_rfl) (rq_sz (mdQ (negP rt) y) (Q4.mk 0 0 0 0)) (info34q (mdQ (negP rt) y)) (one_rq (mdQ (negP rt) y)) ?_
  intro w27 (h28 : HA w [(q18, 32, rl (negP rt)), (q9, 32, rl (mulP y y)), (q4, 34, rq (mdQ (negP rt) y)), (q1, 32, rl y)] w27)
  refine wl_val (.bool true) (by kernel_rfl) (by kernel_rfl) ?_
  refine wl_nil ?_
  refine then_at (F := ⟨(rarr y :: .bool true :: pt q1 :: un :: pt q4 :: .bool true :: pt q9 :: pt q18 :: .bool true :: rarr y :: rarr y :: rarr (mulP y y) :: .tuple #[rarr rt, .bool true] :: rarr (mulP y y) :: rarr 1 :: rarr (subP (mulP y y) 1) :: rarr dN :: rarr (mulP y y) :: rarr (mulP dN (mulP y y)) :: rarr 1 :: rarr (addP (mulP dN (mulP y y)) 1) :: rarr (mulP (subP (mulP y y) 1) (invE (addP (mulP dN (mulP y y)) 1))) :: .tuple #[rarr rt, .bool true] :: rarr rt :: .bool true :: .bool true :: .bool false :: .bool false :: .bool true :: .bool true :: rarr rt :: rarr 0 :: .bool false :: .bool false :: .bool false :: un :: .bool true :: rarr rt :: rarr (negP rt) :: rarr (negP rt) :: rarr y :: .agg (rq (mdQ (negP rt) y)) :: List.replicate 0 un).toArray, []⟩) (by kernel_rfl) ?_
  refine wp_ret ?_
  repeat first | refine then_ret ?_ | refine block_ret ?_
  have hB : Blk w27 q4 34 (rq (mdQ (negP rt) y)) := h28.get 2 rfl
  exact bodyPost_ret (v := .tuple #[.agg (rq (mdQ (negP rt) y)), .bool true]) (res34b (p := 4) (r := 5) (mdQ (negP rt) y) (by kernel_rfl) (by kernel_rfl) (by kernel_rfl) hB) rfl ⟨rfl, h28.old⟩

set_option linter.unusedVariables false in
set_option maxRecDepth 100000 in
set_option maxHeartbeats 2000000 in
theorem rof_no_zero (y : Nat) (hy : y < P) (rt : Nat) (hrt : rt < P) (hroot : rootP (bsq y) = some rt) (hz : rt = 0) (w : World) :
    Calls Tryd.prog 46 #[rarr y, .bool true] w fun e w' => e = .returned (.tuple #[.agg (rq (mdQ 0 1)), .bool false]) ∧ Below w.heap.size w w' := by
  have H0 := HA.start w
  go_enter Tryd.func46, Tryd.ntmps46
  refine wp_seq ?_
  refine wl_region ?_
  refine wl_make H0 32 (by kernel_rfl) (run_box32 (c := rl y) (by kernel_rfl)) ?_
  intro q1 w2 h3
  refine wl_make h3 34 (by kernel_rfl) run_alloc34 ?_
  intro q4 w5 h6
  refine wl_val (.bool false) (by kernel_rfl) (by kernel_rfl) ?_
  refine wl_nil ?_
  refine then_at (F := ⟨(rarr y :: .bool true :: pt q1 :: un :: pt q4 :: .bool false :: List.replicate 36 un).toArray, []⟩) (by kernel_rfl) ?_
  refine wp_seq ?_
  refine wl_region ?_
  refine wl_load h6 1 rfl (by kernel_rfl) (by kernel_rfl) Tryd.underlying32 rfl (info_rl y) ?_
  refine wl_load h6 1 rfl (by kernel_rfl) (by kernel_rfl) Tryd.underlying32 rfl (info_rl y) ?_
  refine wl_call (v := rarr (mulP y y)) h6 (by kernel_rfl) enter52 #[rarr y, rarr y] (by kernel_rfl) (wmul_any y y hy hy w5) ?_
  intro w7 h8
  refine wl_make h8 32 (by kernel_rfl) run_alloc32 ?_
  intro q9 w10 h11
  refine wl_fill (c' := rl (mulP y y)) h11 0 rfl (by kernel_rfl) (by kernel_rfl) (by kernel_rfl) (rl_sz (mulP y y) 0) (info_rl (mulP y y)) (one_rl (mulP y y)) ?_
  intro w12 (h13 : HA w [(q9, 32, rl (mulP y y)), (q4, 34, rq (Q4.mk 0 0 0 0)), (q1, 32, rl y)] w12)
  refine wl_nil ?_
  refine then_at (F := ⟨(rarr y :: .bool true :: pt q1 :: un :: pt q4 :: .bool false :: pt q9 :: un :: un :: rarr y :: rarr y :: rarr (mulP y y) :: List.replicate 30 un).toArray, []⟩) (by kernel_rfl) ?_
  refine wp_seq ?_
  obtain ⟨B14, eB14⟩ : ∃ B, B = w12.heap.size := ⟨_, rfl⟩
  refine wp_region_ghost (fun g : Nat → Nat => (⟨(rarr y :: .bool true :: pt q1 :: un :: pt q4 :: .bool false :: pt q9 :: pt (g 13) :: .bool true :: rarr y :: rarr y :: rarr (mulP y y) :: .tuple #[rarr rt, .bool true] :: rarr (mulP y y) :: rarr 1 :: rarr (subP (mulP y y) 1) :: rarr dN :: rarr (mulP y y) :: rarr (mulP dN (mulP y y)) :: rarr 1 :: rarr (addP (mulP dN (mulP y y)) 1) :: rarr (mulP (subP (mulP y y) 1) (invE (addP (mulP dN (mulP y y)) 1))) :: .tuple #[rarr rt, .bool true] :: rarr rt :: .bool true :: List.replicate 17 un).toArray, []⟩ : Act)) (GS w [(q9, 32, rl (mulP y y)), (q4, 34, rq (Q4.mk 0 0 0 0)), (q1, 32, rl y)] B14 1 13 14 32 (rl 0) (fun _ => rl rt)) [rarr (mulP y y), rarr 1, rarr (subP (mulP y y) 1), rarr dN, rarr (mulP y y), rarr (mulP dN (mulP y y)), rarr 1, rarr (addP (mulP dN (mulP y y)) 1), rarr (mulP (subP (mulP y y) 1) (invE (addP (mulP dN (mulP y y)) 1))), .tuple #[rarr rt, .bool true], .tuple #[rarr rt, .bool true], rarr rt, .bool true, .pointer (some ⟨0, 0, none⟩), undef, .bool true] (by kernel_rfl) (by kernel_rfl) (by kernel_rfl) (by kernel_rfl) (fun _ _ _ _ h => h) (fun d hd => GS.start h13.drew eB14 (by decide) (fun _ _ => (rl_sz _ _)) (fun j hj => hd j (Nat.lt_of_lt_of_le hj (by decide)))) ?_ ?_
  · refine AllGhost.cons (ghost_load 0 rfl (by decide) (fun _ => by kernel_rfl) (fun _ => by kernel_rfl) (fun _ => by kernel_rfl) Tryd.underlying32 rfl (info_rl (mulP y y))) ?_
    refine AllGhost.cons (ghost_call (v := rarr 1) (by decide) (fun _ => by kernel_rfl) (fun _ => by kernel_rfl) enter67 #[iN .u32 1] (fun _ => by kernel_rfl) (fun w' h' => wsmall_any 1 (by decide) w')) ?_
    refine AllGhost.cons (ghost_call (v := rarr (subP (mulP y y) 1)) (by decide) (fun _ => by kernel_rfl) (fun _ => by kernel_rfl) enter69 #[rarr (mulP y y), rarr 1] (fun _ => by kernel_rfl) (fun w' h' => wsub_any (mulP y y) 1 (mulP_lt _ _) (by decide) w')) ?_
    refine AllGhost.cons (ghost_call (v := rarr dN) (by decide) (fun _ => by kernel_rfl) (fun _ => by kernel_rfl) enter59 #[] (fun _ => by kernel_rfl) (fun w' h' => D_any w')) ?_
    refine AllGhost.cons (ghost_load 0 rfl (by decide) (fun _ => by kernel_rfl) (fun _ => by kernel_rfl) (fun _ => by kernel_rfl) Tryd.underlying32 rfl (info_rl (mulP y y))) ?_
    refine AllGhost.cons (ghost_call (v := rarr (mulP dN (mulP y y))) (by decide) (fun _ => by kernel_rfl) (fun _ => by kernel_rfl) enter52 #[rarr dN, rarr (mulP y y)] (fun _ => by kernel_rfl) (fun w' h' => wmul_any dN (mulP y y) dN_lt (mulP_lt _ _) w')) ?_
    refine AllGhost.cons (ghost_call (v := rarr 1) (by decide) (fun _ => by kernel_rfl) (fun _ => by kernel_rfl) enter67 #[iN .u32 1] (fun _ => by kernel_rfl) (fun w' h' => wsmall_any 1 (by decide) w')) ?_
    refine AllGhost.cons (ghost_call (v := rarr (addP (mulP dN (mulP y y)) 1)) (by decide) (fun _ => by kernel_rfl) (fun _ => by kernel_rfl) enter68 #[rarr (mulP dN (mulP y y)), rarr 1] (fun _ => by kernel_rfl) (fun w' h' => wadd_any (mulP dN (mulP y y)) 1 (mulP_lt _ _) (by decide) w')) ?_
    refine AllGhost.cons (ghost_call (v := rarr (mulP (subP (mulP y y) 1) (invE (addP (mulP dN (mulP y y)) 1)))) (by decide) (fun _ => by kernel_rfl) (fun _ => by kernel_rfl) enter70 #[rarr (subP (mulP y y) 1), rarr (addP (mulP dN (mulP y y)) 1)] (fun _ => by kernel_rfl) (fun w' h' => wover_any (subP (mulP y y) 1) (addP (mulP dN (mulP y y)) 1) (subP_lt _ _) (addP_lt _ _) w')) ?_
    refine AllGhost.cons (ghost_call (v := .tuple #[rarr rt, .bool true]) (by decide) (fun _ => by kernel_rfl) (fun _ => by kernel_rfl) enter86 #[rarr (mulP (subP (mulP y y) 1) (invE (addP (mulP dN (mulP y y)) 1)))] (fun _ => by kernel_rfl) (fun w' h' => rroot_yes (mulP (subP (mulP y y) 1) (invE (addP (mulP dN (mulP y y)) 1))) rt (mulP_lt _ _) (by rw [show mulP (subP (mulP y y) 1) (invE (addP (mulP dN (mulP y y)) 1)) = bsq y from rsq_is y]; exact hroot) w')) ?_
    refine AllGhost.cons (ghost_plain (v := .tuple #[rarr rt, .bool true]) (by decide) (fun _ => by kernel_rfl) (fun _ => by kernel_rfl) (fun _ _ => (by kernel_rfl))) ?_
    refine AllGhost.cons (ghost_plain (v := rarr rt) (by decide) (fun _ => by kernel_rfl) (fun _ => by kernel_rfl) (fun _ _ => (by kernel_rfl))) ?_
    refine AllGhost.cons (ghost_plain (v := .bool true) (by decide) (fun _ => by kernel_rfl) (fun _ => by kernel_rfl) (fun _ _ => (by kernel_rfl))) ?_
    refine AllGhost.cons (ghost_make 0 (by decide) rfl (fun _ => by kernel_rfl) (fun _ _ => by kernel_rfl) (fun _ _ => run_alloc32)) ?_
    refine AllGhost.cons (ghost_fill 0 (by decide) rfl (fun _ => by kernel_rfl) (fun _ => by kernel_rfl) (fun _ => by kernel_rfl) (fun _ => by kernel_rfl) (info_rl rt) (one_rl rt) (by kernel_rfl)) ?_
    refine AllGhost.cons (ghost_plain (v := .bool true) (by decide) (fun _ => by kernel_rfl) (fun _ => by kernel_rfl) (fun _ _ => (by kernel_rfl))) ?_
    exact AllGhost.nil
  intro g w15 g16
  have h17 : HA w [(g 13, 32, rl rt), (q9, 32, rl (mulP y y)), (q4, 34, rq (Q4.mk 0 0 0 0)), (q1, 32, rl y)] w15 := g16.one
  clear g16 eB14
  generalize g 13 = q18 at h17 ⊢
  clear g
  refine then_at (F := ⟨(rarr y :: .bool true :: pt q1 :: un :: pt q4 :: .bool false :: pt q9 :: pt q18 :: .bool true :: rarr y :: rarr y :: rarr (mulP y y) :: .tuple #[rarr rt, .bool true] :: rarr (mulP y y) :: rarr 1 :: rarr (subP (mulP y y) 1) :: rarr dN :: rarr (mulP y y) :: rarr (mulP dN (mulP y y)) :: rarr 1 :: rarr (addP (mulP dN (mulP y y)) 1) :: rarr (mulP (subP (mulP y y) 1) (invE (addP (mulP dN (mulP y y)) 1))) :: .tuple #[rarr rt, .bool true] :: rarr rt :: .bool true :: List.replicate 17 un).toArray, []⟩) (by kernel_rfl) ?_
  refine wp_seq ?_
  refine wp_seq ?_
  refine wp_region_sure ⟨(rarr y :: .bool true :: pt q1 :: un :: pt q4 :: .bool false :: pt q9 :: pt q18 :: .bool true :: rarr y :: rarr y :: rarr (mulP y y) :: .tuple #[rarr rt, .bool true] :: rarr (mulP y y) :: rarr 1 :: rarr (subP (mulP y y) 1) :: rarr dN :: rarr (mulP y y) :: rarr (mulP dN (mulP y y)) :: rarr 1 :: rarr (addP (mulP dN (mulP y y)) 1) :: rarr (mulP (subP (mulP y y) 1) (invE (addP (mulP dN (mulP y y)) 1))) :: .tuple #[rarr rt, .bool true] :: rarr rt :: .bool true :: .bool true :: .bool false :: .bool false :: .bool true :: .bool true :: rarr rt :: rarr 0 :: .bool true :: .bool true :: .bool true :: List.replicate 7 un).toArray, []⟩ (HA w [(q18, 32, rl rt), (q9, 32, rl (mulP y y)), (q4, 34, rq (Q4.mk 0 0 0 0)), (q1, 32, rl y)]) [.bool true, .bool false, .bool false, .bool true, .bool true, rarr rt, rarr 0, .bool true, .bool true, .bool true] (by kernel_rfl) (by kernel_rfl) (by kernel_rfl) (by kernel_rfl) (fun _ _ _ h => h) h17.drew ?_ ?_
  · refine AllSure.cons (OpSure.take (v := .bool true) (by kernel_rfl) (by kernel_rfl) (fun _ _ => (by kernel_rfl))) ?_
    refine AllSure.cons (OpSure.take (v := .bool false) (by kernel_rfl) (by kernel_rfl) (fun _ _ => (by kernel_rfl))) ?_
    refine AllSure.cons (OpSure.take (v := .bool false) (by kernel_rfl) (by kernel_rfl) (fun _ _ => (by kernel_rfl))) ?_
    refine AllSure.cons (OpSure.take (v := .bool true) (by kernel_rfl) (by kernel_rfl) (fun _ _ => (by kernel_rfl))) ?_
    refine AllSure.cons (OpSure.take (v := .bool true) (by kernel_rfl) (by kernel_rfl) (fun _ _ => (by kernel_rfl))) ?_
    refine AllSure.cons (OpSure.take (v := rarr rt) (by kernel_rfl) (by kernel_rfl) (fun _ h => run_load_blk (by kernel_rfl) (h.get 0 rfl) Tryd.underlying32 rfl (info_rl rt))) ?_
    refine AllSure.cons (sure_call (v := rarr 0) (by kernel_rfl) (by kernel_rfl) enter67 HA.keep #[iN .u32 0] (by kernel_rfl) (fun w' h' => wsmall_any 0 (by decide) w')) ?_
    refine AllSure.cons (OpSure.take (v := .bool true) (by kernel_rfl) (by kernel_rfl) (fun _ _ => (run_eq32 rt 0 (Nat.lt_trans hrt P_lt16) (Nat.lt_trans (by decide) P_lt16) (by kernel_rfl) (by kernel_rfl) true (decide_eq_true hz)))) ?_
    refine AllSure.cons (OpSure.take (v := .bool true) (by kernel_rfl) (by kernel_rfl) (fun _ _ => (by kernel_rfl))) ?_
    refine AllSure.cons (OpSure.take (v := .bool true) (by kernel_rfl) (by kernel_rfl) (fun _ _ => (by kernel_rfl))) ?_
    exact AllSure.nil
  intro w19 h20
  refine then_at (F := ⟨(rarr y :: .bool true :: pt q1 :: un :: pt q4 :: .bool false :: pt q9 :: pt q18 :: .bool true :: rarr y :: rarr y :: rarr (mulP y y) :: .tuple #[rarr rt, .bool true] :: rarr (mulP y y) :: rarr 1 :: rarr (subP (mulP y y) 1) :: rarr dN :: rarr (mulP y y) :: rarr (mulP dN (mulP y y)) :: rarr 1 :: rarr (addP (mulP dN (mulP y y)) 1) :: rarr (mulP (subP (mulP y y) 1) (invE (addP (mulP dN (mulP y y)) 1))) :: .tuple #[rarr rt, .bool true] :: rarr rt :: .bool true :: .bool true :: .bool false :: .bool false :: .bool true :: .bool true :: rarr rt :: rarr 0 :: .bool true :: .bool true :: .bool true :: List.replicate 7 un).toArray, []⟩) (by kernel_rfl) ?_
  refine wp_cond_true (by kernel_rfl) ?_
  refine wp_seq ?_
  refine wl_region ?_
  refine wl_call (v := .agg (rq (mdQ 0 1))) h20 (by kernel_rfl) enter44 #[] (by kernel_rfl) (rNone_any w19) ?_
  intro w21 h22
  refine wl_fill (c' := rq (mdQ 0 1)) h22 2 rfl (by kernel_rfl) (by kernel_rfl) (by kernel_rfl) (rq_sz (mdQ 0 1) (Q4.mk 0 0 0 0)) (info34q (mdQ 0 1)) (one_rq (mdQ 0 1)) ?_
  intro w23 (h24 : HA w [(q18, 32, rl rt), (q9, 32, rl (mulP y y)), (q4, 34, rq (mdQ 0 1)), (q1, 32, rl y)] w23)
  refine wl_val (.bool false) (by kernel_rfl) (by kernel_rfl) ?_
  refine wl_nil ?_
  refine then_at (F := ⟨(rarr y :: .bool true :: pt q1 :: un :: pt q4 :: .bool false :: pt q9 :: pt q18 :: .bool true :: rarr y :: rarr y :: rarr (mulP y y) :: .tuple #[rarr rt, .bool true] :: rarr (mulP y y) :: rarr 1 :: rarr (subP (mulP y y) 1) :: rarr dN :: rarr (mulP y y) :: rarr (mulP dN (mulP y y)) :: rarr 1 :: rarr (addP (mulP dN (mulP y y)) 1) :: rarr (mulP (subP (mulP y y) 1) (invE (addP (mulP dN (mulP y y)) 1))) :: .tuple #[rarr rt, .bool true] :: rarr rt :: .bool true :: .bool true :: .bool false :: .bool false :: .bool true :: .bool true :: rarr rt :: rarr 0 :: .bool true :: .bool true :: .bool true :: .agg (rq (mdQ 0 1)) :: List.replicate 6 un).toArray, []⟩) (by kernel_rfl) ?_
  refine wp_ret ?_
  repeat first | refine then_ret ?_ | refine block_ret ?_
  have hB : Blk w23 q4 34 (rq (mdQ 0 1)) := h24.get 2 rfl
  exact bodyPost_ret (v := .tuple #[.agg (rq (mdQ 0 1)), .bool false]) (res34b (p := 4) (r := 5) (mdQ 0 1) (by kernel_rfl) (by kernel_rfl) (by kernel_rfl) hB) rfl ⟨rfl, h24.old⟩

set_option linter.unusedVariables false in
set_option maxRecDepth 100000 in
set_option maxHeartbeats 2000000 in
theorem rof_no_root1 (y : Nat) (hy : y < P) (hroot : rootP (bsq y) = none) (w : World) :
    Calls Tryd.prog 46 #[rarr y, .bool true] w fun e w' => e = .returned (.tuple #[.agg (rq (mdQ 0 1)), .bool false]) ∧ Below w.heap.size w w' := by
  have H0 := HA.start w
  go_enter Tryd.func46, Tryd.ntmps46
  refine wp_seq ?_
  refine wl_region ?_
  refine wl_make H0 32 (by kernel_rfl) (run_box32 (c := rl y) (by kernel_rfl)) ?_
  intro q1 w2 h3
  refine wl_make h3 34 (by kernel_rfl) run_alloc34 ?_
  intro q4 w5 h6
  refine wl_val (.bool false) (by kernel_rfl) (by kernel_rfl) ?_
  refine wl_nil ?_
  refine then_at (F := ⟨(rarr y :: .bool true :: pt q1 :: un :: pt q4 :: .bool false :: List.replicate 36 un).toArray, []⟩) (by kernel_rfl) ?_
  refine wp_seq ?_
  refine wl_region ?_
  refine wl_load h6 1 rfl (by kernel_rfl) (by kernel_rfl) Tryd.underlying32 rfl (info_rl y) ?_
  refine wl_load h6 1 rfl (by kernel_rfl) (by kernel_rfl) Tryd.underlying32 rfl (info_rl y) ?_
  refine wl_call (v := rarr (mulP y y)) h6 (by kernel_rfl) enter52 #[rarr y, rarr y] (by kernel_rfl) (wmul_any y y hy hy w5) ?_
  intro w7 h8
  refine wl_make h8 32 (by kernel_rfl) run_alloc32 ?_
  intro q9 w10 h11
  refine wl_fill (c' := rl (mulP y y)) h11 0 rfl (by kernel_rfl) (by kernel_rfl) (by kernel_rfl) (rl_sz (mulP y y) 0) (info_rl (mulP y y)) (one_rl (mulP y y)) ?_
  intro w12 (h13 : HA w [(q9, 32, rl (mulP y y)), (q4, 34, rq (Q4.mk 0 0 0 0)), (q1, 32, rl y)] w12)
  refine wl_nil ?_
  refine then_at (F := ⟨(rarr y :: .bool true :: pt q1 :: un :: pt q4 :: .bool false :: pt q9 :: un :: un :: rarr y :: rarr y :: rarr (mulP y y) :: List.replicate 30 un).toArray, []⟩) (by kernel_rfl) ?_
  refine wp_seq ?_
  obtain ⟨B14, eB14⟩ : ∃ B, B = w12.heap.size := ⟨_, rfl⟩
  refine wp_region_ghost (fun g : Nat → Nat => (⟨(rarr y :: .bool true :: pt q1 :: un :: pt q4 :: .bool false :: pt q9 :: pt (g 13) :: .bool false :: rarr y :: rarr y :: rarr (mulP y y) :: .tuple #[rarr 0, .bool false] :: rarr (mulP y y) :: rarr 1 :: rarr (subP (mulP y y) 1) :: rarr dN :: rarr (mulP y y) :: rarr (mulP dN (mulP y y)) :: rarr 1 :: rarr (addP (mulP dN (mulP y y)) 1) :: rarr (mulP (subP (mulP y y) 1) (invE (addP (mulP dN (mulP y y)) 1))) :: .tuple #[rarr 0, .bool false] :: rarr 0 :: .bool false :: List.replicate 17 un).toArray, []⟩ : Act)) (GS w [(q9, 32, rl (mulP y y)), (q4, 34, rq (Q4.mk 0 0 0 0)), (q1, 32, rl y)] B14 1 13 14 32 (rl 0) (fun _ => rl 0)) [rarr (mulP y y), rarr 1, rarr (subP (mulP y y) 1), rarr dN, rarr (mulP y y), rarr (mulP dN (mulP y y)), rarr 1, rarr (addP (mulP dN (mulP y y)) 1), rarr (mulP (subP (mulP y y) 1) (invE (addP (mulP dN (mulP y y)) 1))), .tuple #[rarr 0, .bool false], .tuple #[rarr 0, .bool false], rarr 0, .bool false, .pointer (some ⟨0, 0, none⟩), undef, .bool false] (by kernel_rfl) (by kernel_rfl) (by kernel_rfl) (by kernel_rfl) (fun _ _ _ _ h => h) (fun d hd => GS.start h13.drew eB14 (by decide) (fun _ _ => (rl_sz _ _)) (fun j hj => hd j (Nat.lt_of_lt_of_le hj (by decide)))) ?_ ?_
  · refine AllGhost.cons (ghost_load 0 rfl (by decide) (fun _ => by kernel_rfl) (fun _ => by kernel_rfl) (fun _ => by kernel_rfl) Tryd.underlying32 rfl (info_rl (mulP y y))) ?_
    refine AllGhost.cons (ghost_call (v := rarr 1) (by decide) (fun _ => by kernel_rfl) (fun _ => by kernel_rfl) enter67 #[iN .u32 1] (fun _ => by kernel_rfl) (fun w' h' => wsmall_any 1 (by decide) w')) ?_
    refine AllGhost.cons (ghost_call (v := rarr (subP (mulP y y) 1)) (by decide) (fun _ => by kernel_rfl) (fun _ => by kernel_rfl) enter69 #[rarr (mulP y y), rarr 1] (fun _ => by kernel_rfl) (fun w' h' => wsub_any (mulP y y) 1 (mulP_lt _ _) (by decide) w')) ?_
    refine AllGhost.cons (ghost_call (v := rarr dN) (by decide) (fun _ => by kernel_rfl) (fun _ => by kernel_rfl) enter59 #[] (fun _ => by kernel_rfl) (fun w' h' => D_any w')) ?_
    refine AllGhost.cons (ghost_load 0 rfl (by decide) (fun _ => by kernel_rfl) (fun _ => by kernel_rfl) (fun _ => by kernel_rfl) Tryd.underlying32 rfl (info_rl (mulP y y))) ?_
    refine AllGhost.cons (ghost_call (v := rarr (mulP dN (mulP y y))) (by decide) (fun _ => by kernel_rfl) (fun _ => by kernel_rfl) enter52 #[rarr dN, rarr (mulP y y)] (fun _ => by kernel_rfl) (fun w' h' => wmul_any dN (mulP y y) dN_lt (mulP_lt _ _) w')) ?_
    refine AllGhost.cons (ghost_call (v := rarr 1) (by decide) (fun _ => by kernel_rfl) (fun _ => by kernel_rfl) enter67 #[iN .u32 1] (fun _ => by kernel_rfl) (fun w' h' => wsmall_any 1 (by decide) w')) ?_
    refine AllGhost.cons (ghost_call (v := rarr (addP (mulP dN (mulP y y)) 1)) (by decide) (fun _ => by kernel_rfl) (fun _ => by kernel_rfl) enter68 #[rarr (mulP dN (mulP y y)), rarr 1] (fun _ => by kernel_rfl) (fun w' h' => wadd_any (mulP dN (mulP y y)) 1 (mulP_lt _ _) (by decide) w')) ?_
    refine AllGhost.cons (ghost_call (v := rarr (mulP (subP (mulP y y) 1) (invE (addP (mulP dN (mulP y y)) 1)))) (by decide) (fun _ => by kernel_rfl) (fun _ => by kernel_rfl) enter70 #[rarr (subP (mulP y y) 1), rarr (addP (mulP dN (mulP y y)) 1)] (fun _ => by kernel_rfl) (fun w' h' => wover_any (subP (mulP y y) 1) (addP (mulP dN (mulP y y)) 1) (subP_lt _ _) (addP_lt _ _) w')) ?_
    refine AllGhost.cons (ghost_call (v := .tuple #[rarr 0, .bool false]) (by decide) (fun _ => by kernel_rfl) (fun _ => by kernel_rfl) enter86 #[rarr (mulP (subP (mulP y y) 1) (invE (addP (mulP dN (mulP y y)) 1)))] (fun _ => by kernel_rfl) (fun w' h' => rroot_no (mulP (subP (mulP y y) 1) (invE (addP (mulP dN (mulP y y)) 1))) (mulP_lt _ _) (by rw [show mulP (subP (mulP y y) 1) (invE (addP (mulP dN (mulP y y)) 1)) = bsq y from rsq_is y]; exact hroot) w')) ?_
    refine AllGhost.cons (ghost_plain (v := .tuple #[rarr 0, .bool false]) (by decide) (fun _ => by kernel_rfl) (fun _ => by kernel_rfl) (fun _ _ => (by kernel_rfl))) ?_
    refine AllGhost.cons (ghost_plain (v := rarr 0) (by decide) (fun _ => by kernel_rfl) (fun _ => by kernel_rfl) (fun _ _ => (by kernel_rfl))) ?_
    refine AllGhost.cons (ghost_plain (v := .bool false) (by decide) (fun _ => by kernel_rfl) (fun _ => by kernel_rfl) (fun _ _ => (by kernel_rfl))) ?_
    refine AllGhost.cons (ghost_make 0 (by decide) rfl (fun _ => by kernel_rfl) (fun _ _ => by kernel_rfl) (fun _ _ => run_alloc32)) ?_
    refine AllGhost.cons (ghost_fill 0 (by decide) rfl (fun _ => by kernel_rfl) (fun _ => by kernel_rfl) (fun _ => by kernel_rfl) (fun _ => by kernel_rfl) (info_rl 0) (one_rl 0) (by kernel_rfl)) ?_
    refine AllGhost.cons (ghost_plain (v := .bool false) (by decide) (fun _ => by kernel_rfl) (fun _ => by kernel_rfl) (fun _ _ => (by kernel_rfl))) ?_
    exact AllGhost.nil
  intro g w15 g16
  have h17 : HA w [(g 13, 32, rl 0), (q9, 32, rl (mulP y y)), (q4, 34, rq (Q4.mk 0 0 0 0)), (q1, 32, rl y)] w15 := g16.one
  clear g16 eB14
  generalize g 13 = q18 at h17 ⊢
  clear g
  refine then_at (F := ⟨(rarr y :: .bool true :: pt q1 :: un :: pt q4 :: .bool false :: pt q9 :: pt q18 :: .bool false :: rarr y :: rarr y :: rarr (mulP y y) :: .tuple #[rarr 0, .bool false] :: rarr (mulP y y) :: rarr 1 :: rarr (subP (mulP y y) 1) :: rarr dN :: rarr (mulP y y) :: rarr (mulP dN (mulP y y)) :: rarr 1 :: rarr (addP (mulP dN (mulP y y)) 1) :: rarr (mulP (subP (mulP y y) 1) (invE (addP (mulP dN (mulP y y)) 1))) :: .tuple #[rarr 0, .bool false] :: rarr 0 :: .bool false :: List.replicate 17 un).toArray, []⟩) (by kernel_rfl) ?_
  refine wp_seq ?_
  refine wp_seq ?_
  refine wp_region_sure ⟨(rarr y :: .bool true :: pt q1 :: un :: pt q4 :: .bool false :: pt q9 :: pt q18 :: .bool false :: rarr y :: rarr y :: rarr (mulP y y) :: .tuple #[rarr 0, .bool false] :: rarr (mulP y y) :: rarr 1 :: rarr (subP (mulP y y) 1) :: rarr dN :: rarr (mulP y y) :: rarr (mulP dN (mulP y y)) :: rarr 1 :: rarr (addP (mulP dN (mulP y y)) 1) :: rarr (mulP (subP (mulP y y) 1) (invE (addP (mulP dN (mulP y y)) 1))) :: .tuple #[rarr 0, .bool false] :: rarr 0 :: .bool false :: .bool false :: .bool true :: .bool true :: un :: un :: un :: un :: un :: un :: .bool true :: List.replicate 7 un).toArray, []⟩ (HA w [(q18, 32, rl 0), (q9, 32, rl (mulP y y)), (q4, 34, rq (Q4.mk 0 0 0 0)), (q1, 32, rl y)]) [.bool false, .bool true, .bool true, undef, undef, undef, undef, undef, undef, .bool true] (by kernel_rfl) (by kernel_rfl) (by kernel_rfl) (by kernel_rfl) (fun _ _ _ h => h) h17.drew ?_ ?_
  · refine AllSure.cons (OpSure.take (v := .bool false) (by kernel_rfl) (by kernel_rfl) (fun _ _ => (by kernel_rfl))) ?_
    refine AllSure.cons (OpSure.take (v := .bool true) (by kernel_rfl) (by kernel_rfl) (fun _ _ => (by kernel_rfl))) ?_
    refine AllSure.cons (OpSure.take (v := .bool true) (by kernel_rfl) (by kernel_rfl) (fun _ _ => (by kernel_rfl))) ?_
    refine AllSure.cons (OpSure.skip (by kernel_rfl) (by kernel_rfl)) ?_
    refine AllSure.cons (OpSure.skip (by kernel_rfl) (by kernel_rfl)) ?_
    refine AllSure.cons (OpSure.skip (by kernel_rfl) (by kernel_rfl)) ?_
    refine AllSure.cons (OpSure.skip (by kernel_rfl) (by kernel_rfl)) ?_
    refine AllSure.cons (OpSure.skip (by kernel_rfl) (by kernel_rfl)) ?_
    refine AllSure.cons (OpSure.skip (by kernel_rfl) (by kernel_rfl)) ?_
    refine AllSure.cons (OpSure.take (v := .bool true) (by kernel_rfl) (by kernel_rfl) (fun _ _ => (by kernel_rfl))) ?_
    exact AllSure.nil
  intro w19 h20
  refine then_at (F := ⟨(rarr y :: .bool true :: pt q1 :: un :: pt q4 :: .bool false :: pt q9 :: pt q18 :: .bool false :: rarr y :: rarr y :: rarr (mulP y y) :: .tuple #[rarr 0, .bool false] :: rarr (mulP y y) :: rarr 1 :: rarr (subP (mulP y y) 1) :: rarr dN :: rarr (mulP y y) :: rarr (mulP dN (mulP y y)) :: rarr 1 :: rarr (addP (mulP dN (mulP y y)) 1) :: rarr (mulP (subP (mulP y y) 1) (invE (addP (mulP dN (mulP y y)) 1))) :: .tuple #[rarr 0, .bool false] :: rarr 0 :: .bool false :: .bool false :: .bool true :: .bool true :: un :: un :: un :: un :: un :: un :: .bool true :: List.replicate 7 un).toArray, []⟩) (by kernel_rfl) ?_
  refine wp_cond_true (by kernel_rfl) ?_
  refine wp_seq ?_
  refine wl_region ?_
  refine wl_call (v := .agg (rq (mdQ 0 1))) h20 (by kernel_rfl) enter44 #[] (by kernel_rfl) (rNone_any w19) ?_
  intro w21 h22
  refine wl_fill (c' := rq (mdQ 0 1)) h22 2 rfl (by kernel_rfl) (by kernel_rfl) (by kernel_rfl) (rq_sz (mdQ 0 1) (Q4.mk 0 0 0 0)) (info34q (mdQ 0 1)) (one_rq (mdQ 0 1)) ?_
  intro w23 (h24 : HA w [(q18, 32, rl 0), (q9, 32, rl (mulP y y)), (q4, 34, rq (mdQ 0 1)), (q1, 32, rl y)] w23)
  refine wl_val (.bool false) (by kernel_rfl) (by kernel_rfl) ?_
  refine wl_nil ?_
  refine then_at (F := ⟨(rarr y :: .bool true :: pt q1 :: un :: pt q4 :: .bool false :: pt q9 :: pt q18 :: .bool false :: rarr y :: rarr y :: rarr (mulP y y) :: .tuple #[rarr 0, .bool false] :: rarr (mulP y y) :: rarr 1 :: rarr (subP (mulP y y) 1) :: rarr dN :: rarr (mulP y y) :: rarr (mulP dN (mulP y y)) :: rarr 1 :: rarr (addP (mulP dN (mulP y y)) 1) :: rarr (mulP (subP (mulP y y) 1) (invE (addP (mulP dN (mulP y y)) 1))) :: .tuple #[rarr 0, .bool false] :: rarr 0 :: .bool false :: .bool false :: .bool true :: .bool true :: un :: un :: un :: un :: un :: un :: .bool true :: .agg (rq (mdQ 0 1)) :: List.replicate 6 un).toArray, []⟩) (by kernel_rfl) ?_
  refine wp_ret ?_
  repeat first | refine then_ret ?_ | refine block_ret ?_
  have hB : Blk w23 q4 34 (rq (mdQ 0 1)) := h24.get 2 rfl
  exact bodyPost_ret (v := .tuple #[.agg (rq (mdQ 0 1)), .bool false]) (res34b (p := 4) (r := 5) (mdQ 0 1) (by kernel_rfl) (by kernel_rfl) (by kernel_rfl) hB) rfl ⟨rfl, h24.old⟩

set_option linter.unusedVariables false in
set_option maxRecDepth 100000 in
set_option maxHeartbeats 2000000 in
theorem rof_no_root0 (y : Nat) (hy : y < P) (hroot : rootP (bsq y) = none) (w : World) :
    Calls Tryd.prog 46 #[rarr y, .bool false] w fun e w' => e = .returned (.tuple #[.agg (rq (mdQ 0 1)), .bool false]) ∧ Below w.heap.size w w' := by
  have H0 := HA.start w
  go_enter Tryd.func46, Tryd.ntmps46
  refine wp_seq ?_
  refine wl_region ?_
  refine wl_make H0 32 (by kernel_rfl) (run_box32 (c := rl y) (by kernel_rfl)) ?_
  intro q1 w2 h3
  refine wl_make h3 34 (by kernel_rfl) run_alloc34 ?_
  intro q4 w5 h6
  refine wl_val (.bool false) (by kernel_rfl) (by kernel_rfl) ?_
  refine wl_nil ?_
  refine then_at (F := ⟨(rarr y :: .bool false :: pt q1 :: un :: pt q4 :: .bool false :: List.replicate 36 un).toArray, []⟩) (by kernel_rfl) ?_
  refine wp_seq ?_
  refine wl_region ?_
  refine wl_load h6 1 rfl (by kernel_rfl) (by kernel_rfl) Tryd.underlying32 rfl (info_rl y) ?_
  refine wl_load h6 1 rfl (by kernel_rfl) (by kernel_rfl) Tryd.underlying32 rfl (info_rl y) ?_
  refine wl_call (v := rarr (mulP y y)) h6 (by kernel_rfl) enter52 #[rarr y, rarr y] (by kernel_rfl) (wmul_any y y hy hy w5) ?_
  intro w7 h8
  refine wl_make h8 32 (by kernel_rfl) run_alloc32 ?_
  intro q9 w10 h11
  refine wl_fill (c' := rl (mulP y y)) h11 0 rfl (by kernel_rfl) (by kernel_rfl) (by kernel_rfl) (rl_sz (mulP y y) 0) (info_rl (mulP y y)) (one_rl (mulP y y)) ?_
  intro w12 (h13 : HA w [(q9, 32, rl (mulP y y)), (q4, 34, rq (Q4.mk 0 0 0 0)), (q1, 32, rl y)] w12)
  refine wl_nil ?_
  refine then_at (F := ⟨(rarr y :: .bool false :: pt q1 :: un :: pt q4 :: .bool false :: pt q9 :: un :: un :: rarr y :: rarr y :: rarr (mulP y y) :: List.replicate 30 un).toArray, []⟩) (by kernel_rfl) ?_
  refine wp_seq ?_
  obtain ⟨B14, eB14⟩ : ∃ B, B = w12.heap.size := ⟨_, rfl⟩
  refine wp_region_ghost (fun g : Nat → Nat => (⟨(rarr y :: .bool false :: pt q1 :: un :: pt q4 :: .bool false :: pt q9 :: pt (g 13) :: .bool false :: rarr y :: rarr y :: rarr (mulP y y) :: .tuple #[rarr 0, .bool false] :: rarr (mulP y y) :: rarr 1 :: rarr (subP (mulP y y) 1) :: rarr dN :: rarr (mulP y y) :: rarr (mulP dN (mulP y y)) :: rarr 1 :: rarr (addP (mulP dN (mulP y y)) 1) :: rarr (mulP (subP (mulP y y) 1) (invE (addP (mulP dN (mulP y y)) 1))) :: .tuple #[rarr 0, .bool false] :: rarr 0 :: .bool false :: List.replicate 17 un).toArray, []⟩ : Act)) (GS w [(q9, 32, rl (mulP y y)), (q4, 34, rq (Q4.mk 0 0 0 0)), (q1, 32, rl y)] B14 1 13 14 32 (rl 0) (fun _ => rl 0)) [rarr (mulP y y), rarr 1, rarr (subP (mulP y y) 1), rarr dN, rarr (mulP y y), rarr (mulP dN (mulP y y)), rarr 1, rarr (addP (mulP dN (mulP y y)) 1), rarr (mulP (subP (mulP y y) 1) (invE (addP (mulP dN (mulP y y)) 1))), .tuple #[rarr 0, .bool false], .tuple #[rarr 0, .bool false], rarr 0, .bool false, .pointer (some ⟨0, 0, none⟩), undef, .bool false] (by kernel_rfl) (by kernel_rfl) (by kernel_rfl) (by kernel_rfl) (fun _ _ _ _ h => h) (fun d hd => GS.start h13.drew eB14 (by decide) (fun _ _ => (rl_sz _ _)) (fun j hj => hd j (Nat.lt_of_lt_of_le hj (by decide)))) ?_ ?_
  · refine AllGhost.cons (ghost_load 0 rfl (by decide) (fun _ => by kernel_rfl) (fun _ => by kernel_rfl) (fun _ => by kernel_rfl) Tryd.underlying32 rfl (info_rl (mulP y y))) ?_
    refine AllGhost.cons (ghost_call (v := rarr 1) (by decide) (fun _ => by kernel_rfl) (fun _ => by kernel_rfl) enter67 #[iN .u32 1] (fun _ => by kernel_rfl) (fun w' h' => wsmall_any 1 (by decide) w')) ?_
    refine AllGhost.cons (ghost_call (v := rarr (subP (mulP y y) 1)) (by decide) (fun _ => by kernel_rfl) (fun _ => by kernel_rfl) enter69 #[rarr (mulP y y), rarr 1] (fun _ => by kernel_rfl) (fun w' h' => wsub_any (mulP y y) 1 (mulP_lt _ _) (by decide) w')) ?_
    refine AllGhost.cons (ghost_call (v := rarr dN) (by decide) (fun _ => by kernel_rfl) (fun _ => by kernel_rfl) enter59 #[] (fun _ => by kernel_rfl) (fun w' h' => D_any w')) ?_
    refine AllGhost.cons (ghost_load 0 rfl (by decide) (fun _ => by kernel_rfl) (fun _ => by kernel_rfl) (fun _ => by kernel_rfl) Tryd.underlying32 rfl (info_rl (mulP y y))) ?_
    refine AllGhost.cons (ghost_call (v := rarr (mulP dN (mulP y y))) (by decide) (fun _ => by kernel_rfl) (fun _ => by kernel_rfl) enter52 #[rarr dN, rarr (mulP y y)] (fun _ => by kernel_rfl) (fun w' h' => wmul_any dN (mulP y y) dN_lt (mulP_lt _ _) w')) ?_
    refine AllGhost.cons (ghost_call (v := rarr 1) (by decide) (fun _ => by kernel_rfl) (fun _ => by kernel_rfl) enter67 #[iN .u32 1] (fun _ => by kernel_rfl) (fun w' h' => wsmall_any 1 (by decide) w')) ?_
    refine AllGhost.cons (ghost_call (v := rarr (addP (mulP dN (mulP y y)) 1)) (by decide) (fun _ => by kernel_rfl) (fun _ => by kernel_rfl) enter68 #[rarr (mulP dN (mulP y y)), rarr 1] (fun _ => by kernel_rfl) (fun w' h' => wadd_any (mulP dN (mulP y y)) 1 (mulP_lt _ _) (by decide) w')) ?_
    refine AllGhost.cons (ghost_call (v := rarr (mulP (subP (mulP y y) 1) (invE (addP (mulP dN (mulP y y)) 1)))) (by decide) (fun _ => by kernel_rfl) (fun _ => by kernel_rfl) enter70 #[rarr (subP (mulP y y) 1), rarr (addP (mulP dN (mulP y y)) 1)] (fun _ => by kernel_rfl) (fun w' h' => wover_any (subP (mulP y y) 1) (addP (mulP dN (mulP y y)) 1) (subP_lt _ _) (addP_lt _ _) w')) ?_
    refine AllGhost.cons (ghost_call (v := .tuple #[rarr 0, .bool false]) (by decide) (fun _ => by kernel_rfl) (fun _ => by kernel_rfl) enter86 #[rarr (mulP (subP (mulP y y) 1) (invE (addP (mulP dN (mulP y y)) 1)))] (fun _ => by kernel_rfl) (fun w' h' => rroot_no (mulP (subP (mulP y y) 1) (invE (addP (mulP dN (mulP y y)) 1))) (mulP_lt _ _) (by rw [show mulP (subP (mulP y y) 1) (invE (addP (mulP dN (mulP y y)) 1)) = bsq y from rsq_is y]; exact hroot) w')) ?_
    refine AllGhost.cons (ghost_plain (v := .tuple #[rarr 0, .bool false]) (by decide) (fun _ => by kernel_rfl) (fun _ => by kernel_rfl) (fun _ _ => (by kernel_rfl))) ?_
    refine AllGhost.cons (ghost_plain (v := rarr 0) (by decide) (fun _ => by kernel_rfl) (fun _ => by kernel_rfl) (fun _ _ => (by kernel_rfl))) ?_
    refine AllGhost.cons (ghost_plain (v := .bool false) (by decide) (fun _ => by kernel_rfl) (fun _ => by kernel_rfl) (fun _ _ => (by kernel_rfl))) ?_
    refine AllGhost.cons (ghost_make 0 (by decide) rfl (fun _ => by kernel_rfl) (fun _ _ => by kernel_rfl) (fun _ _ => run_alloc32)) ?_
    refine AllGhost.cons (ghost_fill 0 (by decide) rfl (fun _ => by kernel_rfl) (fun _ => by kernel_rfl) (fun _ => by kernel_rfl) (fun _ => by kernel_rfl) (info_rl 0) (one_rl 0) (by kernel_rfl)) ?_
    refine AllGhost.cons (ghost_plain (v := .bool false) (by decide) (fun _ => by kernel_rfl) (fun _ => by kernel_rfl) (fun _ _ => (by kernel_rfl))) ?_
    exact AllGhost.nil
  intro g w15 g16
  have h17 : HA w [(g 13, 32, rl 0), (q9, 32, rl (mulP y y)), (q4, 34, rq (Q4.mk 0 0 0 0)), (q1, 32, rl y)] w15 := g16.one
  clear g16 eB14
  generalize g 13 = q18 at h17 ⊢
  clear g
  refine then_at (F := ⟨(rarr y :: .bool false :: pt q1 :: un :: pt q4 :: .bool false :: pt q9 :: pt q18 :: .bool false :: rarr y :: rarr y :: rarr (mulP y y) :: .tuple #[rarr 0, .bool false] :: rarr (mulP y y) :: rarr 1 :: rarr (subP (mulP y y) 1) :: rarr dN :: rarr (mulP y y) :: rarr (mulP dN (mulP y y)) :: rarr 1 :: rarr (addP (mulP dN (mulP y y)) 1) :: rarr (mulP (subP (mulP y y) 1) (invE (addP (mulP dN (mulP y y)) 1))) :: .tuple #[rarr 0, .bool false] :: rarr 0 :: .bool false :: List.replicate 17 un).toArray, []⟩) (by kernel_rfl) ?_
  refine wp_seq ?_
  refine wp_seq ?_
  refine wp_region_sure ⟨(rarr y :: .bool false :: pt q1 :: un :: pt q4 :: .bool false :: pt q9 :: pt q18 :: .bool false :: rarr y :: rarr y :: rarr (mulP y y) :: .tuple #[rarr 0, .bool false] :: rarr (mulP y y) :: rarr 1 :: rarr (subP (mulP y y) 1) :: rarr dN :: rarr (mulP y y) :: rarr (mulP dN (mulP y y)) :: rarr 1 :: rarr (addP (mulP dN (mulP y y)) 1) :: rarr (mulP (subP (mulP y y) 1) (invE (addP (mulP dN (mulP y y)) 1))) :: .tuple #[rarr 0, .bool false] :: rarr 0 :: .bool false :: .bool false :: .bool true :: .bool true :: un :: un :: un :: un :: un :: un :: .bool true :: List.replicate 7 un).toArray, []⟩ (HA w [(q18, 32, rl 0), (q9, 32, rl (mulP y y)), (q4, 34, rq (Q4.mk 0 0 0 0)), (q1, 32, rl y)]) [.bool false, .bool true, .bool true, undef, undef, undef, undef, undef, undef, .bool true] (by kernel_rfl) (by kernel_rfl) (by kernel_rfl) (by kernel_rfl) (fun _ _ _ h => h) h17.drew ?_ ?_
  · refine AllSure.cons (OpSure.take (v := .bool false) (by kernel_rfl) (by kernel_rfl) (fun _ _ => (by kernel_rfl))) ?_
    refine AllSure.cons (OpSure.take (v := .bool true) (by kernel_rfl) (by kernel_rfl) (fun _ _ => (by kernel_rfl))) ?_
    refine AllSure.cons (OpSure.take (v := .bool true) (by kernel_rfl) (by kernel_rfl) (fun _ _ => (by kernel_rfl))) ?_
    refine AllSure.cons (OpSure.skip (by kernel_rfl) (by kernel_rfl)) ?_
    refine AllSure.cons (OpSure.skip (by kernel_rfl) (by kernel_rfl)) ?_
    refine AllSure.cons (OpSure.skip (by kernel_rfl) (by kernel_rfl)) ?_
    refine AllSure.cons (OpSure.skip (by kernel_rfl) (by kernel_rfl)) ?_
    refine AllSure.cons (OpSure.skip (by kernel_rfl) (by kernel_rfl)) ?_
    refine AllSure.cons (OpSure.skip (by kernel_rfl) (by kernel_rfl)) ?_
    refine AllSure.cons (OpSure.take (v := .bool true) (by kernel_rfl) (by kernel_rfl) (fun _ _ => (by kernel_rfl))) ?_
    exact AllSure.nil
  intro w19 h20
  refine then_at (F := ⟨(rarr y :: .bool false :: pt q1 :: un :: pt q4 :: .bool false :: pt q9 :: pt q18 :: .bool false :: rarr y :: rarr y :: rarr (mulP y y) :: .tuple #[rarr 0, .bool false] :: rarr (mulP y y) :: rarr 1 :: rarr (subP (mulP y y) 1) :: rarr dN :: rarr (mulP y y) :: rarr (mulP dN (mulP y y)) :: rarr 1 :: rarr (addP (mulP dN (mulP y y)) 1) :: rarr (mulP (subP (mulP y y) 1) (invE (addP (mulP dN (mulP y y)) 1))) :: .tuple #[rarr 0, .bool false] :: rarr 0 :: .bool false :: .bool false :: .bool true :: .bool true :: un :: un :: un :: un :: un :: un :: .bool true :: List.replicate 7 un).toArray, []⟩) (by kernel_rfl) ?_
  refine wp_cond_true (by kernel_rfl) ?_
  refine wp_seq ?_
  refine wl_region ?_
  refine wl_call (v := .agg (rq (mdQ 0 1))) h20 (by kernel_rfl) enter44 #[] (by kernel_rfl) (rNone_any w19) ?_
  intro w21 h22
  refine wl_fill (c' := rq (mdQ 0 1)) h22 2 rfl (by kernel_rfl) (by kernel_rfl) (by kernel_rfl) (rq_sz (mdQ 0 1) (Q4.mk 0 0 0 0)) (info34q (mdQ 0 1)) (one_rq (mdQ 0 1)) ?_
  intro w23 (h24 : HA w [(q18, 32, rl 0), (q9, 32, rl (mulP y y)), (q4, 34, rq (mdQ 0 1)), (q1, 32, rl y)] w23)
  refine wl_val (.bool false) (by kernel_rfl) (by kernel_rfl) ?_
  refine wl_nil ?_
  refine then_at (F := ⟨(rarr y :: .bool false :: pt q1 :: un :: pt q4 :: .bool false :: pt q9 :: pt q18 :: .bool false :: rarr y :: rarr y :: rarr (mulP y y) :: .tuple #[rarr 0, .bool false] :: rarr (mulP y y) :: rarr 1 :: rarr (subP (mulP y y) 1) :: rarr dN :: rarr (mulP y y) :: rarr (mulP dN (mulP y y)) :: rarr 1 :: rarr (addP (mulP dN (mulP y y)) 1) :: rarr (mulP (subP (mulP y y) 1) (invE (addP (mulP dN (mulP y y)) 1))) :: .tuple #[rarr 0, .bool false] :: rarr 0 :: .bool false :: .bool false :: .bool true :: .bool true :: un :: un :: un :: un :: un :: un :: .bool true :: .agg (rq (mdQ 0 1)) :: List.replicate 6 un).toArray, []⟩) (by kernel_rfl) ?_
  refine wp_ret ?_
  repeat first | refine then_ret ?_ | refine block_ret ?_
  have hB : Blk w23 q4 34 (rq (mdQ 0 1)) := h24.get 2 rfl
  exact bodyPost_ret (v := .tuple #[.agg (rq (mdQ 0 1)), .bool false]) (res34b (p := 4) (r := 5) (mdQ 0 1) (by kernel_rfl) (by kernel_rfl) (by kernel_rfl) hB) rfl ⟨rfl, h24.old⟩

set_option linter.unusedVariables false in
set_option maxRecDepth 100000 in
set_option maxHeartbeats 2000000 in
theorem QOf_size (s : ByteArray) (hs : s.size ≠ 32) (w : World) :
    Calls Tryd.prog 13 #[.string s] w fun e w' => e = .returned (.tuple #[.agg (rq (mdQ 0 1)), .bool false]) ∧ Below w.heap.size w w' := by
  have H0 := HA.start w
  go_enter Tryd.func13, Tryd.ntmps13
  refine wp_seq ?_
  refine wl_region ?_
  refine wl_make H0 34 (by kernel_rfl) run_alloc34 ?_
  intro q1 w2 h3
  refine wl_val (.bool false) (by kernel_rfl) (by kernel_rfl) ?_
  refine wl_nil ?_
  refine then_at (F := ⟨(.string s :: un :: pt q1 :: .bool false :: List.replicate 34 un).toArray, []⟩) (by kernel_rfl) ?_
  refine wp_seq ?_
  refine wp_seq ?_
  refine wl_region ?_
  refine wl_val (.string s) (by kernel_rfl) (by kernel_rfl) ?_
  refine wl_val (iN .i64 s.size) (by kernel_rfl) (run_len (s := s) (by kernel_rfl)) ?_
  refine wl_val (.bool true) (by kernel_rfl) (run_nei (k := .i64) (a := s.size) (b := 32) (by kernel_rfl) (by kernel_rfl) true (decide_eq_true hs)) ?_
  refine wl_nil ?_
  refine then_at (F := ⟨(.string s :: un :: pt q1 :: .bool false :: un :: un :: un :: un :: .string s :: iN .i64 s.size :: .bool true :: List.replicate 27 un).toArray, []⟩) (by kernel_rfl) ?_
  refine wp_cond_true (by kernel_rfl) ?_
  refine wp_seq ?_
  refine wl_region ?_
  refine wl_call (v := .agg (rq (mdQ 0 1))) h3 (by kernel_rfl) enter44 #[] (by kernel_rfl) (rNone_any w2) ?_
  intro w4 h5
  refine wl_fill (c' := rq (mdQ 0 1)) h5 0 rfl (by kernel_rfl) (by kernel_rfl) (by kernel_rfl) (rq_sz (mdQ 0 1) (Q4.mk 0 0 0 0)) (info34q (mdQ 0 1)) (one_rq (mdQ 0 1)) ?_
  intro w6 (h7 : HA w [(q1, 34, rq (mdQ 0 1))] w6)
  refine wl_val (.bool false) (by kernel_rfl) (by kernel_rfl) ?_
  refine wl_nil ?_
  refine then_at (F := ⟨(.string s :: un :: pt q1 :: .bool false :: un :: un :: un :: un :: .string s :: iN .i64 s.size :: .bool true :: .agg (rq (mdQ 0 1)) :: List.replicate 26 un).toArray, []⟩) (by kernel_rfl) ?_
  refine wp_ret ?_
  repeat first | refine then_ret ?_ | refine block_ret ?_
  have hB : Blk w6 q1 34 (rq (mdQ 0 1)) := h7.get 0 rfl
  exact bodyPost_ret (v := .tuple #[.agg (rq (mdQ 0 1)), .bool false]) (res34b (p := 2) (r := 3) (mdQ 0 1) (by kernel_rfl) (by kernel_rfl) (by kernel_rfl) hB) rfl ⟨rfl, h7.old⟩

set_option linter.unusedVariables false in
set_option maxRecDepth 100000 in
set_option maxHeartbeats 2000000 in
theorem QOf_no_of1 (s : ByteArray) (hs : s.size = 32) (hof : ofP (topS s) = none) (hbit : numS s / 2 ^ 255 % 2 = 1) (w : World) :
    Calls Tryd.prog 13 #[.string s] w fun e w' => e = .returned (.tuple #[.agg (rq (mdQ 0 1)), .bool false]) ∧ Below w.heap.size w w' := by
  have hls : ∀ {i : Nat}, i < 32 → i < (bl s).length := fun h => by rw [bl_len, hs]; exact h
  have H0 := HA.start w
  go_enter Tryd.func13, Tryd.ntmps13
  refine wp_seq ?_
  refine wl_region ?_
  refine wl_make H0 34 (by kernel_rfl) run_alloc34 ?_
  intro q1 w2 h3
  refine wl_val (.bool false) (by kernel_rfl) (by kernel_rfl) ?_
  refine wl_nil ?_
  refine then_at (F := ⟨(.string s :: un :: pt q1 :: .bool false :: List.replicate 34 un).toArray, []⟩) (by kernel_rfl) ?_
  refine wp_seq ?_
  refine wp_seq ?_
  refine wl_region ?_
  refine wl_val (.string s) (by kernel_rfl) (by kernel_rfl) ?_
  refine wl_val (iN .i64 s.size) (by kernel_rfl) (run_len (s := s) (by kernel_rfl)) ?_
  refine wl_val (.bool false) (by kernel_rfl) (run_nei (k := .i64) (a := s.size) (b := 32) (by kernel_rfl) (by kernel_rfl) false (decide_eq_false (not_not_intro hs))) ?_
  refine wl_nil ?_
  refine then_at (F := ⟨(.string s :: un :: pt q1 :: .bool false :: un :: un :: un :: un :: .string s :: iN .i64 s.size :: .bool false :: List.replicate 27 un).toArray, []⟩) (by kernel_rfl) ?_
  refine wp_cond_false (by kernel_rfl) ?_
  refine wp_skip ?_
  refine then_at (F := ⟨(.string s :: un :: pt q1 :: .bool false :: un :: un :: un :: un :: .string s :: iN .i64 s.size :: .bool false :: List.replicate 27 un).toArray, []⟩) (by kernel_rfl) ?_
  refine wp_seq ?_
  refine wl_region ?_
  refine wl_val (.string s) (by kernel_rfl) (by kernel_rfl) ?_
  refine wl_bytes (s := s) h3 (by kernel_rfl) (by kernel_rfl) ?_
  intro q4 cp5 m6 w7 h8
  refine wl_val (.slice (some ⟨q4, 0, none⟩) s.size cp5) (by kernel_rfl) (by kernel_rfl) ?_
  refine wl_nil ?_
  refine then_at (F := ⟨(.string s :: un :: pt q1 :: .bool false :: .slice (some ⟨q4, 0, none⟩) s.size cp5 :: un :: un :: un :: .string s :: iN .i64 s.size :: .bool false :: un :: .string s :: .slice (some ⟨q4, 0, none⟩) s.size cp5 :: List.replicate 24 un).toArray, []⟩) (by kernel_rfl) ?_
  refine wp_seq ?_
  refine wl_region ?_
  refine wl_val (.slice (some ⟨q4, 0, none⟩) s.size cp5) (by kernel_rfl) (by kernel_rfl) ?_
  refine wl_val (.pointer (some ⟨q4, 31, none⟩)) (by kernel_rfl) (run_addr_slice (q := q4) (n := s.size) (m := cp5) (a := 31) Tryd.underlying60 (fun w => Tryd.sizeOf5 w) (by kernel_rfl) (by kernel_rfl) (by omega)) ?_
  refine wl_val (iN .u8 (((bl s).getD 31 0).toNat)) (by kernel_rfl) (run_load1 (fun w => Tryd.isAgg5 w) (by kernel_rfl) (((h8.get 0 rfl).cell 31).trans (byC_get (bl s) m6 31 (hls (i := 31) (by decide))))) ?_
  refine wl_val (.bool true) (by kernel_rfl) (run_geq (k := .u8) (a := ((bl s).getD 31 0).toNat) (b := 128) (by kernel_rfl) (by kernel_rfl) true (decide_eq_true ((bit31 s hs).2 hbit))) ?_
  refine wl_val (.bool true) (by kernel_rfl) (by kernel_rfl) ?_
  refine wl_nil ?_
  refine then_at (F := ⟨(.string s :: un :: pt q1 :: .bool false :: .slice (some ⟨q4, 0, none⟩) s.size cp5 :: .bool true :: un :: un :: .string s :: iN .i64 s.size :: .bool false :: un :: .string s :: .slice (some ⟨q4, 0, none⟩) s.size cp5 :: .slice (some ⟨q4, 0, none⟩) s.size cp5 :: .pointer (some ⟨q4, 31, none⟩) :: iN .u8 (((bl s).getD 31 0).toNat) :: .bool true :: List.replicate 20 un).toArray, []⟩) (by kernel_rfl) ?_
  refine wp_seq ?_
  refine wl_region ?_
  refine wl_val (.slice (some ⟨q4, 0, none⟩) s.size cp5) (by kernel_rfl) (by kernel_rfl) ?_
  refine wl_val (.slice (some ⟨q4, 0, none⟩) s.size cp5) (by kernel_rfl) (by kernel_rfl) ?_
  refine wl_val (.pointer (some ⟨q4, 31, none⟩)) (by kernel_rfl) (run_addr_slice (q := q4) (n := s.size) (m := cp5) (a := 31) Tryd.underlying60 (fun w => Tryd.sizeOf5 w) (by kernel_rfl) (by kernel_rfl) (by omega)) ?_
  refine wl_val (iN .u8 (((bl s).getD 31 0).toNat)) (by kernel_rfl) (run_load1 (fun w => Tryd.isAgg5 w) (by kernel_rfl) (((h8.get 0 rfl).cell 31).trans (byC_get (bl s) m6 31 (hls (i := 31) (by decide))))) ?_
  refine wl_val (iN .u8 ((((bl s).getD 31 0).toNat) &&& 127)) (by kernel_rfl) (run_and8 (a := ((bl s).getD 31 0).toNat) (b := 127) (by kernel_rfl) (by kernel_rfl) (u8_lt _) (by decide)) ?_
  refine wl_val (.pointer (some ⟨q4, 31, none⟩)) (by kernel_rfl) (run_addr_slice (q := q4) (n := s.size) (m := cp5) (a := 31) Tryd.underlying60 (fun w => Tryd.sizeOf5 w) (by kernel_rfl) (by kernel_rfl) (by omega)) ?_
  refine wl_put (k := .u8) (z := (((((bl s).getD 31 0).toNat) &&& 127 : Nat) : Int)) h8 0 rfl 31 (by rw [byC_size]; exact Nat.lt_add_right _ (hls (i := 31) (by decide))) (by kernel_rfl) (fun w => Tryd.sizeOf5 w) (by kernel_rfl) (by kernel_rfl) ?_
  intro w9 h10
  have h11 : HA w [(q4, 5, byC ((bl s).set 31 (UInt8.ofNat ((((bl s).getD 31 0).toNat) &&& 127))) m6), (q1, 34, rq (Q4.mk 0 0 0 0))] w9 := (by rw [← byC_put (bl s) m6 31 ((((bl s).getD 31 0).toNat) &&& 127) (hls (i := 31) (by decide)) (Nat.lt_of_le_of_lt Nat.and_le_left (u8_lt _))]; exact h10)
  clear h10
  refine wl_nil ?_
  refine then_at (F := ⟨(.string s :: un :: pt q1 :: .bool false :: .slice (some ⟨q4, 0, none⟩) s.size cp5 :: .bool true :: un :: un :: .string s :: iN .i64 s.size :: .bool false :: un :: .string s :: .slice (some ⟨q4, 0, none⟩) s.size cp5 :: .slice (some ⟨q4, 0, none⟩) s.size cp5 :: .pointer (some ⟨q4, 31, none⟩) :: iN .u8 (((bl s).getD 31 0).toNat) :: .bool true :: .slice (some ⟨q4, 0, none⟩) s.size cp5 :: .slice (some ⟨q4, 0, none⟩) s.size cp5 :: .pointer (some ⟨q4, 31, none⟩) :: iN .u8 (((bl s).getD 31 0).toNat) :: iN .u8 ((((bl s).getD 31 0).toNat) &&& 127) :: .pointer (some ⟨q4, 31, none⟩) :: List.replicate 14 un).toArray, []⟩) (by kernel_rfl) ?_
  refine wp_seq ?_
  refine wl_region ?_
  refine wl_val (.slice (some ⟨q4, 0, none⟩) s.size cp5) (by kernel_rfl) (by kernel_rfl) ?_
  refine wl_val (.string ⟨((bl s).set 31 (UInt8.ofNat ((((bl s).getD 31 0).toNat) &&& 127))).toArray⟩) (by kernel_rfl) (run_byText (n := s.size) (c := cp5) (m := m6) (l := (bl s).set 31 (UInt8.ofNat ((((bl s).getD 31 0).toNat) &&& 127))) (by simp [bl_len]) (by kernel_rfl) (h11.get 0 rfl)) ?_
  refine wl_call (v := .tuple #[rarr 0, .bool false]) h11 (by kernel_rfl) enter45 #[.string ⟨((bl s).set 31 (UInt8.ofNat ((((bl s).getD 31 0).toNat) &&& 127))).toArray⟩] (by kernel_rfl) (rof_none (ByteArray.mk ((bl s).set 31 (UInt8.ofNat ((((bl s).getD 31 0).toNat) &&& 127))).toArray) hof w9) ?_
  intro w12 h13
  refine wl_val (.tuple #[rarr 0, .bool false]) (by kernel_rfl) (by kernel_rfl) ?_
  refine wl_val (rarr 0) (by kernel_rfl) (by kernel_rfl) ?_
  refine wl_val (.bool false) (by kernel_rfl) (by kernel_rfl) ?_
  refine wl_make h13 32 (by kernel_rfl) run_alloc32 ?_
  intro q14 w15 h16
  refine wl_fill (c' := rl 0) h16 0 rfl (by kernel_rfl) (by kernel_rfl) (by kernel_rfl) (rl_sz 0 0) (info_rl 0) (one_rl 0) ?_
  intro w17 (h18 : HA w [(q14, 32, rl 0), (q4, 5, byC ((bl s).set 31 (UInt8.ofNat ((((bl s).getD 31 0).toNat) &&& 127))) m6), (q1, 34, rq (Q4.mk 0 0 0 0))] w17)
  refine wl_val (.bool false) (by kernel_rfl) (by kernel_rfl) ?_
  refine wl_nil ?_
  refine then_at (F := ⟨(.string s :: un :: pt q1 :: .bool false :: .slice (some ⟨q4, 0, none⟩) s.size cp5 :: .bool true :: pt q14 :: .bool false :: .string s :: iN .i64 s.size :: .bool false :: un :: .string s :: .slice (some ⟨q4, 0, none⟩) s.size cp5 :: .slice (some ⟨q4, 0, none⟩) s.size cp5 :: .pointer (some ⟨q4, 31, none⟩) :: iN .u8 (((bl s).getD 31 0).toNat) :: .bool true :: .slice (some ⟨q4, 0, none⟩) s.size cp5 :: .slice (some ⟨q4, 0, none⟩) s.size cp5 :: .pointer (some ⟨q4, 31, none⟩) :: iN .u8 (((bl s).getD 31 0).toNat) :: iN .u8 ((((bl s).getD 31 0).toNat) &&& 127) :: .pointer (some ⟨q4, 31, none⟩) :: .tuple #[rarr 0, .bool false] :: .slice (some ⟨q4, 0, none⟩) s.size cp5 :: .string ⟨((bl s).set 31 (UInt8.ofNat ((((bl s).getD 31 0).toNat) &&& 127))).toArray⟩ :: .tuple #[rarr 0, .bool false] :: rarr 0 :: .bool false :: List.replicate 8 un).toArray, []⟩) (by kernel_rfl) ?_
  refine wp_seq ?_
  refine wp_seq ?_
  refine wl_region ?_
  refine wl_val (.bool false) (by kernel_rfl) (by kernel_rfl) ?_
  refine wl_val (.bool true) (by kernel_rfl) (by kernel_rfl) ?_
  refine wl_nil ?_
  refine then_at (F := ⟨(.string s :: un :: pt q1 :: .bool false :: .slice (some ⟨q4, 0, none⟩) s.size cp5 :: .bool true :: pt q14 :: .bool false :: .string s :: iN .i64 s.size :: .bool false :: un :: .string s :: .slice (some ⟨q4, 0, none⟩) s.size cp5 :: .slice (some ⟨q4, 0, none⟩) s.size cp5 :: .pointer (some ⟨q4, 31, none⟩) :: iN .u8 (((bl s).getD 31 0).toNat) :: .bool true :: .slice (some ⟨q4, 0, none⟩) s.size cp5 :: .slice (some ⟨q4, 0, none⟩) s.size cp5 :: .pointer (some ⟨q4, 31, none⟩) :: iN .u8 (((bl s).getD 31 0).toNat) :: iN .u8 ((((bl s).getD 31 0).toNat) &&& 127) :: .pointer (some ⟨q4, 31, none⟩) :: .tuple #[rarr 0, .bool false] :: .slice (some ⟨q4, 0, none⟩) s.size cp5 :: .string ⟨((bl s).set 31 (UInt8.ofNat ((((bl s).getD 31 0).toNat) &&& 127))).toArray⟩ :: .tuple #[rarr 0, .bool false] :: rarr 0 :: .bool false :: .bool false :: .bool true :: List.replicate 6 un).toArray, []⟩) (by kernel_rfl) ?_
  refine wp_cond_true (by kernel_rfl) ?_
  refine wp_seq ?_
  refine wl_region ?_
  refine wl_call (v := .agg (rq (mdQ 0 1))) h18 (by kernel_rfl) enter44 #[] (by kernel_rfl) (rNone_any w17) ?_
  intro w19 h20
  refine wl_fill (c' := rq (mdQ 0 1)) h20 2 rfl (by kernel_rfl) (by kernel_rfl) (by kernel_rfl) (rq_sz (mdQ 0 1) (Q4.mk 0 0 0 0)) (info34q (mdQ 0 1)) (one_rq (mdQ 0 1)) ?_
  intro w21 (h22 : HA w [(q14, 32, rl 0), (q4, 5, byC ((bl s).set 31 (UInt8.ofNat ((((bl s).getD 31 0).toNat) &&& 127))) m6), (q1, 34, rq (mdQ 0 1))] w21)
  refine wl_val (.bool false) (by kernel_rfl) (by kernel_rfl) ?_
  refine wl_nil ?_
  refine then_at (F := ⟨(.string s :: un :: pt q1 :: .bool false :: .slice (some ⟨q4, 0, none⟩) s.size cp5 :: .bool true :: pt q14 :: .bool false :: .string s :: iN .i64 s.size :: .bool false :: un :: .string s :: .slice (some ⟨q4, 0, none⟩) s.size cp5 :: .slice (some ⟨q4, 0, none⟩) s.size cp5 :: .pointer (some ⟨q4, 31, none⟩) :: iN .u8 (((bl s).getD 31 0).toNat) :: .bool true :: .slice (some ⟨q4, 0, none⟩) s.size cp5 :: .slice (some ⟨q4, 0, none⟩) s.size cp5 :: .pointer (some ⟨q4, 31, none⟩) :: iN .u8 (((bl s).getD 31 0).toNat) :: iN .u8 ((((bl s).getD 31 0).toNat) &&& 127) :: .pointer (some ⟨q4, 31, none⟩) :: .tuple #[rarr 0, .bool false] :: .slice (some ⟨q4, 0, none⟩) s.size cp5 :: .string ⟨((bl s).set 31 (UInt8.ofNat ((((bl s).getD 31 0).toNat) &&& 127))).toArray⟩ :: .tuple #[rarr 0, .bool false] :: rarr 0 :: .bool false :: .bool false :: .bool true :: .agg (rq (mdQ 0 1)) :: List.replicate 5 un).toArray, []⟩) (by kernel_rfl) ?_
  refine wp_ret ?_
  repeat first | refine then_ret ?_ | refine block_ret ?_
  have hB : Blk w21 q1 34 (rq (mdQ 0 1)) := h22.get 2 rfl
  exact bodyPost_ret (v := .tuple #[.agg (rq (mdQ 0 1)), .bool false]) (res34b (p := 2) (r := 3) (mdQ 0 1) (by kernel_rfl) (by kernel_rfl) (by kernel_rfl) hB) rfl ⟨rfl, h22.old⟩

set_option linter.unusedVariables false in
set_option maxRecDepth 100000 in
set_option maxHeartbeats 2000000 in
theorem QOf_no_root1 (s : ByteArray) (hs : s.size = 32) (y : Nat) (hy : y < P) (hof : ofP (topS s) = some y) (hroot : rootP (bsq y) = none) (hbit : numS s / 2 ^ 255 % 2 = 1) (w : World) :
    Calls Tryd.prog 13 #[.string s] w fun e w' => e = .returned (.tuple #[.agg (rq (mdQ 0 1)), .bool false]) ∧ Below w.heap.size w w' := by
  have hls : ∀ {i : Nat}, i < 32 → i < (bl s).length := fun h => by rw [bl_len, hs]; exact h
  have H0 := HA.start w
  go_enter Tryd.func13, Tryd.ntmps13
  refine wp_seq ?_
  refine wl_region ?_
  refine wl_make H0 34 (by kernel_rfl) run_alloc34 ?_
  intro q1 w2 h3
  refine wl_val (.bool false) (by kernel_rfl) (by kernel_rfl) ?_
  refine wl_nil ?_
  refine then_at (F := ⟨(.string s :: un :: pt q1 :: .bool false :: List.replicate 34 un).toArray, []⟩) (by kernel_rfl) ?_
  refine wp_seq ?_
  refine wp_seq ?_
  refine wl_region ?_
  refine wl_val (.string s) (by kernel_rfl) (by kernel_rfl) ?_
  refine wl_val (iN .i64 s.size) (by kernel_rfl) (run_len (s := s) (by kernel_rfl)) ?_
  refine wl_val (.bool false) (by kernel_rfl) (run_nei (k := .i64) (a := s.size) (b := 32) (by kernel_rfl) (by kernel_rfl) false (decide_eq_false (not_not_intro hs))) ?_
  refine wl_nil ?_
  refine then_at (F := ⟨(.string s :: un :: pt q1 :: .bool false :: un :: un :: un :: un :: .string s :: iN .i64 s.size :: .bool false :: List.replicate 27 un).toArray, []⟩) (by kernel_rfl) ?_
  refine wp_cond_false (by kernel_rfl) ?_
  refine wp_skip ?_
  refine then_at (F := ⟨(.string s :: un :: pt q1 :: .bool false :: un :: un :: un :: un :: .string s :: iN .i64 s.size :: .bool false :: List.replicate 27 un).toArray, []⟩) (by kernel_rfl) ?_
  refine wp_seq ?_
  refine wl_region ?_
  refine wl_val (.string s) (by kernel_rfl) (by kernel_rfl) ?_
  refine wl_bytes (s := s) h3 (by kernel_rfl) (by kernel_rfl) ?_
  intro q4 cp5 m6 w7 h8
  refine wl_val (.slice (some ⟨q4, 0, none⟩) s.size cp5) (by kernel_rfl) (by kernel_rfl) ?_
  refine wl_nil ?_
  refine then_at (F := ⟨(.string s :: un :: pt q1 :: .bool false :: .slice (some ⟨q4, 0, none⟩) s.size cp5 :: un :: un :: un :: .string s :: iN .i64 s.size :: .bool false :: un :: .string s :: .slice (some ⟨q4, 0, none⟩) s.size cp5 :: List.replicate 24 un).toArray, []⟩) (by kernel_rfl) ?_
  refine wp_seq ?_
  refine wl_region ?_
  refine wl_val (.slice (some ⟨q4, 0, none⟩) s.size cp5) (by kernel_rfl) (by kernel_rfl) ?_
  refine wl_val (.pointer (some ⟨q4, 31, none⟩)) (by kernel_rfl) (run_addr_slice (q := q4) (n := s.size) (m := cp5) (a := 31) Tryd.underlying60 (fun w => Tryd.sizeOf5 w) (by kernel_rfl) (by kernel_rfl) (by omega)) ?_
  refine wl_val (iN .u8 (((bl s).getD 31 0).toNat)) (by kernel_rfl) (run_load1 (fun w => Tryd.isAgg5 w) (by kernel_rfl) (((h8.get 0 rfl).cell 31).trans (byC_get (bl s) m6 31 (hls (i := 31) (by decide))))) ?_
  refine wl_val (.bool true) (by kernel_rfl) (run_geq (k := .u8) (a := ((bl s).getD 31 0).toNat) (b := 128) (by kernel_rfl) (by kernel_rfl) true (decide_eq_true ((bit31 s hs).2 hbit))) ?_
  refine wl_val (.bool true) (by kernel_rfl) (by kernel_rfl) ?_
  refine wl_nil ?_
  refine then_at (F := ⟨(.string s :: un :: pt q1 :: .bool false :: .slice (some ⟨q4, 0, none⟩) s.size cp5 :: .bool true :: un :: un :: .string s :: iN .i64 s.size :: .bool false :: un :: .string s :: .slice (some ⟨q4, 0, none⟩) s.size cp5 :: .slice (some ⟨q4, 0, none⟩) s.size cp5 :: .pointer (some ⟨q4, 31, none⟩) :: iN .u8 (((bl s).getD 31 0).toNat) :: .bool true :: List.replicate 20 un).toArray, []⟩) (by kernel_rfl) ?_
  refine wp_seq ?_
  refine wl_region ?_
  refine wl_val (.slice (some ⟨q4, 0, none⟩) s.size cp5) (by kernel_rfl) (by kernel_rfl) ?_
  refine wl_val (.slice (some ⟨q4, 0, none⟩) s.size cp5) (by kernel_rfl) (by kernel_rfl) ?_
  refine wl_val (.pointer (some ⟨q4, 31, none⟩)) (by kernel_rfl) (run_addr_slice (q := q4) (n := s.size) (m := cp5) (a := 31) Tryd.underlying60 (fun w => Tryd.sizeOf5 w) (by kernel_rfl) (by kernel_rfl) (by omega)) ?_
  refine wl_val (iN .u8 (((bl s).getD 31 0).toNat)) (by kernel_rfl) (run_load1 (fun w => Tryd.isAgg5 w) (by kernel_rfl) (((h8.get 0 rfl).cell 31).trans (byC_get (bl s) m6 31 (hls (i := 31) (by decide))))) ?_
  refine wl_val (iN .u8 ((((bl s).getD 31 0).toNat) &&& 127)) (by kernel_rfl) (run_and8 (a := ((bl s).getD 31 0).toNat) (b := 127) (by kernel_rfl) (by kernel_rfl) (u8_lt _) (by decide)) ?_
  refine wl_val (.pointer (some ⟨q4, 31, none⟩)) (by kernel_rfl) (run_addr_slice (q := q4) (n := s.size) (m := cp5) (a := 31) Tryd.underlying60 (fun w => Tryd.sizeOf5 w) (by kernel_rfl) (by kernel_rfl) (by omega)) ?_
  refine wl_put (k := .u8) (z := (((((bl s).getD 31 0).toNat) &&& 127 : Nat) : Int)) h8 0 rfl 31 (by rw [byC_size]; exact Nat.lt_add_right _ (hls (i := 31) (by decide))) (by kernel_rfl) (fun w => Tryd.sizeOf5 w) (by kernel_rfl) (by kernel_rfl) ?_
  intro w9 h10
  have h11 : HA w [(q4, 5, byC ((bl s).set 31 (UInt8.ofNat ((((bl s).getD 31 0).toNat) &&& 127))) m6), (q1, 34, rq (Q4.mk 0 0 0 0))] w9 := (by rw [← byC_put (bl s) m6 31 ((((bl s).getD 31 0).toNat) &&& 127) (hls (i := 31) (by decide)) (Nat.lt_of_le_of_lt Nat.and_le_left (u8_lt _))]; exact h10)
  clear h10
  refine wl_nil ?_
  refine then_at (F := ⟨(.string s :: un :: pt q1 :: .bool false :: .slice (some ⟨q4, 0, none⟩) s.size cp5 :: .bool true :: un :: un :: .string s :: iN .i64 s.size :: .bool false :: un :: .string s :: .slice (some ⟨q4, 0, none⟩) s.size cp5 :: .slice (some ⟨q4, 0, none⟩) s.size cp5 :: .pointer (some ⟨q4, 31, none⟩) :: iN .u8 (((bl s).getD 31 0).toNat) :: .bool true :: .slice (some ⟨q4, 0, none⟩) s.size cp5 :: .slice (some ⟨q4, 0, none⟩) s.size cp5 :: .pointer (some ⟨q4, 31, none⟩) :: iN .u8 (((bl s).getD 31 0).toNat) :: iN .u8 ((((bl s).getD 31 0).toNat) &&& 127) :: .pointer (some ⟨q4, 31, none⟩) :: List.replicate 14 un).toArray, []⟩) (by kernel_rfl) ?_
  refine wp_seq ?_
  refine wl_region ?_
  refine wl_val (.slice (some ⟨q4, 0, none⟩) s.size cp5) (by kernel_rfl) (by kernel_rfl) ?_
  refine wl_val (.string ⟨((bl s).set 31 (UInt8.ofNat ((((bl s).getD 31 0).toNat) &&& 127))).toArray⟩) (by kernel_rfl) (run_byText (n := s.size) (c := cp5) (m := m6) (l := (bl s).set 31 (UInt8.ofNat ((((bl s).getD 31 0).toNat) &&& 127))) (by simp [bl_len]) (by kernel_rfl) (h11.get 0 rfl)) ?_
  refine wl_call (v := .tuple #[rarr y, .bool true]) h11 (by kernel_rfl) enter45 #[.string ⟨((bl s).set 31 (UInt8.ofNat ((((bl s).getD 31 0).toNat) &&& 127))).toArray⟩] (by kernel_rfl) (rof_some (ByteArray.mk ((bl s).set 31 (UInt8.ofNat ((((bl s).getD 31 0).toNat) &&& 127))).toArray) hof w9) ?_
  intro w12 h13
  refine wl_val (.tuple #[rarr y, .bool true]) (by kernel_rfl) (by kernel_rfl) ?_
  refine wl_val (rarr y) (by kernel_rfl) (by kernel_rfl) ?_
  refine wl_val (.bool true) (by kernel_rfl) (by kernel_rfl) ?_
  refine wl_make h13 32 (by kernel_rfl) run_alloc32 ?_
  intro q14 w15 h16
  refine wl_fill (c' := rl y) h16 0 rfl (by kernel_rfl) (by kernel_rfl) (by kernel_rfl) (rl_sz y 0) (info_rl y) (one_rl y) ?_
  intro w17 (h18 : HA w [(q14, 32, rl y), (q4, 5, byC ((bl s).set 31 (UInt8.ofNat ((((bl s).getD 31 0).toNat) &&& 127))) m6), (q1, 34, rq (Q4.mk 0 0 0 0))] w17)
  refine wl_val (.bool true) (by kernel_rfl) (by kernel_rfl) ?_
  refine wl_nil ?_
  refine then_at (F := ⟨(.string s :: un :: pt q1 :: .bool false :: .slice (some ⟨q4, 0, none⟩) s.size cp5 :: .bool true :: pt q14 :: .bool true :: .string s :: iN .i64 s.size :: .bool false :: un :: .string s :: .slice (some ⟨q4, 0, none⟩) s.size cp5 :: .slice (some ⟨q4, 0, none⟩) s.size cp5 :: .pointer (some ⟨q4, 31, none⟩) :: iN .u8 (((bl s).getD 31 0).toNat) :: .bool true :: .slice (some ⟨q4, 0, none⟩) s.size cp5 :: .slice (some ⟨q4, 0, none⟩) s.size cp5 :: .pointer (some ⟨q4, 31, none⟩) :: iN .u8 (((bl s).getD 31 0).toNat) :: iN .u8 ((((bl s).getD 31 0).toNat) &&& 127) :: .pointer (some ⟨q4, 31, none⟩) :: .tuple #[rarr y, .bool true] :: .slice (some ⟨q4, 0, none⟩) s.size cp5 :: .string ⟨((bl s).set 31 (UInt8.ofNat ((((bl s).getD 31 0).toNat) &&& 127))).toArray⟩ :: .tuple #[rarr y, .bool true] :: rarr y :: .bool true :: List.replicate 8 un).toArray, []⟩) (by kernel_rfl) ?_
  refine wp_seq ?_
  refine wp_seq ?_
  refine wl_region ?_
  refine wl_val (.bool true) (by kernel_rfl) (by kernel_rfl) ?_
  refine wl_val (.bool false) (by kernel_rfl) (by kernel_rfl) ?_
  refine wl_nil ?_
  refine then_at (F := ⟨(.string s :: un :: pt q1 :: .bool false :: .slice (some ⟨q4, 0, none⟩) s.size cp5 :: .bool true :: pt q14 :: .bool true :: .string s :: iN .i64 s.size :: .bool false :: un :: .string s :: .slice (some ⟨q4, 0, none⟩) s.size cp5 :: .slice (some ⟨q4, 0, none⟩) s.size cp5 :: .pointer (some ⟨q4, 31, none⟩) :: iN .u8 (((bl s).getD 31 0).toNat) :: .bool true :: .slice (some ⟨q4, 0, none⟩) s.size cp5 :: .slice (some ⟨q4, 0, none⟩) s.size cp5 :: .pointer (some ⟨q4, 31, none⟩) :: iN .u8 (((bl s).getD 31 0).toNat) :: iN .u8 ((((bl s).getD 31 0).toNat) &&& 127) :: .pointer (some ⟨q4, 31, none⟩) :: .tuple #[rarr y, .bool true] :: .slice (some ⟨q4, 0, none⟩) s.size cp5 :: .string ⟨((bl s).set 31 (UInt8.ofNat ((((bl s).getD 31 0).toNat) &&& 127))).toArray⟩ :: .tuple #[rarr y, .bool true] :: rarr y :: .bool true :: .bool true :: .bool false :: List.replicate 6 un).toArray, []⟩) (by kernel_rfl) ?_
  refine wp_cond_false (by kernel_rfl) ?_
  refine wp_skip ?_
  refine then_at (F := ⟨(.string s :: un :: pt q1 :: .bool false :: .slice (some ⟨q4, 0, none⟩) s.size cp5 :: .bool true :: pt q14 :: .bool true :: .string s :: iN .i64 s.size :: .bool false :: un :: .string s :: .slice (some ⟨q4, 0, none⟩) s.size cp5 :: .slice (some ⟨q4, 0, none⟩) s.size cp5 :: .pointer (some ⟨q4, 31, none⟩) :: iN .u8 (((bl s).getD 31 0).toNat) :: .bool true :: .slice (some ⟨q4, 0, none⟩) s.size cp5 :: .slice (some ⟨q4, 0, none⟩) s.size cp5 :: .pointer (some ⟨q4, 31, none⟩) :: iN .u8 (((bl s).getD 31 0).toNat) :: iN .u8 ((((bl s).getD 31 0).toNat) &&& 127) :: .pointer (some ⟨q4, 31, none⟩) :: .tuple #[rarr y, .bool true] :: .slice (some ⟨q4, 0, none⟩) s.size cp5 :: .string ⟨((bl s).set 31 (UInt8.ofNat ((((bl s).getD 31 0).toNat) &&& 127))).toArray⟩ :: .tuple #[rarr y, .bool true] :: rarr y :: .bool true :: .bool true :: .bool false :: List.replicate 6 un).toArray, []⟩) (by kernel_rfl) ?_
  refine wp_seq ?_
  refine wl_region ?_
  refine wl_load h18 0 rfl (by kernel_rfl) (by kernel_rfl) Tryd.underlying32 rfl (info_rl y) ?_
  refine wl_val (.bool true) (by kernel_rfl) (by kernel_rfl) ?_
  refine wl_call (v := .tuple #[.agg (rq (mdQ 0 1)), .bool false]) h18 (by kernel_rfl) enter46 #[rarr y, .bool true] (by kernel_rfl) (rof_no_root1 y hy hroot w17) ?_
  intro w19 h20
  refine wl_val (.agg (rq (mdQ 0 1))) (by kernel_rfl) (by kernel_rfl) ?_
  refine wl_val (.bool false) (by kernel_rfl) (by kernel_rfl) ?_
  refine wl_fill (c' := rq (mdQ 0 1)) h20 2 rfl (by kernel_rfl) (by kernel_rfl) (by kernel_rfl) (rq_sz (mdQ 0 1) (Q4.mk 0 0 0 0)) (info34q (mdQ 0 1)) (one_rq (mdQ 0 1)) ?_
  intro w21 (h22 : HA w [(q14, 32, rl y), (q4, 5, byC ((bl s).set 31 (UInt8.ofNat ((((bl s).getD 31 0).toNat) &&& 127))) m6), (q1, 34, rq (mdQ 0 1))] w21)
  refine wl_val (.bool false) (by kernel_rfl) (by kernel_rfl) ?_
  refine wl_nil ?_
  refine then_at (F := ⟨(.string s :: un :: pt q1 :: .bool false :: .slice (some ⟨q4, 0, none⟩) s.size cp5 :: .bool true :: pt q14 :: .bool true :: .string s :: iN .i64 s.size :: .bool false :: un :: .string s :: .slice (some ⟨q4, 0, none⟩) s.size cp5 :: .slice (some ⟨q4, 0, none⟩) s.size cp5 :: .pointer (some ⟨q4, 31, none⟩) :: iN .u8 (((bl s).getD 31 0).toNat) :: .bool true :: .slice (some ⟨q4, 0, none⟩) s.size cp5 :: .slice (some ⟨q4, 0, none⟩) s.size cp5 :: .pointer (some ⟨q4, 31, none⟩) :: iN .u8 (((bl s).getD 31 0).toNat) :: iN .u8 ((((bl s).getD 31 0).toNat) &&& 127) :: .pointer (some ⟨q4, 31, none⟩) :: .tuple #[rarr y, .bool true] :: .slice (some ⟨q4, 0, none⟩) s.size cp5 :: .string ⟨((bl s).set 31 (UInt8.ofNat ((((bl s).getD 31 0).toNat) &&& 127))).toArray⟩ :: .tuple #[rarr y, .bool true] :: rarr y :: .bool true :: .bool true :: .bool false :: un :: rarr y :: .bool true :: .tuple #[.agg (rq (mdQ 0 1)), .bool false] :: .agg (rq (mdQ 0 1)) :: .bool false :: List.replicate 0 un).toArray, []⟩) (by kernel_rfl) ?_
  refine wp_ret ?_
  repeat first | refine then_ret ?_ | refine block_ret ?_
  have hB : Blk w21 q1 34 (rq (mdQ 0 1)) := h22.get 2 rfl
  exact bodyPost_ret (v := .tuple #[.agg (rq (mdQ 0 1)), .bool false]) (res34b (p := 2) (r := 3) (mdQ 0 1) (by kernel_rfl) (by kernel_rfl) (by kernel_rfl) hB) rfl ⟨rfl, h22.old⟩

set_option linter.unusedVariables false in
set_option maxRecDepth 100000 in
set_option maxHeartbeats 2000000 in
theorem QOf_no_of0 (s : ByteArray) (hs : s.size = 32) (hof : ofP (topS s) = none) (hbit : ¬ numS s / 2 ^ 255 % 2 = 1) (w : World) :
    Calls Tryd.prog 13 #[.string s] w fun e w' => e = .returned (.tuple #[.agg (rq (mdQ 0 1)), .bool false]) ∧ Below w.heap.size w w' := by
  have hls : ∀ {i : Nat}, i < 32 → i < (bl s).length := fun h => by rw [bl_len, hs]; exact h
  have H0 := HA.start w
  go_enter Tryd.func13, Tryd.ntmps13
  refine wp_seq ?_
  refine wl_region ?_
  refine wl_make H0 34 (by kernel_rfl) run_alloc34 ?_
  intro q1 w2 h3
  refine wl_val (.bool false) (by kernel_rfl) (by kernel_rfl) ?_
  refine wl_nil ?_
  refine then_at (F := ⟨(.string s :: un :: pt q1 :: .bool false :: List.replicate 34 un).toArray, []⟩) (by kernel_rfl) ?_
  refine wp_seq ?_
  refine wp_seq ?_
  refine wl_region ?_
  refine wl_val (.string s) (by kernel_rfl) (by kernel_rfl) ?_
  refine wl_val (iN .i64 s.size) (by kernel_rfl) (run_len (s := s) (by kernel_rfl)) ?_
  refine wl_val (.bool false) (by kernel_rfl) (run_nei (k := .i64) (a := s.size) (b := 32) (by kernel_rfl) (by kernel_rfl) false (decide_eq_false (not_not_intro hs))) ?_
  refine wl_nil ?_
  refine then_at (F := ⟨(.string s :: un :: pt q1 :: .bool false :: un :: un :: un :: un :: .string s :: iN .i64 s.size :: .bool false :: List.replicate 27 un).toArray, []⟩) (by kernel_rfl) ?_
  refine wp_cond_false (by kernel_rfl) ?_
  refine wp_skip ?_
  refine then_at (F := ⟨(.string s :: un :: pt q1 :: .bool false :: un :: un :: un :: un :: .string s :: iN .i64 s.size :: .bool false :: List.replicate 27 un).toArray, []⟩) (by kernel_rfl) ?_
  refine wp_seq ?_
  refine wl_region ?_
  refine wl_val (.string s) (by kernel_rfl) (by kernel_rfl) ?_
  refine wl_bytes (s := s) h3 (by kernel_rfl) (by kernel_rfl) ?_
  intro q4 cp5 m6 w7 h8
  refine wl_val (.slice (some ⟨q4, 0, none⟩) s.size cp5) (by kernel_rfl) (by kernel_rfl) ?_
  refine wl_nil ?_
  refine then_at (F := ⟨(.string s :: un :: pt q1 :: .bool false :: .slice (some ⟨q4, 0, none⟩) s.size cp5 :: un :: un :: un :: .string s :: iN .i64 s.size :: .bool false :: un :: .string s :: .slice (some ⟨q4, 0, none⟩) s.size cp5 :: List.replicate 24 un).toArray, []⟩) (by kernel_rfl) ?_
  refine wp_seq ?_
  refine wl_region ?_
  refine wl_val (.slice (some ⟨q4, 0, none⟩) s.size cp5) (by kernel_rfl) (by kernel_rfl) ?_
  refine wl_val (.pointer (some ⟨q4, 31, none⟩)) (by kernel_rfl) (run_addr_slice (q := q4) (n := s.size) (m := cp5) (a := 31) Tryd.underlying60 (fun w => Tryd.sizeOf5 w) (by kernel_rfl) (by kernel_rfl) (by omega)) ?_
  refine wl_val (iN .u8 (((bl s).getD 31 0).toNat)) (by kernel_rfl) (run_load1 (fun w => Tryd.isAgg5 w) (by kernel_rfl) (((h8.get 0 rfl).cell 31).trans (byC_get (bl s) m6 31 (hls (i := 31) (by decide))))) ?_
  refine wl_val (.bool false) (by kernel_rfl) (run_geq (k := .u8) (a := ((bl s).getD 31 0).toNat) (b := 128) (by kernel_rfl) (by kernel_rfl) false (decide_eq_false (fun h => hbit ((bit31 s hs).1 h)))) ?_
  refine wl_val (.bool false) (by kernel_rfl) (by kernel_rfl) ?_
  refine wl_nil ?_
  refine then_at (F := ⟨(.string s :: un :: pt q1 :: .bool false :: .slice (some ⟨q4, 0, none⟩) s.size cp5 :: .bool false :: un :: un :: .string s :: iN .i64 s.size :: .bool false :: un :: .string s :: .slice (some ⟨q4, 0, none⟩) s.size cp5 :: .slice (some ⟨q4, 0, none⟩) s.size cp5 :: .pointer (some ⟨q4, 31, none⟩) :: iN .u8 (((bl s).getD 31 0).toNat) :: .bool false :: List.replicate 20 un).toArray, []⟩) (by kernel_rfl) ?_
  refine wp_seq ?_
  refine wl_region ?_
  refine wl_val (.slice (some ⟨q4, 0, none⟩) s.size cp5) (by kernel_rfl) (by kernel_rfl) ?_
  refine wl_val (.slice (some ⟨q4, 0, none⟩) s.size cp5) (by kernel_rfl) (by kernel_rfl) ?_
  refine wl_val (.pointer (some ⟨q4, 31, none⟩)) (by kernel_rfl) (run_addr_slice (q := q4) (n := s.size) (m := cp5) (a := 31) Tryd.underlying60 (fun w => Tryd.sizeOf5 w) (by kernel_rfl) (by kernel_rfl) (by omega)) ?_
  refine wl_val (iN .u8 (((bl s).getD 31 0).toNat)) (by kernel_rfl) (run_load1 (fun w => Tryd.isAgg5 w) (by kernel_rfl) (((h8.get 0 rfl).cell 31).trans (byC_get (bl s) m6 31 (hls (i := 31) (by decide))))) ?_
  refine wl_val (iN .u8 ((((bl s).getD 31 0).toNat) &&& 127)) (by kernel_rfl) (run_and8 (a := ((bl s).getD 31 0).toNat) (b := 127) (by kernel_rfl) (by kernel_rfl) (u8_lt _) (by decide)) ?_
  refine wl_val (.pointer (some ⟨q4, 31, none⟩)) (by kernel_rfl) (run_addr_slice (q := q4) (n := s.size) (m := cp5) (a := 31) Tryd.underlying60 (fun w => Tryd.sizeOf5 w) (by kernel_rfl) (by kernel_rfl) (by omega)) ?_
  refine wl_put (k := .u8) (z := (((((bl s).getD 31 0).toNat) &&& 127 : Nat) : Int)) h8 0 rfl 31 (by rw [byC_size]; exact Nat.lt_add_right _ (hls (i := 31) (by decide))) (by kernel_rfl) (fun w => Tryd.sizeOf5 w) (by kernel_rfl) (by kernel_rfl) ?_
  intro w9 h10
  have h11 : HA w [(q4, 5, byC ((bl s).set 31 (UInt8.ofNat ((((bl s).getD 31 0).toNat) &&& 127))) m6), (q1, 34, rq (Q4.mk 0 0 0 0))] w9 := (by rw [← byC_put (bl s) m6 31 ((((bl s).getD 31 0).toNat) &&& 127) (hls (i := 31) (by decide)) (Nat.lt_of_le_of_lt Nat.and_le_left (u8_lt _))]; exact h10)
  clear h10
  refine wl_nil ?_
  refine then_at (F := ⟨(.string s :: un :: pt q1 :: .bool false :: .slice (some ⟨q4, 0, none⟩) s.size cp5 :: .bool false :: un :: un :: .string s :: iN .i64 s.size :: .bool false :: un :: .string s :: .slice (some ⟨q4, 0, none⟩) s.size cp5 :: .slice (some ⟨q4, 0, none⟩) s.size cp5 :: .pointer (some ⟨q4, 31, none⟩) :: iN .u8 (((bl s).getD 31 0).toNat) :: .bool false :: .slice (some ⟨q4, 0, none⟩) s.size cp5 :: .slice (some ⟨q4, 0, none⟩) s.size cp5 :: .pointer (some ⟨q4, 31, none⟩) :: iN .u8 (((bl s).getD 31 0).toNat) :: iN .u8 ((((bl s).getD 31 0).toNat) &&& 127) :: .pointer (some ⟨q4, 31, none⟩) :: List.replicate 14 un).toArray, []⟩) (by kernel_rfl) ?_
  refine wp_seq ?_
  refine wl_region ?_
  refine wl_val (.slice (some ⟨q4, 0, none⟩) s.size cp5) (by kernel_rfl) (by kernel_rfl) ?_
  refine wl_val (.string ⟨((bl s).set 31 (UInt8.ofNat ((((bl s).getD 31 0).toNat) &&& 127))).toArray⟩) (by kernel_rfl) (run_byText (n := s.size) (c := cp5) (m := m6) (l := (bl s).set 31 (UInt8.ofNat ((((bl s).getD 31 0).toNat) &&& 127))) (by simp [bl_len]) (by kernel_rfl) (h11.get 0 rfl)) ?_
  refine wl_call (v := .tuple #[rarr 0, .bool false]) h11 (by kernel_rfl) enter45 #[.string ⟨((bl s).set 31 (UInt8.ofNat ((((bl s).getD 31 0).toNat) &&& 127))).toArray⟩] (by kernel_rfl) (rof_none (ByteArray.mk ((bl s).set 31 (UInt8.ofNat ((((bl s).getD 31 0).toNat) &&& 127))).toArray) hof w9) ?_
  intro w12 h13
  refine wl_val (.tuple #[rarr 0, .bool false]) (by kernel_rfl) (by kernel_rfl) ?_
  refine wl_val (rarr 0) (by kernel_rfl) (by kernel_rfl) ?_
  refine wl_val (.bool false) (by kernel_rfl) (by kernel_rfl) ?_
  refine wl_make h13 32 (by kernel_rfl) run_alloc32 ?_
  intro q14 w15 h16
  refine wl_fill (c' := rl 0) h16 0 rfl (by kernel_rfl) (by kernel_rfl) (by kernel_rfl) (rl_sz 0 0) (info_rl 0) (one_rl 0) ?_
  intro w17 (h18 : HA w [(q14, 32, rl 0), (q4, 5, byC ((bl s).set 31 (UInt8.ofNat ((((bl s).getD 31 0).toNat) &&& 127))) m6), (q1, 34, rq (Q4.mk 0 0 0 0))] w17)
  refine wl_val (.bool false) (by kernel_rfl) (by kernel_rfl) ?_
  refine wl_nil ?_
  refine then_at (F := ⟨(.string s :: un :: pt q1 :: .bool false :: .slice (some ⟨q4, 0, none⟩) s.size cp5 :: .bool false :: pt q14 :: .bool false :: .string s :: iN .i64 s.size :: .bool false :: un :: .string s :: .slice (some ⟨q4, 0, none⟩) s.size cp5 :: .slice (some ⟨q4, 0, none⟩) s.size cp5 :: .pointer (some ⟨q4, 31, none⟩) :: iN .u8 (((bl s).getD 31 0).toNat) :: .bool false :: .slice (some ⟨q4, 0, none⟩) s.size cp5 :: .slice (some ⟨q4, 0, none⟩) s.size cp5 :: .pointer (some ⟨q4, 31, none⟩) :: iN .u8 (((bl s).getD 31 0).toNat) :: iN .u8 ((((bl s).getD 31 0).toNat) &&& 127) :: .pointer (some ⟨q4, 31, none⟩) :: .tuple #[rarr 0, .bool false] :: .slice (some ⟨q4, 0, none⟩) s.size cp5 :: .string ⟨((bl s).set 31 (UInt8.ofNat ((((bl s).getD 31 0).toNat) &&& 127))).toArray⟩ :: .tuple #[rarr 0, .bool false] :: rarr 0 :: .bool false :: List.replicate 8 un).toArray, []⟩) (by kernel_rfl) ?_
  refine wp_seq ?_
  refine wp_seq ?_
  refine wl_region ?_
  refine wl_val (.bool false) (by kernel_rfl) (by kernel_rfl) ?_
  refine wl_val (.bool true) (by kernel_rfl) (by kernel_rfl) ?_
  refine wl_nil ?_
  refine then_at (F := ⟨(.string s :: un :: pt q1 :: .bool false :: .slice (some ⟨q4, 0, none⟩) s.size cp5 :: .bool false :: pt q14 :: .bool false :: .string s :: iN .i64 s.size :: .bool false :: un :: .string s :: .slice (some ⟨q4, 0, none⟩) s.size cp5 :: .slice (some ⟨q4, 0, none⟩) s.size cp5 :: .pointer (some ⟨q4, 31, none⟩) :: iN .u8 (((bl s).getD 31 0).toNat) :: .bool false :: .slice (some ⟨q4, 0, none⟩) s.size cp5 :: .slice (some ⟨q4, 0, none⟩) s.size cp5 :: .pointer (some ⟨q4, 31, none⟩) :: iN .u8 (((bl s).getD 31 0).toNat) :: iN .u8 ((((bl s).getD 31 0).toNat) &&& 127) :: .pointer (some ⟨q4, 31, none⟩) :: .tuple #[rarr 0, .bool false] :: .slice (some ⟨q4, 0, none⟩) s.size cp5 :: .string ⟨((bl s).set 31 (UInt8.ofNat ((((bl s).getD 31 0).toNat) &&& 127))).toArray⟩ :: .tuple #[rarr 0, .bool false] :: rarr 0 :: .bool false :: .bool false :: .bool true :: List.replicate 6 un).toArray, []⟩) (by kernel_rfl) ?_
  refine wp_cond_true (by kernel_rfl) ?_
  refine wp_seq ?_
  refine wl_region ?_
  refine wl_call (v := .agg (rq (mdQ 0 1))) h18 (by kernel_rfl) enter44 #[] (by kernel_rfl) (rNone_any w17) ?_
  intro w19 h20
  refine wl_fill (c' := rq (mdQ 0 1)) h20 2 rfl (by kernel_rfl) (by kernel_rfl) (by kernel_rfl) (rq_sz (mdQ 0 1) (Q4.mk 0 0 0 0)) (info34q (mdQ 0 1)) (one_rq (mdQ 0 1)) ?_
  intro w21 (h22 : HA w [(q14, 32, rl 0), (q4, 5, byC ((bl s).set 31 (UInt8.ofNat ((((bl s).getD 31 0).toNat) &&& 127))) m6), (q1, 34, rq (mdQ 0 1))] w21)
  refine wl_val (.bool false) (by kernel_rfl) (by kernel_rfl) ?_
  refine wl_nil ?_
  refine then_at (F := ⟨(.string s :: un :: pt q1 :: .bool false :: .slice (some ⟨q4, 0, none⟩) s.size cp5 :: .bool false :: pt q14 :: .bool false :: .string s :: iN .i64 s.size :: .bool false :: un :: .string s :: .slice (some ⟨q4, 0, none⟩) s.size cp5 :: .slice (some ⟨q4, 0, none⟩) s.size cp5 :: .pointer (some ⟨q4, 31, none⟩) :: iN .u8 (((bl s).getD 31 0).toNat) :: .bool false :: .slice (some ⟨q4, 0, none⟩) s.size cp5 :: .slice (some ⟨q4, 0, none⟩) s.size cp5 :: .pointer (some ⟨q4, 31, none⟩) :: iN .u8 (((bl s).getD 31 0).toNat) :: iN .u8 ((((bl s).getD 31 0).toNat) &&& 127) :: .pointer (some ⟨q4, 31, none⟩) :: .tuple #[rarr 0, .bool false] :: .slice (some ⟨q4, 0, none⟩) s.size cp5 :: .string ⟨((bl s).set 31 (UInt8.ofNat ((((bl s).getD 31 0).toNat) &&& 127))).toArray⟩ :: .tuple #[rarr 0, .bool false] :: rarr 0 :: .bool false :: .bool false :: .bool true :: .agg (rq (mdQ 0 1)) :: List.replicate 5 un).toArray, []⟩) (by kernel_rfl) ?_
  refine wp_ret ?_
  repeat first | refine then_ret ?_ | refine block_ret ?_
  have hB : Blk w21 q1 34 (rq (mdQ 0 1)) := h22.get 2 rfl
  exact bodyPost_ret (v := .tuple #[.agg (rq (mdQ 0 1)), .bool false]) (res34b (p := 2) (r := 3) (mdQ 0 1) (by kernel_rfl) (by kernel_rfl) (by kernel_rfl) hB) rfl ⟨rfl, h22.old⟩

set_option linter.unusedVariables false in
set_option maxRecDepth 100000 in
set_option maxHeartbeats 2000000 in
theorem QOf_no_root0 (s : ByteArray) (hs : s.size = 32) (y : Nat) (hy : y < P) (hof : ofP (topS s) = some y) (hroot : rootP (bsq y) = none) (hbit : ¬ numS s / 2 ^ 255 % 2 = 1) (w : World) :
    Calls Tryd.prog 13 #[.string s] w fun e w' => e = .returned (.tuple #[.agg (rq (mdQ 0 1)), .bool false]) ∧ Below w.heap.size w w' := by
  have hls : ∀ {i : Nat}, i < 32 → i < (bl s).length := fun h => by rw [bl_len, hs]; exact h
  have H0 := HA.start w
  go_enter Tryd.func13, Tryd.ntmps13
  refine wp_seq ?_
  refine wl_region ?_
  refine wl_make H0 34 (by kernel_rfl) run_alloc34 ?_
  intro q1 w2 h3
  refine wl_val (.bool false) (by kernel_rfl) (by kernel_rfl) ?_
  refine wl_nil ?_
  refine then_at (F := ⟨(.string s :: un :: pt q1 :: .bool false :: List.replicate 34 un).toArray, []⟩) (by kernel_rfl) ?_
  refine wp_seq ?_
  refine wp_seq ?_
  refine wl_region ?_
  refine wl_val (.string s) (by kernel_rfl) (by kernel_rfl) ?_
  refine wl_val (iN .i64 s.size) (by kernel_rfl) (run_len (s := s) (by kernel_rfl)) ?_
  refine wl_val (.bool false) (by kernel_rfl) (run_nei (k := .i64) (a := s.size) (b := 32) (by kernel_rfl) (by kernel_rfl) false (decide_eq_false (not_not_intro hs))) ?_
  refine wl_nil ?_
  refine then_at (F := ⟨(.string s :: un :: pt q1 :: .bool false :: un :: un :: un :: un :: .string s :: iN .i64 s.size :: .bool false :: List.replicate 27 un).toArray, []⟩) (by kernel_rfl) ?_
  refine wp_cond_false (by kernel_rfl) ?_
  refine wp_skip ?_
  refine then_at (F := ⟨(.string s :: un :: pt q1 :: .bool false :: un :: un :: un :: un :: .string s :: iN .i64 s.size :: .bool false :: List.replicate 27 un).toArray, []⟩) (by kernel_rfl) ?_
  refine wp_seq ?_
  refine wl_region ?_
  refine wl_val (.string s) (by kernel_rfl) (by kernel_rfl) ?_
  refine wl_bytes (s := s) h3 (by kernel_rfl) (by kernel_rfl) ?_
  intro q4 cp5 m6 w7 h8
  refine wl_val (.slice (some ⟨q4, 0, none⟩) s.size cp5) (by kernel_rfl) (by kernel_rfl) ?_
  refine wl_nil ?_
  refine then_at (F := ⟨(.string s :: un :: pt q1 :: .bool false :: .slice (some ⟨q4, 0, none⟩) s.size cp5 :: un :: un :: un :: .string s :: iN .i64 s.size :: .bool false :: un :: .string s :: .slice (some ⟨q4, 0, none⟩) s.size cp5 :: List.replicate 24 un).toArray, []⟩) (by kernel_rfl) ?_
  refine wp_seq ?_
  refine wl_region ?_
  refine wl_val (.slice (some ⟨q4, 0, none⟩) s.size cp5) (by kernel_rfl) (by kernel_rfl) ?_
  refine wl_val (.pointer (some ⟨q4, 31, none⟩)) (by kernel_rfl) (run_addr_slice (q := q4) (n := s.size) (m := cp5) (a := 31) Tryd.underlying60 (fun w => Tryd.sizeOf5 w) (by kernel_rfl) (by kernel_rfl) (by omega)) ?_
  refine wl_val (iN .u8 (((bl s).getD 31 0).toNat)) (by kernel_rfl) (run_load1 (fun w => Tryd.isAgg5 w) (by kernel_rfl) (((h8.get 0 rfl).cell 31).trans (byC_get (bl s) m6 31 (hls (i := 31) (by decide))))) ?_
  refine wl_val (.bool false) (by kernel_rfl) (run_geq (k := .u8) (a := ((bl s).getD 31 0).toNat) (b := 128) (by kernel_rfl) (by kernel_rfl) false (decide_eq_false (fun h => hbit ((bit31 s hs).1 h)))) ?_
  refine wl_val (.bool false) (by kernel_rfl) (by kernel_rfl) ?_
  refine wl_nil ?_
  refine then_at (F := ⟨(.string s :: un :: pt q1 :: .bool false :: .slice (some ⟨q4, 0, none⟩) s.size cp5 :: .bool false :: un :: un :: .string s :: iN .i64 s.size :: .bool false :: un :: .string s :: .slice (some ⟨q4, 0, none⟩) s.size cp5 :: .slice (some ⟨q4, 0, none⟩) s.size cp5 :: .pointer (some ⟨q4, 31, none⟩) :: iN .u8 (((bl s).getD 31 0).toNat) :: .bool false :: List.replicate 20 un).toArray, []⟩) (by kernel_rfl) ?_
  refine wp_seq ?_
  refine wl_region ?_
  refine wl_val (.slice (some ⟨q4, 0, none⟩) s.size cp5) (by kernel_rfl) (by kernel_rfl) ?_
  refine wl_val (.slice (some ⟨q4, 0, none⟩) s.size cp5) (by kernel_rfl) (by kernel_rfl) ?_
  refine wl_val (.pointer (some ⟨q4, 31, none⟩)) (by kernel_rfl) (run_addr_slice (q := q4) (n := s.size) (m := cp5) (a := 31) Tryd.underlying60 (fun w => Tryd.sizeOf5 w) (by kernel_rfl) (by kernel_rfl) (by omega)) ?_
  refine wl_val (iN .u8 (((bl s).getD 31 0).toNat)) (by kernel_rfl) (run_load1 (fun w => Tryd.isAgg5 w) (by kernel_rfl) (((h8.get 0 rfl).cell 31).trans (byC_get (bl s) m6 31 (hls (i := 31) (by decide))))) ?_
  refine wl_val (iN .u8 ((((bl s).getD 31 0).toNat) &&& 127)) (by kernel_rfl) (run_and8 (a := ((bl s).getD 31 0).toNat) (b := 127) (by kernel_rfl) (by kernel_rfl) (u8_lt _) (by decide)) ?_
  refine wl_val (.pointer (some ⟨q4, 31, none⟩)) (by kernel_rfl) (run_addr_slice (q := q4) (n := s.size) (m := cp5) (a := 31) Tryd.underlying60 (fun w => Tryd.sizeOf5 w) (by kernel_rfl) (by kernel_rfl) (by omega)) ?_
  refine wl_put (k := .u8) (z := (((((bl s).getD 31 0).toNat) &&& 127 : Nat) : Int)) h8 0 rfl 31 (by rw [byC_size]; exact Nat.lt_add_right _ (hls (i := 31) (by decide))) (by kernel_rfl) (fun w => Tryd.sizeOf5 w) (by kernel_rfl) (by kernel_rfl) ?_
  intro w9 h10
  have h11 : HA w [(q4, 5, byC ((bl s).set 31 (UInt8.ofNat ((((bl s).getD 31 0).toNat) &&& 127))) m6), (q1, 34, rq (Q4.mk 0 0 0 0))] w9 := (by rw [← byC_put (bl s) m6 31 ((((bl s).getD 31 0).toNat) &&& 127) (hls (i := 31) (by decide)) (Nat.lt_of_le_of_lt Nat.and_le_left (u8_lt _))]; exact h10)
  clear h10
  refine wl_nil ?_
  refine then_at (F := ⟨(.string s :: un :: pt q1 :: .bool false :: .slice (some ⟨q4, 0, none⟩) s.size cp5 :: .bool false :: un :: un :: .string s :: iN .i64 s.size :: .bool false :: un :: .string s :: .slice (some ⟨q4, 0, none⟩) s.size cp5 :: .slice (some ⟨q4, 0, none⟩) s.size cp5 :: .pointer (some ⟨q4, 31, none⟩) :: iN .u8 (((bl s).getD 31 0).toNat) :: .bool false :: .slice (some ⟨q4, 0, none⟩) s.size cp5 :: .slice (some ⟨q4, 0, none⟩) s.size cp5 :: .pointer (some ⟨q4, 31, none⟩) :: iN .u8 (((bl s).getD 31 0).toNat) :: iN .u8 ((((bl s).getD 31 0).toNat) &&& 127) :: .pointer (some ⟨q4, 31, none⟩) :: List.replicate 14 un).toArray, []⟩) (by kernel_rfl) ?_
  refine wp_seq ?_
  refine wl_region ?_
  refine wl_val (.slice (some ⟨q4, 0, none⟩) s.size cp5) (by kernel_rfl) (by kernel_rfl) ?_
  refine wl_val (.string ⟨((bl s).set 31 (UInt8.ofNat ((((bl s).getD 31 0).toNat) &&& 127))).toArray⟩) (by kernel_rfl) (run_byText (n := s.size) (c := cp5) (m := m6) (l := (bl s).set 31 (UInt8.ofNat ((((bl s).getD 31 0).toNat) &&& 127))) (by simp [bl_len]) (by kernel_rfl) (h11.get 0 rfl)) ?_
  refine wl_call (v := .tuple #[rarr y, .bool true]) h11 (by kernel_rfl) enter45 #[.string ⟨((bl s).set 31 (UInt8.ofNat ((((bl s).getD 31 0).toNat) &&& 127))).toArray⟩] (by kernel_rfl) (rof_some (ByteArray.mk ((bl s).set 31 (UInt8.ofNat ((((bl s).getD 31 0).toNat) &&& 127))).toArray) hof w9) ?_
  intro w12 h13
  refine wl_val (.tuple #[rarr y, .bool true]) (by kernel_rfl) (by kernel_rfl) ?_
  refine wl_val (rarr y) (by kernel_rfl) (by kernel_rfl) ?_
  refine wl_val (.bool true) (by kernel_rfl) (by kernel_rfl) ?_
  refine wl_make h13 32 (by kernel_rfl) run_alloc32 ?_
  intro q14 w15 h16
  refine wl_fill (c' := rl y) h16 0 rfl (by kernel_rfl) (by kernel_rfl) (by kernel_rfl) (rl_sz y 0) (info_rl y) (one_rl y) ?_
  intro w17 (h18 : HA w [(q14, 32, rl y), (q4, 5, byC ((bl s).set 31 (UInt8.ofNat ((((bl s).getD 31 0).toNat) &&& 127))) m6), (q1, 34, rq (Q4.mk 0 0 0 0))] w17)
  refine wl_val (.bool true) (by kernel_rfl) (by kernel_rfl) ?_
  refine wl_nil ?_
  refine then_at (F := ⟨(.string s :: un :: pt q1 :: .bool false :: .slice (some ⟨q4, 0, none⟩) s.size cp5 :: .bool false :: pt q14 :: .bool true :: .string s :: iN .i64 s.size :: .bool false :: un :: .string s :: .slice (some ⟨q4, 0, none⟩) s.size cp5 :: .slice (some ⟨q4, 0, none⟩) s.size cp5 :: .pointer (some ⟨q4, 31, none⟩) :: iN .u8 (((bl s).getD 31 0).toNat) :: .bool false :: .slice (some ⟨q4, 0, none⟩) s.size cp5 :: .slice (some ⟨q4, 0, none⟩) s.size cp5 :: .pointer (some ⟨q4, 31, none⟩) :: iN .u8 (((bl s).getD 31 0).toNat) :: iN .u8 ((((bl s).getD 31 0).toNat) &&& 127) :: .pointer (some ⟨q4, 31, none⟩) :: .tuple #[rarr y, .bool true] :: .slice (some ⟨q4, 0, none⟩) s.size cp5 :: .string ⟨((bl s).set 31 (UInt8.ofNat ((((bl s).getD 31 0).toNat) &&& 127))).toArray⟩ :: .tuple #[rarr y, .bool true] :: rarr y :: .bool true :: List.replicate 8 un).toArray, []⟩) (by kernel_rfl) ?_
  refine wp_seq ?_
  refine wp_seq ?_
  refine wl_region ?_
  refine wl_val (.bool true) (by kernel_rfl) (by kernel_rfl) ?_
  refine wl_val (.bool false) (by kernel_rfl) (by kernel_rfl) ?_
  refine wl_nil ?_
  refine then_at (F := ⟨(.string s :: un :: pt q1 :: .bool false :: .slice (some ⟨q4, 0, none⟩) s.size cp5 :: .bool false :: pt q14 :: .bool true :: .string s :: iN .i64 s.size :: .bool false :: un :: .string s :: .slice (some ⟨q4, 0, none⟩) s.size cp5 :: .slice (some ⟨q4, 0, none⟩) s.size cp5 :: .pointer (some ⟨q4, 31, none⟩) :: iN .u8 (((bl s).getD 31 0).toNat) :: .bool false :: .slice (some ⟨q4, 0, none⟩) s.size cp5 :: .slice (some ⟨q4, 0, none⟩) s.size cp5 :: .pointer (some ⟨q4, 31, none⟩) :: iN .u8 (((bl s).getD 31 0).toNat) :: iN .u8 ((((bl s).getD 31 0).toNat) &&& 127) :: .pointer (some ⟨q4, 31, none⟩) :: .tuple #[rarr y, .bool true] :: .slice (some ⟨q4, 0, none⟩) s.size cp5 :: .string ⟨((bl s).set 31 (UInt8.ofNat ((((bl s).getD 31 0).toNat) &&& 127))).toArray⟩ :: .tuple #[rarr y, .bool true] :: rarr y :: .bool true :: .bool true :: .bool false :: List.replicate 6 un).toArray, []⟩) (by kernel_rfl) ?_
  refine wp_cond_false (by kernel_rfl) ?_
  refine wp_skip ?_
  refine then_at (F := ⟨(.string s :: un :: pt q1 :: .bool false :: .slice (some ⟨q4, 0, none⟩) s.size cp5 :: .bool false :: pt q14 :: .bool true :: .string s :: iN .i64 s.size :: .bool false :: un :: .string s :: .slice (some ⟨q4, 0, none⟩) s.size cp5 :: .slice (some ⟨q4, 0, none⟩) s.size cp5 :: .pointer (some ⟨q4, 31, none⟩) :: iN .u8 (((bl s).getD 31 0).toNat) :: .bool false :: .slice (some ⟨q4, 0, none⟩) s.size cp5 :: .slice (some ⟨q4, 0, none⟩) s.size cp5 :: .pointer (some ⟨q4, 31, none⟩) :: iN .u8 (((bl s).getD 31 0).toNat) :: iN .u8 ((((bl s).getD 31 0).toNat) &&& 127) :: .pointer (some ⟨q4, 31, none⟩) :: .tuple #[rarr y, .bool true] :: .slice (some ⟨q4, 0, none⟩) s.size cp5 :: .string ⟨((bl s).set 31 (UInt8.ofNat ((((bl s).getD 31 0).toNat) &&& 127))).toArray⟩ :: .tuple #[rarr y, .bool true] :: rarr y :: .bool true :: .bool true :: .bool false :: List.replicate 6 un).toArray, []⟩) (by kernel_rfl) ?_
  refine wp_seq ?_
  refine wl_region ?_
  refine wl_load h18 0 rfl (by kernel_rfl) (by kernel_rfl) Tryd.underlying32 rfl (info_rl y) ?_
  refine wl_val (.bool false) (by kernel_rfl) (by kernel_rfl) ?_
  refine wl_call (v := .tuple #[.agg (rq (mdQ 0 1)), .bool false]) h18 (by kernel_rfl) enter46 #[rarr y, .bool false] (by kernel_rfl) (rof_no_root0 y hy hroot w17) ?_
  intro w19 h20
  refine wl_val (.agg (rq (mdQ 0 1))) (by kernel_rfl) (by kernel_rfl) ?_
  refine wl_val (.bool false) (by kernel_rfl) (by kernel_rfl) ?_
  refine wl_fill (c' := rq (mdQ 0 1)) h20 2 rfl (by kernel_rfl) (by kernel_rfl) (by kernel_rfl) (rq_sz (mdQ 0 1) (Q4.mk 0 0 0 0)) (info34q (mdQ 0 1)) (one_rq (mdQ 0 1)) ?_
  intro w21 (h22 : HA w [(q14, 32, rl y), (q4, 5, byC ((bl s).set 31 (UInt8.ofNat ((((bl s).getD 31 0).toNat) &&& 127))) m6), (q1, 34, rq (mdQ 0 1))] w21)
  refine wl_val (.bool false) (by kernel_rfl) (by kernel_rfl) ?_
  refine wl_nil ?_
  refine then_at (F := ⟨(.string s :: un :: pt q1 :: .bool false :: .slice (some ⟨q4, 0, none⟩) s.size cp5 :: .bool false :: pt q14 :: .bool true :: .string s :: iN .i64 s.size :: .bool false :: un :: .string s :: .slice (some ⟨q4, 0, none⟩) s.size cp5 :: .slice (some ⟨q4, 0, none⟩) s.size cp5 :: .pointer (some ⟨q4, 31, none⟩) :: iN .u8 (((bl s).getD 31 0).toNat) :: .bool false :: .slice (some ⟨q4, 0, none⟩) s.size cp5 :: .slice (some ⟨q4, 0, none⟩) s.size cp5 :: .pointer (some ⟨q4, 31, none⟩) :: iN .u8 (((bl s).getD 31 0).toNat) :: iN .u8 ((((bl s).getD 31 0).toNat) &&& 127) :: .pointer (some ⟨q4, 31, none⟩) :: .tuple #[rarr y, .bool true] :: .slice (some ⟨q4, 0, none⟩) s.size cp5 :: .string ⟨((bl s).set 31 (UInt8.ofNat ((((bl s).getD 31 0).toNat) &&& 127))).toArray⟩ :: .tuple #[rarr y, .bool true] :: rarr y :: .bool true :: .bool true :: .bool false :: un :: rarr y :: .bool false :: .tuple #[.agg (rq (mdQ 0 1)), .bool false] :: .agg (rq (mdQ 0 1)) :: .bool false :: List.replicate 0 un).toArray, []⟩) (by kernel_rfl) ?_
  refine wp_ret ?_
  repeat first | refine then_ret ?_ | refine block_ret ?_
  have hB : Blk w21 q1 34 (rq (mdQ 0 1)) := h22.get 2 rfl
  exact bodyPost_ret (v := .tuple #[.agg (rq (mdQ 0 1)), .bool false]) (res34b (p := 2) (r := 3) (mdQ 0 1) (by kernel_rfl) (by kernel_rfl) (by kernel_rfl) hB) rfl ⟨rfl, h22.old⟩

set_option linter.unusedVariables false in
set_option maxRecDepth 100000 in
set_option maxHeartbeats 2000000 in
theorem QOf_no_zero (s : ByteArray) (hs : s.size = 32) (y : Nat) (hy : y < P) (hof : ofP (topS s) = some y) (rt : Nat) (hrt : rt < P) (hroot : rootP (bsq y) = some rt) (hbit : numS s / 2 ^ 255 % 2 = 1) (hz : rt = 0) (w : World) :
    Calls Tryd.prog 13 #[.string s] w fun e w' => e = .returned (.tuple #[.agg (rq (mdQ 0 1)), .bool false]) ∧ Below w.heap.size w w' := by
  have hls : ∀ {i : Nat}, i < 32 → i < (bl s).length := fun h => by rw [bl_len, hs]; exact h
  have H0 := HA.start w
  go_enter Tryd.func13, Tryd.ntmps13
  refine wp_seq ?_
  refine wl_region ?_
  refine wl_make H0 34 (by kernel_rfl) run_alloc34 ?_
  intro q1 w2 h3
  refine wl_val (.bool false) (by kernel_rfl) (by kernel_rfl) ?_
  refine wl_nil ?_
  refine then_at (F := ⟨(.string s :: un :: pt q1 :: .bool false :: List.replicate 34 un).toArray, []⟩) (by kernel_rfl) ?_
  refine wp_seq ?_
  refine wp_seq ?_
  refine wl_region ?_
  refine wl_val (.string s) (by kernel_rfl) (by kernel_rfl) ?_
  refine wl_val (iN .i64 s.size) (by kernel_rfl) (run_len (s := s) (by kernel_rfl)) ?_
  refine wl_val (.bool false) (by kernel_rfl) (run_nei (k := .i64) (a := s.size) (b := 32) (by kernel_rfl) (by kernel_rfl) false (decide_eq_false (not_not_intro hs))) ?_
  refine wl_nil ?_
  refine then_at (F := ⟨(.string s :: un :: pt q1 :: .bool false :: un :: un :: un :: un :: .string s :: iN .i64 s.size :: .bool false :: List.replicate 27 un).toArray, []⟩) (by kernel_rfl) ?_
  refine wp_cond_false (by kernel_rfl) ?_
  refine wp_skip ?_
  refine then_at (F := ⟨(.string s :: un :: pt q1 :: .bool false :: un :: un :: un :: un :: .string s :: iN .i64 s.size :: .bool false :: List.replicate 27 un).toArray, []⟩) (by kernel_rfl) ?_
  refine wp_seq ?_
  refine wl_region ?_
  refine wl_val (.string s) (by kernel_rfl) (by kernel_rfl) ?_
  refine wl_bytes (s := s) h3 (by kernel_rfl) (by kernel_rfl) ?_
  intro q4 cp5 m6 w7 h8
  refine wl_val (.slice (some ⟨q4, 0, none⟩) s.size cp5) (by kernel_rfl) (by kernel_rfl) ?_
  refine wl_nil ?_
  refine then_at (F := ⟨(.string s :: un :: pt q1 :: .bool false :: .slice (some ⟨q4, 0, none⟩) s.size cp5 :: un :: un :: un :: .string s :: iN .i64 s.size :: .bool false :: un :: .string s :: .slice (some ⟨q4, 0, none⟩) s.size cp5 :: List.replicate 24 un).toArray, []⟩) (by kernel_rfl) ?_
  refine wp_seq ?_
  refine wl_region ?_
  refine wl_val (.slice (some ⟨q4, 0, none⟩) s.size cp5) (by kernel_rfl) (by kernel_rfl) ?_
  refine wl_val (.pointer (some ⟨q4, 31, none⟩)) (by kernel_rfl) (run_addr_slice (q := q4) (n := s.size) (m := cp5) (a := 31) Tryd.underlying60 (fun w => Tryd.sizeOf5 w) (by kernel_rfl) (by kernel_rfl) (by omega)) ?_
  refine wl_val (iN .u8 (((bl s).getD 31 0).toNat)) (by kernel_rfl) (run_load1 (fun w => Tryd.isAgg5 w) (by kernel_rfl) (((h8.get 0 rfl).cell 31).trans (byC_get (bl s) m6 31 (hls (i := 31) (by decide))))) ?_
  refine wl_val (.bool true) (by kernel_rfl) (run_geq (k := .u8) (a := ((bl s).getD 31 0).toNat) (b := 128) (by kernel_rfl) (by kernel_rfl) true (decide_eq_true ((bit31 s hs).2 hbit))) ?_
  refine wl_val (.bool true) (by kernel_rfl) (by kernel_rfl) ?_
  refine wl_nil ?_
  refine then_at (F := ⟨(.string s :: un :: pt q1 :: .bool false :: .slice (some ⟨q4, 0, none⟩) s.size cp5 :: .bool true :: un :: un :: .string s :: iN .i64 s.size :: .bool false :: un :: .string s :: .slice (some ⟨q4, 0, none⟩) s.size cp5 :: .slice (some ⟨q4, 0, none⟩) s.size cp5 :: .pointer (some ⟨q4, 31, none⟩) :: iN .u8 (((bl s).getD 31 0).toNat) :: .bool true :: List.replicate 20 un).toArray, []⟩) (by kernel_rfl) ?_
  refine wp_seq ?_
  refine wl_region ?_
  refine wl_val (.slice (some ⟨q4, 0, none⟩) s.size cp5) (by kernel_rfl) (by kernel_rfl) ?_
  refine wl_val (.slice (some ⟨q4, 0, none⟩) s.size cp5) (by kernel_rfl) (by kernel_rfl) ?_
  refine wl_val (.pointer (some ⟨q4, 31, none⟩)) (by kernel_rfl) (run_addr_slice (q := q4) (n := s.size) (m := cp5) (a := 31) Tryd.underlying60 (fun w => Tryd.sizeOf5 w) (by kernel_rfl) (by kernel_rfl) (by omega)) ?_
  refine wl_val (iN .u8 (((bl s).getD 31 0).toNat)) (by kernel_rfl) (run_load1 (fun w => Tryd.isAgg5 w) (by kernel_rfl) (((h8.get 0 rfl).cell 31).trans (byC_get (bl s) m6 31 (hls (i := 31) (by decide))))) ?_
  refine wl_val (iN .u8 ((((bl s).getD 31 0).toNat) &&& 127)) (by kernel_rfl) (run_and8 (a := ((bl s).getD 31 0).toNat) (b := 127) (by kernel_rfl) (by kernel_rfl) (u8_lt _) (by decide)) ?_
  refine wl_val (.pointer (some ⟨q4, 31, none⟩)) (by kernel_rfl) (run_addr_slice (q := q4) (n := s.size) (m := cp5) (a := 31) Tryd.underlying60 (fun w => Tryd.sizeOf5 w) (by kernel_rfl) (by kernel_rfl) (by omega)) ?_
  refine wl_put (k := .u8) (z := (((((bl s).getD 31 0).toNat) &&& 127 : Nat) : Int)) h8 0 rfl 31 (by rw [byC_size]; exact Nat.lt_add_right _ (hls (i := 31) (by decide))) (by kernel_rfl) (fun w => Tryd.sizeOf5 w) (by kernel_rfl) (by kernel_rfl) ?_
  intro w9 h10
  have h11 : HA w [(q4, 5, byC ((bl s).set 31 (UInt8.ofNat ((((bl s).getD 31 0).toNat) &&& 127))) m6), (q1, 34, rq (Q4.mk 0 0 0 0))] w9 := (by rw [← byC_put (bl s) m6 31 ((((bl s).getD 31 0).toNat) &&& 127) (hls (i := 31) (by decide)) (Nat.lt_of_le_of_lt Nat.and_le_left (u8_lt _))]; exact h10)
  clear h10
  refine wl_nil ?_
  refine then_at (F := ⟨(.string s :: un :: pt q1 :: .bool false :: .slice (some ⟨q4, 0, none⟩) s.size cp5 :: .bool true :: un :: un :: .string s :: iN .i64 s.size :: .bool false :: un :: .string s :: .slice (some ⟨q4, 0, none⟩) s.size cp5 :: .slice (some ⟨q4, 0, none⟩) s.size cp5 :: .pointer (some ⟨q4, 31, none⟩) :: iN .u8 (((bl s).getD 31 0).toNat) :: .bool true :: .slice (some ⟨q4, 0, none⟩) s.size cp5 :: .slice (some ⟨q4, 0, none⟩) s.size cp5 :: .pointer (some ⟨q4, 31, none⟩) :: iN .u8 (((bl s).getD 31 0).toNat) :: iN .u8 ((((bl s).getD 31 0).toNat) &&& 127) :: .pointer (some ⟨q4, 31, none⟩) :: List.replicate 14 un).toArray, []⟩) (by kernel_rfl) ?_
  refine wp_seq ?_
  refine wl_region ?_
  refine wl_val (.slice (some ⟨q4, 0, none⟩) s.size cp5) (by kernel_rfl) (by kernel_rfl) ?_
  refine wl_val (.string ⟨((bl s).set 31 (UInt8.ofNat ((((bl s).getD 31 0).toNat) &&& 127))).toArray⟩) (by kernel_rfl) (run_byText (n := s.size) (c := cp5) (m := m6) (l := (bl s).set 31 (UInt8.ofNat ((((bl s).getD 31 0).toNat) &&& 127))) (by simp [bl_len]) (by kernel_rfl) (h11.get 0 rfl)) ?_
  refine wl_call (v := .tuple #[rarr y, .bool true]) h11 (by kernel_rfl) enter45 #[.string ⟨((bl s).set 31 (UInt8.ofNat ((((bl s).getD 31 0).toNat) &&& 127))).toArray⟩] (by kernel_rfl) (rof_some (ByteArray.mk ((bl s).set 31 (UInt8.ofNat ((((bl s).getD 31 0).toNat) &&& 127))).toArray) hof w9) ?_
  intro w12 h13
  refine wl_val (.tuple #[rarr y, .bool true]) (by kernel_rfl) (by kernel_rfl) ?_
  refine wl_val (rarr y) (by kernel_rfl) (by kernel_rfl) ?_
  refine wl_val (.bool true) (by kernel_rfl) (by kernel_rfl) ?_
  refine wl_make h13 32 (by kernel_rfl) run_alloc32 ?_
  intro q14 w15 h16
  refine wl_fill (c' := rl y) h16 0 rfl (by kernel_rfl) (by kernel_rfl) (by kernel_rfl) (rl_sz y 0) (info_rl y) (one_rl y) ?_
  intro w17 (h18 : HA w [(q14, 32, rl y), (q4, 5, byC ((bl s).set 31 (UInt8.ofNat ((((bl s).getD 31 0).toNat) &&& 127))) m6), (q1, 34, rq (Q4.mk 0 0 0 0))] w17)
  refine wl_val (.bool true) (by kernel_rfl) (by kernel_rfl) ?_
  refine wl_nil ?_
  refine then_at (F := ⟨(.string s :: un :: pt q1 :: .bool false :: .slice (some ⟨q4, 0, none⟩) s.size cp5 :: .bool true :: pt q14 :: .bool true :: .string s :: iN .i64 s.size :: .bool false :: un :: .string s :: .slice (some ⟨q4, 0, none⟩) s.size cp5 :: .slice (some ⟨q4, 0, none⟩) s.size cp5 :: .pointer (some ⟨q4, 31, none⟩) :: iN .u8 (((bl s).getD 31 0).toNat) :: .bool true :: .slice (some ⟨q4, 0, none⟩) s.size cp5 :: .slice (some ⟨q4, 0, none⟩) s.size cp5 :: .pointer (some ⟨q4, 31, none⟩) :: iN .u8 (((bl s).getD 31 0).toNat) :: iN .u8 ((((bl s).getD 31 0).toNat) &&& 127) :: .pointer (some ⟨q4, 31, none⟩) :: .tuple #[rarr y, .bool true] :: .slice (some ⟨q4, 0, none⟩) s.size cp5 :: .string ⟨((bl s).set 31 (UInt8.ofNat ((((bl s).getD 31 0).toNat) &&& 127))).toArray⟩ :: .tuple #[rarr y, .bool true] :: rarr y :: .bool true :: List.replicate 8 un).toArray, []⟩) (by kernel_rfl) ?_
  refine wp_seq ?_
  refine wp_seq ?_
  refine wl_region ?_
  refine wl_val (.bool true) (by kernel_rfl) (by kernel_rfl) ?_
  refine wl_val (.bool false) (by kernel_rfl) (by kernel_rfl) ?_
  refine wl_nil ?_
  refine then_at (F := ⟨(.string s :: un :: pt q1 :: .bool false :: .slice (some ⟨q4, 0, none⟩) s.size cp5 :: .bool true :: pt q14 :: .bool true :: .string s :: iN .i64 s.size :: .bool false :: un :: .string s :: .slice (some ⟨q4, 0, none⟩) s.size cp5 :: .slice (some ⟨q4, 0, none⟩) s.size cp5 :: .pointer (some ⟨q4, 31, none⟩) :: iN .u8 (((bl s).getD 31 0).toNat) :: .bool true :: .slice (some ⟨q4, 0, none⟩) s.size cp5 :: .slice (some ⟨q4, 0, none⟩) s.size cp5 :: .pointer (some ⟨q4, 31, none⟩) :: iN .u8 (((bl s).getD 31 0).toNat) :: iN .u8 ((((bl s).getD 31 0).toNat) &&& 127) :: .pointer (some ⟨q4, 31, none⟩) :: .tuple #[rarr y, .bool true] :: .slice (some ⟨q4, 0, none⟩) s.size cp5 :: .string ⟨((bl s).set 31 (UInt8.ofNat ((((bl s).getD 31 0).toNat) &&& 127))).toArray⟩ :: .tuple #[rarr y, .bool true] :: rarr y :: .bool true :: .bool true :: .bool false :: List.replicate 6 un).toArray, []⟩) (by kernel_rfl) ?_
  refine wp_cond_false (by kernel_rfl) ?_
  refine wp_skip ?_
  refine then_at (F := ⟨(.string s :: un :: pt q1 :: .bool false :: .slice (some ⟨q4, 0, none⟩) s.size cp5 :: .bool true :: pt q14 :: .bool true :: .string s :: iN .i64 s.size :: .bool false :: un :: .string s :: .slice (some ⟨q4, 0, none⟩) s.size cp5 :: .slice (some ⟨q4, 0, none⟩) s.size cp5 :: .pointer (some ⟨q4, 31, none⟩) :: iN .u8 (((bl s).getD 31 0).toNat) :: .bool true :: .slice (some ⟨q4, 0, none⟩) s.size cp5 :: .slice (some ⟨q4, 0, none⟩) s.size cp5 :: .pointer (some ⟨q4, 31, none⟩) :: iN .u8 (((bl s).getD 31 0).toNat) :: iN .u8 ((((bl s).getD 31 0).toNat) &&& 127) :: .pointer (some ⟨q4, 31, none⟩) :: .tuple #[rarr y, .bool true] :: .slice (some ⟨q4, 0, none⟩) s.size cp5 :: .string ⟨((bl s).set 31 (UInt8.ofNat ((((bl s).getD 31 0).toNat) &&& 127))).toArray⟩ :: .tuple #[rarr y, .bool true] :: rarr y :: .bool true :: .bool true :: .bool false :: List.replicate 6 un).toArray, []⟩) (by kernel_rfl) ?_
  refine wp_seq ?_
  refine wl_region ?_
  refine wl_load h18 0 rfl (by kernel_rfl) (by kernel_rfl) Tryd.underlying32 rfl (info_rl y) ?_
  refine wl_val (.bool true) (by kernel_rfl) (by kernel_rfl) ?_
  refine wl_call (v := .tuple #[.agg (rq (mdQ 0 1)), .bool false]) h18 (by kernel_rfl) enter46 #[rarr y, .bool true] (by kernel_rfl) (rof_no_zero y hy rt hrt hroot hz w17) ?_
  intro w19 h20
  refine wl_val (.agg (rq (mdQ 0 1))) (by kernel_rfl) (by kernel_rfl) ?_
  refine wl_val (.bool false) (by kernel_rfl) (by kernel_rfl) ?_
  refine wl_fill (c' := rq (mdQ 0 1)) h20 2 rfl (by kernel_rfl) (by kernel_rfl) (by kernel_rfl) (rq_sz (mdQ 0 1) (Q4.mk 0 0 0 0)) (info34q (mdQ 0 1)) (one_rq (mdQ 0 1)) ?_
  intro w21 (h22 : HA w [(q14, 32, rl y), (q4, 5, byC ((bl s).set 31 (UInt8.ofNat ((((bl s).getD 31 0).toNat) &&& 127))) m6), (q1, 34, rq (mdQ 0 1))] w21)
  refine wl_val (.bool false) (by kernel_rfl) (by kernel_rfl) ?_
  refine wl_nil ?_
  refine then_at (F := ⟨(.string s :: un :: pt q1 :: .bool false :: .slice (some ⟨q4, 0, none⟩) s.size cp5 :: .bool true :: pt q14 :: .bool true :: .string s :: iN .i64 s.size :: .bool false :: un :: .string s :: .slice (some ⟨q4, 0, none⟩) s.size cp5 :: .slice (some ⟨q4, 0, none⟩) s.size cp5 :: .pointer (some ⟨q4, 31, none⟩) :: iN .u8 (((bl s).getD 31 0).toNat) :: .bool true :: .slice (some ⟨q4, 0, none⟩) s.size cp5 :: .slice (some ⟨q4, 0, none⟩) s.size cp5 :: .pointer (some ⟨q4, 31, none⟩) :: iN .u8 (((bl s).getD 31 0).toNat) :: iN .u8 ((((bl s).getD 31 0).toNat) &&& 127) :: .pointer (some ⟨q4, 31, none⟩) :: .tuple #[rarr y, .bool true] :: .slice (some ⟨q4, 0, none⟩) s.size cp5 :: .string ⟨((bl s).set 31 (UInt8.ofNat ((((bl s).getD 31 0).toNat) &&& 127))).toArray⟩ :: .tuple #[rarr y, .bool true] :: rarr y :: .bool true :: .bool true :: .bool false :: un :: rarr y :: .bool true :: .tuple #[.agg (rq (mdQ 0 1)), .bool false] :: .agg (rq (mdQ 0 1)) :: .bool false :: List.replicate 0 un).toArray, []⟩) (by kernel_rfl) ?_
  refine wp_ret ?_
  repeat first | refine then_ret ?_ | refine block_ret ?_
  have hB : Blk w21 q1 34 (rq (mdQ 0 1)) := h22.get 2 rfl
  exact bodyPost_ret (v := .tuple #[.agg (rq (mdQ 0 1)), .bool false]) (res34b (p := 2) (r := 3) (mdQ 0 1) (by kernel_rfl) (by kernel_rfl) (by kernel_rfl) hB) rfl ⟨rfl, h22.old⟩

set_option linter.unusedVariables false in
set_option maxRecDepth 100000 in
set_option maxHeartbeats 2000000 in
theorem QOf_yes_odd (s : ByteArray) (hs : s.size = 32) (y : Nat) (hy : y < P) (hof : ofP (topS s) = some y) (rt : Nat) (hrt : rt < P) (hroot : rootP (bsq y) = some rt) (hbit : numS s / 2 ^ 255 % 2 = 1) (hz : ¬ rt = 0) (w : World) :
    Calls Tryd.prog 13 #[.string s] w fun e w' => e = .returned (.tuple #[.agg (rq (mdQ (negP rt) y)), .bool true]) ∧ Below w.heap.size w w' := by
  have hls : ∀ {i : Nat}, i < 32 → i < (bl s).length := fun h => by rw [bl_len, hs]; exact h
  have H0 := HA.start w
  go_enter Tryd.func13, Tryd.ntmps13
  refine wp_seq ?_
  refine wl_region ?_
  refine wl_make H0 34 (by kernel_rfl) run_alloc34 ?_
  intro q1 w2 h3
  refine wl_val (.bool false) (by kernel_rfl) (by kernel_rfl) ?_
  refine wl_nil ?_
  refine then_at (F := ⟨(.string s :: un :: pt q1 :: .bool false :: List.replicate 34 un).toArray, []⟩) (by kernel_rfl) ?_
  refine wp_seq ?_
  refine wp_seq ?_
  refine wl_region ?_
  refine wl_val (.string s) (by kernel_rfl) (by kernel_rfl) ?_
  refine wl_val (iN .i64 s.size) (by kernel_rfl) (run_len (s := s) (by kernel_rfl)) ?_
  refine wl_val (.bool false) (by kernel_rfl) (run_nei (k := .i64) (a := s.size) (b := 32) (by kernel_rfl) (by kernel_rfl) false (decide_eq_false (not_not_intro hs))) ?_
  refine wl_nil ?_
  refine then_at (F := ⟨(.string s :: un :: pt q1 :: .bool false :: un :: un :: un :: un :: .string s :: iN .i64 s.size :: .bool false :: List.replicate 27 un).toArray, []⟩) (by kernel_rfl) ?_
  refine wp_cond_false (by kernel_rfl) ?_
  refine wp_skip ?_
  refine then_at (F := ⟨(.string s :: un :: pt q1 :: .bool false :: un :: un :: un :: un :: .string s :: iN .i64 s.size :: .bool false :: List.replicate 27 un).toArray, []⟩) (by kernel_rfl) ?_
  refine wp_seq ?_
  refine wl_region ?_
  refine wl_val (.string s) (by kernel_rfl) (by kernel_rfl) ?_
  refine wl_bytes (s := s) h3 (by kernel_rfl) (by kernel_rfl) ?_
  intro q4 cp5 m6 w7 h8
  refine wl_val (.slice (some ⟨q4, 0, none⟩) s.size cp5) (by kernel_rfl) (by kernel_rfl) ?_
  refine wl_nil ?_
  refine then_at (F := ⟨(.string s :: un :: pt q1 :: .bool false :: .slice (some ⟨q4, 0, none⟩) s.size cp5 :: un :: un :: un :: .string s :: iN .i64 s.size :: .bool false :: un :: .string s :: .slice (some ⟨q4, 0, none⟩) s.size cp5 :: List.replicate 24 un).toArray, []⟩) (by kernel_rfl) ?_
  refine wp_seq ?_
  refine wl_region ?_
  refine wl_val (.slice (some ⟨q4, 0, none⟩) s.size cp5) (by kernel_rfl) (by kernel_rfl) ?_
  refine wl_val (.pointer (some ⟨q4, 31, none⟩)) (by kernel_rfl) (run_addr_slice (q := q4) (n := s.size) (m := cp5) (a := 31) Tryd.underlying60 (fun w => Tryd.sizeOf5 w) (by kernel_rfl) (by kernel_rfl) (by omega)) ?_
  refine wl_val (iN .u8 (((bl s).getD 31 0).toNat)) (by kernel_rfl) (run_load1 (fun w => Tryd.isAgg5 w) (by kernel_rfl) (((h8.get 0 rfl).cell 31).trans (byC_get (bl s) m6 31 (hls (i := 31) (by decide))))) ?_
  refine wl_val (.bool true) (by kernel_rfl) (run_geq (k := .u8) (a := ((bl s).getD 31 0).toNat) (b := 128) (by kernel_rfl) (by kernel_rfl) true (decide_eq_true ((bit31 s hs).2 hbit))) ?_
  refine wl_val (.bool true) (by kernel_rfl) (by kernel_rfl) ?_
  refine wl_nil ?_
  refine then_at (F := ⟨(.string s :: un :: pt q1 :: .bool false :: .slice (some ⟨q4, 0, none⟩) s.size cp5 :: .bool true :: un :: un :: .string s :: iN .i64 s.size :: .bool false :: un :: .string s :: .slice (some ⟨q4, 0, none⟩) s.size cp5 :: .slice (some ⟨q4, 0, none⟩) s.size cp5 :: .pointer (some ⟨q4, 31, none⟩) :: iN .u8 (((bl s).getD 31 0).toNat) :: .bool true :: List.replicate 20 un).toArray, []⟩) (by kernel_rfl) ?_
  refine wp_seq ?_
  refine wl_region ?_
  refine wl_val (.slice (some ⟨q4, 0, none⟩) s.size cp5) (by kernel_rfl) (by kernel_rfl) ?_
  refine wl_val (.slice (some ⟨q4, 0, none⟩) s.size cp5) (by kernel_rfl) (by kernel_rfl) ?_
  refine wl_val (.pointer (some ⟨q4, 31, none⟩)) (by kernel_rfl) (run_addr_slice (q := q4) (n := s.size) (m := cp5) (a := 31) Tryd.underlying60 (fun w => Tryd.sizeOf5 w) (by kernel_rfl) (by kernel_rfl) (by omega)) ?_
  refine wl_val (iN .u8 (((bl s).getD 31 0).toNat)) (by kernel_rfl) (run_load1 (fun w => Tryd.isAgg5 w) (by kernel_rfl) (((h8.get 0 rfl).cell 31).trans (byC_get (bl s) m6 31 (hls (i := 31) (by decide))))) ?_
  refine wl_val (iN .u8 ((((bl s).getD 31 0).toNat) &&& 127)) (by kernel_rfl) (run_and8 (a := ((bl s).getD 31 0).toNat) (b := 127) (by kernel_rfl) (by kernel_rfl) (u8_lt _) (by decide)) ?_
  refine wl_val (.pointer (some ⟨q4, 31, none⟩)) (by kernel_rfl) (run_addr_slice (q := q4) (n := s.size) (m := cp5) (a := 31) Tryd.underlying60 (fun w => Tryd.sizeOf5 w) (by kernel_rfl) (by kernel_rfl) (by omega)) ?_
  refine wl_put (k := .u8) (z := (((((bl s).getD 31 0).toNat) &&& 127 : Nat) : Int)) h8 0 rfl 31 (by rw [byC_size]; exact Nat.lt_add_right _ (hls (i := 31) (by decide))) (by kernel_rfl) (fun w => Tryd.sizeOf5 w) (by kernel_rfl) (by kernel_rfl) ?_
  intro w9 h10
  have h11 : HA w [(q4, 5, byC ((bl s).set 31 (UInt8.ofNat ((((bl s).getD 31 0).toNat) &&& 127))) m6), (q1, 34, rq (Q4.mk 0 0 0 0))] w9 := (by rw [← byC_put (bl s) m6 31 ((((bl s).getD 31 0).toNat) &&& 127) (hls (i := 31) (by decide)) (Nat.lt_of_le_of_lt Nat.and_le_left (u8_lt _))]; exact h10)
  clear h10
  refine wl_nil ?_
  refine then_at (F := ⟨(.string s :: un :: pt q1 :: .bool false :: .slice (some ⟨q4, 0, none⟩) s.size cp5 :: .bool true :: un :: un :: .string s :: iN .i64 s.size :: .bool false :: un :: .string s :: .slice (some ⟨q4, 0, none⟩) s.size cp5 :: .slice (some ⟨q4, 0, none⟩) s.size cp5 :: .pointer (some ⟨q4, 31, none⟩) :: iN .u8 (((bl s).getD 31 0).toNat) :: .bool true :: .slice (some ⟨q4, 0, none⟩) s.size cp5 :: .slice (some ⟨q4, 0, none⟩) s.size cp5 :: .pointer (some ⟨q4, 31, none⟩) :: iN .u8 (((bl s).getD 31 0).toNat) :: iN .u8 ((((bl s).getD 31 0).toNat) &&& 127) :: .pointer (some ⟨q4, 31, none⟩) :: List.replicate 14 un).toArray, []⟩) (by kernel_rfl) ?_
  refine wp_seq ?_
  refine wl_region ?_
  refine wl_val (.slice (some ⟨q4, 0, none⟩) s.size cp5) (by kernel_rfl) (by kernel_rfl) ?_
  refine wl_val (.string ⟨((bl s).set 31 (UInt8.ofNat ((((bl s).getD 31 0).toNat) &&& 127))).toArray⟩) (by kernel_rfl) (run_byText (n := s.size) (c := cp5) (m := m6) (l := (bl s).set 31 (UInt8.ofNat ((((bl s).getD 31 0).toNat) &&& 127))) (by simp [bl_len]) (by kernel_rfl) (h11.get 0 rfl)) ?_
  refine wl_call (v := .tuple #[rarr y, .bool true]) h11 (by kernel_rfl) enter45 #[.string ⟨((bl s).set 31 (UInt8.ofNat ((((bl s).getD 31 0).toNat) &&& 127))).toArray⟩] (by kernel_rfl) (rof_some (ByteArray.mk ((bl s).set 31 (UInt8.ofNat ((((bl s).getD 31 0).toNat) &&& 127))).toArray) hof w9) ?_
  intro w12 h13
  refine wl_val (.tuple #[rarr y, .bool true]) (by kernel_rfl) (by kernel_rfl) ?_
  refine wl_val (rarr y) (by kernel_rfl) (by kernel_rfl) ?_
  refine wl_val (.bool true) (by kernel_rfl) (by kernel_rfl) ?_
  refine wl_make h13 32 (by kernel_rfl) run_alloc32 ?_
  intro q14 w15 h16
  refine wl_fill (c' := rl y) h16 0 rfl (by kernel_rfl) (by kernel_rfl) (by kernel_rfl) (rl_sz y 0) (info_rl y) (one_rl y) ?_
  intro w17 (h18 : HA w [(q14, 32, rl y), (q4, 5, byC ((bl s).set 31 (UInt8.ofNat ((((bl s).getD 31 0).toNat) &&& 127))) m6), (q1, 34, rq (Q4.mk 0 0 0 0))] w17)
  refine wl_val (.bool true) (by kernel_rfl) (by kernel_rfl) ?_
  refine wl_nil ?_
  refine then_at (F := ⟨(.string s :: un :: pt q1 :: .bool false :: .slice (some ⟨q4, 0, none⟩) s.size cp5 :: .bool true :: pt q14 :: .bool true :: .string s :: iN .i64 s.size :: .bool false :: un :: .string s :: .slice (some ⟨q4, 0, none⟩) s.size cp5 :: .slice (some ⟨q4, 0, none⟩) s.size cp5 :: .pointer (some ⟨q4, 31, none⟩) :: iN .u8 (((bl s).getD 31 0).toNat) :: .bool true :: .slice (some ⟨q4, 0, none⟩) s.size cp5 :: .slice (some ⟨q4, 0, none⟩) s.size cp5 :: .pointer (some ⟨q4, 31, none⟩) :: iN .u8 (((bl s).getD 31 0).toNat) :: iN .u8 ((((bl s).getD 31 0).toNat) &&& 127) :: .pointer (some ⟨q4, 31, none⟩) :: .tuple #[rarr y, .bool true] :: .slice (some ⟨q4, 0, none⟩) s.size cp5 :: .string ⟨((bl s).set 31 (UInt8.ofNat ((((bl s).getD 31 0).toNat) &&& 127))).toArray⟩ :: .tuple #[rarr y, .bool true] :: rarr y :: .bool true :: List.replicate 8 un).toArray, []⟩) (by kernel_rfl) ?_
  refine wp_seq ?_
  refine wp_seq ?_
  refine wl_region ?_
  refine wl_val (.bool true) (by kernel_rfl) (by kernel_rfl) ?_
  refine wl_val (.bool false) (by kernel_rfl) (by kernel_rfl) ?_
  refine wl_nil ?_
  refine then_at (F := ⟨(.string s :: un :: pt q1 :: .bool false :: .slice (some ⟨q4, 0, none⟩) s.size cp5 :: .bool true :: pt q14 :: .bool true :: .string s :: iN .i64 s.size :: .bool false :: un :: .string s :: .slice (some ⟨q4, 0, none⟩) s.size cp5 :: .slice (some ⟨q4, 0, none⟩) s.size cp5 :: .pointer (some ⟨q4, 31, none⟩) :: iN .u8 (((bl s).getD 31 0).toNat) :: .bool true :: .slice (some ⟨q4, 0, none⟩) s.size cp5 :: .slice (some ⟨q4, 0, none⟩) s.size cp5 :: .pointer (some ⟨q4, 31, none⟩) :: iN .u8 (((bl s).getD 31 0).toNat) :: iN .u8 ((((bl s).getD 31 0).toNat) &&& 127) :: .pointer (some ⟨q4, 31, none⟩) :: .tuple #[rarr y, .bool true] :: .slice (some ⟨q4, 0, none⟩) s.size cp5 :: .string ⟨((bl s).set 31 (UInt8.ofNat ((((bl s).getD 31 0).toNat) &&& 127))).toArray⟩ :: .tuple #[rarr y, .bool true] :: rarr y :: .bool true :: .bool true :: .bool false :: List.replicate 6 un).toArray, []⟩) (by kernel_rfl) ?_
  refine wp_cond_false (by kernel_rfl) ?_
  refine wp_skip ?_
  refine then_at (F := ⟨(.string s :: un :: pt q1 :: .bool false :: .slice (some ⟨q4, 0, none⟩) s.size cp5 :: .bool true :: pt q14 :: .bool true :: .string s :: iN .i64 s.size :: .bool false :: un :: .string s :: .slice (some ⟨q4, 0, none⟩) s.size cp5 :: .slice (some ⟨q4, 0, none⟩) s.size cp5 :: .pointer (some ⟨q4, 31, none⟩) :: iN .u8 (((bl s).getD 31 0).toNat) :: .bool true :: .slice (some ⟨q4, 0, none⟩) s.size cp5 :: .slice (some ⟨q4, 0, none⟩) s.size cp5 :: .pointer (some ⟨q4, 31, none⟩) :: iN .u8 (((bl s).getD 31 0).toNat) :: iN .u8 ((((bl s).getD 31 0).toNat) &&& 127) :: .pointer (some ⟨q4, 31, none⟩) :: .tuple #[rarr y, .bool true] :: .slice (some ⟨q4, 0, none⟩) s.size cp5 :: .string ⟨((bl s).set 31 (UInt8.ofNat ((((bl s).getD 31 0).toNat) &&& 127))).toArray⟩ :: .tuple #[rarr y, .bool true] :: rarr y :: .bool true :: .bool true :: .bool false :: List.replicate 6 un).toArray, []⟩) (by kernel_rfl) ?_
  refine wp_seq ?_
  refine wl_region ?_
  refine wl_load h18 0 rfl (by kernel_rfl) (by kernel_rfl) Tryd.underlying32 rfl (info_rl y) ?_
  refine wl_val (.bool true) (by kernel_rfl) (by kernel_rfl) ?_
  refine wl_call (v := .tuple #[.agg (rq (mdQ (negP rt) y)), .bool true]) h18 (by kernel_rfl) enter46 #[rarr y, .bool true] (by kernel_rfl) (rof_yes_odd y hy rt hrt hroot hz w17) ?_
  intro w19 h20
  refine wl_val (.agg (rq (mdQ (negP rt) y))) (by kernel_rfl) (by kernel_rfl) ?_
  refine wl_val (.bool true) (by kernel_rfl) (by kernel_rfl) ?_
  refine wl_fill (c' := rq (mdQ (negP rt) y)) h20 2 rfl (by kernel_rfl) (by kernel_rfl) (by kernel_rfl) (rq_sz (mdQ (negP rt) y) (Q4.mk 0 0 0 0)) (info34q (mdQ (negP rt) y)) (one_rq (mdQ (negP rt) y)) ?_
  intro w21 (h22 : HA w [(q14, 32, rl y), (q4, 5, byC ((bl s).set 31 (UInt8.ofNat ((((bl s).getD 31 0).toNat) &&& 127))) m6), (q1, 34, rq (mdQ (negP rt) y))] w21)
  refine wl_val (.bool true) (by kernel_rfl) (by kernel_rfl) ?_
  refine wl_nil ?_
  refine then_at (F := ⟨(.string s :: un :: pt q1 :: .bool true :: .slice (some ⟨q4, 0, none⟩) s.size cp5 :: .bool true :: pt q14 :: .bool true :: .string s :: iN .i64 s.size :: .bool false :: un :: .string s :: .slice (some ⟨q4, 0, none⟩) s.size cp5 :: .slice (some ⟨q4, 0, none⟩) s.size cp5 :: .pointer (some ⟨q4, 31, none⟩) :: iN .u8 (((bl s).getD 31 0).toNat) :: .bool true :: .slice (some ⟨q4, 0, none⟩) s.size cp5 :: .slice (some ⟨q4, 0, none⟩) s.size cp5 :: .pointer (some ⟨q4, 31, none⟩) :: iN .u8 (((bl s).getD 31 0).toNat) :: iN .u8 ((((bl s).getD 31 0).toNat) &&& 127) :: .pointer (some ⟨q4, 31, none⟩) :: .tuple #[rarr y, .bool true] :: .slice (some ⟨q4, 0, none⟩) s.size cp5 :: .string ⟨((bl s).set 31 (UInt8.ofNat ((((bl s).getD 31 0).toNat) &&& 127))).toArray⟩ :: .tuple #[rarr y, .bool true] :: rarr y :: .bool true :: .bool true :: .bool false :: un :: rarr y :: .bool true :: .tuple #[.agg (rq (mdQ (negP rt) y)), .bool true] :: .agg (rq (mdQ (negP rt) y)) :: .bool true :: List.replicate 0 un).toArray, []⟩) (by kernel_rfl) ?_
  refine wp_ret ?_
  repeat first | refine then_ret ?_ | refine block_ret ?_
  have hB : Blk w21 q1 34 (rq (mdQ (negP rt) y)) := h22.get 2 rfl
  exact bodyPost_ret (v := .tuple #[.agg (rq (mdQ (negP rt) y)), .bool true]) (res34b (p := 2) (r := 3) (mdQ (negP rt) y) (by kernel_rfl) (by kernel_rfl) (by kernel_rfl) hB) rfl ⟨rfl, h22.old⟩

set_option linter.unusedVariables false in
set_option maxRecDepth 100000 in
set_option maxHeartbeats 2000000 in
theorem QOf_yes_even (s : ByteArray) (hs : s.size = 32) (y : Nat) (hy : y < P) (hof : ofP (topS s) = some y) (rt : Nat) (hrt : rt < P) (hroot : rootP (bsq y) = some rt) (hbit : ¬ numS s / 2 ^ 255 % 2 = 1) (w : World) :
    Calls Tryd.prog 13 #[.string s] w fun e w' => e = .returned (.tuple #[.agg (rq (mdQ rt y)), .bool true]) ∧ Below w.heap.size w w' := by
  have hls : ∀ {i : Nat}, i < 32 → i < (bl s).length := fun h => by rw [bl_len, hs]; exact h
  have H0 := HA.start w
  go_enter Tryd.func13, Tryd.ntmps13
  refine wp_seq ?_
  refine wl_region ?_
  refine wl_make H0 34 (by kernel_rfl) run_alloc34 ?_
  intro q1 w2 h3
  refine wl_val (.bool false) (by kernel_rfl) (by kernel_rfl) ?_
  refine wl_nil ?_
  refine then_at (F := ⟨(.string s :: un :: pt q1 :: .bool false :: List.replicate 34 un).toArray, []⟩) (by kernel_rfl) ?_
  refine wp_seq ?_
  refine wp_seq ?_
  refine wl_region ?_
  refine wl_val (.string s) (by kernel_rfl) (by kernel_rfl) ?_
  refine wl_val (iN .i64 s.size) (by kernel_rfl) (run_len (s := s) (by kernel_rfl)) ?_
  refine wl_val (.bool false) (by kernel_rfl) (run_nei (k := .i64) (a := s.size) (b := 32) (by kernel_rfl) (by kernel_rfl) false (decide_eq_false (not_not_intro hs))) ?_
  refine wl_nil ?_
  refine then_at (F := ⟨(.string s :: un :: pt q1 :: .bool false :: un :: un :: un :: un :: .string s :: iN .i64 s.size :: .bool false :: List.replicate 27 un).toArray, []⟩) (by kernel_rfl) ?_
  refine wp_cond_false (by kernel_rfl) ?_
  refine wp_skip ?_
  refine then_at (F := ⟨(.string s :: un :: pt q1 :: .bool false :: un :: un :: un :: un :: .string s :: iN .i64 s.size :: .bool false :: List.replicate 27 un).toArray, []⟩) (by kernel_rfl) ?_
  refine wp_seq ?_
  refine wl_region ?_
  refine wl_val (.string s) (by kernel_rfl) (by kernel_rfl) ?_
  refine wl_bytes (s := s) h3 (by kernel_rfl) (by kernel_rfl) ?_
  intro q4 cp5 m6 w7 h8
  refine wl_val (.slice (some ⟨q4, 0, none⟩) s.size cp5) (by kernel_rfl) (by kernel_rfl) ?_
  refine wl_nil ?_
  refine then_at (F := ⟨(.string s :: un :: pt q1 :: .bool false :: .slice (some ⟨q4, 0, none⟩) s.size cp5 :: un :: un :: un :: .string s :: iN .i64 s.size :: .bool false :: un :: .string s :: .slice (some ⟨q4, 0, none⟩) s.size cp5 :: List.replicate 24 un).toArray, []⟩) (by kernel_rfl) ?_
  refine wp_seq ?_
  refine wl_region ?_
  refine wl_val (.slice (some ⟨q4, 0, none⟩) s.size cp5) (by kernel_rfl) (by kernel_rfl) ?_
  refine wl_val (.pointer (some ⟨q4, 31, none⟩)) (by kernel_rfl) (run_addr_slice (q := q4) (n := s.size) (m := cp5) (a := 31) Tryd.underlying60 (fun w => Tryd.sizeOf5 w) (by kernel_rfl) (by kernel_rfl) (by omega)) ?_
  refine wl_val (iN .u8 (((bl s).getD 31 0).toNat)) (by kernel_rfl) (run_load1 (fun w => Tryd.isAgg5 w) (by kernel_rfl) (((h8.get 0 rfl).cell 31).trans (byC_get (bl s) m6 31 (hls (i := 31) (by decide))))) ?_
  refine wl_val (.bool false) (by kernel_rfl) (run_geq (k := .u8) (a := ((bl s).getD 31 0).toNat) (b := 128) (by kernel_rfl) (by kernel_rfl) false (decide_eq_false (fun h => hbit ((bit31 s hs).1 h)))) ?_
  refine wl_val (.bool false) (by kernel_rfl) (by kernel_rfl) ?_
  refine wl_nil ?_
  refine then_at (F := ⟨(.string s :: un :: pt q1 :: .bool false :: .slice (some ⟨q4, 0, none⟩) s.size cp5 :: .bool false :: un :: un :: .string s :: iN .i64 s.size :: .bool false :: un :: .string s :: .slice (some ⟨q4, 0, none⟩) s.size cp5 :: .slice (some ⟨q4, 0, none⟩) s.size cp5 :: .pointer (some ⟨q4, 31, none⟩) :: iN .u8 (((bl s).getD 31 0).toNat) :: .bool false :: List.replicate 20 un).toArray, []⟩) (by kernel_rfl) ?_
  refine wp_seq ?_
  refine wl_region ?_
  refine wl_val (.slice (some ⟨q4, 0, none⟩) s.size cp5) (by kernel_rfl) (by kernel_rfl) ?_
  refine wl_val (.slice (some ⟨q4, 0, none⟩) s.size cp5) (by kernel_rfl) (by kernel_rfl) ?_
  refine wl_val (.pointer (some ⟨q4, 31, none⟩)) (by kernel_rfl) (run_addr_slice (q := q4) (n := s.size) (m := cp5) (a := 31) Tryd.underlying60 (fun w => Tryd.sizeOf5 w) (by kernel_rfl) (by kernel_rfl) (by omega)) ?_
  refine wl_val (iN .u8 (((bl s).getD 31 0).toNat)) (by kernel_rfl) (run_load1 (fun w => Tryd.isAgg5 w) (by kernel_rfl) (((h8.get 0 rfl).cell 31).trans (byC_get (bl s) m6 31 (hls (i := 31) (by decide))))) ?_
  refine wl_val (iN .u8 ((((bl s).getD 31 0).toNat) &&& 127)) (by kernel_rfl) (run_and8 (a := ((bl s).getD 31 0).toNat) (b := 127) (by kernel_rfl) (by kernel_rfl) (u8_lt _) (by decide)) ?_
  refine wl_val (.pointer (some ⟨q4, 31, none⟩)) (by kernel_rfl) (run_addr_slice (q := q4) (n := s.size) (m := cp5) (a := 31) Tryd.underlying60 (fun w => Tryd.sizeOf5 w) (by kernel_rfl) (by kernel_rfl) (by omega)) ?_
  refine wl_put (k := .u8) (z := (((((bl s).getD 31 0).toNat) &&& 127 : Nat) : Int)) h8 0 rfl 31 (by rw [byC_size]; exact Nat.lt_add_right _ (hls (i := 31) (by decide))) (by kernel_rfl) (fun w => Tryd.sizeOf5 w) (by kernel_rfl) (by kernel_rfl) ?_
  intro w9 h10
  have h11 : HA w [(q4, 5, byC ((bl s).set 31 (UInt8.ofNat ((((bl s).getD 31 0).toNat) &&& 127))) m6), (q1, 34, rq (Q4.mk 0 0 0 0))] w9 := (by rw [← byC_put (bl s) m6 31 ((((bl s).getD 31 0).toNat) &&& 127) (hls (i := 31) (by decide)) (Nat.lt_of_le_of_lt Nat.and_le_left (u8_lt _))]; exact h10)
  clear h10
  refine wl_nil ?_
  refine then_at (F := ⟨(.string s :: un :: pt q1 :: .bool false :: .slice (some ⟨q4, 0, none⟩) s.size cp5 :: .bool false :: un :: un :: .string s :: iN .i64 s.size :: .bool false :: un :: .string s :: .slice (some ⟨q4, 0, none⟩) s.size cp5 :: .slice (some ⟨q4, 0, none⟩) s.size cp5 :: .pointer (some ⟨q4, 31, none⟩) :: iN .u8 (((bl s).getD 31 0).toNat) :: .bool false :: .slice (some ⟨q4, 0, none⟩) s.size cp5 :: .slice (some ⟨q4, 0, none⟩) s.size cp5 :: .pointer (some ⟨q4, 31, none⟩) :: iN .u8 (((bl s).getD 31 0).toNat) :: iN .u8 ((((bl s).getD 31 0).toNat) &&& 127) :: .pointer (some ⟨q4, 31, none⟩) :: List.replicate 14 un).toArray, []⟩) (by kernel_rfl) ?_
  refine wp_seq ?_
  refine wl_region ?_
  refine wl_val (.slice (some ⟨q4, 0, none⟩) s.size cp5) (by kernel_rfl) (by kernel_rfl) ?_
  refine wl_val (.string ⟨((bl s).set 31 (UInt8.ofNat ((((bl s).getD 31 0).toNat) &&& 127))).toArray⟩) (by kernel_rfl) (run_byText (n := s.size) (c := cp5) (m := m6) (l := (bl s).set 31 (UInt8.ofNat ((((bl s).getD 31 0).toNat) &&& 127))) (by simp [bl_len]) (by kernel_rfl) (h11.get 0 rfl)) ?_
  refine wl_call (v := .tuple #[rarr y, .bool true]) h11 (by kernel_rfl) enter45 #[.string ⟨((bl s).set 31 (UInt8.ofNat ((((bl s).getD 31 0).toNat) &&& 127))).toArray⟩] (by kernel_rfl) (rof_some (ByteArray.mk ((bl s).set 31 (UInt8.ofNat ((((bl s).getD 31 0).toNat) &&& 127))).toArray) hof w9) ?_
  intro w12 h13
  refine wl_val (.tuple #[rarr y, .bool true]) (by kernel_rfl) (by kernel_rfl) ?_
  refine wl_val (rarr y) (by kernel_rfl) (by kernel_rfl) ?_
  refine wl_val (.bool true) (by kernel_rfl) (by kernel_rfl) ?_
  refine wl_make h13 32 (by kernel_rfl) run_alloc32 ?_
  intro q14 w15 h16
  refine wl_fill (c' := rl y) h16 0 rfl (by kernel_rfl) (by kernel_rfl) (by kernel_rfl) (rl_sz y 0) (info_rl y) (one_rl y) ?_
  intro w17 (h18 : HA w [(q14, 32, rl y), (q4, 5, byC ((bl s).set 31 (UInt8.ofNat ((((bl s).getD 31 0).toNat) &&& 127))) m6), (q1, 34, rq (Q4.mk 0 0 0 0))] w17)
  refine wl_val (.bool true) (by kernel_rfl) (by kernel_rfl) ?_
  refine wl_nil ?_
  refine then_at (F := ⟨(.string s :: un :: pt q1 :: .bool false :: .slice (some ⟨q4, 0, none⟩) s.size cp5 :: .bool false :: pt q14 :: .bool true :: .string s :: iN .i64 s.size :: .bool false :: un :: .string s :: .slice (some ⟨q4, 0, none⟩) s.size cp5 :: .slice (some ⟨q4, 0, none⟩) s.size cp5 :: .pointer (some ⟨q4, 31, none⟩) :: iN .u8 (((bl s).getD 31 0).toNat) :: .bool false :: .slice (some ⟨q4, 0, none⟩) s.size cp5 :: .slice (some ⟨q4, 0, none⟩) s.size cp5 :: .pointer (some ⟨q4, 31, none⟩) :: iN .u8 (((bl s).getD 31 0).toNat) :: iN .u8 ((((bl s).getD 31 0).toNat) &&& 127) :: .pointer (some ⟨q4, 31, none⟩) :: .tuple #[rarr y, .bool true] :: .slice (some ⟨q4, 0, none⟩) s.size cp5 :: .string ⟨((bl s).set 31 (UInt8.ofNat ((((bl s).getD 31 0).toNat) &&& 127))).toArray⟩ :: .tuple #[rarr y, .bool true] :: rarr y :: .bool true :: List.replicate 8 un).toArray, []⟩) (by kernel_rfl) ?_
  refine wp_seq ?_
  refine wp_seq ?_
  refine wl_region ?_
  refine wl_val (.bool true) (by kernel_rfl) (by kernel_rfl) ?_
  refine wl_val (.bool false) (by kernel_rfl) (by kernel_rfl) ?_
  refine wl_nil ?_
  refine then_at (F := ⟨(.string s :: un :: pt q1 :: .bool false :: .slice (some ⟨q4, 0, none⟩) s.size cp5 :: .bool false :: pt q14 :: .bool true :: .string s :: iN .i64 s.size :: .bool false :: un :: .string s :: .slice (some ⟨q4, 0, none⟩) s.size cp5 :: .slice (some ⟨q4, 0, none⟩) s.size cp5 :: .pointer (some ⟨q4, 31, none⟩) :: iN .u8 (((bl s).getD 31 0).toNat) :: .bool false :: .slice (some ⟨q4, 0, none⟩) s.size cp5 :: .slice (some ⟨q4, 0, none⟩) s.size cp5 :: .pointer (some ⟨q4, 31, none⟩) :: iN .u8 (((bl s).getD 31 0).toNat) :: iN .u8 ((((bl s).getD 31 0).toNat) &&& 127) :: .pointer (some ⟨q4, 31, none⟩) :: .tuple #[rarr y, .bool true] :: .slice (some ⟨q4, 0, none⟩) s.size cp5 :: .string ⟨((bl s).set 31 (UInt8.ofNat ((((bl s).getD 31 0).toNat) &&& 127))).toArray⟩ :: .tuple #[rarr y, .bool true] :: rarr y :: .bool true :: .bool true :: .bool false :: List.replicate 6 un).toArray, []⟩) (by kernel_rfl) ?_
  refine wp_cond_false (by kernel_rfl) ?_
  refine wp_skip ?_
  refine then_at (F := ⟨(.string s :: un :: pt q1 :: .bool false :: .slice (some ⟨q4, 0, none⟩) s.size cp5 :: .bool false :: pt q14 :: .bool true :: .string s :: iN .i64 s.size :: .bool false :: un :: .string s :: .slice (some ⟨q4, 0, none⟩) s.size cp5 :: .slice (some ⟨q4, 0, none⟩) s.size cp5 :: .pointer (some ⟨q4, 31, none⟩) :: iN .u8 (((bl s).getD 31 0).toNat) :: .bool false :: .slice (some ⟨q4, 0, none⟩) s.size cp5 :: .slice (some ⟨q4, 0, none⟩) s.size cp5 :: .pointer (some ⟨q4, 31, none⟩) :: iN .u8 (((bl s).getD 31 0).toNat) :: iN .u8 ((((bl s).getD 31 0).toNat) &&& 127) :: .pointer (some ⟨q4, 31, none⟩) :: .tuple #[rarr y, .bool true] :: .slice (some ⟨q4, 0, none⟩) s.size cp5 :: .string ⟨((bl s).set 31 (UInt8.ofNat ((((bl s).getD 31 0).toNat) &&& 127))).toArray⟩ :: .tuple #[rarr y, .bool true] :: rarr y :: .bool true :: .bool true :: .bool false :: List.replicate 6 un).toArray, []⟩) (by kernel_rfl) ?_
  refine wp_seq ?_
  refine wl_region ?_
  refine wl_load h18 0 rfl (by kernel_rfl) (by kernel_rfl) Tryd.underlying32 rfl (info_rl y) ?_
  refine wl_val (.bool false) (by kernel_rfl) (by kernel_rfl) ?_
  refine wl_call (v := .tuple #[.agg (rq (mdQ rt y)), .bool true]) h18 (by kernel_rfl) enter46 #[rarr y, .bool false] (by kernel_rfl) (rof_yes_even y hy rt hrt hroot w17) ?_
  intro w19 h20
  refine wl_val (.agg (rq (mdQ rt y))) (by kernel_rfl) (by kernel_rfl) ?_
  refine wl_val (.bool true) (by kernel_rfl) (by kernel_rfl) ?_
  refine wl_fill (c' := rq (mdQ rt y)) h20 2 rfl (by kernel_rfl) (by kernel_rfl) (by kernel_rfl) (rq_sz (mdQ rt y) (Q4.mk 0 0 0 0)) (info34q (mdQ rt y)) (one_rq (mdQ rt y)) ?_
  intro w21 (h22 : HA w [(q14, 32, rl y), (q4, 5, byC ((bl s).set 31 (UInt8.ofNat ((((bl s).getD 31 0).toNat) &&& 127))) m6), (q1, 34, rq (mdQ rt y))] w21)
  refine wl_val (.bool true) (by kernel_rfl) (by kernel_rfl) ?_
  refine wl_nil ?_
  refine then_at (F := ⟨(.string s :: un :: pt q1 :: .bool true :: .slice (some ⟨q4, 0, none⟩) s.size cp5 :: .bool false :: pt q14 :: .bool true :: .string s :: iN .i64 s.size :: .bool false :: un :: .string s :: .slice (some ⟨q4, 0, none⟩) s.size cp5 :: .slice (some ⟨q4, 0, none⟩) s.size cp5 :: .pointer (some ⟨q4, 31, none⟩) :: iN .u8 (((bl s).getD 31 0).toNat) :: .bool false :: .slice (some ⟨q4, 0, none⟩) s.size cp5 :: .slice (some ⟨q4, 0, none⟩) s.size cp5 :: .pointer (some ⟨q4, 31, none⟩) :: iN .u8 (((bl s).getD 31 0).toNat) :: iN .u8 ((((bl s).getD 31 0).toNat) &&& 127) :: .pointer (some ⟨q4, 31, none⟩) :: .tuple #[rarr y, .bool true] :: .slice (some ⟨q4, 0, none⟩) s.size cp5 :: .string ⟨((bl s).set 31 (UInt8.ofNat ((((bl s).getD 31 0).toNat) &&& 127))).toArray⟩ :: .tuple #[rarr y, .bool true] :: rarr y :: .bool true :: .bool true :: .bool false :: un :: rarr y :: .bool false :: .tuple #[.agg (rq (mdQ rt y)), .bool true] :: .agg (rq (mdQ rt y)) :: .bool true :: List.replicate 0 un).toArray, []⟩) (by kernel_rfl) ?_
  refine wp_ret ?_
  repeat first | refine then_ret ?_ | refine block_ret ?_
  have hB : Blk w21 q1 34 (rq (mdQ rt y)) := h22.get 2 rfl
  exact bodyPost_ret (v := .tuple #[.agg (rq (mdQ rt y)), .bool true]) (res34b (p := 2) (r := 3) (mdQ rt y) (by kernel_rfl) (by kernel_rfl) (by kernel_rfl) hB) rfl ⟨rfl, h22.old⟩

set_option linter.unusedVariables false in
set_option maxRecDepth 100000 in
set_option maxHeartbeats 2000000 in
theorem QBytes_odd (q : Q4) (hq : q.lt) (hodd : mulP q.X (invE q.Z) % 2 = 1) (w : World) :
    Calls Tryd.prog 15 #[.agg (rq q)] w fun e w' => e = .returned (.string (oddS (mulP q.Y (invE q.Z)))) ∧ Below w.heap.size w w' := by
  have hls : ∀ {i : Nat}, i < 32 → i < (bl (bytesOf (mulP q.Y (invE q.Z)))).length := fun h => by rw [bl_len, bytesOf_size]; exact h
  have H0 := HA.start w
  go_enter Tryd.func15, Tryd.ntmps15
  refine wp_seq ?_
  refine wl_region ?_
  refine wl_make H0 34 (by kernel_rfl) (run_box34 (c := rq q) (by kernel_rfl)) ?_
  intro q1 w2 h3
  refine wl_val (.string { data := #[] }) (by kernel_rfl) (by kernel_rfl) ?_
  refine wl_nil ?_
  refine then_at (F := ⟨(.agg (rq q) :: pt q1 :: .string { data := #[] } :: List.replicate 24 un).toArray, []⟩) (by kernel_rfl) ?_
  refine wp_seq ?_
  refine wl_region ?_
  refine wl_val (.pointer (some ⟨q1, 32, none⟩)) (by kernel_rfl) (by kernel_rfl) ?_
  refine wl_val (rarr q.Z) (by kernel_rfl) (run_part32 (q := q1) (off := 16 * 2) (n := q.Z) (by kernel_rfl) (h3.get 0 rfl) (rq_get q).2.2.1) ?_
  refine wl_call (v := rarr (invE q.Z)) h3 (by kernel_rfl) enter50 #[rarr q.Z] (by kernel_rfl) (rinv_any q.Z hq.2.2.1 w2) ?_
  intro w4 h5
  refine wl_make h5 32 (by kernel_rfl) run_alloc32 ?_
  intro q6 w7 h8
  refine wl_fill (c' := rl (invE q.Z)) h8 0 rfl (by kernel_rfl) (by kernel_rfl) (by kernel_rfl) (rl_sz (invE q.Z) 0) (info_rl (invE q.Z)) (one_rl (invE q.Z)) ?_
  intro w9 (h10 : HA w [(q6, 32, rl (invE q.Z)), (q1, 34, rq q)] w9)
  refine wl_nil ?_
  refine then_at (F := ⟨(.agg (rq q) :: pt q1 :: .string { data := #[] } :: pt q6 :: un :: .pointer (some ⟨q1, 32, none⟩) :: rarr q.Z :: rarr (invE q.Z) :: List.replicate 19 un).toArray, []⟩) (by kernel_rfl) ?_
  refine wp_seq ?_
  refine wl_region ?_
  refine wl_val (.pointer (some ⟨q1, 16, none⟩)) (by kernel_rfl) (by kernel_rfl) ?_
  refine wl_val (rarr q.Y) (by kernel_rfl) (run_part32 (q := q1) (off := 16 * 1) (n := q.Y) (by kernel_rfl) (h10.get 1 rfl) (rq_get q).2.1) ?_
  refine wl_load h10 0 rfl (by kernel_rfl) (by kernel_rfl) Tryd.underlying32 rfl (info_rl (invE q.Z)) ?_
  refine wl_call (v := rarr (mulP q.Y (invE q.Z))) h10 (by kernel_rfl) enter52 #[rarr q.Y, rarr (invE q.Z)] (by kernel_rfl) (wmul_any q.Y (invE q.Z) hq.2.1 (invE_lt _) w9) ?_
  intro w11 h12
  refine wl_call (v := .string (bytesOf (mulP q.Y (invE q.Z)))) h12 (by kernel_rfl) enter51 #[rarr (mulP q.Y (invE q.Z))] (by kernel_rfl) (rbytes_any (mulP q.Y (invE q.Z)) w11) ?_
  intro w13 h14
  refine wl_bytes (s := (bytesOf (mulP q.Y (invE q.Z)))) h14 (by kernel_rfl) (by kernel_rfl) ?_
  intro q15 cp16 m17 w18 h19
  refine wl_val (.slice (some ⟨q15, 0, none⟩) (bytesOf (mulP q.Y (invE q.Z))).size cp16) (by kernel_rfl) (by kernel_rfl) ?_
  refine wl_nil ?_
  refine then_at (F := ⟨(.agg (rq q) :: pt q1 :: .string { data := #[] } :: pt q6 :: .slice (some ⟨q15, 0, none⟩) (bytesOf (mulP q.Y (invE q.Z))).size cp16 :: .pointer (some ⟨q1, 32, none⟩) :: rarr q.Z :: rarr (invE q.Z) :: .pointer (some ⟨q1, 16, none⟩) :: rarr q.Y :: rarr (invE q.Z) :: rarr (mulP q.Y (invE q.Z)) :: .string (bytesOf (mulP q.Y (invE q.Z))) :: .slice (some ⟨q15, 0, none⟩) (bytesOf (mulP q.Y (invE q.Z))).size cp16 :: List.replicate 13 un).toArray, []⟩) (by kernel_rfl) ?_
  refine wp_seq ?_
  refine wp_seq ?_
  refine wl_region ?_
  refine wl_val (.pointer (some ⟨q1, 0, none⟩)) (by kernel_rfl) (by kernel_rfl) ?_
  refine wl_val (rarr q.X) (by kernel_rfl) (run_part32 (q := q1) (off := 16 * 0) (n := q.X) (by kernel_rfl) (h19.get 2 rfl) (rq_get q).1) ?_
  refine wl_load h19 1 rfl (by kernel_rfl) (by kernel_rfl) Tryd.underlying32 rfl (info_rl (invE q.Z)) ?_
  refine wl_call (v := rarr (mulP q.X (invE q.Z))) h19 (by kernel_rfl) enter52 #[rarr q.X, rarr (invE q.Z)] (by kernel_rfl) (wmul_any q.X (invE q.Z) hq.1 (invE_lt _) w18) ?_
  intro w20 h21
  refine wl_call (v := .bool true) h21 (by kernel_rfl) enter53 #[rarr (mulP q.X (invE q.Z))] (by kernel_rfl) (rodd_yes (mulP q.X (invE q.Z)) hodd w20) ?_
  intro w22 h23
  refine wl_nil ?_
  refine then_at (F := ⟨(.agg (rq q) :: pt q1 :: .string { data := #[] } :: pt q6 :: .slice (some ⟨q15, 0, none⟩) (bytesOf (mulP q.Y (invE q.Z))).size cp16 :: .pointer (some ⟨q1, 32, none⟩) :: rarr q.Z :: rarr (invE q.Z) :: .pointer (some ⟨q1, 16, none⟩) :: rarr q.Y :: rarr (invE q.Z) :: rarr (mulP q.Y (invE q.Z)) :: .string (bytesOf (mulP q.Y (invE q.Z))) :: .slice (some ⟨q15, 0, none⟩) (bytesOf (mulP q.Y (invE q.Z))).size cp16 :: pt q1 :: rarr q.X :: rarr (invE q.Z) :: rarr (mulP q.X (invE q.Z)) :: .bool true :: List.replicate 8 un).toArray, []⟩) (by kernel_rfl) ?_
  refine wp_cond_true (by kernel_rfl) ?_
  refine wl_region ?_
  refine wl_val (.slice (some ⟨q15, 0, none⟩) (bytesOf (mulP q.Y (invE q.Z))).size cp16) (by kernel_rfl) (by kernel_rfl) ?_
  refine wl_val (.slice (some ⟨q15, 0, none⟩) (bytesOf (mulP q.Y (invE q.Z))).size cp16) (by kernel_rfl) (by kernel_rfl) ?_
  refine wl_val (.pointer (some ⟨q15, 31, none⟩)) (by kernel_rfl) (run_addr_slice (q := q15) (n := (bytesOf (mulP q.Y (invE q.Z))).size) (m := cp16) (a := 31) Tryd.underlying60 (fun w => Tryd.sizeOf5 w) (by kernel_rfl) (by kernel_rfl) (by rw [bytesOf_size]; decide)) ?_
  refine wl_val (iN .u8 (((bl ((bytesOf (mulP q.Y (invE q.Z))))).getD 31 0).toNat)) (by kernel_rfl) (run_load1 (fun w => Tryd.isAgg5 w) (by kernel_rfl) (((h23.get 0 rfl).cell 31).trans (byC_get (bl ((bytesOf (mulP q.Y (invE q.Z))))) m17 31 (hls (i := 31) (by decide))))) ?_
  refine wl_val (iN .u8 ((((bl ((bytesOf (mulP q.Y (invE q.Z))))).getD 31 0).toNat) ||| 128)) (by kernel_rfl) (run_or8 (a := ((bl ((bytesOf (mulP q.Y (invE q.Z))))).getD 31 0).toNat) (b := 128) (by kernel_rfl) (by kernel_rfl) (u8_lt _) (by decide)) ?_
  refine wl_val (.pointer (some ⟨q15, 31, none⟩)) (by kernel_rfl) (run_addr_slice (q := q15) (n := (bytesOf (mulP q.Y (invE q.Z))).size) (m := cp16) (a := 31) Tryd.underlying60 (fun w => Tryd.sizeOf5 w) (by kernel_rfl) (by kernel_rfl) (by rw [bytesOf_size]; decide)) ?_
  refine wl_put (k := .u8) (z := (((((bl ((bytesOf (mulP q.Y (invE q.Z))))).getD 31 0).toNat) ||| 128 : Nat) : Int)) h23 0 rfl 31 (by rw [byC_size]; exact Nat.lt_add_right _ (hls (i := 31) (by decide))) (by kernel_rfl) (fun w => Tryd.sizeOf5 w) (by kernel_rfl) (by kernel_rfl) ?_
  intro w24 h25
  have h26 : HA w [(q15, 5, byC ((bl ((bytesOf (mulP q.Y (invE q.Z))))).set 31 (UInt8.ofNat ((((bl ((bytesOf (mulP q.Y (invE q.Z))))).getD 31 0).toNat) ||| 128))) m17), (q6, 32, rl (invE q.Z)), (q1, 34, rq q)] w24 := (by rw [← byC_put (bl ((bytesOf (mulP q.Y (invE q.Z))))) m17 31 ((((bl ((bytesOf (mulP q.Y (invE q.Z))))).getD 31 0).toNat) ||| 128) (hls (i := 31) (by decide)) (or128_lt _)]; exact h25)
  clear h25
  refine wl_nil ?_
  refine then_at (F := ⟨(.agg (rq q) :: pt q1 :: .string { data := #[] } :: pt q6 :: .slice (some ⟨q15, 0, none⟩) (bytesOf (mulP q.Y (invE q.Z))).size cp16 :: .pointer (some ⟨q1, 32, none⟩) :: rarr q.Z :: rarr (invE q.Z) :: .pointer (some ⟨q1, 16, none⟩) :: rarr q.Y :: rarr (invE q.Z) :: rarr (mulP q.Y (invE q.Z)) :: .string (bytesOf (mulP q.Y (invE q.Z))) :: .slice (some ⟨q15, 0, none⟩) (bytesOf (mulP q.Y (invE q.Z))).size cp16 :: pt q1 :: rarr q.X :: rarr (invE q.Z) :: rarr (mulP q.X (invE q.Z)) :: .bool true :: .slice (some ⟨q15, 0, none⟩) (bytesOf (mulP q.Y (invE q.Z))).size cp16 :: .slice (some ⟨q15, 0, none⟩) (bytesOf (mulP q.Y (invE q.Z))).size cp16 :: .pointer (some ⟨q15, 31, none⟩) :: iN .u8 (((bl ((bytesOf (mulP q.Y (invE q.Z))))).getD 31 0).toNat) :: iN .u8 ((((bl ((bytesOf (mulP q.Y (invE q.Z))))).getD 31 0).toNat) ||| 128) :: .pointer (some ⟨q15, 31, none⟩) :: List.replicate 2 un).toArray, []⟩) (by kernel_rfl) ?_
  refine wp_seq ?_
  refine wl_region ?_
  refine wl_val (.slice (some ⟨q15, 0, none⟩) (bytesOf (mulP q.Y (invE q.Z))).size cp16) (by kernel_rfl) (by kernel_rfl) ?_
  refine wl_val (.string ⟨((bl ((bytesOf (mulP q.Y (invE q.Z))))).set 31 (UInt8.ofNat ((((bl ((bytesOf (mulP q.Y (invE q.Z))))).getD 31 0).toNat) ||| 128))).toArray⟩) (by kernel_rfl) (run_byText (n := (bytesOf (mulP q.Y (invE q.Z))).size) (c := cp16) (m := m17) (l := (bl ((bytesOf (mulP q.Y (invE q.Z))))).set 31 (UInt8.ofNat ((((bl ((bytesOf (mulP q.Y (invE q.Z))))).getD 31 0).toNat) ||| 128))) (by simp [bl_len]) (by kernel_rfl) (h26.get 0 rfl)) ?_
  refine wl_val (.string ⟨((bl ((bytesOf (mulP q.Y (invE q.Z))))).set 31 (UInt8.ofNat ((((bl ((bytesOf (mulP q.Y (invE q.Z))))).getD 31 0).toNat) ||| 128))).toArray⟩) (by kernel_rfl) (by kernel_rfl) ?_
  refine wl_nil ?_
  refine then_at (F := ⟨(.agg (rq q) :: pt q1 :: .string ⟨((bl ((bytesOf (mulP q.Y (invE q.Z))))).set 31 (UInt8.ofNat ((((bl ((bytesOf (mulP q.Y (invE q.Z))))).getD 31 0).toNat) ||| 128))).toArray⟩ :: pt q6 :: .slice (some ⟨q15, 0, none⟩) (bytesOf (mulP q.Y (invE q.Z))).size cp16 :: .pointer (some ⟨q1, 32, none⟩) :: rarr q.Z :: rarr (invE q.Z) :: .pointer (some ⟨q1, 16, none⟩) :: rarr q.Y :: rarr (invE q.Z) :: rarr (mulP q.Y (invE q.Z)) :: .string (bytesOf (mulP q.Y (invE q.Z))) :: .slice (some ⟨q15, 0, none⟩) (bytesOf (mulP q.Y (invE q.Z))).size cp16 :: pt q1 :: rarr q.X :: rarr (invE q.Z) :: rarr (mulP q.X (invE q.Z)) :: .bool true :: .slice (some ⟨q15, 0, none⟩) (bytesOf (mulP q.Y (invE q.Z))).size cp16 :: .slice (some ⟨q15, 0, none⟩) (bytesOf (mulP q.Y (invE q.Z))).size cp16 :: .pointer (some ⟨q15, 31, none⟩) :: iN .u8 (((bl ((bytesOf (mulP q.Y (invE q.Z))))).getD 31 0).toNat) :: iN .u8 ((((bl ((bytesOf (mulP q.Y (invE q.Z))))).getD 31 0).toNat) ||| 128) :: .pointer (some ⟨q15, 31, none⟩) :: .slice (some ⟨q15, 0, none⟩) (bytesOf (mulP q.Y (invE q.Z))).size cp16 :: .string ⟨((bl ((bytesOf (mulP q.Y (invE q.Z))))).set 31 (UInt8.ofNat ((((bl ((bytesOf (mulP q.Y (invE q.Z))))).getD 31 0).toNat) ||| 128))).toArray⟩ :: List.replicate 0 un).toArray, []⟩) (by kernel_rfl) ?_
  refine wp_ret ?_
  repeat first | refine then_ret ?_ | refine block_ret ?_
  exact bodyPost_ret (v := .string (oddS (mulP q.Y (invE q.Z)))) (by kernel_rfl) rfl ⟨rfl, h26.old⟩

set_option linter.unusedVariables false in
set_option maxRecDepth 100000 in
set_option maxHeartbeats 2000000 in
theorem QBytes_even (q : Q4) (hq : q.lt) (hodd : mulP q.X (invE q.Z) % 2 = 0) (w : World) :
    Calls Tryd.prog 15 #[.agg (rq q)] w fun e w' => e = .returned (.string (bytesOf (mulP q.Y (invE q.Z)))) ∧ Below w.heap.size w w' := by
  have hls : ∀ {i : Nat}, i < 32 → i < (bl (bytesOf (mulP q.Y (invE q.Z)))).length := fun h => by rw [bl_len, bytesOf_size]; exact h
  have H0 := HA.start w
  go_enter Tryd.func15, Tryd.ntmps15
  refine wp_seq ?_
  refine wl_region ?_
  refine wl_make H0 34 (by kernel_rfl) (run_box34 (c := rq q) (by kernel_rfl)) ?_
  intro q1 w2 h3
  refine wl_val (.string { data := #[] }) (by kernel_rfl) (by kernel_rfl) ?_
  refine wl_nil ?_
  refine then_at (F := ⟨(.agg (rq q) :: pt q1 :: .string { data := #[] } :: List.replicate 24 un).toArray, []⟩) (by kernel_rfl) ?_
  refine wp_seq ?_
  refine wl_region ?_
  refine wl_val (.pointer (some ⟨q1, 32, none⟩)) (by kernel_rfl) (by kernel_rfl) ?_
  refine wl_val (rarr q.Z) (by kernel_rfl) (run_part32 (q := q1) (off := 16 * 2) (n := q.Z) (by kernel_rfl) (h3.get 0 rfl) (rq_get q).2.2.1) ?_
  refine wl_call (v := rarr (invE q.Z)) h3 (by kernel_rfl) enter50 #[rarr q.Z] (by kernel_rfl) (rinv_any q.Z hq.2.2.1 w2) ?_
  intro w4 h5
  refine wl_make h5 32 (by kernel_rfl) run_alloc32 ?_
  intro q6 w7 h8
  refine wl_fill (c' := rl (invE q.Z)) h8 0 rfl (by kernel_rfl) (by kernel_rfl) (by kernel_rfl) (rl_sz (invE q.Z) 0) (info_rl (invE q.Z)) (one_rl (invE q.Z)) ?_
  intro w9 (h10 : HA w [(q6, 32, rl (invE q.Z)), (q1, 34, rq q)] w9)
  refine wl_nil ?_
  refine then_at (F := ⟨(.agg (rq q) :: pt q1 :: .string { data := #[] } :: pt q6 :: un :: .pointer (some ⟨q1, 32, none⟩) :: rarr q.Z :: rarr (invE q.Z) :: List.replicate 19 un).toArray, []⟩) (by kernel_rfl) ?_
  refine wp_seq ?_
  refine wl_region ?_
  refine wl_val (.pointer (some ⟨q1, 16, none⟩)) (by kernel_rfl) (by kernel_rfl) ?_
  refine wl_val (rarr q.Y) (by kernel_rfl) (run_part32 (q := q1) (off := 16 * 1) (n := q.Y) (by kernel_rfl) (h10.get 1 rfl) (rq_get q).2.1) ?_
  refine wl_load h10 0 rfl (by kernel_rfl) (by kernel_rfl) Tryd.underlying32 rfl (info_rl (invE q.Z)) ?_
  refine wl_call (v := rarr (mulP q.Y (invE q.Z))) h10 (by kernel_rfl) enter52 #[rarr q.Y, rarr (invE q.Z)] (by kernel_rfl) (wmul_any q.Y (invE q.Z) hq.2.1 (invE_lt _) w9) ?_
  intro w11 h12
  refine wl_call (v := .string (bytesOf (mulP q.Y (invE q.Z)))) h12 (by kernel_rfl) enter51 #[rarr (mulP q.Y (invE q.Z))] (by kernel_rfl) (rbytes_any (mulP q.Y (invE q.Z)) w11) ?_
  intro w13 h14
  refine wl_bytes (s := (bytesOf (mulP q.Y (invE q.Z)))) h14 (by kernel_rfl) (by kernel_rfl) ?_
  intro q15 cp16 m17 w18 h19
  refine wl_val (.slice (some ⟨q15, 0, none⟩) (bytesOf (mulP q.Y (invE q.Z))).size cp16) (by kernel_rfl) (by kernel_rfl) ?_
  refine wl_nil ?_
  refine then_at (F := ⟨(.agg (rq q) :: pt q1 :: .string { data := #[] } :: pt q6 :: .slice (some ⟨q15, 0, none⟩) (bytesOf (mulP q.Y (invE q.Z))).size cp16 :: .pointer (some ⟨q1, 32, none⟩) :: rarr q.Z :: rarr (invE q.Z) :: .pointer (some ⟨q1, 16, none⟩) :: rarr q.Y :: rarr (invE q.Z) :: rarr (mulP q.Y (invE q.Z)) :: .string (bytesOf (mulP q.Y (invE q.Z))) :: .slice (some ⟨q15, 0, none⟩) (bytesOf (mulP q.Y (invE q.Z))).size cp16 :: List.replicate 13 un).toArray, []⟩) (by kernel_rfl) ?_
  refine wp_seq ?_
  refine wp_seq ?_
  refine wl_region ?_
  refine wl_val (.pointer (some ⟨q1, 0, none⟩)) (by kernel_rfl) (by kernel_rfl) ?_
  refine wl_val (rarr q.X) (by kernel_rfl) (run_part32 (q := q1) (off := 16 * 0) (n := q.X) (by kernel_rfl) (h19.get 2 rfl) (rq_get q).1) ?_
  refine wl_load h19 1 rfl (by kernel_rfl) (by kernel_rfl) Tryd.underlying32 rfl (info_rl (invE q.Z)) ?_
  refine wl_call (v := rarr (mulP q.X (invE q.Z))) h19 (by kernel_rfl) enter52 #[rarr q.X, rarr (invE q.Z)] (by kernel_rfl) (wmul_any q.X (invE q.Z) hq.1 (invE_lt _) w18) ?_
  intro w20 h21
  refine wl_call (v := .bool false) h21 (by kernel_rfl) enter53 #[rarr (mulP q.X (invE q.Z))] (by kernel_rfl) (rodd_no (mulP q.X (invE q.Z)) hodd w20) ?_
  intro w22 h23
  refine wl_nil ?_
  refine then_at (F := ⟨(.agg (rq q) :: pt q1 :: .string { data := #[] } :: pt q6 :: .slice (some ⟨q15, 0, none⟩) (bytesOf (mulP q.Y (invE q.Z))).size cp16 :: .pointer (some ⟨q1, 32, none⟩) :: rarr q.Z :: rarr (invE q.Z) :: .pointer (some ⟨q1, 16, none⟩) :: rarr q.Y :: rarr (invE q.Z) :: rarr (mulP q.Y (invE q.Z)) :: .string (bytesOf (mulP q.Y (invE q.Z))) :: .slice (some ⟨q15, 0, none⟩) (bytesOf (mulP q.Y (invE q.Z))).size cp16 :: pt q1 :: rarr q.X :: rarr (invE q.Z) :: rarr (mulP q.X (invE q.Z)) :: .bool false :: List.replicate 8 un).toArray, []⟩) (by kernel_rfl) ?_
  refine wp_cond_false (by kernel_rfl) ?_
  refine wp_skip ?_
  refine then_at (F := ⟨(.agg (rq q) :: pt q1 :: .string { data := #[] } :: pt q6 :: .slice (some ⟨q15, 0, none⟩) (bytesOf (mulP q.Y (invE q.Z))).size cp16 :: .pointer (some ⟨q1, 32, none⟩) :: rarr q.Z :: rarr (invE q.Z) :: .pointer (some ⟨q1, 16, none⟩) :: rarr q.Y :: rarr (invE q.Z) :: rarr (mulP q.Y (invE q.Z)) :: .string (bytesOf (mulP q.Y (invE q.Z))) :: .slice (some ⟨q15, 0, none⟩) (bytesOf (mulP q.Y (invE q.Z))).size cp16 :: pt q1 :: rarr q.X :: rarr (invE q.Z) :: rarr (mulP q.X (invE q.Z)) :: .bool false :: List.replicate 8 un).toArray, []⟩) (by kernel_rfl) ?_
  refine wp_seq ?_
  refine wl_region ?_
  refine wl_val (.slice (some ⟨q15, 0, none⟩) (bytesOf (mulP q.Y (invE q.Z))).size cp16) (by kernel_rfl) (by kernel_rfl) ?_
  refine wl_val (.string ⟨(bl ((bytesOf (mulP q.Y (invE q.Z))))).toArray⟩) (by kernel_rfl) (run_byText (n := (bytesOf (mulP q.Y (invE q.Z))).size) (c := cp16) (m := m17) (l := bl ((bytesOf (mulP q.Y (invE q.Z))))) (by simp [bl_len]) (by kernel_rfl) (h23.get 0 rfl)) ?_
  refine wl_val (.string ⟨(bl ((bytesOf (mulP q.Y (invE q.Z))))).toArray⟩) (by kernel_rfl) (by kernel_rfl) ?_
  refine wl_nil ?_
  refine then_at (F := ⟨(.agg (rq q) :: pt q1 :: .string ⟨(bl ((bytesOf (mulP q.Y (invE q.Z))))).toArray⟩ :: pt q6 :: .slice (some ⟨q15, 0, none⟩) (bytesOf (mulP q.Y (invE q.Z))).size cp16 :: .pointer (some ⟨q1, 32, none⟩) :: rarr q.Z :: rarr (invE q.Z) :: .pointer (some ⟨q1, 16, none⟩) :: rarr q.Y :: rarr (invE q.Z) :: rarr (mulP q.Y (invE q.Z)) :: .string (bytesOf (mulP q.Y (invE q.Z))) :: .slice (some ⟨q15, 0, none⟩) (bytesOf (mulP q.Y (invE q.Z))).size cp16 :: pt q1 :: rarr q.X :: rarr (invE q.Z) :: rarr (mulP q.X (invE q.Z)) :: .bool false :: un :: un :: un :: un :: un :: un :: .slice (some ⟨q15, 0, none⟩) (bytesOf (mulP q.Y (invE q.Z))).size cp16 :: .string ⟨(bl ((bytesOf (mulP q.Y (invE q.Z))))).toArray⟩ :: List.replicate 0 un).toArray, []⟩) (by kernel_rfl) ?_
  refine wp_ret ?_
  repeat first | refine then_ret ?_ | refine block_ret ?_
  exact bodyPost_ret (v := .string (bytesOf (mulP q.Y (invE q.Z)))) (by kernel_rfl) rfl ⟨rfl, h23.old⟩
end Go.Proofs.YtpaendmdcdeemaaDoor

namespace Go.Proofs.YtpaendmdcdeemaaDoor
open Go.RowKit Num

theorem run_load34 {ρ : Operand → Value} {x : Operand} {w : World} {dst : Option Tmp} {ty : TypeId} {pos : String} {aft : Array Edge} {gd : Option (Nat × Bool)} {q : Nat} (Q : Q4) (hx : ρ x = .pointer (some ⟨q, 0, none⟩)) (h : Blk w q 34 (rq Q)) : (execOp ρ ⟨dst, .load 34 x, ty, pos, aft, gd⟩).run Tryd.prog w = .ok (.value (.agg (rq Q))) w := run_load_blk hx h Tryd.underlying34 rfl (info34q Q)
theorem Rp.made {x y : Nat} {p : Pt} (lx : x < P) (ly : y < P) (hx : toF x = p.x) (hy : toF y = p.y) : Rp (mdQ x y) p := ⟨mdQ_lt lx ly, F_one, by show toF x = p.x * toF 1; rw [hx, toF_one]; grobner, by show toF y = p.y * toF 1; rw [hy, toF_one]; grobner, by
  show toF (mulP x y) = p.x * p.y * toF 1
  rw [toF_mul, hx, hy, toF_one]
  grobner⟩
theorem Rp.none : Rp (mdQ 0 1) nP := Rp.made (by decide) (by decide) rfl rfl
theorem Rp.xv {q : Q4} {p : Pt} (h : Rp q p) : mulP q.X (invE q.Z) = p.x.val := by
  obtain ⟨_, _, h3, _⟩ := h.lt
  have e : toF (mulP q.X (invE q.Z)) = p.x := by
    rw [toF_mul, toF_inv _ h3]
    exact over_is h.nz h.x.symm
  have := congrArg Fin.val e
  rwa [toF_val, Nat.mod_eq_of_lt (mulP_lt _ _)] at this
theorem Rp.yv {q : Q4} {p : Pt} (h : Rp q p) : mulP q.Y (invE q.Z) = p.y.val := by
  obtain ⟨_, _, h3, _⟩ := h.lt
  have e : toF (mulP q.Y (invE q.Z)) = p.y := by
    rw [toF_mul, toF_inv _ h3]
    exact over_is h.nz h.y.symm
  have := congrArg Fin.val e
  rwa [toF_val, Nat.mod_eq_of_lt (mulP_lt _ _)] at this
theorem rbytes_ex {q : Q4} {p : Pt} (h : Rp q p) (w : World) : Calls Tryd.prog 15 #[.agg (rq q)] w fun e w' => e = .returned (.string (encP p)) ∧ Below w.heap.size w w' := by
  unfold encP
  rw [← h.xv, ← h.yv]
  by_cases ho : mulP q.X (invE q.Z) % 2 = 1
  · rw [if_pos ho]
    exact QBytes_odd q h.lt ho w
  · rw [if_neg ho]
    exact QBytes_even q h.lt (by omega) w
/-- both read a text alike -/
theorem both_of (s : ByteArray) : (∃ a b p q, Pn a b p ∧ Rp q p ∧ (∀ w, Vars w → Calls Tryd.prog 12 #[.string s] w fun e w' => e = .returned (.tuple #[.agg (pr a b), .bool true]) ∧ Below w.heap.size w w') ∧ ∀ w, Calls Tryd.prog 13 #[.string s] w fun e w' => e = .returned (.tuple #[.agg (rq q), .bool true]) ∧ Below w.heap.size w w') ∨
    ((∀ w, Vars w → Calls Tryd.prog 12 #[.string s] w fun e w' => e = .returned (.tuple #[.agg (pr 0 0), .bool false]) ∧ Below w.heap.size w w') ∧ ∀ w, Calls Tryd.prog 13 #[.string s] w fun e w' => e = .returned (.tuple #[.agg (rq (mdQ 0 1)), .bool false]) ∧ Below w.heap.size w w') := by
  by_cases hs : s.size = 32
  · cases hof : ofP (topS s) with
    | none =>
      right
      by_cases hb : numS s / 2 ^ 255 % 2 = 1
      · exact ⟨fun w VV => POf_no_of1 s hs hof hb w VV, fun w => QOf_no_of1 s hs hof hb w⟩
      · exact ⟨fun w VV => POf_no_of0 s hs hof hb w VV, fun w => QOf_no_of0 s hs hof hb w⟩
    | some y =>
      have hy := ofP_lt hof
      cases hroot : rootP (bsq y) with
      | none =>
        right
        by_cases hb : numS s / 2 ^ 255 % 2 = 1
        · exact ⟨fun w VV => POf_no_root1 s hs y hy hof hroot hb w VV, fun w => QOf_no_root1 s hs y hy hof hroot hb w⟩
        · exact ⟨fun w VV => POf_no_root0 s hs y hy hof hroot hb w VV, fun w => QOf_no_root0 s hs y hy hof hroot hb w⟩
      | some rt =>
        obtain ⟨p, hx, hyy, hp⟩ := of_pt hroot
        by_cases hb : numS s / 2 ^ 255 % 2 = 1
        · by_cases hz : rt = 0
          · exact .inr ⟨fun w VV => POf_no_zero s hs y hy hof rt hp.ha hroot hb hz w VV, fun w => QOf_no_zero s hs y hy hof rt hp.ha hroot hb hz w⟩
          · exact .inl ⟨_, _, gP p, mdQ (negP rt) y, hp.neg, Rp.made (negP_lt _) hy hp.neg.x hyy.symm, fun w VV => POf_yes_odd s hs y hy hof rt hp.ha hroot hb hz w VV, fun w => QOf_yes_odd s hs y hy hof rt hp.ha hroot hb hz w⟩
        · exact .inl ⟨_, _, p, mdQ rt y, hp, Rp.made hp.ha hy hp.x hyy.symm, fun w VV => POf_yes_even s hs y hy hof rt hp.ha hroot hb w VV, fun w => QOf_yes_even s hs y hy hof rt hp.ha hroot hb w⟩
  · exact .inr ⟨fun w VV => POf_no_size s hs w VV, fun w => QOf_size s hs w⟩
end Go.Proofs.YtpaendmdcdeemaaDoor
