/-
  the reference's sums and multiples.
-/
import Derived.Test.YtpaendmdcdeemaaDoorCvZ
namespace Go.Proofs.YtpaendmdcdeemaaDoor
open Go.RowKit Num


def suQ (q r : Q4) : Q4 :=
  ⟨mulP (addP (mulP q.X r.Y) (mulP r.X q.Y)) (subP (mulP q.Z r.Z) (mulP dN (mulP q.T r.T))), mulP (addP (mulP q.Y r.Y) (mulP q.X r.X)) (addP (mulP q.Z r.Z) (mulP dN (mulP q.T r.T))),
   mulP (addP (mulP q.Z r.Z) (mulP dN (mulP q.T r.T))) (subP (mulP q.Z r.Z) (mulP dN (mulP q.T r.T))), mulP (addP (mulP q.X r.Y) (mulP r.X q.Y)) (addP (mulP q.Y r.Y) (mulP q.X r.X))⟩
theorem suQ_lt (q r : Q4) : (suQ q r).lt := ⟨mulP_lt _ _, mulP_lt _ _, mulP_lt _ _, mulP_lt _ _⟩
theorem sum_id (d x y Z x2 y2 Z2 x3 y3 : F) (hx : x3 * (1 + d * x * x2 * y * y2) = x * y2 + x2 * y) (hy : y3 * (1 - d * x * x2 * y * y2) = y * y2 + x * x2) :
    let e := x * Z * (y2 * Z2) + x2 * Z2 * (y * Z)
    let g := y * Z * (y2 * Z2) + x * Z * (x2 * Z2)
    let f := Z * Z2 + d * (x * y * Z * (x2 * y2 * Z2))
    let h := Z * Z2 - d * (x * y * Z * (x2 * y2 * Z2))
    e * h = x3 * (f * h) ∧ g * f = y3 * (f * h) ∧ e * g = x3 * y3 * (f * h) ∧ f * h = (Z * Z2) * (Z * Z2) * ((1 + d * x * x2 * y * y2) * (1 - d * x * x2 * y * y2)) := by
  intro e g f h
  have ef : f = Z * Z2 * (1 + d * x * x2 * y * y2) := by grobner
  have eh : h = Z * Z2 * (1 - d * x * x2 * y * y2) := by grobner
  have ee : e = Z * Z2 * (x * y2 + x2 * y) := by grobner
  have eg : g = Z * Z2 * (y * y2 + x * x2) := by grobner
  clear_value e g f h
  rw [← hx] at ee
  rw [← hy] at eg
  generalize 1 + d * x * x2 * y * y2 = A at *
  generalize 1 - d * x * x2 * y * y2 = B at *
  subst ee eg ef eh
  clear hx hy
  refine ⟨?_, ?_, ?_, ?_⟩ <;> grobner
theorem Rp.sum {q r : Q4} {p s : Pt} (h : Rp q p) (k : Rp r s) : Rp (suQ q r) (aP p s) := by
  obtain ⟨i1, i2, i3, i4⟩ := sum_id dE p.x p.y (toF q.Z) s.x s.y (toF r.Z) (aP p s).x (aP p s).y (sx_eq p.on s.on) (sy_eq p.on s.on)
  have hd : toF dN = dE := rfl
  have e1 : toF (addP (mulP q.X r.Y) (mulP r.X q.Y)) = p.x * toF q.Z * (s.y * toF r.Z) + s.x * toF r.Z * (p.y * toF q.Z) := by rw [toF_add, toF_mul, toF_mul, h.x, h.y, k.x, k.y]
  have e2 : toF (addP (mulP q.Y r.Y) (mulP q.X r.X)) = p.y * toF q.Z * (s.y * toF r.Z) + p.x * toF q.Z * (s.x * toF r.Z) := by rw [toF_add, toF_mul, toF_mul, h.x, h.y, k.x, k.y]
  have e3 : toF (addP (mulP q.Z r.Z) (mulP dN (mulP q.T r.T))) = toF q.Z * toF r.Z + dE * (p.x * p.y * toF q.Z * (s.x * s.y * toF r.Z)) := by rw [toF_add, toF_mul, toF_mul, toF_mul, h.t, k.t, hd]
  have e4 : toF (subP (mulP q.Z r.Z) (mulP dN (mulP q.T r.T))) = toF q.Z * toF r.Z - dE * (p.x * p.y * toF q.Z * (s.x * s.y * toF r.Z)) := by rw [toF_sub _ _ (mulP_lt _ _), toF_mul, toF_mul, toF_mul, h.t, k.t, hd]
  have hX : toF (suQ q r).X = _ := (toF_mul _ _).trans (by rw [e1, e4])
  have hY : toF (suQ q r).Y = _ := (toF_mul _ _).trans (by rw [e2, e3])
  have hZ : toF (suQ q r).Z = _ := (toF_mul _ _).trans (by rw [e3, e4])
  have hT : toF (suQ q r).T = _ := (toF_mul _ _).trans (by rw [e1, e2])
  refine ⟨suQ_lt q r, ?_, ?_, ?_, ?_⟩
  · rw [hZ, i4]
    exact F_ne (F_ne (F_ne h.nz k.nz) (F_ne h.nz k.nz)) (F_ne (plus_ne p.on s.on) (less_ne p.on s.on))
  · rw [hX, hZ, i1]
  · rw [hY, hZ, i2]
  · rw [hT, hZ, i3]
def ngQ (q : Q4) : Q4 := ⟨negP q.X, q.Y, q.Z, negP q.T⟩
theorem Rp.rneg {q : Q4} {p : Pt} (h : Rp q p) : Rp (ngQ q) (gP p) := by
  obtain ⟨l1, l2, l3, l4⟩ := h.lt
  refine ⟨⟨negP_lt _, l2, l3, negP_lt _⟩, h.nz, ?_, h.y, ?_⟩
  · show toF (negP q.X) = (0 - p.x) * toF q.Z
    rw [toF_neg _ l1, h.x]
    grobner
  · show toF (negP q.T) = (0 - p.x) * p.y * toF q.Z
    rw [toF_neg _ l4, h.t]
    grobner
theorem rsame_x {q r : Q4} {p s : Pt} (h : Rp q p) (k : Rp r s) : mulP q.X r.Z = mulP r.X q.Z ↔ p.x = s.x := by
  constructor
  · intro e
    have e2 := congrArg toF e
    rw [toF_mul, toF_mul, h.x, k.x] at e2
    refine F_cancel (F_ne h.nz k.nz) ?_
    grobner
  · intro e
    apply toF_inj (mulP_lt _ _) (mulP_lt _ _)
    rw [toF_mul, toF_mul, h.x, k.x, e]
    grobner
theorem rsame_y {q r : Q4} {p s : Pt} (h : Rp q p) (k : Rp r s) : mulP q.Y r.Z = mulP r.Y q.Z ↔ p.y = s.y := by
  constructor
  · intro e
    have e2 := congrArg toF e
    rw [toF_mul, toF_mul, h.y, k.y] at e2
    refine F_cancel (F_ne h.nz k.nz) ?_
    grobner
  · intro e
    apply toF_inj (mulP_lt _ _) (mulP_lt _ _)
    rw [toF_mul, toF_mul, h.y, k.y, e]
    grobner
/-- the reference's multiples -/
def rmQ (s : ByteArray) (q : Q4) : Nat → Q4
  | 0 => mdQ 0 1
  | k + 1 => if numS s / 2 ^ (255 - k) % 2 = 1 then suQ (suQ (rmQ s q k) (rmQ s q k)) q else suQ (rmQ s q k) (rmQ s q k)
theorem rmQ_lt (s : ByteArray) (q : Q4) : ∀ k, (rmQ s q k).lt
  | 0 => mdQ_lt (by decide) (by decide)
  | k + 1 => by
    unfold rmQ
    split
    · exact suQ_lt _ _
    · exact suQ_lt _ _
theorem rmQ_one (s : ByteArray) (q : Q4) (k j : Nat) (e : 256 - k = j + 1) (h : numS s / 2 ^ j % 2 = 1) : suQ (suQ (rmQ s q k) (rmQ s q k)) q = rmQ s q (k + 1) := by rw [rmQ, show 255 - k = j by omega, if_pos h]
theorem rmQ_nil (s : ByteArray) (q : Q4) (k j : Nat) (e : 256 - k = j + 1) (h : ¬ numS s / 2 ^ j % 2 = 1) : suQ (rmQ s q k) (rmQ s q k) = rmQ s q (k + 1) := by rw [rmQ, show 255 - k = j by omega, if_neg h]
theorem rm_rep (s : ByteArray) (hs : s.size = 32) {q : Q4} {p : Pt} (h : Rp q p) : ∀ k, k ≤ 256 → Rp (rmQ s q k) (mP p (numS s / 2 ^ (256 - k)))
  | 0, _ => by
    rw [Nat.div_eq_of_lt (numS_256 s hs)]
    exact Rp.none
  | k + 1, hk => by
    have ih := rm_rep s hs h k (by omega)
    have e : 256 - (k + 1) = 255 - k := by omega
    have e2 : 256 - k = (255 - k) + 1 := by omega
    rw [e2] at ih
    rw [e, gen_half (numS s) (255 - k)]
    have hd := ih.sum ih
    rw [← mP_two] at hd
    by_cases hb : numS s / 2 ^ (255 - k) % 2 = 1
    · rw [← rmQ_one s q k (255 - k) e2 hb, hb]
      exact hd.sum h
    · rw [← rmQ_nil s q k (255 - k) e2 hb, show numS s / 2 ^ (255 - k) % 2 = 0 by omega]
      exact hd
theorem base_q : mulP 4 (invE 5) = bY := by rw [invE_pm]; decide +kernel
theorem base_root : rootP (bsq bY) = some bX := by
  have e : bsq bY = mulP bX bX := by unfold bsq; rw [invE_pm]; decide +kernel
  rw [e, rootP_of]
  decide +kernel
theorem Rp.base : Rp (mdQ bX bY) bP := Rp.made bX_lt bY_lt rfl rfl

set_option linter.unusedVariables false in
set_option maxRecDepth 100000 in
set_option maxHeartbeats 2000000 in
theorem rsum_any (q : Q4) (r : Q4) (hq : q.lt) (hr : r.lt) (w : World) :
    Calls Tryd.prog 58 #[rarr dN, .agg (rq q), .agg (rq r)] w fun e w' => e = .returned (.agg (rq (suQ q r))) ∧ Below w.heap.size w w' := by
  have H0 := HA.start w
  go_enter Tryd.func58, Tryd.ntmps58
  refine wp_seq ?_
  refine wl_region ?_
  refine wl_make H0 32 (by kernel_rfl) (run_box32 (c := rl dN) (by kernel_rfl)) ?_
  intro q1 w2 h3
  refine wl_make h3 34 (by kernel_rfl) (run_box34 (c := rq q) (by kernel_rfl)) ?_
  intro q4 w5 h6
  refine wl_make h6 34 (by kernel_rfl) (run_box34 (c := rq r) (by kernel_rfl)) ?_
  intro q7 w8 h9
  refine wl_make h9 34 (by kernel_rfl) run_alloc34 ?_
  intro q10 w11 h12
  refine wl_nil ?_
  refine then_at (F := ⟨(rarr dN :: .agg (rq q) :: .agg (rq r) :: pt q1 :: pt q4 :: pt q7 :: pt q10 :: List.replicate 63 un).toArray, []⟩) (by kernel_rfl) ?_
  refine wp_seq ?_
  refine wl_region ?_
  refine wl_val (.pointer (some ⟨q4, 0, none⟩)) (by kernel_rfl) (by kernel_rfl) ?_
  refine wl_val (rarr q.X) (by kernel_rfl) (run_part32 (q := q4) (off := 16 * 0) (n := q.X) (by kernel_rfl) (h12.get 2 rfl) (rq_get q).1) ?_
  refine wl_val (.pointer (some ⟨q7, 16, none⟩)) (by kernel_rfl) (by kernel_rfl) ?_
  refine wl_val (rarr r.Y) (by kernel_rfl) (run_part32 (q := q7) (off := 16 * 1) (n := r.Y) (by kernel_rfl) (h12.get 1 rfl) (rq_get r).2.1) ?_
  refine wl_call (v := rarr (mulP q.X r.Y)) h12 (by kernel_rfl) enter52 #[rarr q.X, rarr r.Y] (by kernel_rfl) (wmul_any q.X r.Y hq.1 hr.2.1 w11) ?_
  intro w13 h14
  refine wl_make h14 32 (by kernel_rfl) run_alloc32 ?_
  intro q15 w16 h17
  refine wl_fill (c' := rl (mulP q.X r.Y)) h17 0 rfl (by kernel_rfl) (by kernel_rfl) (by kernel_rfl) (rl_sz (mulP q.X r.Y) 0) (info_rl (mulP q.X r.Y)) (one_rl (mulP q.X r.Y)) ?_
  intro w18 (h19 : HA w [(q15, 32, rl (mulP q.X r.Y)), (q10, 34, rq (Q4.mk 0 0 0 0)), (q7, 34, rq r), (q4, 34, rq q), (q1, 32, rl dN)] w18)
  refine wl_nil ?_
  refine then_at (F := ⟨(rarr dN :: .agg (rq q) :: .agg (rq r) :: pt q1 :: pt q4 :: pt q7 :: pt q10 :: pt q15 :: un :: un :: un :: un :: un :: un :: un :: pt q4 :: rarr q.X :: .pointer (some ⟨q7, 16, none⟩) :: rarr r.Y :: rarr (mulP q.X r.Y) :: List.replicate 50 un).toArray, []⟩) (by kernel_rfl) ?_
  refine wp_seq ?_
  refine wl_region ?_
  refine wl_val (.pointer (some ⟨q7, 0, none⟩)) (by kernel_rfl) (by kernel_rfl) ?_
  refine wl_val (rarr r.X) (by kernel_rfl) (run_part32 (q := q7) (off := 16 * 0) (n := r.X) (by kernel_rfl) (h19.get 2 rfl) (rq_get r).1) ?_
  refine wl_val (.pointer (some ⟨q4, 16, none⟩)) (by kernel_rfl) (by kernel_rfl) ?_
  refine wl_val (rarr q.Y) (by kernel_rfl) (run_part32 (q := q4) (off := 16 * 1) (n := q.Y) (by kernel_rfl) (h19.get 3 rfl) (rq_get q).2.1) ?_
  refine wl_call (v := rarr (mulP r.X q.Y)) h19 (by kernel_rfl) enter52 #[rarr r.X, rarr q.Y] (by kernel_rfl) (wmul_any r.X q.Y hr.1 hq.2.1 w18) ?_
  intro w20 h21
  refine wl_make h21 32 (by kernel_rfl) run_alloc32 ?_
  intro q22 w23 h24
  refine wl_fill (c' := rl (mulP r.X q.Y)) h24 0 rfl (by kernel_rfl) (by kernel_rfl) (by kernel_rfl) (rl_sz (mulP r.X q.Y) 0) (info_rl (mulP r.X q.Y)) (one_rl (mulP r.X q.Y)) ?_
  intro w25 (h26 : HA w [(q22, 32, rl (mulP r.X q.Y)), (q15, 32, rl (mulP q.X r.Y)), (q10, 34, rq (Q4.mk 0 0 0 0)), (q7, 34, rq r), (q4, 34, rq q), (q1, 32, rl dN)] w25)
  refine wl_nil ?_
  refine then_at (F := ⟨(rarr dN :: .agg (rq q) :: .agg (rq r) :: pt q1 :: pt q4 :: pt q7 :: pt q10 :: pt q15 :: pt q22 :: un :: un :: un :: un :: un :: un :: pt q4 :: rarr q.X :: .pointer (some ⟨q7, 16, none⟩) :: rarr r.Y :: rarr (mulP q.X r.Y) :: pt q7 :: rarr r.X :: .pointer (some ⟨q4, 16, none⟩) :: rarr q.Y :: rarr (mulP r.X q.Y) :: List.replicate 45 un).toArray, []⟩) (by kernel_rfl) ?_
  refine wp_seq ?_
  obtain ⟨B27, eB27⟩ : ∃ B, B = w25.heap.size := ⟨_, rfl⟩
  refine wp_region_ghost (fun g : Nat → Nat => (⟨(rarr dN :: .agg (rq q) :: .agg (rq r) :: pt q1 :: pt q4 :: pt q7 :: pt q10 :: pt q15 :: pt q22 :: pt (g 7) :: un :: un :: un :: un :: un :: pt q4 :: rarr q.X :: .pointer (some ⟨q7, 16, none⟩) :: rarr r.Y :: rarr (mulP q.X r.Y) :: pt q7 :: rarr r.X :: .pointer (some ⟨q4, 16, none⟩) :: rarr q.Y :: rarr (mulP r.X q.Y) :: rarr dN :: .pointer (some ⟨q4, 48, none⟩) :: rarr q.T :: .pointer (some ⟨q7, 48, none⟩) :: rarr r.T :: rarr (mulP q.T r.T) :: rarr (mulP dN (mulP q.T r.T)) :: List.replicate 38 un).toArray, []⟩ : Act)) (GS w [(q22, 32, rl (mulP r.X q.Y)), (q15, 32, rl (mulP q.X r.Y)), (q10, 34, rq (Q4.mk 0 0 0 0)), (q7, 34, rq r), (q4, 34, rq q), (q1, 32, rl dN)] B27 1 7 8 32 (rl 0) (fun _ => rl (mulP dN (mulP q.T r.T)))) [rarr dN, .pointer (some ⟨q4, 48, none⟩), rarr q.T, .pointer (some ⟨q7, 48, none⟩), rarr r.T, rarr (mulP q.T r.T), rarr (mulP dN (mulP q.T r.T)), .pointer (some ⟨0, 0, none⟩), undef] (by kernel_rfl) (by kernel_rfl) (by kernel_rfl) (by kernel_rfl) (fun _ _ _ _ h => h) (fun d hd => GS.start h26.drew eB27 (by decide) (fun _ _ => (rl_sz _ _)) (fun j hj => hd j (Nat.lt_of_lt_of_le hj (by decide)))) ?_ ?_
  · refine AllGhost.cons (ghost_load 5 rfl (by decide) (fun _ => by kernel_rfl) (fun _ => by kernel_rfl) (fun _ => by kernel_rfl) Tryd.underlying32 rfl (info_rl dN)) ?_
    refine AllGhost.cons (ghost_plain (v := .pointer (some ⟨q4, 48, none⟩)) (by decide) (fun _ => by kernel_rfl) (fun _ => by kernel_rfl) (fun _ _ => (by kernel_rfl))) ?_
    refine AllGhost.cons (ghost_held (v := rarr q.T) (by decide) (fun _ => by kernel_rfl) (fun _ => by kernel_rfl) (fun _ w' h' => run_part32 (q := q4) (off := 16 * 3) (n := q.T) (by kernel_rfl) (h'.get 4 rfl) (rq_get q).2.2.2)) ?_
    refine AllGhost.cons (ghost_plain (v := .pointer (some ⟨q7, 48, none⟩)) (by decide) (fun _ => by kernel_rfl) (fun _ => by kernel_rfl) (fun _ _ => (by kernel_rfl))) ?_
    refine AllGhost.cons (ghost_held (v := rarr r.T) (by decide) (fun _ => by kernel_rfl) (fun _ => by kernel_rfl) (fun _ w' h' => run_part32 (q := q7) (off := 16 * 3) (n := r.T) (by kernel_rfl) (h'.get 3 rfl) (rq_get r).2.2.2)) ?_
    refine AllGhost.cons (ghost_call (v := rarr (mulP q.T r.T)) (by decide) (fun _ => by kernel_rfl) (fun _ => by kernel_rfl) enter52 #[rarr q.T, rarr r.T] (fun _ => by kernel_rfl) (fun w' h' => wmul_any q.T r.T hq.2.2.2 hr.2.2.2 w')) ?_
    refine AllGhost.cons (ghost_call (v := rarr (mulP dN (mulP q.T r.T))) (by decide) (fun _ => by kernel_rfl) (fun _ => by kernel_rfl) enter52 #[rarr dN, rarr (mulP q.T r.T)] (fun _ => by kernel_rfl) (fun w' h' => wmul_any dN (mulP q.T r.T) dN_lt (mulP_lt _ _) w')) ?_
    refine AllGhost.cons (ghost_make 0 (by decide) rfl (fun _ => by kernel_rfl) (fun _ _ => by kernel_rfl) (fun _ _ => run_alloc32)) ?_
    refine AllGhost.cons (ghost_fill 0 (by decide) rfl (fun _ => by kernel_rfl) (fun _ => by kernel_rfl) (fun _ => by kernel_rfl) (fun _ => by kernel_rfl) (info_rl (mulP dN (mulP q.T r.T))) (one_rl (mulP dN (mulP q.T r.T))) (by kernel_rfl)) ?_
    exact AllGhost.nil
  intro g w28 g29
  have h30 : HA w [(g 7, 32, rl (mulP dN (mulP q.T r.T))), (q22, 32, rl (mulP r.X q.Y)), (q15, 32, rl (mulP q.X r.Y)), (q10, 34, rq (Q4.mk 0 0 0 0)), (q7, 34, rq r), (q4, 34, rq q), (q1, 32, rl dN)] w28 := g29.one
  clear g29 eB27
  generalize g 7 = q31 at h30 ⊢
  clear g
  refine then_at (F := ⟨(rarr dN :: .agg (rq q) :: .agg (rq r) :: pt q1 :: pt q4 :: pt q7 :: pt q10 :: pt q15 :: pt q22 :: pt q31 :: un :: un :: un :: un :: un :: pt q4 :: rarr q.X :: .pointer (some ⟨q7, 16, none⟩) :: rarr r.Y :: rarr (mulP q.X r.Y) :: pt q7 :: rarr r.X :: .pointer (some ⟨q4, 16, none⟩) :: rarr q.Y :: rarr (mulP r.X q.Y) :: rarr dN :: .pointer (some ⟨q4, 48, none⟩) :: rarr q.T :: .pointer (some ⟨q7, 48, none⟩) :: rarr r.T :: rarr (mulP q.T r.T) :: rarr (mulP dN (mulP q.T r.T)) :: List.replicate 38 un).toArray, []⟩) (by kernel_rfl) ?_
  refine wp_seq ?_
  refine wl_region ?_
  refine wl_val (.pointer (some ⟨q4, 32, none⟩)) (by kernel_rfl) (by kernel_rfl) ?_
  refine wl_val (rarr q.Z) (by kernel_rfl) (run_part32 (q := q4) (off := 16 * 2) (n := q.Z) (by kernel_rfl) (h30.get 5 rfl) (rq_get q).2.2.1) ?_
  refine wl_val (.pointer (some ⟨q7, 32, none⟩)) (by kernel_rfl) (by kernel_rfl) ?_
  refine wl_val (rarr r.Z) (by kernel_rfl) (run_part32 (q := q7) (off := 16 * 2) (n := r.Z) (by kernel_rfl) (h30.get 4 rfl) (rq_get r).2.2.1) ?_
  refine wl_call (v := rarr (mulP q.Z r.Z)) h30 (by kernel_rfl) enter52 #[rarr q.Z, rarr r.Z] (by kernel_rfl) (wmul_any q.Z r.Z hq.2.2.1 hr.2.2.1 w28) ?_
  intro w32 h33
  refine wl_make h33 32 (by kernel_rfl) run_alloc32 ?_
  intro q34 w35 h36
  refine wl_fill (c' := rl (mulP q.Z r.Z)) h36 0 rfl (by kernel_rfl) (by kernel_rfl) (by kernel_rfl) (rl_sz (mulP q.Z r.Z) 0) (info_rl (mulP q.Z r.Z)) (one_rl (mulP q.Z r.Z)) ?_
  intro w37 (h38 : HA w [(q34, 32, rl (mulP q.Z r.Z)), (q31, 32, rl (mulP dN (mulP q.T r.T))), (q22, 32, rl (mulP r.X q.Y)), (q15, 32, rl (mulP q.X r.Y)), (q10, 34, rq (Q4.mk 0 0 0 0)), (q7, 34, rq r), (q4, 34, rq q), (q1, 32, rl dN)] w37)
  refine wl_nil ?_
  refine then_at (F := ⟨(rarr dN :: .agg (rq q) :: .agg (rq r) :: pt q1 :: pt q4 :: pt q7 :: pt q10 :: pt q15 :: pt q22 :: pt q31 :: pt q34 :: un :: un :: un :: un :: pt q4 :: rarr q.X :: .pointer (some ⟨q7, 16, none⟩) :: rarr r.Y :: rarr (mulP q.X r.Y) :: pt q7 :: rarr r.X :: .pointer (some ⟨q4, 16, none⟩) :: rarr q.Y :: rarr (mulP r.X q.Y) :: rarr dN :: .pointer (some ⟨q4, 48, none⟩) :: rarr q.T :: .pointer (some ⟨q7, 48, none⟩) :: rarr r.T :: rarr (mulP q.T r.T) :: rarr (mulP dN (mulP q.T r.T)) :: .pointer (some ⟨q4, 32, none⟩) :: rarr q.Z :: .pointer (some ⟨q7, 32, none⟩) :: rarr r.Z :: rarr (mulP q.Z r.Z) :: List.replicate 33 un).toArray, []⟩) (by kernel_rfl) ?_
  refine wp_seq ?_
  refine wl_region ?_
  refine wl_load h38 3 rfl (by kernel_rfl) (by kernel_rfl) Tryd.underlying32 rfl (info_rl (mulP q.X r.Y)) ?_
  refine wl_load h38 2 rfl (by kernel_rfl) (by kernel_rfl) Tryd.underlying32 rfl (info_rl (mulP r.X q.Y)) ?_
  refine wl_call (v := rarr (addP (mulP q.X r.Y) (mulP r.X q.Y))) h38 (by kernel_rfl) enter68 #[rarr (mulP q.X r.Y), rarr (mulP r.X q.Y)] (by kernel_rfl) (wadd_any (mulP q.X r.Y) (mulP r.X q.Y) (mulP_lt _ _) (mulP_lt _ _) w37) ?_
  intro w39 h40
  refine wl_make h40 32 (by kernel_rfl) run_alloc32 ?_
  intro q41 w42 h43
  refine wl_fill (c' := rl (addP (mulP q.X r.Y) (mulP r.X q.Y))) h43 0 rfl (by kernel_rfl) (by kernel_rfl) (by kernel_rfl) (rl_sz (addP (mulP q.X r.Y) (mulP r.X q.Y)) 0) (info_rl (addP (mulP q.X r.Y) (mulP r.X q.Y))) (one_rl (addP (mulP q.X r.Y) (mulP r.X q.Y))) ?_
  intro w44 (h45 : HA w [(q41, 32, rl (addP (mulP q.X r.Y) (mulP r.X q.Y))), (q34, 32, rl (mulP q.Z r.Z)), (q31, 32, rl (mulP dN (mulP q.T r.T))), (q22, 32, rl (mulP r.X q.Y)), (q15, 32, rl (mulP q.X r.Y)), (q10, 34, rq (Q4.mk 0 0 0 0)), (q7, 34, rq r), (q4, 34, rq q), (q1, 32, rl dN)] w44)
  refine wl_nil ?_
  refine then_at (F := ⟨(rarr dN :: .agg (rq q) :: .agg (rq r) :: pt q1 :: pt q4 :: pt q7 :: pt q10 :: pt q15 :: pt q22 :: pt q31 :: pt q34 :: pt q41 :: un :: un :: un :: pt q4 :: rarr q.X :: .pointer (some ⟨q7, 16, none⟩) :: rarr r.Y :: rarr (mulP q.X r.Y) :: pt q7 :: rarr r.X :: .pointer (some ⟨q4, 16, none⟩) :: rarr q.Y :: rarr (mulP r.X q.Y) :: rarr dN :: .pointer (some ⟨q4, 48, none⟩) :: rarr q.T :: .pointer (some ⟨q7, 48, none⟩) :: rarr r.T :: rarr (mulP q.T r.T) :: rarr (mulP dN (mulP q.T r.T)) :: .pointer (some ⟨q4, 32, none⟩) :: rarr q.Z :: .pointer (some ⟨q7, 32, none⟩) :: rarr r.Z :: rarr (mulP q.Z r.Z) :: rarr (mulP q.X r.Y) :: rarr (mulP r.X q.Y) :: rarr (addP (mulP q.X r.Y) (mulP r.X q.Y)) :: List.replicate 30 un).toArray, []⟩) (by kernel_rfl) ?_
  refine wp_seq ?_
  refine wl_region ?_
  refine wl_load h45 1 rfl (by kernel_rfl) (by kernel_rfl) Tryd.underlying32 rfl (info_rl (mulP q.Z r.Z)) ?_
  refine wl_load h45 2 rfl (by kernel_rfl) (by kernel_rfl) Tryd.underlying32 rfl (info_rl (mulP dN (mulP q.T r.T))) ?_
  refine wl_call (v := rarr (addP (mulP q.Z r.Z) (mulP dN (mulP q.T r.T)))) h45 (by kernel_rfl) enter68 #[rarr (mulP q.Z r.Z), rarr (mulP dN (mulP q.T r.T))] (by kernel_rfl) (wadd_any (mulP q.Z r.Z) (mulP dN (mulP q.T r.T)) (mulP_lt _ _) (mulP_lt _ _) w44) ?_
  intro w46 h47
  refine wl_make h47 32 (by kernel_rfl) run_alloc32 ?_
  intro q48 w49 h50
  refine wl_fill (c' := rl (addP (mulP q.Z r.Z) (mulP dN (mulP q.T r.T)))) h50 0 rfl (by kernel_rfl) (by kernel_rfl) (by kernel_rfl) (rl_sz (addP (mulP q.Z r.Z) (mulP dN (mulP q.T r.T))) 0) (info_rl (addP (mulP q.Z r.Z) (mulP dN (mulP q.T r.T)))) (one_rl (addP (mulP q.Z r.Z) (mulP dN (mulP q.T r.T)))) ?_
  intro w51 (h52 : HA w [(q48, 32, rl (addP (mulP q.Z r.Z) (mulP dN (mulP q.T r.T)))), (q41, 32, rl (addP (mulP q.X r.Y) (mulP r.X q.Y))), (q34, 32, rl (mulP q.Z r.Z)), (q31, 32, rl (mulP dN (mulP q.T r.T))), (q22, 32, rl (mulP r.X q.Y)), (q15, 32, rl (mulP q.X r.Y)), (q10, 34, rq (Q4.mk 0 0 0 0)), (q7, 34, rq r), (q4, 34, rq q), (q1, 32, rl dN)] w51)
  refine wl_nil ?_
  refine then_at (F := ⟨(rarr dN :: .agg (rq q) :: .agg (rq r) :: pt q1 :: pt q4 :: pt q7 :: pt q10 :: pt q15 :: pt q22 :: pt q31 :: pt q34 :: pt q41 :: pt q48 :: un :: un :: pt q4 :: rarr q.X :: .pointer (some ⟨q7, 16, none⟩) :: rarr r.Y :: rarr (mulP q.X r.Y) :: pt q7 :: rarr r.X :: .pointer (some ⟨q4, 16, none⟩) :: rarr q.Y :: rarr (mulP r.X q.Y) :: rarr dN :: .pointer (some ⟨q4, 48, none⟩) :: rarr q.T :: .pointer (some ⟨q7, 48, none⟩) :: rarr r.T :: rarr (mulP q.T r.T) :: rarr (mulP dN (mulP q.T r.T)) :: .pointer (some ⟨q4, 32, none⟩) :: rarr q.Z :: .pointer (some ⟨q7, 32, none⟩) :: rarr r.Z :: rarr (mulP q.Z r.Z) :: rarr (mulP q.X r.Y) :: rarr (mulP r.X q.Y) :: rarr (addP (mulP q.X r.Y) (mulP r.X q.Y)) :: rarr (mulP q.Z r.Z) :: rarr (mulP dN (mulP q.T r.T)) :: rarr (addP (mulP q.Z r.Z) (mulP dN (mulP q.T r.T))) :: List.replicate 27 un).toArray, []⟩) (by kernel_rfl) ?_
  refine wp_seq ?_
  obtain ⟨B53, eB53⟩ : ∃ B, B = w51.heap.size := ⟨_, rfl⟩
  refine wp_region_ghost (fun g : Nat → Nat => (⟨(rarr dN :: .agg (rq q) :: .agg (rq r) :: pt q1 :: pt q4 :: pt q7 :: pt q10 :: pt q15 :: pt q22 :: pt q31 :: pt q34 :: pt q41 :: pt q48 :: pt (g 11) :: un :: pt q4 :: rarr q.X :: .pointer (some ⟨q7, 16, none⟩) :: rarr r.Y :: rarr (mulP q.X r.Y) :: pt q7 :: rarr r.X :: .pointer (some ⟨q4, 16, none⟩) :: rarr q.Y :: rarr (mulP r.X q.Y) :: rarr dN :: .pointer (some ⟨q4, 48, none⟩) :: rarr q.T :: .pointer (some ⟨q7, 48, none⟩) :: rarr r.T :: rarr (mulP q.T r.T) :: rarr (mulP dN (mulP q.T r.T)) :: .pointer (some ⟨q4, 32, none⟩) :: rarr q.Z :: .pointer (some ⟨q7, 32, none⟩) :: rarr r.Z :: rarr (mulP q.Z r.Z) :: rarr (mulP q.X r.Y) :: rarr (mulP r.X q.Y) :: rarr (addP (mulP q.X r.Y) (mulP r.X q.Y)) :: rarr (mulP q.Z r.Z) :: rarr (mulP dN (mulP q.T r.T)) :: rarr (addP (mulP q.Z r.Z) (mulP dN (mulP q.T r.T))) :: .pointer (some ⟨q4, 16, none⟩) :: rarr q.Y :: .pointer (some ⟨q7, 16, none⟩) :: rarr r.Y :: rarr (mulP q.Y r.Y) :: pt q4 :: rarr q.X :: pt q7 :: rarr r.X :: rarr (mulP q.X r.X) :: rarr (addP (mulP q.Y r.Y) (mulP q.X r.X)) :: List.replicate 16 un).toArray, []⟩ : Act)) (GS w [(q48, 32, rl (addP (mulP q.Z r.Z) (mulP dN (mulP q.T r.T)))), (q41, 32, rl (addP (mulP q.X r.Y) (mulP r.X q.Y))), (q34, 32, rl (mulP q.Z r.Z)), (q31, 32, rl (mulP dN (mulP q.T r.T))), (q22, 32, rl (mulP r.X q.Y)), (q15, 32, rl (mulP q.X r.Y)), (q10, 34, rq (Q4.mk 0 0 0 0)), (q7, 34, rq r), (q4, 34, rq q), (q1, 32, rl dN)] B53 1 11 12 32 (rl 0) (fun _ => rl (addP (mulP q.Y r.Y) (mulP q.X r.X)))) [.pointer (some ⟨q4, 16, none⟩), rarr q.Y, .pointer (some ⟨q7, 16, none⟩), rarr r.Y, rarr (mulP q.Y r.Y), .pointer (some ⟨q4, 0, none⟩), rarr q.X, .pointer (some ⟨q7, 0, none⟩), rarr r.X, rarr (mulP q.X r.X), rarr (addP (mulP q.Y r.Y) (mulP q.X r.X)), .pointer (some ⟨0, 0, none⟩), undef] (by kernel_rfl) (by kernel_rfl) (by kernel_rfl) (by kernel_rfl) (fun _ _ _ _ h => h) (fun d hd => GS.start h52.drew eB53 (by decide) (fun _ _ => (rl_sz _ _)) (fun j hj => hd j (Nat.lt_of_lt_of_le hj (by decide)))) ?_ ?_
  · refine AllGhost.cons (ghost_plain (v := .pointer (some ⟨q4, 16, none⟩)) (by decide) (fun _ => by kernel_rfl) (fun _ => by kernel_rfl) (fun _ _ => (by kernel_rfl))) ?_
    refine AllGhost.cons (ghost_held (v := rarr q.Y) (by decide) (fun _ => by kernel_rfl) (fun _ => by kernel_rfl) (fun _ w' h' => run_part32 (q := q4) (off := 16 * 1) (n := q.Y) (by kernel_rfl) (h'.get 8 rfl) (rq_get q).2.1)) ?_
    refine AllGhost.cons (ghost_plain (v := .pointer (some ⟨q7, 16, none⟩)) (by decide) (fun _ => by kernel_rfl) (fun _ => by kernel_rfl) (fun _ _ => (by kernel_rfl))) ?_
    refine AllGhost.cons (ghost_held (v := rarr r.Y) (by decide) (fun _ => by kernel_rfl) (fun _ => by kernel_rfl) (fun _ w' h' => run_part32 (q := q7) (off := 16 * 1) (n := r.Y) (by kernel_rfl) (h'.get 7 rfl) (rq_get r).2.1)) ?_
    refine AllGhost.cons (ghost_call (v := rarr (mulP q.Y r.Y)) (by decide) (fun _ => by kernel_rfl) (fun _ => by kernel_rfl) enter52 #[rarr q.Y, rarr r.Y] (fun _ => by kernel_rfl) (fun w' h' => wmul_any q.Y r.Y hq.2.1 hr.2.1 w')) ?_
    refine AllGhost.cons (ghost_plain (v := .pointer (some ⟨q4, 0, none⟩)) (by decide) (fun _ => by kernel_rfl) (fun _ => by kernel_rfl) (fun _ _ => (by kernel_rfl))) ?_
    refine AllGhost.cons (ghost_held (v := rarr q.X) (by decide) (fun _ => by kernel_rfl) (fun _ => by kernel_rfl) (fun _ w' h' => run_part32 (q := q4) (off := 16 * 0) (n := q.X) (by kernel_rfl) (h'.get 8 rfl) (rq_get q).1)) ?_
    refine AllGhost.cons (ghost_plain (v := .pointer (some ⟨q7, 0, none⟩)) (by decide) (fun _ => by kernel_rfl) (fun _ => by kernel_rfl) (fun _ _ => (by kernel_rfl))) ?_
    refine AllGhost.cons (ghost_held (v := rarr r.X) (by decide) (fun _ => by kernel_rfl) (fun _ => by kernel_rfl) (fun _ w' h' => run_part32 (q := q7) (off := 16 * 0) (n := r.X) (by kernel_rfl) (h'.get 7 rfl) (rq_get r).1)) ?_
    refine AllGhost.cons (ghost_call (v := rarr (mulP q.X r.X)) (by decide) (fun _ => by kernel_rfl) (fun _ => by kernel_rfl) enter52 #[rarr q.X, rarr r.X] (fun _ => by kernel_rfl) (fun w' h' => wmul_any q.X r.X hq.1 hr.1 w')) ?_
    refine AllGhost.cons (ghost_call (v := rarr (addP (mulP q.Y r.Y) (mulP q.X r.X))) (by decide) (fun _ => by kernel_rfl) (fun _ => by kernel_rfl) enter68 #[rarr (mulP q.Y r.Y), rarr (mulP q.X r.X)] (fun _ => by kernel_rfl) (fun w' h' => wadd_any (mulP q.Y r.Y) (mulP q.X r.X) (mulP_lt _ _) (mulP_lt _ _) w')) ?_
    refine AllGhost.cons (ghost_make 0 (by decide) rfl (fun _ => by kernel_rfl) (fun _ _ => by kernel_rfl) (fun _ _ => run_alloc32)) ?_
    refine AllGhost.cons (ghost_fill 0 (by decide) rfl (fun _ => by kernel_rfl) (fun _ => by kernel_rfl) (fun _ => by kernel_rfl) (fun _ => by kernel_rfl) (info_rl (addP (mulP q.Y r.Y) (mulP q.X r.X))) (one_rl (addP (mulP q.Y r.Y) (mulP q.X r.X))) (by kernel_rfl)) ?_
    exact AllGhost.nil
  intro g w54 g55
  have h56 : HA w [(g 11, 32, rl (addP (mulP q.Y r.Y) (mulP q.X r.X))), (q48, 32, rl (addP (mulP q.Z r.Z) (mulP dN (mulP q.T r.T)))), (q41, 32, rl (addP (mulP q.X r.Y) (mulP r.X q.Y))), (q34, 32, rl (mulP q.Z r.Z)), (q31, 32, rl (mulP dN (mulP q.T r.T))), (q22, 32, rl (mulP r.X q.Y)), (q15, 32, rl (mulP q.X r.Y)), (q10, 34, rq (Q4.mk 0 0 0 0)), (q7, 34, rq r), (q4, 34, rq q), (q1, 32, rl dN)] w54 := g55.one
  clear g55 eB53
  generalize g 11 = q57 at h56 ⊢
  clear g
  refine then_at (F := ⟨(rarr dN :: .agg (rq q) :: .agg (rq r) :: pt q1 :: pt q4 :: pt q7 :: pt q10 :: pt q15 :: pt q22 :: pt q31 :: pt q34 :: pt q41 :: pt q48 :: pt q57 :: un :: pt q4 :: rarr q.X :: .pointer (some ⟨q7, 16, none⟩) :: rarr r.Y :: rarr (mulP q.X r.Y) :: pt q7 :: rarr r.X :: .pointer (some ⟨q4, 16, none⟩) :: rarr q.Y :: rarr (mulP r.X q.Y) :: rarr dN :: .pointer (some ⟨q4, 48, none⟩) :: rarr q.T :: .pointer (some ⟨q7, 48, none⟩) :: rarr r.T :: rarr (mulP q.T r.T) :: rarr (mulP dN (mulP q.T r.T)) :: .pointer (some ⟨q4, 32, none⟩) :: rarr q.Z :: .pointer (some ⟨q7, 32, none⟩) :: rarr r.Z :: rarr (mulP q.Z r.Z) :: rarr (mulP q.X r.Y) :: rarr (mulP r.X q.Y) :: rarr (addP (mulP q.X r.Y) (mulP r.X q.Y)) :: rarr (mulP q.Z r.Z) :: rarr (mulP dN (mulP q.T r.T)) :: rarr (addP (mulP q.Z r.Z) (mulP dN (mulP q.T r.T))) :: .pointer (some ⟨q4, 16, none⟩) :: rarr q.Y :: .pointer (some ⟨q7, 16, none⟩) :: rarr r.Y :: rarr (mulP q.Y r.Y) :: pt q4 :: rarr q.X :: pt q7 :: rarr r.X :: rarr (mulP q.X r.X) :: rarr (addP (mulP q.Y r.Y) (mulP q.X r.X)) :: List.replicate 16 un).toArray, []⟩) (by kernel_rfl) ?_
  refine wp_seq ?_
  refine wl_region ?_
  refine wl_load h56 3 rfl (by kernel_rfl) (by kernel_rfl) Tryd.underlying32 rfl (info_rl (mulP q.Z r.Z)) ?_
  refine wl_load h56 4 rfl (by kernel_rfl) (by kernel_rfl) Tryd.underlying32 rfl (info_rl (mulP dN (mulP q.T r.T))) ?_
  refine wl_call (v := rarr (subP (mulP q.Z r.Z) (mulP dN (mulP q.T r.T)))) h56 (by kernel_rfl) enter69 #[rarr (mulP q.Z r.Z), rarr (mulP dN (mulP q.T r.T))] (by kernel_rfl) (wsub_any (mulP q.Z r.Z) (mulP dN (mulP q.T r.T)) (mulP_lt _ _) (mulP_lt _ _) w54) ?_
  intro w58 h59
  refine wl_make h59 32 (by kernel_rfl) run_alloc32 ?_
  intro q60 w61 h62
  refine wl_fill (c' := rl (subP (mulP q.Z r.Z) (mulP dN (mulP q.T r.T)))) h62 0 rfl (by kernel_rfl) (by kernel_rfl) (by kernel_rfl) (rl_sz (subP (mulP q.Z r.Z) (mulP dN (mulP q.T r.T))) 0) (info_rl (subP (mulP q.Z r.Z) (mulP dN (mulP q.T r.T)))) (one_rl (subP (mulP q.Z r.Z) (mulP dN (mulP q.T r.T)))) ?_
  intro w63 (h64 : HA w [(q60, 32, rl (subP (mulP q.Z r.Z) (mulP dN (mulP q.T r.T)))), (q57, 32, rl (addP (mulP q.Y r.Y) (mulP q.X r.X))), (q48, 32, rl (addP (mulP q.Z r.Z) (mulP dN (mulP q.T r.T)))), (q41, 32, rl (addP (mulP q.X r.Y) (mulP r.X q.Y))), (q34, 32, rl (mulP q.Z r.Z)), (q31, 32, rl (mulP dN (mulP q.T r.T))), (q22, 32, rl (mulP r.X q.Y)), (q15, 32, rl (mulP q.X r.Y)), (q10, 34, rq (Q4.mk 0 0 0 0)), (q7, 34, rq r), (q4, 34, rq q), (q1, 32, rl dN)] w63)
  refine wl_nil ?_
  refine then_at (F := ⟨(rarr dN :: .agg (rq q) :: .agg (rq r) :: pt q1 :: pt q4 :: pt q7 :: pt q10 :: pt q15 :: pt q22 :: pt q31 :: pt q34 :: pt q41 :: pt q48 :: pt q57 :: pt q60 :: pt q4 :: rarr q.X :: .pointer (some ⟨q7, 16, none⟩) :: rarr r.Y :: rarr (mulP q.X r.Y) :: pt q7 :: rarr r.X :: .pointer (some ⟨q4, 16, none⟩) :: rarr q.Y :: rarr (mulP r.X q.Y) :: rarr dN :: .pointer (some ⟨q4, 48, none⟩) :: rarr q.T :: .pointer (some ⟨q7, 48, none⟩) :: rarr r.T :: rarr (mulP q.T r.T) :: rarr (mulP dN (mulP q.T r.T)) :: .pointer (some ⟨q4, 32, none⟩) :: rarr q.Z :: .pointer (some ⟨q7, 32, none⟩) :: rarr r.Z :: rarr (mulP q.Z r.Z) :: rarr (mulP q.X r.Y) :: rarr (mulP r.X q.Y) :: rarr (addP (mulP q.X r.Y) (mulP r.X q.Y)) :: rarr (mulP q.Z r.Z) :: rarr (mulP dN (mulP q.T r.T)) :: rarr (addP (mulP q.Z r.Z) (mulP dN (mulP q.T r.T))) :: .pointer (some ⟨q4, 16, none⟩) :: rarr q.Y :: .pointer (some ⟨q7, 16, none⟩) :: rarr r.Y :: rarr (mulP q.Y r.Y) :: pt q4 :: rarr q.X :: pt q7 :: rarr r.X :: rarr (mulP q.X r.X) :: rarr (addP (mulP q.Y r.Y) (mulP q.X r.X)) :: rarr (mulP q.Z r.Z) :: rarr (mulP dN (mulP q.T r.T)) :: rarr (subP (mulP q.Z r.Z) (mulP dN (mulP q.T r.T))) :: List.replicate 13 un).toArray, []⟩) (by kernel_rfl) ?_
  refine wp_seq ?_
  obtain ⟨C65, hC65⟩ : ∃ C, C = rq (Q4.mk (mulP (addP (mulP q.X r.Y) (mulP r.X q.Y)) (subP (mulP q.Z r.Z) (mulP dN (mulP q.T r.T)))) (mulP (addP (mulP q.Y r.Y) (mulP q.X r.X)) (addP (mulP q.Z r.Z) (mulP dN (mulP q.T r.T)))) (mulP (addP (mulP q.Z r.Z) (mulP dN (mulP q.T r.T))) (subP (mulP q.Z r.Z) (mulP dN (mulP q.T r.T)))) (mulP (addP (mulP q.X r.Y) (mulP r.X q.Y)) (addP (mulP q.Y r.Y) (mulP q.X r.X)))) := ⟨_, rfl⟩
  refine wp_region_ghost (fun _ : Nat → Nat => (⟨(rarr dN :: .agg (rq q) :: .agg (rq r) :: pt q1 :: pt q4 :: pt q7 :: pt q10 :: pt q15 :: pt q22 :: pt q31 :: pt q34 :: pt q41 :: pt q48 :: pt q57 :: pt q60 :: pt q4 :: rarr q.X :: .pointer (some ⟨q7, 16, none⟩) :: rarr r.Y :: rarr (mulP q.X r.Y) :: pt q7 :: rarr r.X :: .pointer (some ⟨q4, 16, none⟩) :: rarr q.Y :: rarr (mulP r.X q.Y) :: rarr dN :: .pointer (some ⟨q4, 48, none⟩) :: rarr q.T :: .pointer (some ⟨q7, 48, none⟩) :: rarr r.T :: rarr (mulP q.T r.T) :: rarr (mulP dN (mulP q.T r.T)) :: .pointer (some ⟨q4, 32, none⟩) :: rarr q.Z :: .pointer (some ⟨q7, 32, none⟩) :: rarr r.Z :: rarr (mulP q.Z r.Z) :: rarr (mulP q.X r.Y) :: rarr (mulP r.X q.Y) :: rarr (addP (mulP q.X r.Y) (mulP r.X q.Y)) :: rarr (mulP q.Z r.Z) :: rarr (mulP dN (mulP q.T r.T)) :: rarr (addP (mulP q.Z r.Z) (mulP dN (mulP q.T r.T))) :: .pointer (some ⟨q4, 16, none⟩) :: rarr q.Y :: .pointer (some ⟨q7, 16, none⟩) :: rarr r.Y :: rarr (mulP q.Y r.Y) :: pt q4 :: rarr q.X :: pt q7 :: rarr r.X :: rarr (mulP q.X r.X) :: rarr (addP (mulP q.Y r.Y) (mulP q.X r.X)) :: rarr (mulP q.Z r.Z) :: rarr (mulP dN (mulP q.T r.T)) :: rarr (subP (mulP q.Z r.Z) (mulP dN (mulP q.T r.T))) :: rarr (addP (mulP q.X r.Y) (mulP r.X q.Y)) :: rarr (subP (mulP q.Z r.Z) (mulP dN (mulP q.T r.T))) :: rarr (mulP (addP (mulP q.X r.Y) (mulP r.X q.Y)) (subP (mulP q.Z r.Z) (mulP dN (mulP q.T r.T)))) :: rarr (addP (mulP q.Y r.Y) (mulP q.X r.X)) :: rarr (addP (mulP q.Z r.Z) (mulP dN (mulP q.T r.T))) :: rarr (mulP (addP (mulP q.Y r.Y) (mulP q.X r.X)) (addP (mulP q.Z r.Z) (mulP dN (mulP q.T r.T)))) :: rarr (addP (mulP q.Z r.Z) (mulP dN (mulP q.T r.T))) :: rarr (subP (mulP q.Z r.Z) (mulP dN (mulP q.T r.T))) :: rarr (mulP (addP (mulP q.Z r.Z) (mulP dN (mulP q.T r.T))) (subP (mulP q.Z r.Z) (mulP dN (mulP q.T r.T)))) :: rarr (addP (mulP q.X r.Y) (mulP r.X q.Y)) :: rarr (addP (mulP q.Y r.Y) (mulP q.X r.X)) :: rarr (mulP (addP (mulP q.X r.Y) (mulP r.X q.Y)) (addP (mulP q.Y r.Y) (mulP q.X r.X))) :: .agg C65 :: List.replicate 0 un).toArray, []⟩ : Act)) (GF w [(q60, 32, rl (subP (mulP q.Z r.Z) (mulP dN (mulP q.T r.T)))), (q57, 32, rl (addP (mulP q.Y r.Y) (mulP q.X r.X))), (q48, 32, rl (addP (mulP q.Z r.Z) (mulP dN (mulP q.T r.T)))), (q41, 32, rl (addP (mulP q.X r.Y) (mulP r.X q.Y))), (q34, 32, rl (mulP q.Z r.Z)), (q31, 32, rl (mulP dN (mulP q.T r.T))), (q22, 32, rl (mulP r.X q.Y)), (q15, 32, rl (mulP q.X r.Y)), (q10, 34, rq (Q4.mk 0 0 0 0)), (q7, 34, rq r), (q4, 34, rq q), (q1, 32, rl dN)] 13 12 8 q10 34 (C65)) [rarr (addP (mulP q.X r.Y) (mulP r.X q.Y)), rarr (subP (mulP q.Z r.Z) (mulP dN (mulP q.T r.T))), rarr (mulP (addP (mulP q.X r.Y) (mulP r.X q.Y)) (subP (mulP q.Z r.Z) (mulP dN (mulP q.T r.T)))), rarr (addP (mulP q.Y r.Y) (mulP q.X r.X)), rarr (addP (mulP q.Z r.Z) (mulP dN (mulP q.T r.T))), rarr (mulP (addP (mulP q.Y r.Y) (mulP q.X r.X)) (addP (mulP q.Z r.Z) (mulP dN (mulP q.T r.T)))), rarr (addP (mulP q.Z r.Z) (mulP dN (mulP q.T r.T))), rarr (subP (mulP q.Z r.Z) (mulP dN (mulP q.T r.T))), rarr (mulP (addP (mulP q.Z r.Z) (mulP dN (mulP q.T r.T))) (subP (mulP q.Z r.Z) (mulP dN (mulP q.T r.T)))), rarr (addP (mulP q.X r.Y) (mulP r.X q.Y)), rarr (addP (mulP q.Y r.Y) (mulP q.X r.X)), rarr (mulP (addP (mulP q.X r.Y) (mulP r.X q.Y)) (addP (mulP q.Y r.Y) (mulP q.X r.X))), .agg C65, undef] (by kernel_rfl) (by kernel_rfl) (by kernel_rfl) (by kernel_rfl) (fun _ _ _ _ h => h) (fun d hd => GF.start h64.drew (hd 13 (by decide))) ?_ ?_
  · refine AllGhost.cons (gf_load2 3 (by decide) rfl (by decide) (fun _ => by kernel_rfl) (fun _ => by kernel_rfl) (fun _ => by kernel_rfl) Tryd.underlying32 rfl (info_rl (addP (mulP q.X r.Y) (mulP r.X q.Y)))) ?_
    refine AllGhost.cons (gf_load2 0 (by decide) rfl (by decide) (fun _ => by kernel_rfl) (fun _ => by kernel_rfl) (fun _ => by kernel_rfl) Tryd.underlying32 rfl (info_rl (subP (mulP q.Z r.Z) (mulP dN (mulP q.T r.T))))) ?_
    refine AllGhost.cons (gf_callh (v := rarr (mulP (addP (mulP q.X r.Y) (mulP r.X q.Y)) (subP (mulP q.Z r.Z) (mulP dN (mulP q.T r.T))))) (by decide) (fun _ => by kernel_rfl) (fun _ => by kernel_rfl) enter52 #[rarr (addP (mulP q.X r.Y) (mulP r.X q.Y)), rarr (subP (mulP q.Z r.Z) (mulP dN (mulP q.T r.T)))] (fun _ => by kernel_rfl) (fun w' ho => wmul_any (addP (mulP q.X r.Y) (mulP r.X q.Y)) (subP (mulP q.Z r.Z) (mulP dN (mulP q.T r.T))) (addP_lt _ _) (subP_lt _ _) w')) ?_
    refine AllGhost.cons (gf_load2 1 (by decide) rfl (by decide) (fun _ => by kernel_rfl) (fun _ => by kernel_rfl) (fun _ => by kernel_rfl) Tryd.underlying32 rfl (info_rl (addP (mulP q.Y r.Y) (mulP q.X r.X)))) ?_
    refine AllGhost.cons (gf_load2 2 (by decide) rfl (by decide) (fun _ => by kernel_rfl) (fun _ => by kernel_rfl) (fun _ => by kernel_rfl) Tryd.underlying32 rfl (info_rl (addP (mulP q.Z r.Z) (mulP dN (mulP q.T r.T))))) ?_
    refine AllGhost.cons (gf_callh (v := rarr (mulP (addP (mulP q.Y r.Y) (mulP q.X r.X)) (addP (mulP q.Z r.Z) (mulP dN (mulP q.T r.T))))) (by decide) (fun _ => by kernel_rfl) (fun _ => by kernel_rfl) enter52 #[rarr (addP (mulP q.Y r.Y) (mulP q.X r.X)), rarr (addP (mulP q.Z r.Z) (mulP dN (mulP q.T r.T)))] (fun _ => by kernel_rfl) (fun w' ho => wmul_any (addP (mulP q.Y r.Y) (mulP q.X r.X)) (addP (mulP q.Z r.Z) (mulP dN (mulP q.T r.T))) (addP_lt _ _) (addP_lt _ _) w')) ?_
    refine AllGhost.cons (gf_load2 2 (by decide) rfl (by decide) (fun _ => by kernel_rfl) (fun _ => by kernel_rfl) (fun _ => by kernel_rfl) Tryd.underlying32 rfl (info_rl (addP (mulP q.Z r.Z) (mulP dN (mulP q.T r.T))))) ?_
    refine AllGhost.cons (gf_load2 0 (by decide) rfl (by decide) (fun _ => by kernel_rfl) (fun _ => by kernel_rfl) (fun _ => by kernel_rfl) Tryd.underlying32 rfl (info_rl (subP (mulP q.Z r.Z) (mulP dN (mulP q.T r.T))))) ?_
    refine AllGhost.cons (gf_callh (v := rarr (mulP (addP (mulP q.Z r.Z) (mulP dN (mulP q.T r.T))) (subP (mulP q.Z r.Z) (mulP dN (mulP q.T r.T))))) (by decide) (fun _ => by kernel_rfl) (fun _ => by kernel_rfl) enter52 #[rarr (addP (mulP q.Z r.Z) (mulP dN (mulP q.T r.T))), rarr (subP (mulP q.Z r.Z) (mulP dN (mulP q.T r.T)))] (fun _ => by kernel_rfl) (fun w' ho => wmul_any (addP (mulP q.Z r.Z) (mulP dN (mulP q.T r.T))) (subP (mulP q.Z r.Z) (mulP dN (mulP q.T r.T))) (addP_lt _ _) (subP_lt _ _) w')) ?_
    refine AllGhost.cons (gf_load2 3 (by decide) rfl (by decide) (fun _ => by kernel_rfl) (fun _ => by kernel_rfl) (fun _ => by kernel_rfl) Tryd.underlying32 rfl (info_rl (addP (mulP q.X r.Y) (mulP r.X q.Y)))) ?_
    refine AllGhost.cons (gf_load2 1 (by decide) rfl (by decide) (fun _ => by kernel_rfl) (fun _ => by kernel_rfl) (fun _ => by kernel_rfl) Tryd.underlying32 rfl (info_rl (addP (mulP q.Y r.Y) (mulP q.X r.X)))) ?_
    refine AllGhost.cons (gf_callh (v := rarr (mulP (addP (mulP q.X r.Y) (mulP r.X q.Y)) (addP (mulP q.Y r.Y) (mulP q.X r.X)))) (by decide) (fun _ => by kernel_rfl) (fun _ => by kernel_rfl) enter52 #[rarr (addP (mulP q.X r.Y) (mulP r.X q.Y)), rarr (addP (mulP q.Y r.Y) (mulP q.X r.X))] (fun _ => by kernel_rfl) (fun w' ho => wmul_any (addP (mulP q.X r.Y) (mulP r.X q.Y)) (addP (mulP q.Y r.Y) (mulP q.X r.X)) (addP_lt _ _) (addP_lt _ _) w')) ?_
    refine AllGhost.cons (gf_plain (v := .agg C65) (by decide) (fun _ => by kernel_rfl) (fun _ => by kernel_rfl) (fun _ _ => (by rw [hC65]; exact (run_build34 (a := mulP (addP (mulP q.X r.Y) (mulP r.X q.Y)) (subP (mulP q.Z r.Z) (mulP dN (mulP q.T r.T)))) (b := mulP (addP (mulP q.Y r.Y) (mulP q.X r.X)) (addP (mulP q.Z r.Z) (mulP dN (mulP q.T r.T)))) (c := mulP (addP (mulP q.Z r.Z) (mulP dN (mulP q.T r.T))) (subP (mulP q.Z r.Z) (mulP dN (mulP q.T r.T)))) (d := mulP (addP (mulP q.X r.Y) (mulP r.X q.Y)) (addP (mulP q.Y r.Y) (mulP q.X r.X))) (by kernel_rfl) (by kernel_rfl) (by kernel_rfl) (by kernel_rfl))))) ?_
    refine AllGhost.cons (gf_fill rfl (by rw [hC65]; exact (rq_sz (Q4.mk (mulP (addP (mulP q.X r.Y) (mulP r.X q.Y)) (subP (mulP q.Z r.Z) (mulP dN (mulP q.T r.T)))) (mulP (addP (mulP q.Y r.Y) (mulP q.X r.X)) (addP (mulP q.Z r.Z) (mulP dN (mulP q.T r.T)))) (mulP (addP (mulP q.Z r.Z) (mulP dN (mulP q.T r.T))) (subP (mulP q.Z r.Z) (mulP dN (mulP q.T r.T)))) (mulP (addP (mulP q.X r.Y) (mulP r.X q.Y)) (addP (mulP q.Y r.Y) (mulP q.X r.X)))) (Q4.mk 0 0 0 0))) (fun _ => by kernel_rfl) (fun _ => by kernel_rfl) (fun _ => by kernel_rfl) (fun _ => by kernel_rfl) (by rw [hC65]; exact (info34q (Q4.mk (mulP (addP (mulP q.X r.Y) (mulP r.X q.Y)) (subP (mulP q.Z r.Z) (mulP dN (mulP q.T r.T)))) (mulP (addP (mulP q.Y r.Y) (mulP q.X r.X)) (addP (mulP q.Z r.Z) (mulP dN (mulP q.T r.T)))) (mulP (addP (mulP q.Z r.Z) (mulP dN (mulP q.T r.T))) (subP (mulP q.Z r.Z) (mulP dN (mulP q.T r.T)))) (mulP (addP (mulP q.X r.Y) (mulP r.X q.Y)) (addP (mulP q.Y r.Y) (mulP q.X r.X)))))) (by rw [hC65]; exact (one_rq (Q4.mk (mulP (addP (mulP q.X r.Y) (mulP r.X q.Y)) (subP (mulP q.Z r.Z) (mulP dN (mulP q.T r.T)))) (mulP (addP (mulP q.Y r.Y) (mulP q.X r.X)) (addP (mulP q.Z r.Z) (mulP dN (mulP q.T r.T)))) (mulP (addP (mulP q.Z r.Z) (mulP dN (mulP q.T r.T))) (subP (mulP q.Z r.Z) (mulP dN (mulP q.T r.T)))) (mulP (addP (mulP q.X r.Y) (mulP r.X q.Y)) (addP (mulP q.Y r.Y) (mulP q.X r.X)))))) (by decide) (by kernel_rfl)) ?_
    exact AllGhost.nil
  intro _ w66 g67
  have h68 : HA w [(q60, 32, rl (subP (mulP q.Z r.Z) (mulP dN (mulP q.T r.T)))), (q57, 32, rl (addP (mulP q.Y r.Y) (mulP q.X r.X))), (q48, 32, rl (addP (mulP q.Z r.Z) (mulP dN (mulP q.T r.T)))), (q41, 32, rl (addP (mulP q.X r.Y) (mulP r.X q.Y))), (q34, 32, rl (mulP q.Z r.Z)), (q31, 32, rl (mulP dN (mulP q.T r.T))), (q22, 32, rl (mulP r.X q.Y)), (q15, 32, rl (mulP q.X r.Y)), (q10, 34, C65), (q7, 34, rq r), (q4, 34, rq q), (q1, 32, rl dN)] w66 := g67.held
  clear g67
  subst hC65
  refine then_at (F := ⟨(rarr dN :: .agg (rq q) :: .agg (rq r) :: pt q1 :: pt q4 :: pt q7 :: pt q10 :: pt q15 :: pt q22 :: pt q31 :: pt q34 :: pt q41 :: pt q48 :: pt q57 :: pt q60 :: pt q4 :: rarr q.X :: .pointer (some ⟨q7, 16, none⟩) :: rarr r.Y :: rarr (mulP q.X r.Y) :: pt q7 :: rarr r.X :: .pointer (some ⟨q4, 16, none⟩) :: rarr q.Y :: rarr (mulP r.X q.Y) :: rarr dN :: .pointer (some ⟨q4, 48, none⟩) :: rarr q.T :: .pointer (some ⟨q7, 48, none⟩) :: rarr r.T :: rarr (mulP q.T r.T) :: rarr (mulP dN (mulP q.T r.T)) :: .pointer (some ⟨q4, 32, none⟩) :: rarr q.Z :: .pointer (some ⟨q7, 32, none⟩) :: rarr r.Z :: rarr (mulP q.Z r.Z) :: rarr (mulP q.X r.Y) :: rarr (mulP r.X q.Y) :: rarr (addP (mulP q.X r.Y) (mulP r.X q.Y)) :: rarr (mulP q.Z r.Z) :: rarr (mulP dN (mulP q.T r.T)) :: rarr (addP (mulP q.Z r.Z) (mulP dN (mulP q.T r.T))) :: .pointer (some ⟨q4, 16, none⟩) :: rarr q.Y :: .pointer (some ⟨q7, 16, none⟩) :: rarr r.Y :: rarr (mulP q.Y r.Y) :: pt q4 :: rarr q.X :: pt q7 :: rarr r.X :: rarr (mulP q.X r.X) :: rarr (addP (mulP q.Y r.Y) (mulP q.X r.X)) :: rarr (mulP q.Z r.Z) :: rarr (mulP dN (mulP q.T r.T)) :: rarr (subP (mulP q.Z r.Z) (mulP dN (mulP q.T r.T))) :: rarr (addP (mulP q.X r.Y) (mulP r.X q.Y)) :: rarr (subP (mulP q.Z r.Z) (mulP dN (mulP q.T r.T))) :: rarr (mulP (addP (mulP q.X r.Y) (mulP r.X q.Y)) (subP (mulP q.Z r.Z) (mulP dN (mulP q.T r.T)))) :: rarr (addP (mulP q.Y r.Y) (mulP q.X r.X)) :: rarr (addP (mulP q.Z r.Z) (mulP dN (mulP q.T r.T))) :: rarr (mulP (addP (mulP q.Y r.Y) (mulP q.X r.X)) (addP (mulP q.Z r.Z) (mulP dN (mulP q.T r.T)))) :: rarr (addP (mulP q.Z r.Z) (mulP dN (mulP q.T r.T))) :: rarr (subP (mulP q.Z r.Z) (mulP dN (mulP q.T r.T))) :: rarr (mulP (addP (mulP q.Z r.Z) (mulP dN (mulP q.T r.T))) (subP (mulP q.Z r.Z) (mulP dN (mulP q.T r.T)))) :: rarr (addP (mulP q.X r.Y) (mulP r.X q.Y)) :: rarr (addP (mulP q.Y r.Y) (mulP q.X r.X)) :: rarr (mulP (addP (mulP q.X r.Y) (mulP r.X q.Y)) (addP (mulP q.Y r.Y) (mulP q.X r.X))) :: .agg (rq (Q4.mk (mulP (addP (mulP q.X r.Y) (mulP r.X q.Y)) (subP (mulP q.Z r.Z) (mulP dN (mulP q.T r.T)))) (mulP (addP (mulP q.Y r.Y) (mulP q.X r.X)) (addP (mulP q.Z r.Z) (mulP dN (mulP q.T r.T)))) (mulP (addP (mulP q.Z r.Z) (mulP dN (mulP q.T r.T))) (subP (mulP q.Z r.Z) (mulP dN (mulP q.T r.T)))) (mulP (addP (mulP q.X r.Y) (mulP r.X q.Y)) (addP (mulP q.Y r.Y) (mulP q.X r.X))))) :: List.replicate 0 un).toArray, []⟩) (by kernel_rfl) ?_
  refine wp_ret ?_
  repeat first | refine then_ret ?_ | refine block_ret ?_
  have hB : Blk w66 q10 34 (rq (Q4.mk (mulP (addP (mulP q.X r.Y) (mulP r.X q.Y)) (subP (mulP q.Z r.Z) (mulP dN (mulP q.T r.T)))) (mulP (addP (mulP q.Y r.Y) (mulP q.X r.X)) (addP (mulP q.Z r.Z) (mulP dN (mulP q.T r.T)))) (mulP (addP (mulP q.Z r.Z) (mulP dN (mulP q.T r.T))) (subP (mulP q.Z r.Z) (mulP dN (mulP q.T r.T)))) (mulP (addP (mulP q.X r.Y) (mulP r.X q.Y)) (addP (mulP q.Y r.Y) (mulP q.X r.X))))) := h68.get 8 rfl
  have e0 : suQ q r = Q4.mk (mulP (addP (mulP q.X r.Y) (mulP r.X q.Y)) (subP (mulP q.Z r.Z) (mulP dN (mulP q.T r.T)))) (mulP (addP (mulP q.Y r.Y) (mulP q.X r.X)) (addP (mulP q.Z r.Z) (mulP dN (mulP q.T r.T)))) (mulP (addP (mulP q.Z r.Z) (mulP dN (mulP q.T r.T))) (subP (mulP q.Z r.Z) (mulP dN (mulP q.T r.T)))) (mulP (addP (mulP q.X r.Y) (mulP r.X q.Y)) (addP (mulP q.Y r.Y) (mulP q.X r.X))) := rfl
  rw [← e0] at hB
  exact bodyPost_ret (v := .agg (rq (suQ q r))) (res34 (p := 6) (suQ q r) (by kernel_rfl) (by kernel_rfl) hB) rfl ⟨rfl, h68.old⟩

set_option linter.unusedVariables false in
set_option maxRecDepth 100000 in
set_option maxHeartbeats 2000000 in
theorem rAdd_any (q r : Q4) (hq : q.lt) (hr : r.lt) (w : World) :
    Calls Tryd.prog 19 #[.agg (rq q), .agg (rq r)] w fun e w' => e = .returned (.agg (rq (suQ q r))) ∧ Below w.heap.size w w' := by
  have H0 := HA.start w
  go_enter Tryd.func19, Tryd.ntmps19
  refine wp_seq ?_
  refine wl_region ?_
  refine wl_make H0 34 (by kernel_rfl) (run_box34 (c := rq q) (by kernel_rfl)) ?_
  intro q1 w2 h3
  refine wl_make h3 34 (by kernel_rfl) (run_box34 (c := rq r) (by kernel_rfl)) ?_
  intro q4 w5 h6
  refine wl_make h6 34 (by kernel_rfl) run_alloc34 ?_
  intro q7 w8 h9
  refine wl_nil ?_
  refine then_at (F := ⟨(.agg (rq q) :: .agg (rq r) :: pt q1 :: pt q4 :: pt q7 :: List.replicate 4 un).toArray, []⟩) (by kernel_rfl) ?_
  refine wp_seq ?_
  obtain ⟨C10, hC10⟩ : ∃ C, C = rq (suQ q r) := ⟨_, rfl⟩
  refine wp_region_ghost (fun _ : Nat → Nat => (⟨(.agg (rq q) :: .agg (rq r) :: pt q1 :: pt q4 :: pt q7 :: rarr dN :: .agg (rq q) :: .agg (rq r) :: .agg C10 :: List.replicate 0 un).toArray, []⟩ : Act)) (GF w [(q7, 34, rq (Q4.mk 0 0 0 0)), (q4, 34, rq r), (q1, 34, rq q)] 4 3 0 q7 34 (C10)) [rarr dN, .agg (rq q), .agg (rq r), .agg C10, undef] (by kernel_rfl) (by kernel_rfl) (by kernel_rfl) (by kernel_rfl) (fun _ _ _ _ h => h) (fun d hd => GF.start h9.drew (hd 4 (by decide))) ?_ ?_
  · refine AllGhost.cons (gf_callh (v := rarr dN) (by decide) (fun _ => by kernel_rfl) (fun _ => by kernel_rfl) enter59 #[] (fun _ => by kernel_rfl) (fun w' ho => D_any w')) ?_
    refine AllGhost.cons (gf_load2 2 (by decide) rfl (by decide) (fun _ => by kernel_rfl) (fun _ => by kernel_rfl) (fun _ => by kernel_rfl) Tryd.underlying34 rfl (info34q q)) ?_
    refine AllGhost.cons (gf_load2 1 (by decide) rfl (by decide) (fun _ => by kernel_rfl) (fun _ => by kernel_rfl) (fun _ => by kernel_rfl) Tryd.underlying34 rfl (info34q r)) ?_
    refine AllGhost.cons (gf_callh (v := .agg C10) (by decide) (fun _ => by kernel_rfl) (fun _ => by kernel_rfl) enter58 #[rarr dN, .agg (rq q), .agg (rq r)] (fun _ => by kernel_rfl) (fun w' ho => (by rw [hC10]; exact rsum_any q r hq hr w'))) ?_
    refine AllGhost.cons (gf_fill rfl (by rw [hC10]; exact (rq_sz (suQ q r) (Q4.mk 0 0 0 0))) (fun _ => by kernel_rfl) (fun _ => by kernel_rfl) (fun _ => by kernel_rfl) (fun _ => by kernel_rfl) (by rw [hC10]; exact (info34q (suQ q r))) (by rw [hC10]; exact (one_rq (suQ q r))) (by decide) (by kernel_rfl)) ?_
    exact AllGhost.nil
  intro _ w11 g12
  have h13 : HA w [(q7, 34, C10), (q4, 34, rq r), (q1, 34, rq q)] w11 := g12.held
  clear g12
  subst hC10
  refine then_at (F := ⟨(.agg (rq q) :: .agg (rq r) :: pt q1 :: pt q4 :: pt q7 :: rarr dN :: .agg (rq q) :: .agg (rq r) :: .agg (rq (suQ q r)) :: List.replicate 0 un).toArray, []⟩) (by kernel_rfl) ?_
  refine wp_ret ?_
  repeat first | refine then_ret ?_ | refine block_ret ?_
  have hB : Blk w11 q7 34 (rq (suQ q r)) := h13.get 0 rfl
  exact bodyPost_ret (v := .agg (rq (suQ q r))) (res34 (p := 4) (suQ q r) (by kernel_rfl) (by kernel_rfl) hB) rfl ⟨rfl, h13.old⟩

set_option linter.unusedVariables false in
set_option maxRecDepth 100000 in
set_option maxHeartbeats 2000000 in
theorem rNeg_any (q : Q4) (hq : q.lt) (w : World) :
    Calls Tryd.prog 21 #[.agg (rq q)] w fun e w' => e = .returned (.agg (rq (ngQ q))) ∧ Below w.heap.size w w' := by
  have H0 := HA.start w
  go_enter Tryd.func21, Tryd.ntmps21
  refine wp_seq ?_
  refine wl_region ?_
  refine wl_make H0 34 (by kernel_rfl) (run_box34 (c := rq q) (by kernel_rfl)) ?_
  intro q1 w2 h3
  refine wl_make h3 34 (by kernel_rfl) run_alloc34 ?_
  intro q4 w5 h6
  refine wl_nil ?_
  refine then_at (F := ⟨(.agg (rq q) :: pt q1 :: pt q4 :: List.replicate 11 un).toArray, []⟩) (by kernel_rfl) ?_
  refine wp_seq ?_
  obtain ⟨C7, hC7⟩ : ∃ C, C = rq (Q4.mk (negP q.X) q.Y q.Z (negP q.T)) := ⟨_, rfl⟩
  refine wp_region_ghost (fun _ : Nat → Nat => (⟨(.agg (rq q) :: pt q1 :: pt q4 :: pt q1 :: rarr q.X :: rarr (negP q.X) :: .pointer (some ⟨q1, 16, none⟩) :: rarr q.Y :: .pointer (some ⟨q1, 32, none⟩) :: rarr q.Z :: .pointer (some ⟨q1, 48, none⟩) :: rarr q.T :: rarr (negP q.T) :: .agg C7 :: List.replicate 0 un).toArray, []⟩ : Act)) (GF w [(q4, 34, rq (Q4.mk 0 0 0 0)), (q1, 34, rq q)] 11 10 0 q4 34 (C7)) [.pointer (some ⟨q1, 0, none⟩), rarr q.X, rarr (negP q.X), .pointer (some ⟨q1, 16, none⟩), rarr q.Y, .pointer (some ⟨q1, 32, none⟩), rarr q.Z, .pointer (some ⟨q1, 48, none⟩), rarr q.T, rarr (negP q.T), .agg C7, undef] (by kernel_rfl) (by kernel_rfl) (by kernel_rfl) (by kernel_rfl) (fun _ _ _ _ h => h) (fun d hd => GF.start h6.drew (hd 11 (by decide))) ?_ ?_
  · refine AllGhost.cons (gf_plain (v := .pointer (some ⟨q1, 0, none⟩)) (by decide) (fun _ => by kernel_rfl) (fun _ => by kernel_rfl) (fun _ _ => (by kernel_rfl))) ?_
    refine AllGhost.cons (gf_read (v := rarr q.X) 1 (by decide) rfl (by decide) (fun _ => by kernel_rfl) (fun _ => by kernel_rfl) (fun _ _ hb => run_part32 (q := q1) (off := 16 * 0) (n := q.X) (by kernel_rfl) hb (rq_get q).1)) ?_
    refine AllGhost.cons (gf_callh (v := rarr (negP q.X)) (by decide) (fun _ => by kernel_rfl) (fun _ => by kernel_rfl) enter60 #[rarr q.X] (fun _ => by kernel_rfl) (fun w' ho => rneg_any q.X hq.1 w')) ?_
    refine AllGhost.cons (gf_plain (v := .pointer (some ⟨q1, 16, none⟩)) (by decide) (fun _ => by kernel_rfl) (fun _ => by kernel_rfl) (fun _ _ => (by kernel_rfl))) ?_
    refine AllGhost.cons (gf_read (v := rarr q.Y) 1 (by decide) rfl (by decide) (fun _ => by kernel_rfl) (fun _ => by kernel_rfl) (fun _ _ hb => run_part32 (q := q1) (off := 16 * 1) (n := q.Y) (by kernel_rfl) hb (rq_get q).2.1)) ?_
    refine AllGhost.cons (gf_plain (v := .pointer (some ⟨q1, 32, none⟩)) (by decide) (fun _ => by kernel_rfl) (fun _ => by kernel_rfl) (fun _ _ => (by kernel_rfl))) ?_
    refine AllGhost.cons (gf_read (v := rarr q.Z) 1 (by decide) rfl (by decide) (fun _ => by kernel_rfl) (fun _ => by kernel_rfl) (fun _ _ hb => run_part32 (q := q1) (off := 16 * 2) (n := q.Z) (by kernel_rfl) hb (rq_get q).2.2.1)) ?_
    refine AllGhost.cons (gf_plain (v := .pointer (some ⟨q1, 48, none⟩)) (by decide) (fun _ => by kernel_rfl) (fun _ => by kernel_rfl) (fun _ _ => (by kernel_rfl))) ?_
    refine AllGhost.cons (gf_read (v := rarr q.T) 1 (by decide) rfl (by decide) (fun _ => by kernel_rfl) (fun _ => by kernel_rfl) (fun _ _ hb => run_part32 (q := q1) (off := 16 * 3) (n := q.T) (by kernel_rfl) hb (rq_get q).2.2.2)) ?_
    refine AllGhost.cons (gf_callh (v := rarr (negP q.T)) (by decide) (fun _ => by kernel_rfl) (fun _ => by kernel_rfl) enter60 #[rarr q.T] (fun _ => by kernel_rfl) (fun w' ho => rneg_any q.T hq.2.2.2 w')) ?_
    refine AllGhost.cons (gf_plain (v := .agg C7) (by decide) (fun _ => by kernel_rfl) (fun _ => by kernel_rfl) (fun _ _ => (by rw [hC7]; exact (run_build34 (a := negP q.X) (b := q.Y) (c := q.Z) (d := negP q.T) (by kernel_rfl) (by kernel_rfl) (by kernel_rfl) (by kernel_rfl))))) ?_
    refine AllGhost.cons (gf_fill rfl (by rw [hC7]; exact (rq_sz (Q4.mk (negP q.X) q.Y q.Z (negP q.T)) (Q4.mk 0 0 0 0))) (fun _ => by kernel_rfl) (fun _ => by kernel_rfl) (fun _ => by kernel_rfl) (fun _ => by kernel_rfl) (by rw [hC7]; exact (info34q (Q4.mk (negP q.X) q.Y q.Z (negP q.T)))) (by rw [hC7]; exact (one_rq (Q4.mk (negP q.X) q.Y q.Z (negP q.T)))) (by decide) (by kernel_rfl)) ?_
    exact AllGhost.nil
  intro _ w8 g9
  have h10 : HA w [(q4, 34, C7), (q1, 34, rq q)] w8 := g9.held
  clear g9
  subst hC7
  refine then_at (F := ⟨(.agg (rq q) :: pt q1 :: pt q4 :: pt q1 :: rarr q.X :: rarr (negP q.X) :: .pointer (some ⟨q1, 16, none⟩) :: rarr q.Y :: .pointer (some ⟨q1, 32, none⟩) :: rarr q.Z :: .pointer (some ⟨q1, 48, none⟩) :: rarr q.T :: rarr (negP q.T) :: .agg (rq (Q4.mk (negP q.X) q.Y q.Z (negP q.T))) :: List.replicate 0 un).toArray, []⟩) (by kernel_rfl) ?_
  refine wp_ret ?_
  repeat first | refine then_ret ?_ | refine block_ret ?_
  have hB : Blk w8 q4 34 (rq (Q4.mk (negP q.X) q.Y q.Z (negP q.T))) := h10.get 0 rfl
  have e0 : ngQ q = Q4.mk (negP q.X) q.Y q.Z (negP q.T) := rfl
  rw [← e0] at hB
  exact bodyPost_ret (v := .agg (rq (ngQ q))) (res34 (p := 2) (ngQ q) (by kernel_rfl) (by kernel_rfl) hB) rfl ⟨rfl, h10.old⟩

set_option linter.unusedVariables false in
set_option maxRecDepth 100000 in
set_option maxHeartbeats 2000000 in
theorem rSame_yes (q r : Q4) (hq : q.lt) (hr : r.lt) (h1 : mulP q.X r.Z = mulP r.X q.Z) (h2 : mulP q.Y r.Z = mulP r.Y q.Z) (w : World) :
    Calls Tryd.prog 23 #[.agg (rq q), .agg (rq r)] w fun e w' => e = .returned (.bool true) ∧ Below w.heap.size w w' := by
  have H0 := HA.start w
  go_enter Tryd.func23, Tryd.ntmps23
  refine wp_seq ?_
  refine wl_region ?_
  refine wl_make H0 34 (by kernel_rfl) (run_box34 (c := rq q) (by kernel_rfl)) ?_
  intro q1 w2 h3
  refine wl_make h3 34 (by kernel_rfl) (run_box34 (c := rq r) (by kernel_rfl)) ?_
  intro q4 w5 h6
  refine wl_val (.bool false) (by kernel_rfl) (by kernel_rfl) ?_
  refine wl_nil ?_
  refine then_at (F := ⟨(.agg (rq q) :: .agg (rq r) :: pt q1 :: pt q4 :: .bool false :: List.replicate 24 un).toArray, []⟩) (by kernel_rfl) ?_
  refine wp_seq ?_
  refine wp_region_sure ⟨(.agg (rq q) :: .agg (rq r) :: pt q1 :: pt q4 :: .bool true :: pt q1 :: rarr q.X :: .pointer (some ⟨q4, 32, none⟩) :: rarr r.Z :: rarr (mulP q.X r.Z) :: pt q4 :: rarr r.X :: .pointer (some ⟨q1, 32, none⟩) :: rarr q.Z :: rarr (mulP r.X q.Z) :: .bool true :: .bool true :: .pointer (some ⟨q1, 16, none⟩) :: rarr q.Y :: .pointer (some ⟨q4, 32, none⟩) :: rarr r.Z :: rarr (mulP q.Y r.Z) :: .pointer (some ⟨q4, 16, none⟩) :: rarr r.Y :: .pointer (some ⟨q1, 32, none⟩) :: rarr q.Z :: rarr (mulP r.Y q.Z) :: .bool true :: .bool true :: List.replicate 0 un).toArray, []⟩ (HA w [(q4, 34, rq r), (q1, 34, rq q)]) [.pointer (some ⟨q1, 0, none⟩), rarr q.X, .pointer (some ⟨q4, 32, none⟩), rarr r.Z, rarr (mulP q.X r.Z), .pointer (some ⟨q4, 0, none⟩), rarr r.X, .pointer (some ⟨q1, 32, none⟩), rarr q.Z, rarr (mulP r.X q.Z), .bool true, .bool true, .pointer (some ⟨q1, 16, none⟩), rarr q.Y, .pointer (some ⟨q4, 32, none⟩), rarr r.Z, rarr (mulP q.Y r.Z), .pointer (some ⟨q4, 16, none⟩), rarr r.Y, .pointer (some ⟨q1, 32, none⟩), rarr q.Z, rarr (mulP r.Y q.Z), .bool true, .bool true, .bool true] (by kernel_rfl) (by kernel_rfl) (by kernel_rfl) (by kernel_rfl) (fun _ _ _ h => h) h6.drew ?_ ?_
  · refine AllSure.cons (OpSure.take (v := .pointer (some ⟨q1, 0, none⟩)) (by kernel_rfl) (by kernel_rfl) (fun _ _ => (by kernel_rfl))) ?_
    refine AllSure.cons (OpSure.take (v := rarr q.X) (by kernel_rfl) (by kernel_rfl) (fun w' h' => run_part32 (q := q1) (off := 16 * 0) (n := q.X) (by kernel_rfl) (h'.get 1 rfl) (rq_get q).1)) ?_
    refine AllSure.cons (OpSure.take (v := .pointer (some ⟨q4, 32, none⟩)) (by kernel_rfl) (by kernel_rfl) (fun _ _ => (by kernel_rfl))) ?_
    refine AllSure.cons (OpSure.take (v := rarr r.Z) (by kernel_rfl) (by kernel_rfl) (fun w' h' => run_part32 (q := q4) (off := 16 * 2) (n := r.Z) (by kernel_rfl) (h'.get 0 rfl) (rq_get r).2.2.1)) ?_
    refine AllSure.cons (sure_call (v := rarr (mulP q.X r.Z)) (by kernel_rfl) (by kernel_rfl) enter52 HA.keep #[rarr q.X, rarr r.Z] (by kernel_rfl) (fun w' h' => wmul_any q.X r.Z hq.1 hr.2.2.1 w')) ?_
    refine AllSure.cons (OpSure.take (v := .pointer (some ⟨q4, 0, none⟩)) (by kernel_rfl) (by kernel_rfl) (fun _ _ => (by kernel_rfl))) ?_
    refine AllSure.cons (OpSure.take (v := rarr r.X) (by kernel_rfl) (by kernel_rfl) (fun w' h' => run_part32 (q := q4) (off := 16 * 0) (n := r.X) (by kernel_rfl) (h'.get 0 rfl) (rq_get r).1)) ?_
    refine AllSure.cons (OpSure.take (v := .pointer (some ⟨q1, 32, none⟩)) (by kernel_rfl) (by kernel_rfl) (fun _ _ => (by kernel_rfl))) ?_
    refine AllSure.cons (OpSure.take (v := rarr q.Z) (by kernel_rfl) (by kernel_rfl) (fun w' h' => run_part32 (q := q1) (off := 16 * 2) (n := q.Z) (by kernel_rfl) (h'.get 1 rfl) (rq_get q).2.2.1)) ?_
    refine AllSure.cons (sure_call (v := rarr (mulP r.X q.Z)) (by kernel_rfl) (by kernel_rfl) enter52 HA.keep #[rarr r.X, rarr q.Z] (by kernel_rfl) (fun w' h' => wmul_any r.X q.Z hr.1 hq.2.2.1 w')) ?_
    refine AllSure.cons (OpSure.take (v := .bool true) (by kernel_rfl) (by kernel_rfl) (fun _ _ => (run_eq32 (mulP q.X r.Z) (mulP r.X q.Z) (Nat.lt_trans (mulP_lt _ _) P_lt16) (Nat.lt_trans (mulP_lt _ _) P_lt16) (by kernel_rfl) (by kernel_rfl) true (decide_eq_true h1)))) ?_
    refine AllSure.cons (OpSure.take (v := .bool true) (by kernel_rfl) (by kernel_rfl) (fun _ _ => (by kernel_rfl))) ?_
    refine AllSure.cons (OpSure.take (v := .pointer (some ⟨q1, 16, none⟩)) (by kernel_rfl) (by kernel_rfl) (fun _ _ => (by kernel_rfl))) ?_
    refine AllSure.cons (OpSure.take (v := rarr q.Y) (by kernel_rfl) (by kernel_rfl) (fun w' h' => run_part32 (q := q1) (off := 16 * 1) (n := q.Y) (by kernel_rfl) (h'.get 1 rfl) (rq_get q).2.1)) ?_
    refine AllSure.cons (OpSure.take (v := .pointer (some ⟨q4, 32, none⟩)) (by kernel_rfl) (by kernel_rfl) (fun _ _ => (by kernel_rfl))) ?_
    refine AllSure.cons (OpSure.take (v := rarr r.Z) (by kernel_rfl) (by kernel_rfl) (fun w' h' => run_part32 (q := q4) (off := 16 * 2) (n := r.Z) (by kernel_rfl) (h'.get 0 rfl) (rq_get r).2.2.1)) ?_
    refine AllSure.cons (sure_call (v := rarr (mulP q.Y r.Z)) (by kernel_rfl) (by kernel_rfl) enter52 HA.keep #[rarr q.Y, rarr r.Z] (by kernel_rfl) (fun w' h' => wmul_any q.Y r.Z hq.2.1 hr.2.2.1 w')) ?_
    refine AllSure.cons (OpSure.take (v := .pointer (some ⟨q4, 16, none⟩)) (by kernel_rfl) (by kernel_rfl) (fun _ _ => (by kernel_rfl))) ?_
    refine AllSure.cons (OpSure.take (v := rarr r.Y) (by kernel_rfl) (by kernel_rfl) (fun w' h' => run_part32 (q := q4) (off := 16 * 1) (n := r.Y) (by kernel_rfl) (h'.get 0 rfl) (rq_get r).2.1)) ?_
    refine AllSure.cons (OpSure.take (v := .pointer (some ⟨q1, 32, none⟩)) (by kernel_rfl) (by kernel_rfl) (fun _ _ => (by kernel_rfl))) ?_
    refine AllSure.cons (OpSure.take (v := rarr q.Z) (by kernel_rfl) (by kernel_rfl) (fun w' h' => run_part32 (q := q1) (off := 16 * 2) (n := q.Z) (by kernel_rfl) (h'.get 1 rfl) (rq_get q).2.2.1)) ?_
    refine AllSure.cons (sure_call (v := rarr (mulP r.Y q.Z)) (by kernel_rfl) (by kernel_rfl) enter52 HA.keep #[rarr r.Y, rarr q.Z] (by kernel_rfl) (fun w' h' => wmul_any r.Y q.Z hr.2.1 hq.2.2.1 w')) ?_
    refine AllSure.cons (OpSure.take (v := .bool true) (by kernel_rfl) (by kernel_rfl) (fun _ _ => (run_eq32 (mulP q.Y r.Z) (mulP r.Y q.Z) (Nat.lt_trans (mulP_lt _ _) P_lt16) (Nat.lt_trans (mulP_lt _ _) P_lt16) (by kernel_rfl) (by kernel_rfl) true (decide_eq_true h2)))) ?_
    refine AllSure.cons (OpSure.take (v := .bool true) (by kernel_rfl) (by kernel_rfl) (fun _ _ => (by kernel_rfl))) ?_
    refine AllSure.cons (OpSure.take (v := .bool true) (by kernel_rfl) (by kernel_rfl) (fun _ _ => (by kernel_rfl))) ?_
    exact AllSure.nil
  intro w7 h8
  refine then_at (F := ⟨(.agg (rq q) :: .agg (rq r) :: pt q1 :: pt q4 :: .bool true :: pt q1 :: rarr q.X :: .pointer (some ⟨q4, 32, none⟩) :: rarr r.Z :: rarr (mulP q.X r.Z) :: pt q4 :: rarr r.X :: .pointer (some ⟨q1, 32, none⟩) :: rarr q.Z :: rarr (mulP r.X q.Z) :: .bool true :: .bool true :: .pointer (some ⟨q1, 16, none⟩) :: rarr q.Y :: .pointer (some ⟨q4, 32, none⟩) :: rarr r.Z :: rarr (mulP q.Y r.Z) :: .pointer (some ⟨q4, 16, none⟩) :: rarr r.Y :: .pointer (some ⟨q1, 32, none⟩) :: rarr q.Z :: rarr (mulP r.Y q.Z) :: .bool true :: .bool true :: List.replicate 0 un).toArray, []⟩) (by kernel_rfl) ?_
  refine wp_ret ?_
  repeat first | refine then_ret ?_ | refine block_ret ?_
  exact bodyPost_ret (v := .bool true) (by kernel_rfl) rfl ⟨rfl, h8.old⟩

set_option linter.unusedVariables false in
set_option maxRecDepth 100000 in
set_option maxHeartbeats 2000000 in
theorem rSame_no1 (q r : Q4) (hq : q.lt) (hr : r.lt) (h1 : ¬ mulP q.X r.Z = mulP r.X q.Z) (w : World) :
    Calls Tryd.prog 23 #[.agg (rq q), .agg (rq r)] w fun e w' => e = .returned (.bool false) ∧ Below w.heap.size w w' := by
  have H0 := HA.start w
  go_enter Tryd.func23, Tryd.ntmps23
  refine wp_seq ?_
  refine wl_region ?_
  refine wl_make H0 34 (by kernel_rfl) (run_box34 (c := rq q) (by kernel_rfl)) ?_
  intro q1 w2 h3
  refine wl_make h3 34 (by kernel_rfl) (run_box34 (c := rq r) (by kernel_rfl)) ?_
  intro q4 w5 h6
  refine wl_val (.bool false) (by kernel_rfl) (by kernel_rfl) ?_
  refine wl_nil ?_
  refine then_at (F := ⟨(.agg (rq q) :: .agg (rq r) :: pt q1 :: pt q4 :: .bool false :: List.replicate 24 un).toArray, []⟩) (by kernel_rfl) ?_
  refine wp_seq ?_
  refine wp_region_sure ⟨(.agg (rq q) :: .agg (rq r) :: pt q1 :: pt q4 :: .bool false :: pt q1 :: rarr q.X :: .pointer (some ⟨q4, 32, none⟩) :: rarr r.Z :: rarr (mulP q.X r.Z) :: pt q4 :: rarr r.X :: .pointer (some ⟨q1, 32, none⟩) :: rarr q.Z :: rarr (mulP r.X q.Z) :: .bool false :: .bool false :: un :: un :: un :: un :: un :: un :: un :: un :: un :: un :: un :: .bool false :: List.replicate 0 un).toArray, []⟩ (HA w [(q4, 34, rq r), (q1, 34, rq q)]) [.pointer (some ⟨q1, 0, none⟩), rarr q.X, .pointer (some ⟨q4, 32, none⟩), rarr r.Z, rarr (mulP q.X r.Z), .pointer (some ⟨q4, 0, none⟩), rarr r.X, .pointer (some ⟨q1, 32, none⟩), rarr q.Z, rarr (mulP r.X q.Z), .bool false, .bool false, undef, undef, undef, undef, undef, undef, undef, undef, undef, undef, undef, .bool false, .bool false] (by kernel_rfl) (by kernel_rfl) (by kernel_rfl) (by kernel_rfl) (fun _ _ _ h => h) h6.drew ?_ ?_
  · refine AllSure.cons (OpSure.take (v := .pointer (some ⟨q1, 0, none⟩)) (by kernel_rfl) (by kernel_rfl) (fun _ _ => (by kernel_rfl))) ?_
    refine AllSure.cons (OpSure.take (v := rarr q.X) (by kernel_rfl) (by kernel_rfl) (fun w' h' => run_part32 (q := q1) (off := 16 * 0) (n := q.X) (by kernel_rfl) (h'.get 1 rfl) (rq_get q).1)) ?_
    refine AllSure.cons (OpSure.take (v := .pointer (some ⟨q4, 32, none⟩)) (by kernel_rfl) (by kernel_rfl) (fun _ _ => (by kernel_rfl))) ?_
    refine AllSure.cons (OpSure.take (v := rarr r.Z) (by kernel_rfl) (by kernel_rfl) (fun w' h' => run_part32 (q := q4) (off := 16 * 2) (n := r.Z) (by kernel_rfl) (h'.get 0 rfl) (rq_get r).2.2.1)) ?_
    refine AllSure.cons (sure_call (v := rarr (mulP q.X r.Z)) (by kernel_rfl) (by kernel_rfl) enter52 HA.keep #[rarr q.X, rarr r.Z] (by kernel_rfl) (fun w' h' => wmul_any q.X r.Z hq.1 hr.2.2.1 w')) ?_
    refine AllSure.cons (OpSure.take (v := .pointer (some ⟨q4, 0, none⟩)) (by kernel_rfl) (by kernel_rfl) (fun _ _ => (by kernel_rfl))) ?_
    refine AllSure.cons (OpSure.take (v := rarr r.X) (by kernel_rfl) (by kernel_rfl) (fun w' h' => run_part32 (q := q4) (off := 16 * 0) (n := r.X) (by kernel_rfl) (h'.get 0 rfl) (rq_get r).1)) ?_
    refine AllSure.cons (OpSure.take (v := .pointer (some ⟨q1, 32, none⟩)) (by kernel_rfl) (by kernel_rfl) (fun _ _ => (by kernel_rfl))) ?_
    refine AllSure.cons (OpSure.take (v := rarr q.Z) (by kernel_rfl) (by kernel_rfl) (fun w' h' => run_part32 (q := q1) (off := 16 * 2) (n := q.Z) (by kernel_rfl) (h'.get 1 rfl) (rq_get q).2.2.1)) ?_
    refine AllSure.cons (sure_call (v := rarr (mulP r.X q.Z)) (by kernel_rfl) (by kernel_rfl) enter52 HA.keep #[rarr r.X, rarr q.Z] (by kernel_rfl) (fun w' h' => wmul_any r.X q.Z hr.1 hq.2.2.1 w')) ?_
    refine AllSure.cons (OpSure.take (v := .bool false) (by kernel_rfl) (by kernel_rfl) (fun _ _ => (run_eq32 (mulP q.X r.Z) (mulP r.X q.Z) (Nat.lt_trans (mulP_lt _ _) P_lt16) (Nat.lt_trans (mulP_lt _ _) P_lt16) (by kernel_rfl) (by kernel_rfl) false (decide_eq_false h1)))) ?_
    refine AllSure.cons (OpSure.take (v := .bool false) (by kernel_rfl) (by kernel_rfl) (fun _ _ => (by kernel_rfl))) ?_
    refine AllSure.cons (OpSure.skip (by kernel_rfl) (by kernel_rfl)) ?_
    refine AllSure.cons (OpSure.skip (by kernel_rfl) (by kernel_rfl)) ?_
    refine AllSure.cons (OpSure.skip (by kernel_rfl) (by kernel_rfl)) ?_
    refine AllSure.cons (OpSure.skip (by kernel_rfl) (by kernel_rfl)) ?_
    refine AllSure.cons (OpSure.skip (by kernel_rfl) (by kernel_rfl)) ?_
    refine AllSure.cons (OpSure.skip (by kernel_rfl) (by kernel_rfl)) ?_
    refine AllSure.cons (OpSure.skip (by kernel_rfl) (by kernel_rfl)) ?_
    refine AllSure.cons (OpSure.skip (by kernel_rfl) (by kernel_rfl)) ?_
    refine AllSure.cons (OpSure.skip (by kernel_rfl) (by kernel_rfl)) ?_
    refine AllSure.cons (OpSure.skip (by kernel_rfl) (by kernel_rfl)) ?_
    refine AllSure.cons (OpSure.skip (by kernel_rfl) (by kernel_rfl)) ?_
    refine AllSure.cons (OpSure.take (v := .bool false) (by kernel_rfl) (by kernel_rfl) (fun _ _ => (by kernel_rfl))) ?_
    refine AllSure.cons (OpSure.take (v := .bool false) (by kernel_rfl) (by kernel_rfl) (fun _ _ => (by kernel_rfl))) ?_
    exact AllSure.nil
  intro w7 h8
  refine then_at (F := ⟨(.agg (rq q) :: .agg (rq r) :: pt q1 :: pt q4 :: .bool false :: pt q1 :: rarr q.X :: .pointer (some ⟨q4, 32, none⟩) :: rarr r.Z :: rarr (mulP q.X r.Z) :: pt q4 :: rarr r.X :: .pointer (some ⟨q1, 32, none⟩) :: rarr q.Z :: rarr (mulP r.X q.Z) :: .bool false :: .bool false :: un :: un :: un :: un :: un :: un :: un :: un :: un :: un :: un :: .bool false :: List.replicate 0 un).toArray, []⟩) (by kernel_rfl) ?_
  refine wp_ret ?_
  repeat first | refine then_ret ?_ | refine block_ret ?_
  exact bodyPost_ret (v := .bool false) (by kernel_rfl) rfl ⟨rfl, h8.old⟩

set_option linter.unusedVariables false in
set_option maxRecDepth 100000 in
set_option maxHeartbeats 2000000 in
theorem rSame_no2 (q r : Q4) (hq : q.lt) (hr : r.lt) (h1 : mulP q.X r.Z = mulP r.X q.Z) (h2 : ¬ mulP q.Y r.Z = mulP r.Y q.Z) (w : World) :
    Calls Tryd.prog 23 #[.agg (rq q), .agg (rq r)] w fun e w' => e = .returned (.bool false) ∧ Below w.heap.size w w' := by
  have H0 := HA.start w
  go_enter Tryd.func23, Tryd.ntmps23
  refine wp_seq ?_
  refine wl_region ?_
  refine wl_make H0 34 (by kernel_rfl) (run_box34 (c := rq q) (by kernel_rfl)) ?_
  intro q1 w2 h3
  refine wl_make h3 34 (by kernel_rfl) (run_box34 (c := rq r) (by kernel_rfl)) ?_
  intro q4 w5 h6
  refine wl_val (.bool false) (by kernel_rfl) (by kernel_rfl) ?_
  refine wl_nil ?_
  refine then_at (F := ⟨(.agg (rq q) :: .agg (rq r) :: pt q1 :: pt q4 :: .bool false :: List.replicate 24 un).toArray, []⟩) (by kernel_rfl) ?_
  refine wp_seq ?_
  refine wp_region_sure ⟨(.agg (rq q) :: .agg (rq r) :: pt q1 :: pt q4 :: .bool false :: pt q1 :: rarr q.X :: .pointer (some ⟨q4, 32, none⟩) :: rarr r.Z :: rarr (mulP q.X r.Z) :: pt q4 :: rarr r.X :: .pointer (some ⟨q1, 32, none⟩) :: rarr q.Z :: rarr (mulP r.X q.Z) :: .bool true :: .bool true :: .pointer (some ⟨q1, 16, none⟩) :: rarr q.Y :: .pointer (some ⟨q4, 32, none⟩) :: rarr r.Z :: rarr (mulP q.Y r.Z) :: .pointer (some ⟨q4, 16, none⟩) :: rarr r.Y :: .pointer (some ⟨q1, 32, none⟩) :: rarr q.Z :: rarr (mulP r.Y q.Z) :: .bool false :: .bool false :: List.replicate 0 un).toArray, []⟩ (HA w [(q4, 34, rq r), (q1, 34, rq q)]) [.pointer (some ⟨q1, 0, none⟩), rarr q.X, .pointer (some ⟨q4, 32, none⟩), rarr r.Z, rarr (mulP q.X r.Z), .pointer (some ⟨q4, 0, none⟩), rarr r.X, .pointer (some ⟨q1, 32, none⟩), rarr q.Z, rarr (mulP r.X q.Z), .bool true, .bool true, .pointer (some ⟨q1, 16, none⟩), rarr q.Y, .pointer (some ⟨q4, 32, none⟩), rarr r.Z, rarr (mulP q.Y r.Z), .pointer (some ⟨q4, 16, none⟩), rarr r.Y, .pointer (some ⟨q1, 32, none⟩), rarr q.Z, rarr (mulP r.Y q.Z), .bool false, .bool false, .bool false] (by kernel_rfl) (by kernel_rfl) (by kernel_rfl) (by kernel_rfl) (fun _ _ _ h => h) h6.drew ?_ ?_
  · refine AllSure.cons (OpSure.take (v := .pointer (some ⟨q1, 0, none⟩)) (by kernel_rfl) (by kernel_rfl) (fun _ _ => (by kernel_rfl))) ?_
    refine AllSure.cons (OpSure.take (v := rarr q.X) (by kernel_rfl) (by kernel_rfl) (fun w' h' => run_part32 (q := q1) (off := 16 * 0) (n := q.X) (by kernel_rfl) (h'.get 1 rfl) (rq_get q).1)) ?_
    refine AllSure.cons (OpSure.take (v := .pointer (some ⟨q4, 32, none⟩)) (by kernel_rfl) (by kernel_rfl) (fun _ _ => (by kernel_rfl))) ?_
    refine AllSure.cons (OpSure.take (v := rarr r.Z) (by kernel_rfl) (by kernel_rfl) (fun w' h' => run_part32 (q := q4) (off := 16 * 2) (n := r.Z) (by kernel_rfl) (h'.get 0 rfl) (rq_get r).2.2.1)) ?_
    refine AllSure.cons (sure_call (v := rarr (mulP q.X r.Z)) (by kernel_rfl) (by kernel_rfl) enter52 HA.keep #[rarr q.X, rarr r.Z] (by kernel_rfl) (fun w' h' => wmul_any q.X r.Z hq.1 hr.2.2.1 w')) ?_
    refine AllSure.cons (OpSure.take (v := .pointer (some ⟨q4, 0, none⟩)) (by kernel_rfl) (by kernel_rfl) (fun _ _ => (by kernel_rfl))) ?_
    refine AllSure.cons (OpSure.take (v := rarr r.X) (by kernel_rfl) (by kernel_rfl) (fun w' h' => run_part32 (q := q4) (off := 16 * 0) (n := r.X) (by kernel_rfl) (h'.get 0 rfl) (rq_get r).1)) ?_
    refine AllSure.cons (OpSure.take (v := .pointer (some ⟨q1, 32, none⟩)) (by kernel_rfl) (by kernel_rfl) (fun _ _ => (by kernel_rfl))) ?_
    refine AllSure.cons (OpSure.take (v := rarr q.Z) (by kernel_rfl) (by kernel_rfl) (fun w' h' => run_part32 (q := q1) (off := 16 * 2) (n := q.Z) (by kernel_rfl) (h'.get 1 rfl) (rq_get q).2.2.1)) ?_
    refine AllSure.cons (sure_call (v := rarr (mulP r.X q.Z)) (by kernel_rfl) (by kernel_rfl) enter52 HA.keep #[rarr r.X, rarr q.Z] (by kernel_rfl) (fun w' h' => wmul_any r.X q.Z hr.1 hq.2.2.1 w')) ?_
    refine AllSure.cons (OpSure.take (v := .bool true) (by kernel_rfl) (by kernel_rfl) (fun _ _ => (run_eq32 (mulP q.X r.Z) (mulP r.X q.Z) (Nat.lt_trans (mulP_lt _ _) P_lt16) (Nat.lt_trans (mulP_lt _ _) P_lt16) (by kernel_rfl) (by kernel_rfl) true (decide_eq_true h1)))) ?_
    refine AllSure.cons (OpSure.take (v := .bool true) (by kernel_rfl) (by kernel_rfl) (fun _ _ => (by kernel_rfl))) ?_
    refine AllSure.cons (OpSure.take (v := .pointer (some ⟨q1, 16, none⟩)) (by kernel_rfl) (by kernel_rfl) (fun _ _ => (by kernel_rfl))) ?_
    refine AllSure.cons (OpSure.take (v := rarr q.Y) (by kernel_rfl) (by kernel_rfl) (fun w' h' => run_part32 (q := q1) (off := 16 * 1) (n := q.Y) (by kernel_rfl) (h'.get 1 rfl) (rq_get q).2.1)) ?_
    refine AllSure.cons (OpSure.take (v := .pointer (some ⟨q4, 32, none⟩)) (by kernel_rfl) (by kernel_rfl) (fun _ _ => (by kernel_rfl))) ?_
    refine AllSure.cons (OpSure.take (v := rarr r.Z) (by kernel_rfl) (by kernel_rfl) (fun w' h' => run_part32 (q := q4) (off := 16 * 2) (n := r.Z) (by kernel_rfl) (h'.get 0 rfl) (rq_get r).2.2.1)) ?_
    refine AllSure.cons (sure_call (v := rarr (mulP q.Y r.Z)) (by kernel_rfl) (by kernel_rfl) enter52 HA.keep #[rarr q.Y, rarr r.Z] (by kernel_rfl) (fun w' h' => wmul_any q.Y r.Z hq.2.1 hr.2.2.1 w')) ?_
    refine AllSure.cons (OpSure.take (v := .pointer (some ⟨q4, 16, none⟩)) (by kernel_rfl) (by kernel_rfl) (fun _ _ => (by kernel_rfl))) ?_
    refine AllSure.cons (OpSure.take (v := rarr r.Y) (by kernel_rfl) (by kernel_rfl) (fun w' h' => run_part32 (q := q4) (off := 16 * 1) (n := r.Y) (by kernel_rfl) (h'.get 0 rfl) (rq_get r).2.1)) ?_
    refine AllSure.cons (OpSure.take (v := .pointer (some ⟨q1, 32, none⟩)) (by kernel_rfl) (by kernel_rfl) (fun _ _ => (by kernel_rfl))) ?_
    refine AllSure.cons (OpSure.take (v := rarr q.Z) (by kernel_rfl) (by kernel_rfl) (fun w' h' => run_part32 (q := q1) (off := 16 * 2) (n := q.Z) (by kernel_rfl) (h'.get 1 rfl) (rq_get q).2.2.1)) ?_
    refine AllSure.cons (sure_call (v := rarr (mulP r.Y q.Z)) (by kernel_rfl) (by kernel_rfl) enter52 HA.keep #[rarr r.Y, rarr q.Z] (by kernel_rfl) (fun w' h' => wmul_any r.Y q.Z hr.2.1 hq.2.2.1 w')) ?_
    refine AllSure.cons (OpSure.take (v := .bool false) (by kernel_rfl) (by kernel_rfl) (fun _ _ => (run_eq32 (mulP q.Y r.Z) (mulP r.Y q.Z) (Nat.lt_trans (mulP_lt _ _) P_lt16) (Nat.lt_trans (mulP_lt _ _) P_lt16) (by kernel_rfl) (by kernel_rfl) false (decide_eq_false h2)))) ?_
    refine AllSure.cons (OpSure.take (v := .bool false) (by kernel_rfl) (by kernel_rfl) (fun _ _ => (by kernel_rfl))) ?_
    refine AllSure.cons (OpSure.take (v := .bool false) (by kernel_rfl) (by kernel_rfl) (fun _ _ => (by kernel_rfl))) ?_
    exact AllSure.nil
  intro w7 h8
  refine then_at (F := ⟨(.agg (rq q) :: .agg (rq r) :: pt q1 :: pt q4 :: .bool false :: pt q1 :: rarr q.X :: .pointer (some ⟨q4, 32, none⟩) :: rarr r.Z :: rarr (mulP q.X r.Z) :: pt q4 :: rarr r.X :: .pointer (some ⟨q1, 32, none⟩) :: rarr q.Z :: rarr (mulP r.X q.Z) :: .bool true :: .bool true :: .pointer (some ⟨q1, 16, none⟩) :: rarr q.Y :: .pointer (some ⟨q4, 32, none⟩) :: rarr r.Z :: rarr (mulP q.Y r.Z) :: .pointer (some ⟨q4, 16, none⟩) :: rarr r.Y :: .pointer (some ⟨q1, 32, none⟩) :: rarr q.Z :: rarr (mulP r.Y q.Z) :: .bool false :: .bool false :: List.replicate 0 un).toArray, []⟩) (by kernel_rfl) ?_
  refine wp_ret ?_
  repeat first | refine then_ret ?_ | refine block_ret ?_
  exact bodyPost_ret (v := .bool false) (by kernel_rfl) rfl ⟨rfl, h8.old⟩

set_option linter.unusedVariables false in
set_option maxRecDepth 100000 in
set_option maxHeartbeats 2000000 in
theorem rBase_any (w : World) :
    Calls Tryd.prog 54 #[] w fun e w' => e = .returned (.agg (rq (mdQ bX bY))) ∧ Below w.heap.size w w' := by
  have H0 := HA.start w
  go_enter Tryd.func54, Tryd.ntmps54
  refine wp_seq ?_
  refine wl_region ?_
  refine wl_make H0 34 (by kernel_rfl) run_alloc34 ?_
  intro q1 w2 h3
  refine wl_nil ?_
  refine then_at (F := ⟨(pt q1 :: List.replicate 10 un).toArray, []⟩) (by kernel_rfl) ?_
  refine wp_seq ?_
  refine wl_region ?_
  refine wl_call (v := rarr 4) h3 (by kernel_rfl) enter67 #[iN .u32 4] (by kernel_rfl) (wsmall_any 4 (by decide) w2) ?_
  intro w4 h5
  refine wl_call (v := rarr 5) h5 (by kernel_rfl) enter67 #[iN .u32 5] (by kernel_rfl) (wsmall_any 5 (by decide) w4) ?_
  intro w6 h7
  refine wl_call (v := rarr (mulP 4 (invE 5))) h7 (by kernel_rfl) enter70 #[rarr 4, rarr 5] (by kernel_rfl) (wover_any 4 5 (by decide) (by decide) w6) ?_
  intro w8 h9
  refine wl_call (v := .tuple #[.agg (rq (mdQ bX bY)), .bool true]) h9 (by kernel_rfl) enter46 #[rarr (mulP 4 (invE 5)), .bool false] (by kernel_rfl) ((by rw [show mulP 4 (invE 5) = bY from base_q]; exact rof_yes_even bY bY_lt bX bX_lt base_root w8)) ?_
  intro w10 h11
  refine wl_val (.tuple #[.agg (rq (mdQ bX bY)), .bool true]) (by kernel_rfl) (by kernel_rfl) ?_
  refine wl_val (.agg (rq (mdQ bX bY))) (by kernel_rfl) (by kernel_rfl) ?_
  refine wl_val (.bool true) (by kernel_rfl) (by kernel_rfl) ?_
  refine wl_make h11 34 (by kernel_rfl) run_alloc34 ?_
  intro q12 w13 h14
  refine wl_fill (c' := rq (mdQ bX bY)) h14 0 rfl (by kernel_rfl) (by kernel_rfl) (by kernel_rfl) (rq_sz (mdQ bX bY) (Q4.mk 0 0 0 0)) (info34q (mdQ bX bY)) (one_rq (mdQ bX bY)) ?_
  intro w15 (h16 : HA w [(q12, 34, rq (mdQ bX bY)), (q1, 34, rq (Q4.mk 0 0 0 0))] w15)
  refine wl_val (.bool true) (by kernel_rfl) (by kernel_rfl) ?_
  refine wl_nil ?_
  refine then_at (F := ⟨(pt q1 :: pt q12 :: .bool true :: .tuple #[.agg (rq (mdQ bX bY)), .bool true] :: rarr 4 :: rarr 5 :: rarr (mulP 4 (invE 5)) :: .tuple #[.agg (rq (mdQ bX bY)), .bool true] :: .agg (rq (mdQ bX bY)) :: .bool true :: List.replicate 1 un).toArray, []⟩) (by kernel_rfl) ?_
  refine wp_seq ?_
  refine wl_region ?_
  refine wl_val (.agg (rq (mdQ bX bY))) (by kernel_rfl) (run_load34 (mdQ bX bY) (by kernel_rfl) (show Blk w15 q12 34 (rq (mdQ bX bY)) from h16.get 0 rfl)) ?_
  refine wl_fill (c' := rq (mdQ bX bY)) h16 1 rfl (by kernel_rfl) (by kernel_rfl) (by kernel_rfl) (rq_sz (mdQ bX bY) (Q4.mk 0 0 0 0)) (info34q (mdQ bX bY)) (one_rq (mdQ bX bY)) ?_
  intro w17 (h18 : HA w [(q12, 34, rq (mdQ bX bY)), (q1, 34, rq (mdQ bX bY))] w17)
  refine wl_nil ?_
  refine then_at (F := ⟨(pt q1 :: pt q12 :: .bool true :: .tuple #[.agg (rq (mdQ bX bY)), .bool true] :: rarr 4 :: rarr 5 :: rarr (mulP 4 (invE 5)) :: .tuple #[.agg (rq (mdQ bX bY)), .bool true] :: .agg (rq (mdQ bX bY)) :: .bool true :: .agg (rq (mdQ bX bY)) :: List.replicate 0 un).toArray, []⟩) (by kernel_rfl) ?_
  refine wp_ret ?_
  repeat first | refine then_ret ?_ | refine block_ret ?_
  have hB : Blk w17 q1 34 (rq (mdQ bX bY)) := h18.get 1 rfl
  exact bodyPost_ret (v := .agg (rq (mdQ bX bY))) (res34 (p := 0) (mdQ bX bY) (by kernel_rfl) (by kernel_rfl) hB) rfl ⟨rfl, h18.old⟩

set_option linter.unusedVariables false in
set_option maxRecDepth 100000 in
set_option maxHeartbeats 4000000 in
theorem rMul_any (s : ByteArray) (hs : s.size = 32) (q : Q4) (hq : q.lt) (w : World) :
    Calls Tryd.prog 25 #[.agg (rq q), .string s] w fun e w' => e = .returned (.agg (rq (rmQ s q 256))) ∧ Below w.heap.size w w' := by
  have H0 := HA.start w
  go_enter Tryd.func25, Tryd.ntmps25
  refine wp_seq ?_
  refine wl_region ?_
  refine wl_make H0 34 (by kernel_rfl) (run_box34 (c := rq q) (by kernel_rfl)) ?_
  intro q1 w2 h3
  refine wl_make h3 34 (by kernel_rfl) run_alloc34 ?_
  intro q4 w5 h6
  refine wl_nil ?_
  refine then_at (F := ⟨(.agg (rq q) :: .string s :: pt q1 :: un :: pt q4 :: List.replicate 31 un).toArray, []⟩) (by kernel_rfl) ?_
  refine wp_seq ?_
  refine wl_region ?_
  refine wl_call (v := .agg (rq (mdQ 0 1))) h6 (by kernel_rfl) enter44 #[] (by kernel_rfl) (rNone_any w5) ?_
  intro w7 h8
  refine wl_make h8 34 (by kernel_rfl) run_alloc34 ?_
  intro q9 w10 h11
  refine wl_fill (c' := rq (mdQ 0 1)) h11 0 rfl (by kernel_rfl) (by kernel_rfl) (by kernel_rfl) (rq_sz (mdQ 0 1) (Q4.mk 0 0 0 0)) (info34q (mdQ 0 1)) (one_rq (mdQ 0 1)) ?_
  intro w12 (h13 : HA w [(q9, 34, rq (mdQ 0 1)), (q4, 34, rq (Q4.mk 0 0 0 0)), (q1, 34, rq q)] w12)
  refine wl_nil ?_
  refine then_at (F := ⟨(.agg (rq q) :: .string s :: pt q1 :: un :: pt q4 :: pt q9 :: un :: un :: .agg (rq (mdQ 0 1)) :: List.replicate 27 un).toArray, []⟩) (by kernel_rfl) ?_
  refine wp_seq ?_
  refine wp_seq ?_
  refine wl_region ?_
  refine wl_val (.string s) (by kernel_rfl) (by kernel_rfl) ?_
  refine wl_val (iN .i64 s.size) (by kernel_rfl) (run_len (s := s) (by kernel_rfl)) ?_
  refine wl_val (.bool false) (by kernel_rfl) (run_nei (k := .i64) (a := s.size) (b := 32) (by kernel_rfl) (by kernel_rfl) false (decide_eq_false (not_not_intro hs))) ?_
  refine wl_nil ?_
  refine then_at (F := ⟨(.agg (rq q) :: .string s :: pt q1 :: un :: pt q4 :: pt q9 :: un :: un :: .agg (rq (mdQ 0 1)) :: .string s :: iN .i64 s.size :: .bool false :: List.replicate 24 un).toArray, []⟩) (by kernel_rfl) ?_
  refine wp_cond_false (by kernel_rfl) ?_
  refine wp_skip ?_
  refine then_at (F := ⟨(.agg (rq q) :: .string s :: pt q1 :: un :: pt q4 :: pt q9 :: un :: un :: .agg (rq (mdQ 0 1)) :: .string s :: iN .i64 s.size :: .bool false :: List.replicate 24 un).toArray, []⟩) (by kernel_rfl) ?_
  refine wp_seq ?_
  refine wl_region ?_
  refine wl_call (v := rarr dN) h13 (by kernel_rfl) enter59 #[] (by kernel_rfl) (D_any w12) ?_
  intro w14 h15
  refine wl_make h15 32 (by kernel_rfl) run_alloc32 ?_
  intro q16 w17 h18
  refine wl_fill (c' := rl dN) h18 0 rfl (by kernel_rfl) (by kernel_rfl) (by kernel_rfl) (rl_sz dN 0) (info_rl dN) (one_rl dN) ?_
  intro w19 (h20 : HA w [(q16, 32, rl dN), (q9, 34, rq (mdQ 0 1)), (q4, 34, rq (Q4.mk 0 0 0 0)), (q1, 34, rq q)] w19)
  refine wl_nil ?_
  refine then_at (F := ⟨(.agg (rq q) :: .string s :: pt q1 :: un :: pt q4 :: pt q9 :: pt q16 :: un :: .agg (rq (mdQ 0 1)) :: .string s :: iN .i64 s.size :: .bool false :: un :: rarr dN :: List.replicate 22 un).toArray, []⟩) (by kernel_rfl) ?_
  refine wp_seq ?_
  refine wp_seq ?_
  refine wl_region ?_
  refine wl_val (iN .i64 255) (by kernel_rfl) (by kernel_rfl) ?_
  refine wl_nil ?_
  refine then_at (F := ⟨(.agg (rq q) :: .string s :: pt q1 :: un :: pt q4 :: pt q9 :: pt q16 :: iN .i64 255 :: .agg (rq (mdQ 0 1)) :: .string s :: iN .i64 s.size :: .bool false :: un :: rarr dN :: List.replicate 22 un).toArray, []⟩) (by kernel_rfl) ?_
  refine wp_block ?_
  refine wp_count (fun k A w' => ∃ u21 : Nat → Value, A = ⟨(.agg (rq q) :: .string s :: pt q1 :: un :: pt q4 :: pt q9 :: pt q16 :: dnv (256 - k) :: .agg (rq (mdQ 0 1)) :: .string s :: iN .i64 s.size :: .bool false :: un :: rarr dN :: u21 14 :: u21 15 :: u21 16 :: u21 17 :: u21 18 :: u21 19 :: u21 20 :: u21 21 :: u21 22 :: u21 23 :: u21 24 :: u21 25 :: u21 26 :: u21 27 :: u21 28 :: u21 29 :: u21 30 :: u21 31 :: u21 32 :: u21 33 :: u21 34 :: List.replicate 1 un).toArray, []⟩ ∧ HA w [(q16, 32, rl dN), (q9, 34, rq (rmQ s q k)), (q4, 34, rq (Q4.mk 0 0 0 0)), (q1, 34, rq q)] w') 256 ?_ ?_ ?_
  · exact ⟨fun ii => (([(14, undef), (15, undef), (16, undef), (17, undef), (18, undef), (19, undef), (20, undef), (21, undef), (22, undef), (23, undef), (24, undef), (25, undef), (26, undef), (27, undef), (28, undef), (29, undef), (30, undef), (31, undef), (32, undef), (33, undef), (34, undef)] : List (Nat × Value)).find? (·.1 == ii)).elim undef (·.2), by kernel_rfl, h20⟩
  · rintro k hk _ w22 ⟨u21, rfl, h23⟩
    obtain ⟨j, hj, ej⟩ : ∃ j, j < 256 ∧ 256 - k = j + 1 := ⟨255 - k, by omega, by omega⟩
    have ej2 : 256 - (k + 1) = j := by omega
    rw [ej, ej2]
    refine wp_seq ?_
    refine wp_seq ?_
    refine wl_region ?_
    refine wl_val (iN .i64 j) (by kernel_rfl) (by kernel_rfl) ?_
    refine wl_val (.bool true) (by kernel_rfl) (run_geq0 (k := .i64) (a := ((j : Nat) : Int)) (b := 0) (by kernel_rfl) (by kernel_rfl) true (decide_eq_true (by omega))) ?_
    refine wl_nil ?_
    refine then_at (F := ⟨(.agg (rq q) :: .string s :: pt q1 :: un :: pt q4 :: pt q9 :: pt q16 :: iN .i64 j :: .agg (rq (mdQ 0 1)) :: .string s :: iN .i64 s.size :: .bool false :: un :: rarr dN :: iN .i64 j :: .bool true :: u21 16 :: u21 17 :: u21 18 :: u21 19 :: u21 20 :: u21 21 :: u21 22 :: u21 23 :: u21 24 :: u21 25 :: u21 26 :: u21 27 :: u21 28 :: u21 29 :: u21 30 :: u21 31 :: u21 32 :: u21 33 :: u21 34 :: List.replicate 1 un).toArray, []⟩) (by kernel_rfl) ?_
    refine wp_cond_true (by kernel_rfl) ?_
    refine wp_skip ?_
    refine then_at (F := ⟨(.agg (rq q) :: .string s :: pt q1 :: un :: pt q4 :: pt q9 :: pt q16 :: iN .i64 j :: .agg (rq (mdQ 0 1)) :: .string s :: iN .i64 s.size :: .bool false :: un :: rarr dN :: iN .i64 j :: .bool true :: u21 16 :: u21 17 :: u21 18 :: u21 19 :: u21 20 :: u21 21 :: u21 22 :: u21 23 :: u21 24 :: u21 25 :: u21 26 :: u21 27 :: u21 28 :: u21 29 :: u21 30 :: u21 31 :: u21 32 :: u21 33 :: u21 34 :: List.replicate 1 un).toArray, []⟩) (by kernel_rfl) ?_
    refine wp_seq ?_
    refine wp_block ?_
    refine wp_seq ?_
    refine wl_region ?_
    refine wl_load h23 0 rfl (by kernel_rfl) (by kernel_rfl) Tryd.underlying32 rfl (info_rl dN) ?_
    refine wl_val (.agg (rq (rmQ s q k))) (by kernel_rfl) (run_load34 (rmQ s q k) (by kernel_rfl) (show Blk w22 q9 34 (rq (rmQ s q k)) from h23.get 1 rfl)) ?_
    refine wl_val (.agg (rq (rmQ s q k))) (by kernel_rfl) (run_load34 (rmQ s q k) (by kernel_rfl) (show Blk w22 q9 34 (rq (rmQ s q k)) from h23.get 1 rfl)) ?_
    refine wl_call (v := .agg (rq (suQ (rmQ s q k) (rmQ s q k)))) h23 (by kernel_rfl) enter58 #[rarr dN, .agg (rq (rmQ s q k)), .agg (rq (rmQ s q k))] (by kernel_rfl) (rsum_any (rmQ s q k) (rmQ s q k) (rmQ_lt s q k) (rmQ_lt s q k) w22) ?_
    intro w24 h25
    refine wl_fill (c' := rq (suQ (rmQ s q k) (rmQ s q k))) h25 1 rfl (by kernel_rfl) (by kernel_rfl) (by kernel_rfl) (rq_sz (suQ (rmQ s q k) (rmQ s q k)) (rmQ s q k)) (info34q (suQ (rmQ s q k) (rmQ s q k))) (one_rq (suQ (rmQ s q k) (rmQ s q k))) ?_
    intro w26 (h27 : HA w [(q16, 32, rl dN), (q9, 34, rq (suQ (rmQ s q k) (rmQ s q k))), (q4, 34, rq (Q4.mk 0 0 0 0)), (q1, 34, rq q)] w26)
    refine wl_nil ?_
    refine then_at (F := ⟨(.agg (rq q) :: .string s :: pt q1 :: un :: pt q4 :: pt q9 :: pt q16 :: iN .i64 j :: .agg (rq (mdQ 0 1)) :: .string s :: iN .i64 s.size :: .bool false :: un :: rarr dN :: iN .i64 j :: .bool true :: u21 16 :: u21 17 :: rarr dN :: .agg (rq (rmQ s q k)) :: .agg (rq (rmQ s q k)) :: .agg (rq (suQ (rmQ s q k) (rmQ s q k))) :: u21 22 :: u21 23 :: u21 24 :: u21 25 :: u21 26 :: u21 27 :: u21 28 :: u21 29 :: u21 30 :: u21 31 :: u21 32 :: u21 33 :: u21 34 :: List.replicate 1 un).toArray, []⟩) (by kernel_rfl) ?_
    refine wp_seq ?_
    by_cases hbit : numS s / 2 ^ j % 2 = 1
    · -- region 9
      refine wl_region ?_
      refine wl_val (.string s) (by kernel_rfl) (by kernel_rfl) ?_
      refine wl_val (iN .i64 j) (by kernel_rfl) (by kernel_rfl) ?_
      refine wl_val (iN .i64 (j / 8)) (by kernel_rfl) (run_quo (k := .i64) (a := j) (b := 8) (by kernel_rfl) (by kernel_rfl) (by omega) (by simp only [top]; omega)) ?_
      refine wl_val (iN .u8 (sb s (j / 8))) (by kernel_rfl) (run_sidx (s := s) (a := j / 8) (by kernel_rfl) (by kernel_rfl) (by omega)) ?_
      refine wl_val (iN .i64 j) (by kernel_rfl) (by kernel_rfl) ?_
      refine wl_val (iN .i64 (j % 8)) (by kernel_rfl) (run_rem (k := .i64) (a := j) (b := 8) (by kernel_rfl) (by kernel_rfl) (by omega)) ?_
      refine wl_val (iN .u8 ((sb s (j / 8)) / 2 ^ (j % 8))) (by kernel_rfl) (run_shr (k2 := .i64) (k := .u8) (a := sb s (j / 8)) (b := j % 8) (by kernel_rfl) (by kernel_rfl) (show j % 8 ≤ 8 by omega)) ?_
      refine wl_val (iN .u8 (((sb s (j / 8)) / 2 ^ (j % 8)) &&& 1)) (by kernel_rfl) (run_and8 (a := (sb s (j / 8)) / 2 ^ (j % 8)) (b := 1) (by kernel_rfl) (by kernel_rfl) (Nat.lt_of_le_of_lt (Nat.div_le_self _ _) (sb_lt _ _)) (by decide)) ?_
      refine wl_val (.bool true) (by kernel_rfl) (run_eqi (k := .u8) (a := ((sb s (j / 8)) / 2 ^ (j % 8)) &&& 1) (b := 1) (by kernel_rfl) (by kernel_rfl) true (decide_eq_true (by rw [bit_of]; exact hbit))) ?_
      refine wl_nil ?_
      refine then_at (F := ⟨(.agg (rq q) :: .string s :: pt q1 :: un :: pt q4 :: pt q9 :: pt q16 :: iN .i64 j :: .agg (rq (mdQ 0 1)) :: .string s :: iN .i64 s.size :: .bool false :: un :: rarr dN :: iN .i64 j :: .bool true :: u21 16 :: u21 17 :: rarr dN :: .agg (rq (rmQ s q k)) :: .agg (rq (rmQ s q k)) :: .agg (rq (suQ (rmQ s q k) (rmQ s q k))) :: .string s :: iN .i64 j :: iN .i64 (j / 8) :: iN .u8 (sb s (j / 8)) :: iN .i64 j :: iN .i64 (j % 8) :: iN .u8 ((sb s (j / 8)) / 2 ^ (j % 8)) :: iN .u8 (((sb s (j / 8)) / 2 ^ (j % 8)) &&& 1) :: .bool true :: u21 31 :: u21 32 :: u21 33 :: u21 34 :: List.replicate 1 un).toArray, []⟩) (by kernel_rfl) ?_
      refine wp_cond_true (by kernel_rfl) ?_
      refine wl_region ?_
      refine wl_load h27 0 rfl (by kernel_rfl) (by kernel_rfl) Tryd.underlying32 rfl (info_rl dN) ?_
      refine wl_val (.agg (rq (suQ (rmQ s q k) (rmQ s q k)))) (by kernel_rfl) (run_load34 (suQ (rmQ s q k) (rmQ s q k)) (by kernel_rfl) (show Blk w26 q9 34 (rq (suQ (rmQ s q k) (rmQ s q k))) from h27.get 1 rfl)) ?_
      refine wl_val (.agg (rq q)) (by kernel_rfl) (run_load34 q (by kernel_rfl) (show Blk w26 q1 34 (rq q) from h27.get 3 rfl)) ?_
      refine wl_call (v := .agg (rq (suQ (suQ (rmQ s q k) (rmQ s q k)) q))) h27 (by kernel_rfl) enter58 #[rarr dN, .agg (rq (suQ (rmQ s q k) (rmQ s q k))), .agg (rq q)] (by kernel_rfl) (rsum_any (suQ (rmQ s q k) (rmQ s q k)) q (suQ_lt (rmQ s q k) (rmQ s q k)) hq w26) ?_
      intro w28 h29
      refine wl_fill (c' := rq (suQ (suQ (rmQ s q k) (rmQ s q k)) q)) h29 1 rfl (by kernel_rfl) (by kernel_rfl) (by kernel_rfl) (rq_sz (suQ (suQ (rmQ s q k) (rmQ s q k)) q) (suQ (rmQ s q k) (rmQ s q k))) (info34q (suQ (suQ (rmQ s q k) (rmQ s q k)) q)) (one_rq (suQ (suQ (rmQ s q k) (rmQ s q k)) q)) ?_
      intro w30 (h31 : HA w [(q16, 32, rl dN), (q9, 34, rq (suQ (suQ (rmQ s q k) (rmQ s q k)) q)), (q4, 34, rq (Q4.mk 0 0 0 0)), (q1, 34, rq q)] w30)
      refine wl_nil ?_
      refine block_normal ?_
      refine then_at (F := ⟨(.agg (rq q) :: .string s :: pt q1 :: un :: pt q4 :: pt q9 :: pt q16 :: iN .i64 j :: .agg (rq (mdQ 0 1)) :: .string s :: iN .i64 s.size :: .bool false :: un :: rarr dN :: iN .i64 j :: .bool true :: u21 16 :: u21 17 :: rarr dN :: .agg (rq (rmQ s q k)) :: .agg (rq (rmQ s q k)) :: .agg (rq (suQ (rmQ s q k) (rmQ s q k))) :: .string s :: iN .i64 j :: iN .i64 (j / 8) :: iN .u8 (sb s (j / 8)) :: iN .i64 j :: iN .i64 (j % 8) :: iN .u8 ((sb s (j / 8)) / 2 ^ (j % 8)) :: iN .u8 (((sb s (j / 8)) / 2 ^ (j % 8)) &&& 1) :: .bool true :: rarr dN :: .agg (rq (suQ (rmQ s q k) (rmQ s q k))) :: .agg (rq q) :: .agg (rq (suQ (suQ (rmQ s q k) (rmQ s q k)) q)) :: List.replicate 1 un).toArray, []⟩) (by kernel_rfl) ?_
      refine wl_region ?_
      refine wl_val (iN .i64 j) (by kernel_rfl) (by kernel_rfl) ?_
      refine wl_val (dnv j) (by kernel_rfl) (run_dec (j := j) (by omega) (by kernel_rfl) (by kernel_rfl)) ?_
      refine wl_val (dnv j) (by kernel_rfl) (by kernel_rfl) ?_
      refine wl_nil ?_
      exact then_I ⟨fun ii => (([(14, iN .i64 j), (15, .bool true), (16, iN .i64 j), (17, dnv j), (18, rarr dN), (19, .agg (rq (rmQ s q k))), (20, .agg (rq (rmQ s q k))), (21, .agg (rq (suQ (rmQ s q k) (rmQ s q k)))), (22, .string s), (23, iN .i64 j), (24, iN .i64 (j / 8)), (25, iN .u8 (sb s (j / 8))), (26, iN .i64 j), (27, iN .i64 (j % 8)), (28, iN .u8 ((sb s (j / 8)) / 2 ^ (j % 8))), (29, iN .u8 (((sb s (j / 8)) / 2 ^ (j % 8)) &&& 1)), (30, .bool true), (31, rarr dN), (32, .agg (rq (suQ (rmQ s q k) (rmQ s q k)))), (33, .agg (rq q)), (34, .agg (rq (suQ (suQ (rmQ s q k) (rmQ s q k)) q)))] : List (Nat × Value)).find? (·.1 == ii)).elim undef (·.2), by kernel_rfl, (by rw [← rmQ_one s q k j ej hbit]; exact h31)⟩
    · -- region 9
      refine wl_region ?_
      refine wl_val (.string s) (by kernel_rfl) (by kernel_rfl) ?_
      refine wl_val (iN .i64 j) (by kernel_rfl) (by kernel_rfl) ?_
      refine wl_val (iN .i64 (j / 8)) (by kernel_rfl) (run_quo (k := .i64) (a := j) (b := 8) (by kernel_rfl) (by kernel_rfl) (by omega) (by simp only [top]; omega)) ?_
      refine wl_val (iN .u8 (sb s (j / 8))) (by kernel_rfl) (run_sidx (s := s) (a := j / 8) (by kernel_rfl) (by kernel_rfl) (by omega)) ?_
      refine wl_val (iN .i64 j) (by kernel_rfl) (by kernel_rfl) ?_
      refine wl_val (iN .i64 (j % 8)) (by kernel_rfl) (run_rem (k := .i64) (a := j) (b := 8) (by kernel_rfl) (by kernel_rfl) (by omega)) ?_
      refine wl_val (iN .u8 ((sb s (j / 8)) / 2 ^ (j % 8))) (by kernel_rfl) (run_shr (k2 := .i64) (k := .u8) (a := sb s (j / 8)) (b := j % 8) (by kernel_rfl) (by kernel_rfl) (show j % 8 ≤ 8 by omega)) ?_
      refine wl_val (iN .u8 (((sb s (j / 8)) / 2 ^ (j % 8)) &&& 1)) (by kernel_rfl) (run_and8 (a := (sb s (j / 8)) / 2 ^ (j % 8)) (b := 1) (by kernel_rfl) (by kernel_rfl) (Nat.lt_of_le_of_lt (Nat.div_le_self _ _) (sb_lt _ _)) (by decide)) ?_
      refine wl_val (.bool false) (by kernel_rfl) (run_eqi (k := .u8) (a := ((sb s (j / 8)) / 2 ^ (j % 8)) &&& 1) (b := 1) (by kernel_rfl) (by kernel_rfl) false (decide_eq_false (by rw [bit_of]; exact hbit))) ?_
      refine wl_nil ?_
      refine then_at (F := ⟨(.agg (rq q) :: .string s :: pt q1 :: un :: pt q4 :: pt q9 :: pt q16 :: iN .i64 j :: .agg (rq (mdQ 0 1)) :: .string s :: iN .i64 s.size :: .bool false :: un :: rarr dN :: iN .i64 j :: .bool true :: u21 16 :: u21 17 :: rarr dN :: .agg (rq (rmQ s q k)) :: .agg (rq (rmQ s q k)) :: .agg (rq (suQ (rmQ s q k) (rmQ s q k))) :: .string s :: iN .i64 j :: iN .i64 (j / 8) :: iN .u8 (sb s (j / 8)) :: iN .i64 j :: iN .i64 (j % 8) :: iN .u8 ((sb s (j / 8)) / 2 ^ (j % 8)) :: iN .u8 (((sb s (j / 8)) / 2 ^ (j % 8)) &&& 1) :: .bool false :: u21 31 :: u21 32 :: u21 33 :: u21 34 :: List.replicate 1 un).toArray, []⟩) (by kernel_rfl) ?_
      refine wp_cond_false (by kernel_rfl) ?_
      refine wp_skip ?_
      refine block_normal ?_
      refine then_at (F := ⟨(.agg (rq q) :: .string s :: pt q1 :: un :: pt q4 :: pt q9 :: pt q16 :: iN .i64 j :: .agg (rq (mdQ 0 1)) :: .string s :: iN .i64 s.size :: .bool false :: un :: rarr dN :: iN .i64 j :: .bool true :: u21 16 :: u21 17 :: rarr dN :: .agg (rq (rmQ s q k)) :: .agg (rq (rmQ s q k)) :: .agg (rq (suQ (rmQ s q k) (rmQ s q k))) :: .string s :: iN .i64 j :: iN .i64 (j / 8) :: iN .u8 (sb s (j / 8)) :: iN .i64 j :: iN .i64 (j % 8) :: iN .u8 ((sb s (j / 8)) / 2 ^ (j % 8)) :: iN .u8 (((sb s (j / 8)) / 2 ^ (j % 8)) &&& 1) :: .bool false :: u21 31 :: u21 32 :: u21 33 :: u21 34 :: List.replicate 1 un).toArray, []⟩) (by kernel_rfl) ?_
      refine wl_region ?_
      refine wl_val (iN .i64 j) (by kernel_rfl) (by kernel_rfl) ?_
      refine wl_val (dnv j) (by kernel_rfl) (run_dec (j := j) (by omega) (by kernel_rfl) (by kernel_rfl)) ?_
      refine wl_val (dnv j) (by kernel_rfl) (by kernel_rfl) ?_
      refine wl_nil ?_
      exact then_I ⟨fun ii => (([(14, iN .i64 j), (15, .bool true), (16, iN .i64 j), (17, dnv j), (18, rarr dN), (19, .agg (rq (rmQ s q k))), (20, .agg (rq (rmQ s q k))), (21, .agg (rq (suQ (rmQ s q k) (rmQ s q k)))), (22, .string s), (23, iN .i64 j), (24, iN .i64 (j / 8)), (25, iN .u8 (sb s (j / 8))), (26, iN .i64 j), (27, iN .i64 (j % 8)), (28, iN .u8 ((sb s (j / 8)) / 2 ^ (j % 8))), (29, iN .u8 (((sb s (j / 8)) / 2 ^ (j % 8)) &&& 1)), (30, .bool false), (31, u21 31), (32, u21 32), (33, u21 33), (34, u21 34)] : List (Nat × Value)).find? (·.1 == ii)).elim undef (·.2), by kernel_rfl, (by rw [← rmQ_nil s q k j ej hbit]; exact h27)⟩
  · rintro _ w32 ⟨u21, rfl, h33⟩
    refine wp_seq ?_
    refine wp_seq ?_
    refine wl_region ?_
    refine wl_val (dnv 0) (by kernel_rfl) (by kernel_rfl) ?_
    refine wl_val (.bool false) (by kernel_rfl) (run_geq0 (k := .i64) (a := -1) (b := 0) (by kernel_rfl) (by kernel_rfl) false (by decide)) ?_
    refine wl_nil ?_
    refine then_at (F := ⟨(.agg (rq q) :: .string s :: pt q1 :: un :: pt q4 :: pt q9 :: pt q16 :: dnv 0 :: .agg (rq (mdQ 0 1)) :: .string s :: iN .i64 s.size :: .bool false :: un :: rarr dN :: dnv 0 :: .bool false :: u21 16 :: u21 17 :: u21 18 :: u21 19 :: u21 20 :: u21 21 :: u21 22 :: u21 23 :: u21 24 :: u21 25 :: u21 26 :: u21 27 :: u21 28 :: u21 29 :: u21 30 :: u21 31 :: u21 32 :: u21 33 :: u21 34 :: List.replicate 1 un).toArray, []⟩) (by kernel_rfl) ?_
    refine wp_cond_false (by kernel_rfl) ?_
    refine wp_exit ?_
    repeat first | refine then_exit ?_ | refine block_exit ?_ | refine block_exit_ne (by decide) ?_
    refine then_at (F := ⟨(.agg (rq q) :: .string s :: pt q1 :: un :: pt q4 :: pt q9 :: pt q16 :: dnv 0 :: .agg (rq (mdQ 0 1)) :: .string s :: iN .i64 s.size :: .bool false :: un :: rarr dN :: dnv 0 :: .bool false :: u21 16 :: u21 17 :: u21 18 :: u21 19 :: u21 20 :: u21 21 :: u21 22 :: u21 23 :: u21 24 :: u21 25 :: u21 26 :: u21 27 :: u21 28 :: u21 29 :: u21 30 :: u21 31 :: u21 32 :: u21 33 :: u21 34 :: List.replicate 1 un).toArray, []⟩) (by kernel_rfl) ?_
    refine wp_seq ?_
    refine wl_region ?_
    refine wl_val (.agg (rq (rmQ s q 256))) (by kernel_rfl) (run_load34 (rmQ s q 256) (by kernel_rfl) (show Blk w32 q9 34 (rq (rmQ s q 256)) from h33.get 1 rfl)) ?_
    refine wl_fill (c' := rq (rmQ s q 256)) h33 2 rfl (by kernel_rfl) (by kernel_rfl) (by kernel_rfl) (rq_sz (rmQ s q 256) (Q4.mk 0 0 0 0)) (info34q (rmQ s q 256)) (one_rq (rmQ s q 256)) ?_
    intro w34 (h35 : HA w [(q16, 32, rl dN), (q9, 34, rq (rmQ s q 256)), (q4, 34, rq (rmQ s q 256)), (q1, 34, rq q)] w34)
    refine wl_nil ?_
    refine then_at (F := ⟨(.agg (rq q) :: .string s :: pt q1 :: un :: pt q4 :: pt q9 :: pt q16 :: dnv 0 :: .agg (rq (mdQ 0 1)) :: .string s :: iN .i64 s.size :: .bool false :: un :: rarr dN :: dnv 0 :: .bool false :: u21 16 :: u21 17 :: u21 18 :: u21 19 :: u21 20 :: u21 21 :: u21 22 :: u21 23 :: u21 24 :: u21 25 :: u21 26 :: u21 27 :: u21 28 :: u21 29 :: u21 30 :: u21 31 :: u21 32 :: u21 33 :: u21 34 :: .agg (rq (rmQ s q 256)) :: List.replicate 0 un).toArray, []⟩) (by kernel_rfl) ?_
    refine wp_ret ?_
    repeat first | refine then_ret ?_ | refine block_ret ?_
    have hB : Blk w34 q4 34 (rq (rmQ s q 256)) := h35.get 2 rfl
    exact bodyPost_ret (v := .agg (rq (rmQ s q 256))) (res34 (p := 4) (rmQ s q 256) (by kernel_rfl) (by kernel_rfl) hB) rfl ⟨rfl, h35.old⟩

set_option linter.unusedVariables false in
set_option maxRecDepth 100000 in
set_option maxHeartbeats 4000000 in
theorem rMul_no (s : ByteArray) (hs : s.size ≠ 32) (q : Q4) (hq : q.lt) (w : World) :
    Calls Tryd.prog 25 #[.agg (rq q), .string s] w fun e w' => e = .returned (.agg (rq (mdQ 0 1))) ∧ Below w.heap.size w w' := by
  have H0 := HA.start w
  go_enter Tryd.func25, Tryd.ntmps25
  refine wp_seq ?_
  refine wl_region ?_
  refine wl_make H0 34 (by kernel_rfl) (run_box34 (c := rq q) (by kernel_rfl)) ?_
  intro q1 w2 h3
  refine wl_make h3 34 (by kernel_rfl) run_alloc34 ?_
  intro q4 w5 h6
  refine wl_nil ?_
  refine then_at (F := ⟨(.agg (rq q) :: .string s :: pt q1 :: un :: pt q4 :: List.replicate 31 un).toArray, []⟩) (by kernel_rfl) ?_
  refine wp_seq ?_
  refine wl_region ?_
  refine wl_call (v := .agg (rq (mdQ 0 1))) h6 (by kernel_rfl) enter44 #[] (by kernel_rfl) (rNone_any w5) ?_
  intro w7 h8
  refine wl_make h8 34 (by kernel_rfl) run_alloc34 ?_
  intro q9 w10 h11
  refine wl_fill (c' := rq (mdQ 0 1)) h11 0 rfl (by kernel_rfl) (by kernel_rfl) (by kernel_rfl) (rq_sz (mdQ 0 1) (Q4.mk 0 0 0 0)) (info34q (mdQ 0 1)) (one_rq (mdQ 0 1)) ?_
  intro w12 (h13 : HA w [(q9, 34, rq (mdQ 0 1)), (q4, 34, rq (Q4.mk 0 0 0 0)), (q1, 34, rq q)] w12)
  refine wl_nil ?_
  refine then_at (F := ⟨(.agg (rq q) :: .string s :: pt q1 :: un :: pt q4 :: pt q9 :: un :: un :: .agg (rq (mdQ 0 1)) :: List.replicate 27 un).toArray, []⟩) (by kernel_rfl) ?_
  refine wp_seq ?_
  refine wp_seq ?_
  refine wl_region ?_
  refine wl_val (.string s) (by kernel_rfl) (by kernel_rfl) ?_
  refine wl_val (iN .i64 s.size) (by kernel_rfl) (run_len (s := s) (by kernel_rfl)) ?_
  refine wl_val (.bool true) (by kernel_rfl) (run_nei (k := .i64) (a := s.size) (b := 32) (by kernel_rfl) (by kernel_rfl) true (decide_eq_true hs)) ?_
  refine wl_nil ?_
  refine then_at (F := ⟨(.agg (rq q) :: .string s :: pt q1 :: un :: pt q4 :: pt q9 :: un :: un :: .agg (rq (mdQ 0 1)) :: .string s :: iN .i64 s.size :: .bool true :: List.replicate 24 un).toArray, []⟩) (by kernel_rfl) ?_
  refine wp_cond_true (by kernel_rfl) ?_
  refine wp_seq ?_
  refine wl_region ?_
  refine wl_val (.agg (rq (mdQ 0 1))) (by kernel_rfl) (run_load34 (mdQ 0 1) (by kernel_rfl) (show Blk w12 q9 34 (rq (mdQ 0 1)) from h13.get 0 rfl)) ?_
  refine wl_fill (c' := rq (mdQ 0 1)) h13 1 rfl (by kernel_rfl) (by kernel_rfl) (by kernel_rfl) (rq_sz (mdQ 0 1) (Q4.mk 0 0 0 0)) (info34q (mdQ 0 1)) (one_rq (mdQ 0 1)) ?_
  intro w14 (h15 : HA w [(q9, 34, rq (mdQ 0 1)), (q4, 34, rq (mdQ 0 1)), (q1, 34, rq q)] w14)
  refine wl_nil ?_
  refine then_at (F := ⟨(.agg (rq q) :: .string s :: pt q1 :: un :: pt q4 :: pt q9 :: un :: un :: .agg (rq (mdQ 0 1)) :: .string s :: iN .i64 s.size :: .bool true :: .agg (rq (mdQ 0 1)) :: List.replicate 23 un).toArray, []⟩) (by kernel_rfl) ?_
  refine wp_ret ?_
  repeat first | refine then_ret ?_ | refine block_ret ?_
  have hB : Blk w14 q4 34 (rq (mdQ 0 1)) := h15.get 1 rfl
  exact bodyPost_ret (v := .agg (rq (mdQ 0 1))) (res34 (p := 4) (mdQ 0 1) (by kernel_rfl) (by kernel_rfl) hB) rfl ⟨rfl, h15.old⟩
end Go.Proofs.YtpaendmdcdeemaaDoor

namespace Go.Proofs.YtpaendmdcdeemaaDoor
open Go.RowKit Num


section
variable {ops : Array Oper} {Q : Exit → Act → World → Prop} {F : (Nat → Nat) → Act} {i i0 i1 j0 j1 : Nat} {dst : Option Tmp} {T ty : TypeId} {pos : String} {aft : Array Edge} {gd : Option (Nat × Bool)}
  {w0 : World} {L : List (Nat × TypeId × Array Value)} {pre : Nat → List Nat} {x0 x1 : Nat × TypeId × Array Value}
/-- what reads a block that is not filled -/
theorem gb_readf {o : Oper} {v : Value} {e : Nat × TypeId × Array Value} (m : Nat) (hm : L[m]? = some e) (hj0 : j0 ≠ m) (hj1 : j1 ≠ m) (hi : i ≠ i0) (hi1 : i ≠ i1) (he : ahead o.after (pre i) = true) (hw : ∀ g, Region.wanted o (yielded ops (F g).tmps) = true) (hp : ∀ g, (F g).put o.dst v = F g)
    (hr : ∀ g w, Blk w e.1 e.2.1 e.2.2 → (execOp (F g).eval o).run Tryd.prog w = .ok (.value v) w) : OpGhost Tryd.prog .any ops Q (GB w0 L pre i0 j0 x0 i1 j1 x1) F i o :=
  OpGhost.take (v := fun _ => v) hw hp (fun g _ w h ha => ⟨hr g w (h.get m hj0 hj1 hm), h.keep hi hi1 (ahead_ok he ha) (Below.refl _ w)⟩)
end
theorem res2734 {fn : Func} {p r : Tmp} {ts : Array Value} {q q' a b : Nat} {w : World} (Q : Q4) (hf : fn.results = #[.cell p 27, .cell r 34]) (ht : ts.getD p undef = .pointer (some ⟨q, 0, none⟩)) (hv : ts.getD r undef = .pointer (some ⟨q', 0, none⟩)) (h : Blk w q 27 (pr a b)) (h' : Blk w q' 34 (rq Q)) : (results fn ts).run Tryd.prog w = .ok (.tuple #[.agg (pr a b), .agg (rq Q)]) w := by
  have e1 := run_loadVar_mid (P := Tryd.prog) w q 0 27 (pr a b).toList _ h.range Tryd.underlying27 rfl (by simpa using info27p a b)
  have e2 := run_loadVar_mid (P := Tryd.prog) w q' 0 34 (rq Q).toList _ h'.range Tryd.underlying34 rfl (by simpa using info34q Q)
  have ht2 : ts[p]?.getD undef = .pointer (some ⟨q, 0, none⟩) := by simpa using ht
  have hv2 : ts[r]?.getD undef = .pointer (some ⟨q', 0, none⟩) := by simpa using hv
  simp [results, hf, Sem.run_bind, Result.andThen_ok, asAddr, ht2, hv2, e1, e2]
theorem rmul_ex {q : Q4} {p : Pt} (h : Rp q p) (s : ByteArray) (hs : s.size = 32) : ∃ r, Rp r (mP p (numS s)) ∧ ∀ w, Calls Tryd.prog 25 #[.agg (rq q), .string s] w fun e w' => e = .returned (.agg (rq r)) ∧ Below w.heap.size w w' := by
  have hr := rm_rep s hs h 256 (Nat.le_refl _)
  rw [Nat.sub_self, Nat.pow_zero, Nat.div_one] at hr
  exact ⟨_, hr, fun w => rMul_any s hs q h.lt w⟩
theorem radd_ex {q r : Q4} {p s : Pt} (h : Rp q p) (k : Rp r s) : ∃ t, Rp t (aP p s) ∧ ∀ w, Calls Tryd.prog 19 #[.agg (rq q), .agg (rq r)] w fun e w' => e = .returned (.agg (rq t)) ∧ Below w.heap.size w w' := ⟨_, h.sum k, fun w => rAdd_any q r h.lt k.lt w⟩
theorem rneg_ex {q : Q4} {p : Pt} (h : Rp q p) : ∃ t, Rp t (gP p) ∧ ∀ w, Calls Tryd.prog 21 #[.agg (rq q)] w fun e w' => e = .returned (.agg (rq t)) ∧ Below w.heap.size w w' := ⟨_, h.rneg, fun w => rNeg_any q h.lt w⟩
theorem rsame_yes {q r : Q4} {p s : Pt} (h : Rp q p) (k : Rp r s) (e : p = s) (w : World) : Calls Tryd.prog 23 #[.agg (rq q), .agg (rq r)] w fun e w' => e = .returned (.bool true) ∧ Below w.heap.size w w' :=
  rSame_yes q r h.lt k.lt ((rsame_x h k).2 (by rw [e])) ((rsame_y h k).2 (by rw [e])) w
theorem rsame_no {q r : Q4} {p s : Pt} (h : Rp q p) (k : Rp r s) (e : p ≠ s) (w : World) : Calls Tryd.prog 23 #[.agg (rq q), .agg (rq r)] w fun e w' => e = .returned (.bool false) ∧ Below w.heap.size w w' := by
  by_cases h1 : p.x = s.x
  · by_cases h2 : p.y = s.y
    · exact absurd (Pt.same h1 h2) e
    · exact rSame_no2 q r h.lt k.lt ((rsame_x h k).2 h1) (fun e => h2 ((rsame_y h k).1 e)) w
  · exact rSame_no1 q r h.lt k.lt (fun e => h1 ((rsame_x h k).1 e)) w

set_option linter.unusedVariables false in
set_option maxRecDepth 100000 in
set_option maxHeartbeats 2000000 in
theorem both_yes (l : List UInt8) (hl : l.length = 32) (a b : Nat) (p : Pt) (hp : Pn a b p) (q : Q4) (hq : Rp q p) (hc : ∀ w, Vars w → Calls Tryd.prog 12 #[.string (ByteArray.mk l.toArray)] w fun e w' => e = .returned (.tuple #[.agg (pr a b), .bool true]) ∧ Below w.heap.size w w') (hd : ∀ w, Calls Tryd.prog 13 #[.string (ByteArray.mk l.toArray)] w fun e w' => e = .returned (.tuple #[.agg (rq q), .bool true]) ∧ Below w.heap.size w w') (w : World) (VV : Vars w) :
    Calls Tryd.prog 17 #[.agg (cs l).toArray] w fun e w' => e = .returned (.tuple #[.agg (pr a b), .agg (rq q)]) ∧ Below w.heap.size w w' := by
  have H0 := HA.start w
  go_enter Tryd.func17, Tryd.ntmps17
  refine wp_seq ?_
  refine wl_region ?_
  refine wl_make H0 41 (by kernel_rfl) (run_box41 (c := (cs l).toArray) (by kernel_rfl)) ?_
  intro q1 w2 h3
  refine wl_make h3 27 (by kernel_rfl) run_alloc27 ?_
  intro q4 w5 h6
  refine wl_make h6 34 (by kernel_rfl) run_alloc34 ?_
  intro q7 w8 h9
  refine wl_nil ?_
  refine then_at (F := ⟨(.agg (cs l).toArray :: pt q1 :: pt q4 :: pt q7 :: List.replicate 28 un).toArray, []⟩) (by kernel_rfl) ?_
  refine wp_seq ?_
  refine wl_region ?_
  refine wl_val (.slice (some ⟨q1, 0, none⟩) 32 32) (by kernel_rfl) (run_cut41 (q := q1) (by kernel_rfl)) ?_
  refine wl_val (.string ⟨l.toArray⟩) (by kernel_rfl) (run_arrText hl (by kernel_rfl) (h9.get 2 rfl)) ?_
  refine wl_call (v := .tuple #[.agg (pr a b), .bool true]) h9 (by kernel_rfl) enter12 #[.string ⟨l.toArray⟩] (by kernel_rfl) (hc w8 (VV.below h9.old VV.big)) ?_
  intro w10 h11
  refine wl_val (.tuple #[.agg (pr a b), .bool true]) (by kernel_rfl) (by kernel_rfl) ?_
  refine wl_val (.agg (pr a b)) (by kernel_rfl) (by kernel_rfl) ?_
  refine wl_val (.bool true) (by kernel_rfl) (by kernel_rfl) ?_
  refine wl_make h11 27 (by kernel_rfl) run_alloc27 ?_
  intro q12 w13 h14
  refine wl_fill (c' := pr a b) h14 0 rfl (by kernel_rfl) (by kernel_rfl) (by kernel_rfl) (pr_sz a b 0 0) (info27p a b) (one_pr a b) ?_
  intro w15 (h16 : HA w [(q12, 27, pr a b), (q7, 34, rq (Q4.mk 0 0 0 0)), (q4, 27, pr 0 0), (q1, 41, (cs l).toArray)] w15)
  refine wl_val (.bool true) (by kernel_rfl) (by kernel_rfl) ?_
  refine wl_nil ?_
  refine then_at (F := ⟨(.agg (cs l).toArray :: pt q1 :: pt q4 :: pt q7 :: pt q12 :: .bool true :: un :: un :: .tuple #[.agg (pr a b), .bool true] :: .slice (some ⟨q1, 0, none⟩) 32 32 :: .string ⟨l.toArray⟩ :: .tuple #[.agg (pr a b), .bool true] :: .agg (pr a b) :: .bool true :: List.replicate 18 un).toArray, []⟩) (by kernel_rfl) ?_
  refine wp_seq ?_
  refine wl_region ?_
  refine wl_val (.slice (some ⟨q1, 0, none⟩) 32 32) (by kernel_rfl) (run_cut41 (q := q1) (by kernel_rfl)) ?_
  refine wl_val (.string ⟨l.toArray⟩) (by kernel_rfl) (run_arrText hl (by kernel_rfl) (h16.get 3 rfl)) ?_
  refine wl_call (v := .tuple #[.agg (rq q), .bool true]) h16 (by kernel_rfl) enter13 #[.string ⟨l.toArray⟩] (by kernel_rfl) (hd w15) ?_
  intro w17 h18
  refine wl_val (.tuple #[.agg (rq q), .bool true]) (by kernel_rfl) (by kernel_rfl) ?_
  refine wl_val (.agg (rq q)) (by kernel_rfl) (by kernel_rfl) ?_
  refine wl_val (.bool true) (by kernel_rfl) (by kernel_rfl) ?_
  refine wl_make h18 34 (by kernel_rfl) run_alloc34 ?_
  intro q19 w20 h21
  refine wl_fill (c' := rq q) h21 0 rfl (by kernel_rfl) (by kernel_rfl) (by kernel_rfl) (rq_sz q (Q4.mk 0 0 0 0)) (info34q q) (one_rq q) ?_
  intro w22 (h23 : HA w [(q19, 34, rq q), (q12, 27, pr a b), (q7, 34, rq (Q4.mk 0 0 0 0)), (q4, 27, pr 0 0), (q1, 41, (cs l).toArray)] w22)
  refine wl_val (.bool true) (by kernel_rfl) (by kernel_rfl) ?_
  refine wl_nil ?_
  refine then_at (F := ⟨(.agg (cs l).toArray :: pt q1 :: pt q4 :: pt q7 :: pt q12 :: .bool true :: pt q19 :: .bool true :: .tuple #[.agg (pr a b), .bool true] :: .slice (some ⟨q1, 0, none⟩) 32 32 :: .string ⟨l.toArray⟩ :: .tuple #[.agg (pr a b), .bool true] :: .agg (pr a b) :: .bool true :: .tuple #[.agg (rq q), .bool true] :: .slice (some ⟨q1, 0, none⟩) 32 32 :: .string ⟨l.toArray⟩ :: .tuple #[.agg (rq q), .bool true] :: .agg (rq q) :: .bool true :: List.replicate 12 un).toArray, []⟩) (by kernel_rfl) ?_
  refine wp_seq ?_
  refine wp_seq ?_
  refine wl_region ?_
  refine wl_val (.bool true) (by kernel_rfl) (by kernel_rfl) ?_
  refine wl_val (.bool false) (by kernel_rfl) (by kernel_rfl) ?_
  refine wl_nil ?_
  refine then_at (F := ⟨(.agg (cs l).toArray :: pt q1 :: pt q4 :: pt q7 :: pt q12 :: .bool true :: pt q19 :: .bool true :: .tuple #[.agg (pr a b), .bool true] :: .slice (some ⟨q1, 0, none⟩) 32 32 :: .string ⟨l.toArray⟩ :: .tuple #[.agg (pr a b), .bool true] :: .agg (pr a b) :: .bool true :: .tuple #[.agg (rq q), .bool true] :: .slice (some ⟨q1, 0, none⟩) 32 32 :: .string ⟨l.toArray⟩ :: .tuple #[.agg (rq q), .bool true] :: .agg (rq q) :: .bool true :: .bool true :: .bool false :: List.replicate 10 un).toArray, []⟩) (by kernel_rfl) ?_
  refine wp_cond_false (by kernel_rfl) ?_
  refine wp_skip ?_
  refine then_at (F := ⟨(.agg (cs l).toArray :: pt q1 :: pt q4 :: pt q7 :: pt q12 :: .bool true :: pt q19 :: .bool true :: .tuple #[.agg (pr a b), .bool true] :: .slice (some ⟨q1, 0, none⟩) 32 32 :: .string ⟨l.toArray⟩ :: .tuple #[.agg (pr a b), .bool true] :: .agg (pr a b) :: .bool true :: .tuple #[.agg (rq q), .bool true] :: .slice (some ⟨q1, 0, none⟩) 32 32 :: .string ⟨l.toArray⟩ :: .tuple #[.agg (rq q), .bool true] :: .agg (rq q) :: .bool true :: .bool true :: .bool false :: List.replicate 10 un).toArray, []⟩) (by kernel_rfl) ?_
  refine wp_seq ?_
  obtain ⟨C24, hC24⟩ : ∃ C, C = rq q := ⟨_, rfl⟩
  refine wp_region_ghost (fun _ : Nat → Nat => (⟨(.agg (cs l).toArray :: pt q1 :: pt q4 :: pt q7 :: pt q12 :: .bool true :: pt q19 :: .bool true :: .tuple #[.agg (pr a b), .bool true] :: .slice (some ⟨q1, 0, none⟩) 32 32 :: .string ⟨l.toArray⟩ :: .tuple #[.agg (pr a b), .bool true] :: .agg (pr a b) :: .bool true :: .tuple #[.agg (rq q), .bool true] :: .slice (some ⟨q1, 0, none⟩) 32 32 :: .string ⟨l.toArray⟩ :: .tuple #[.agg (rq q), .bool true] :: .agg (rq q) :: .bool true :: .bool true :: .bool false :: un :: un :: un :: un :: un :: un :: un :: un :: .agg (pr a b) :: .agg C24 :: List.replicate 0 un).toArray, []⟩ : Act)) (GB w [(q19, 34, rq q), (q12, 27, pr a b), (q7, 34, rq (Q4.mk 0 0 0 0)), (q4, 27, pr 0 0), (q1, 41, (cs l).toArray)] (fun i => ([[], [], [0], [2, 1]] : List (List Nat)).getD i []) 2 3 (q4, 27, pr a b) 3 2 (q7, 34, C24)) [.agg (pr a b), .agg C24, undef, undef] (by kernel_rfl) (by kernel_rfl) (by kernel_rfl) (by kernel_rfl) (fun _ _ _ _ h => h) (fun d hd => GB.start h23.drew (hd 2 (by decide)) (hd 3 (by decide)) (Cl.start hd (by decide))) ?_ ?_
  · refine AllGhost.cons (gb_readf (v := .agg (pr a b)) (e := (q12, 27, pr a b)) 1 rfl (by decide) (by decide) (by decide) (by decide) (by kernel_rfl) (fun _ => by kernel_rfl) (fun _ => by kernel_rfl) (fun _ _ hb => run_load_blk (by kernel_rfl) hb Tryd.underlying27 rfl (info27p a b))) ?_
    refine AllGhost.cons (gb_readf (v := .agg C24) (e := (q19, 34, rq q)) 0 rfl (by decide) (by decide) (by decide) (by decide) (by kernel_rfl) (fun _ => by kernel_rfl) (fun _ => by kernel_rfl) (fun _ _ hb => (by rw [hC24]; exact run_load34 q (by kernel_rfl) hb))) ?_
    refine AllGhost.cons (gb_fill0 rfl (pr_sz a b 0 0) (by decide) (by decide) (by kernel_rfl) (fun _ => by kernel_rfl) (fun _ => by kernel_rfl) (fun _ => by kernel_rfl) (fun _ => by kernel_rfl) (info27p a b) (one_pr a b)) ?_
    refine AllGhost.cons (gb_fill1 rfl (by rw [hC24]; exact (rq_sz q (Q4.mk 0 0 0 0))) (by decide) (by decide) (by kernel_rfl) (fun _ => by kernel_rfl) (fun _ => by kernel_rfl) (fun _ => by kernel_rfl) (fun _ => by kernel_rfl) (by rw [hC24]; exact (info34q q)) (by rw [hC24]; exact (one_rq q))) ?_
    exact AllGhost.nil
  intro _ w25 g26
  have h27 : HA w [(q19, 34, rq q), (q12, 27, pr a b), (q7, 34, C24), (q4, 27, pr a b), (q1, 41, (cs l).toArray)] w25 := g26.held
  clear g26
  subst hC24
  refine then_at (F := ⟨(.agg (cs l).toArray :: pt q1 :: pt q4 :: pt q7 :: pt q12 :: .bool true :: pt q19 :: .bool true :: .tuple #[.agg (pr a b), .bool true] :: .slice (some ⟨q1, 0, none⟩) 32 32 :: .string ⟨l.toArray⟩ :: .tuple #[.agg (pr a b), .bool true] :: .agg (pr a b) :: .bool true :: .tuple #[.agg (rq q), .bool true] :: .slice (some ⟨q1, 0, none⟩) 32 32 :: .string ⟨l.toArray⟩ :: .tuple #[.agg (rq q), .bool true] :: .agg (rq q) :: .bool true :: .bool true :: .bool false :: un :: un :: un :: un :: un :: un :: un :: un :: .agg (pr a b) :: .agg (rq q) :: List.replicate 0 un).toArray, []⟩) (by kernel_rfl) ?_
  refine wp_ret ?_
  repeat first | refine then_ret ?_ | refine block_ret ?_
  have hA : Blk w25 q4 27 (pr a b) := h27.get 3 rfl
  have hB : Blk w25 q7 34 (rq q) := h27.get 2 rfl
  exact bodyPost_ret (v := .tuple #[.agg (pr a b), .agg (rq q)]) (res2734 (p := 2) (r := 3) q (by kernel_rfl) (by kernel_rfl) (by kernel_rfl) hA hB) rfl ⟨rfl, h27.old⟩

set_option linter.unusedVariables false in
set_option maxRecDepth 100000 in
set_option maxHeartbeats 2000000 in
theorem both_no (l : List UInt8) (hl : l.length = 32) (a b : Nat) (p : Pt) (hp : Pn a b p) (q : Q4) (hq : Rp q p) (hc : ∀ w, Vars w → Calls Tryd.prog 12 #[.string (ByteArray.mk l.toArray)] w fun e w' => e = .returned (.tuple #[.agg (pr 0 0), .bool false]) ∧ Below w.heap.size w w') (hd : ∀ w, Calls Tryd.prog 13 #[.string (ByteArray.mk l.toArray)] w fun e w' => e = .returned (.tuple #[.agg (rq (mdQ 0 1)), .bool false]) ∧ Below w.heap.size w w') (hm : ∀ w, Vars w → Calls Tryd.prog 24 #[.agg (pr bX (subP bY 1)), .string (ByteArray.mk l.toArray)] w fun e w' => e = .returned (.agg (pr a b)) ∧ Below w.heap.size w w') (hn : ∀ w, Calls Tryd.prog 25 #[.agg (rq (mdQ bX bY)), .string (ByteArray.mk l.toArray)] w fun e w' => e = .returned (.agg (rq q)) ∧ Below w.heap.size w w') (w : World) (VV : Vars w) :
    Calls Tryd.prog 17 #[.agg (cs l).toArray] w fun e w' => e = .returned (.tuple #[.agg (pr a b), .agg (rq q)]) ∧ Below w.heap.size w w' := by
  have H0 := HA.start w
  go_enter Tryd.func17, Tryd.ntmps17
  refine wp_seq ?_
  refine wl_region ?_
  refine wl_make H0 41 (by kernel_rfl) (run_box41 (c := (cs l).toArray) (by kernel_rfl)) ?_
  intro q1 w2 h3
  refine wl_make h3 27 (by kernel_rfl) run_alloc27 ?_
  intro q4 w5 h6
  refine wl_make h6 34 (by kernel_rfl) run_alloc34 ?_
  intro q7 w8 h9
  refine wl_nil ?_
  refine then_at (F := ⟨(.agg (cs l).toArray :: pt q1 :: pt q4 :: pt q7 :: List.replicate 28 un).toArray, []⟩) (by kernel_rfl) ?_
  refine wp_seq ?_
  refine wl_region ?_
  refine wl_val (.slice (some ⟨q1, 0, none⟩) 32 32) (by kernel_rfl) (run_cut41 (q := q1) (by kernel_rfl)) ?_
  refine wl_val (.string ⟨l.toArray⟩) (by kernel_rfl) (run_arrText hl (by kernel_rfl) (h9.get 2 rfl)) ?_
  refine wl_call (v := .tuple #[.agg (pr 0 0), .bool false]) h9 (by kernel_rfl) enter12 #[.string ⟨l.toArray⟩] (by kernel_rfl) (hc w8 (VV.below h9.old VV.big)) ?_
  intro w10 h11
  refine wl_val (.tuple #[.agg (pr 0 0), .bool false]) (by kernel_rfl) (by kernel_rfl) ?_
  refine wl_val (.agg (pr 0 0)) (by kernel_rfl) (by kernel_rfl) ?_
  refine wl_val (.bool false) (by kernel_rfl) (by kernel_rfl) ?_
  refine wl_make h11 27 (by kernel_rfl) run_alloc27 ?_
  intro q12 w13 h14
  refine wl_fill (c' := pr 0 0) h14 0 rfl (by kernel_rfl) (by kernel_rfl) (by kernel_rfl) (pr_sz 0 0 0 0) (info27p 0 0) (one_pr 0 0) ?_
  intro w15 (h16 : HA w [(q12, 27, pr 0 0), (q7, 34, rq (Q4.mk 0 0 0 0)), (q4, 27, pr 0 0), (q1, 41, (cs l).toArray)] w15)
  refine wl_val (.bool false) (by kernel_rfl) (by kernel_rfl) ?_
  refine wl_nil ?_
  refine then_at (F := ⟨(.agg (cs l).toArray :: pt q1 :: pt q4 :: pt q7 :: pt q12 :: .bool false :: un :: un :: .tuple #[.agg (pr 0 0), .bool false] :: .slice (some ⟨q1, 0, none⟩) 32 32 :: .string ⟨l.toArray⟩ :: .tuple #[.agg (pr 0 0), .bool false] :: .agg (pr 0 0) :: .bool false :: List.replicate 18 un).toArray, []⟩) (by kernel_rfl) ?_
  refine wp_seq ?_
  refine wl_region ?_
  refine wl_val (.slice (some ⟨q1, 0, none⟩) 32 32) (by kernel_rfl) (run_cut41 (q := q1) (by kernel_rfl)) ?_
  refine wl_val (.string ⟨l.toArray⟩) (by kernel_rfl) (run_arrText hl (by kernel_rfl) (h16.get 3 rfl)) ?_
  refine wl_call (v := .tuple #[.agg (rq (mdQ 0 1)), .bool false]) h16 (by kernel_rfl) enter13 #[.string ⟨l.toArray⟩] (by kernel_rfl) (hd w15) ?_
  intro w17 h18
  refine wl_val (.tuple #[.agg (rq (mdQ 0 1)), .bool false]) (by kernel_rfl) (by kernel_rfl) ?_
  refine wl_val (.agg (rq (mdQ 0 1))) (by kernel_rfl) (by kernel_rfl) ?_
  refine wl_val (.bool false) (by kernel_rfl) (by kernel_rfl) ?_
  refine wl_make h18 34 (by kernel_rfl) run_alloc34 ?_
  intro q19 w20 h21
  refine wl_fill (c' := rq (mdQ 0 1)) h21 0 rfl (by kernel_rfl) (by kernel_rfl) (by kernel_rfl) (rq_sz (mdQ 0 1) (Q4.mk 0 0 0 0)) (info34q (mdQ 0 1)) (one_rq (mdQ 0 1)) ?_
  intro w22 (h23 : HA w [(q19, 34, rq (mdQ 0 1)), (q12, 27, pr 0 0), (q7, 34, rq (Q4.mk 0 0 0 0)), (q4, 27, pr 0 0), (q1, 41, (cs l).toArray)] w22)
  refine wl_val (.bool false) (by kernel_rfl) (by kernel_rfl) ?_
  refine wl_nil ?_
  refine then_at (F := ⟨(.agg (cs l).toArray :: pt q1 :: pt q4 :: pt q7 :: pt q12 :: .bool false :: pt q19 :: .bool false :: .tuple #[.agg (pr 0 0), .bool false] :: .slice (some ⟨q1, 0, none⟩) 32 32 :: .string ⟨l.toArray⟩ :: .tuple #[.agg (pr 0 0), .bool false] :: .agg (pr 0 0) :: .bool false :: .tuple #[.agg (rq (mdQ 0 1)), .bool false] :: .slice (some ⟨q1, 0, none⟩) 32 32 :: .string ⟨l.toArray⟩ :: .tuple #[.agg (rq (mdQ 0 1)), .bool false] :: .agg (rq (mdQ 0 1)) :: .bool false :: List.replicate 12 un).toArray, []⟩) (by kernel_rfl) ?_
  refine wp_seq ?_
  refine wp_seq ?_
  refine wl_region ?_
  refine wl_val (.bool false) (by kernel_rfl) (by kernel_rfl) ?_
  refine wl_val (.bool true) (by kernel_rfl) (by kernel_rfl) ?_
  refine wl_nil ?_
  refine then_at (F := ⟨(.agg (cs l).toArray :: pt q1 :: pt q4 :: pt q7 :: pt q12 :: .bool false :: pt q19 :: .bool false :: .tuple #[.agg (pr 0 0), .bool false] :: .slice (some ⟨q1, 0, none⟩) 32 32 :: .string ⟨l.toArray⟩ :: .tuple #[.agg (pr 0 0), .bool false] :: .agg (pr 0 0) :: .bool false :: .tuple #[.agg (rq (mdQ 0 1)), .bool false] :: .slice (some ⟨q1, 0, none⟩) 32 32 :: .string ⟨l.toArray⟩ :: .tuple #[.agg (rq (mdQ 0 1)), .bool false] :: .agg (rq (mdQ 0 1)) :: .bool false :: .bool false :: .bool true :: List.replicate 10 un).toArray, []⟩) (by kernel_rfl) ?_
  refine wp_cond_true (by kernel_rfl) ?_
  refine wp_seq ?_
  obtain ⟨C24, hC24⟩ : ∃ C, C = rq q := ⟨_, rfl⟩
  refine wp_region_ghost (fun _ : Nat → Nat => (⟨(.agg (cs l).toArray :: pt q1 :: pt q4 :: pt q7 :: pt q12 :: .bool false :: pt q19 :: .bool false :: .tuple #[.agg (pr 0 0), .bool false] :: .slice (some ⟨q1, 0, none⟩) 32 32 :: .string ⟨l.toArray⟩ :: .tuple #[.agg (pr 0 0), .bool false] :: .agg (pr 0 0) :: .bool false :: .tuple #[.agg (rq (mdQ 0 1)), .bool false] :: .slice (some ⟨q1, 0, none⟩) 32 32 :: .string ⟨l.toArray⟩ :: .tuple #[.agg (rq (mdQ 0 1)), .bool false] :: .agg (rq (mdQ 0 1)) :: .bool false :: .bool false :: .bool true :: .agg (pr bX ((subP bY 1))) :: .slice (some ⟨q1, 0, none⟩) 32 32 :: .string ⟨l.toArray⟩ :: .agg (pr a b) :: .agg (rq (mdQ bX bY)) :: .slice (some ⟨q1, 0, none⟩) 32 32 :: .string ⟨l.toArray⟩ :: .agg C24 :: List.replicate 2 un).toArray, []⟩ : Act)) (GB w [(q19, 34, rq (mdQ 0 1)), (q12, 27, pr 0 0), (q7, 34, rq (Q4.mk 0 0 0 0)), (q4, 27, pr 0 0), (q1, 41, (cs l).toArray)] (fun i => ([[], [], [1], [0, 2], [], [], [5], [4, 6], [3], [8, 7]] : List (List Nat)).getD i []) 8 3 (q4, 27, pr a b) 9 2 (q7, 34, C24)) [.agg (pr bX ((subP bY 1))), .slice (some ⟨q1, 0, none⟩) 32 32, .string ⟨l.toArray⟩, .agg (pr a b), .agg (rq (mdQ bX bY)), .slice (some ⟨q1, 0, none⟩) 32 32, .string ⟨l.toArray⟩, .agg C24, undef, undef] (by kernel_rfl) (by kernel_rfl) (by kernel_rfl) (by kernel_rfl) (fun _ _ _ _ h => h) (fun d hd => GB.start h23.drew (hd 8 (by decide)) (hd 9 (by decide)) (Cl.start hd (by decide))) ?_ ?_
  · refine AllGhost.cons (gb_callh (v := .agg (pr bX ((subP bY 1)))) (by decide) (by decide) (by kernel_rfl) (fun _ => by kernel_rfl) (fun _ => by kernel_rfl) enter32 #[] (fun _ => by kernel_rfl) (fun w' ho => Base_any w' (VV.below ho VV.big))) ?_
    refine AllGhost.cons (gb_plain (v := .slice (some ⟨q1, 0, none⟩) 32 32) (by decide) (by decide) (by kernel_rfl) (fun _ => by kernel_rfl) (fun _ => by kernel_rfl) (fun _ _ => (run_cut41 (q := q1) (by kernel_rfl)))) ?_
    refine AllGhost.cons (gb_readf (v := .string ⟨l.toArray⟩) (e := (q1, 41, (cs l).toArray)) 4 rfl (by decide) (by decide) (by decide) (by decide) (by kernel_rfl) (fun _ => by kernel_rfl) (fun _ => by kernel_rfl) (fun _ _ hb => run_arrText hl (by kernel_rfl) hb)) ?_
    refine AllGhost.cons (gb_callh (v := .agg (pr a b)) (by decide) (by decide) (by kernel_rfl) (fun _ => by kernel_rfl) (fun _ => by kernel_rfl) enter24 #[.agg (pr bX ((subP bY 1))), .string ⟨l.toArray⟩] (fun _ => by kernel_rfl) (fun w' ho => hm w' (VV.below ho VV.big))) ?_
    refine AllGhost.cons (gb_callh (v := .agg (rq (mdQ bX bY))) (by decide) (by decide) (by kernel_rfl) (fun _ => by kernel_rfl) (fun _ => by kernel_rfl) enter54 #[] (fun _ => by kernel_rfl) (fun w' ho => rBase_any w')) ?_
    refine AllGhost.cons (gb_plain (v := .slice (some ⟨q1, 0, none⟩) 32 32) (by decide) (by decide) (by kernel_rfl) (fun _ => by kernel_rfl) (fun _ => by kernel_rfl) (fun _ _ => (run_cut41 (q := q1) (by kernel_rfl)))) ?_
    refine AllGhost.cons (gb_readf (v := .string ⟨l.toArray⟩) (e := (q1, 41, (cs l).toArray)) 4 rfl (by decide) (by decide) (by decide) (by decide) (by kernel_rfl) (fun _ => by kernel_rfl) (fun _ => by kernel_rfl) (fun _ _ hb => run_arrText hl (by kernel_rfl) hb)) ?_
    refine AllGhost.cons (gb_callh (v := .agg C24) (by decide) (by decide) (by kernel_rfl) (fun _ => by kernel_rfl) (fun _ => by kernel_rfl) enter25 #[.agg (rq (mdQ bX bY)), .string ⟨l.toArray⟩] (fun _ => by kernel_rfl) (fun w' ho => (by rw [hC24]; exact hn w'))) ?_
    refine AllGhost.cons (gb_fill0 rfl (pr_sz a b 0 0) (by decide) (by decide) (by kernel_rfl) (fun _ => by kernel_rfl) (fun _ => by kernel_rfl) (fun _ => by kernel_rfl) (fun _ => by kernel_rfl) (info27p a b) (one_pr a b)) ?_
    refine AllGhost.cons (gb_fill1 rfl (by rw [hC24]; exact (rq_sz q (Q4.mk 0 0 0 0))) (by decide) (by decide) (by kernel_rfl) (fun _ => by kernel_rfl) (fun _ => by kernel_rfl) (fun _ => by kernel_rfl) (fun _ => by kernel_rfl) (by rw [hC24]; exact (info34q q)) (by rw [hC24]; exact (one_rq q))) ?_
    exact AllGhost.nil
  intro _ w25 g26
  have h27 : HA w [(q19, 34, rq (mdQ 0 1)), (q12, 27, pr 0 0), (q7, 34, C24), (q4, 27, pr a b), (q1, 41, (cs l).toArray)] w25 := g26.held
  clear g26
  subst hC24
  refine then_at (F := ⟨(.agg (cs l).toArray :: pt q1 :: pt q4 :: pt q7 :: pt q12 :: .bool false :: pt q19 :: .bool false :: .tuple #[.agg (pr 0 0), .bool false] :: .slice (some ⟨q1, 0, none⟩) 32 32 :: .string ⟨l.toArray⟩ :: .tuple #[.agg (pr 0 0), .bool false] :: .agg (pr 0 0) :: .bool false :: .tuple #[.agg (rq (mdQ 0 1)), .bool false] :: .slice (some ⟨q1, 0, none⟩) 32 32 :: .string ⟨l.toArray⟩ :: .tuple #[.agg (rq (mdQ 0 1)), .bool false] :: .agg (rq (mdQ 0 1)) :: .bool false :: .bool false :: .bool true :: .agg (pr bX ((subP bY 1))) :: .slice (some ⟨q1, 0, none⟩) 32 32 :: .string ⟨l.toArray⟩ :: .agg (pr a b) :: .agg (rq (mdQ bX bY)) :: .slice (some ⟨q1, 0, none⟩) 32 32 :: .string ⟨l.toArray⟩ :: .agg (rq q) :: List.replicate 2 un).toArray, []⟩) (by kernel_rfl) ?_
  refine wp_ret ?_
  repeat first | refine then_ret ?_ | refine block_ret ?_
  have hA : Blk w25 q4 27 (pr a b) := h27.get 3 rfl
  have hB : Blk w25 q7 34 (rq q) := h27.get 2 rfl
  exact bodyPost_ret (v := .tuple #[.agg (pr a b), .agg (rq q)]) (res2734 (p := 2) (r := 3) q (by kernel_rfl) (by kernel_rfl) (by kernel_rfl) hA hB) rfl ⟨rfl, h27.old⟩

theorem both_ex (l : List UInt8) (hl : l.length = 32) : ∃ a b p q, Pn a b p ∧ Rp q p ∧ ∀ w, Vars w → Calls Tryd.prog 17 #[.agg (cs l).toArray] w fun e w' => e = .returned (.tuple #[.agg (pr a b), .agg (rq q)]) ∧ Below w.heap.size w w' := by
  rcases both_of (ByteArray.mk l.toArray) with ⟨a, b, p, q, hp, hq, hc, hd⟩ | ⟨hc, hd⟩
  · exact ⟨a, b, p, q, hp, hq, fun w VV => both_yes l hl a b p hp q hq hc hd w VV⟩
  · obtain ⟨x, y, hx, hm⟩ := mul_ex Pn.base (ByteArray.mk l.toArray) (sz_l l hl)
    obtain ⟨r, hr, hn⟩ := rmul_ex Rp.base (ByteArray.mk l.toArray) (sz_l l hl)
    exact ⟨x, y, _, r, hx, hr, fun w VV => both_no l hl x y _ hx r hr hc hd hm hn w VV⟩
end Go.Proofs.YtpaendmdcdeemaaDoor
