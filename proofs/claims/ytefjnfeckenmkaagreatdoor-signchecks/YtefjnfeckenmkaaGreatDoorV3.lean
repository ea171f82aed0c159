/-
 The reference's points are the program's.
-/
import Derived.Test.YtefjnfeckenmkaaGreatDoorCvK
namespace Go.Proofs.YtefjnfeckenmkaaGreatDoor
open Go.RowKit Num
theorem run_load34 {ρ : Operand → Value} {x : Operand} {w : World} {dst : Option Tmp} {ty : TypeId} {pos : String} {aft : Array Edge} {gd : Option (Nat × Bool)} {q : Nat} (Q : Q4) (hx : ρ x = .pointer (some ⟨q, 0, none⟩)) (h : Blk w q 53 (rq Q)) : (execOp ρ ⟨dst, .load 53 x, ty, pos, aft, gd⟩).run Tryz.prog w = .ok (.value (.agg (rq Q))) w := run_load_blk (hx := hx) h Tryz.underlying53 rfl (info34q Q)
theorem Rp.made {x y : Nat} {p : Pt} (lx : x < P) (ly : y < P) (hx : toF x = p.x) (hy : toF y = p.y) : Rp (mdQ x y) p := ⟨mdQ_lt lx ly, F_one, by show toF x = p.x * toF 1; rw [hx, toF_one]; grobner, by show toF y = p.y * toF 1; rw [hy, toF_one]; grobner, by
 show toF (mulP x y) = p.x * p.y * toF 1
 rw [toF_mul, hx, hy, toF_one]
 grobner⟩
theorem Rp.none : Rp (mdQ 0 1) nP := Rp.made (by decide) (by decide) rfl rfl
end Go.Proofs.YtefjnfeckenmkaaGreatDoor

namespace Go.Proofs.YtefjnfeckenmkaaGreatDoor
set_option linter.unusedVariables false
set_option maxRecDepth 100000
set_option maxHeartbeats 4000000
open Go.RowKit Num
def suQ (q r : Q4) : Q4 :=
  ⟨mulP (addP (mulP q.X r.Y) (mulP r.X q.Y)) (subP (mulP q.Z r.Z) (mulP dN (mulP q.T r.T))), mulP (addP (mulP q.Y r.Y) (mulP q.X r.X)) (addP (mulP q.Z r.Z) (mulP dN (mulP q.T r.T))),
   mulP (addP (mulP q.Z r.Z) (mulP dN (mulP q.T r.T))) (subP (mulP q.Z r.Z) (mulP dN (mulP q.T r.T))), mulP (addP (mulP q.X r.Y) (mulP r.X q.Y)) (addP (mulP q.Y r.Y) (mulP q.X r.X))⟩
theorem suQ_lt (q r : Q4) : (suQ q r).lt := ⟨mulP_lt _ _, mulP_lt _ _, mulP_lt _ _, mulP_lt _ _⟩
theorem sum_id (d x y Z x2 y2 Z2 x3 y3 : F) (hx : x3 * (1 + d * x * x2 * y * y2) = x * y2 + x2 * y) (hy : y3 * (1 - d * x * x2 * y * y2) = y * y2 + x * x2) :
  let e := x * Z * (y2 * Z2) + x2 * Z2 * (y * Z)
  let g := y * Z * (y2 * Z2) + x * Z * (x2 * Z2)
  let f := Z * Z2 + d * (x * y * Z * (x2 * y2 * Z2))
  let h := Z * Z2 - d * (x * y * Z * (x2 * y2 * Z2))
  e * h = x3 * (f * h) ∧ g * f = y3 * (f * h) ∧ e * g = x3 * y3 * (f * h) ∧ f * h = (Z * Z2) * (Z * Z2) * ((1 + d * x * x2 * y * y2) * (1 - d * x * x2 * y * y2)) := by
 intro e g f h
 have ef : f = Z * Z2 * (1 + d * x * x2 * y * y2) := by grobner
 have eh : h = Z * Z2 * (1 - d * x * x2 * y * y2) := by grobner
 have ee : e = Z * Z2 * (x * y2 + x2 * y) := by grobner
 have eg : g = Z * Z2 * (y * y2 + x * x2) := by grobner
 clear_value e g f h
 rw [← hx] at ee
 rw [← hy] at eg
 generalize 1 + d * x * x2 * y * y2 = A at *
 generalize 1 - d * x * x2 * y * y2 = B at *
 subst ee eg ef eh
 clear hx hy
 refine ⟨?_, ?_, ?_, ?_⟩ <;> grobner
theorem Rp.sum {q r : Q4} {p s : Pt} (h : Rp q p) (k : Rp r s) : Rp (suQ q r) (aP p s) := by
 obtain ⟨i1, i2, i3, i4⟩ := sum_id dE p.x p.y (toF q.Z) s.x s.y (toF r.Z) (aP p s).x (aP p s).y (sx_eq p.on s.on) (sy_eq p.on s.on)
 have hd : toF dN = dE := rfl
 have e1 : toF (addP (mulP q.X r.Y) (mulP r.X q.Y)) = p.x * toF q.Z * (s.y * toF r.Z) + s.x * toF r.Z * (p.y * toF q.Z) := by rw [toF_add, toF_mul, toF_mul, h.x, h.y, k.x, k.y]
 have e2 : toF (addP (mulP q.Y r.Y) (mulP q.X r.X)) = p.y * toF q.Z * (s.y * toF r.Z) + p.x * toF q.Z * (s.x * toF r.Z) := by rw [toF_add, toF_mul, toF_mul, h.x, h.y, k.x, k.y]
 have e3 : toF (addP (mulP q.Z r.Z) (mulP dN (mulP q.T r.T))) = toF q.Z * toF r.Z + dE * (p.x * p.y * toF q.Z * (s.x * s.y * toF r.Z)) := by rw [toF_add, toF_mul, toF_mul, toF_mul, h.t, k.t, hd]
 have e4 : toF (subP (mulP q.Z r.Z) (mulP dN (mulP q.T r.T))) = toF q.Z * toF r.Z - dE * (p.x * p.y * toF q.Z * (s.x * s.y * toF r.Z)) := by rw [toF_sub _ _ (mulP_lt _ _), toF_mul, toF_mul, toF_mul, h.t, k.t, hd]
 have hX : toF (suQ q r).X = _ := (toF_mul _ _).trans (by rw [e1, e4])
 have hY : toF (suQ q r).Y = _ := (toF_mul _ _).trans (by rw [e2, e3])
 have hZ : toF (suQ q r).Z = _ := (toF_mul _ _).trans (by rw [e3, e4])
 have hT : toF (suQ q r).T = _ := (toF_mul _ _).trans (by rw [e1, e2])
 refine ⟨suQ_lt q r, ?_, ?_, ?_, ?_⟩
 ·rw [hZ, i4]
  exact F_ne (F_ne (F_ne h.nz k.nz) (F_ne h.nz k.nz)) (F_ne (plus_ne p.on s.on) (less_ne p.on s.on))
 ·rw [hX, hZ, i1]
 ·rw [hY, hZ, i2]
 ·rw [hT, hZ, i3]
theorem rsame_x {q r : Q4} {p s : Pt} (h : Rp q p) (k : Rp r s) : mulP q.X r.Z = mulP r.X q.Z ↔ p.x = s.x := by
 constructor
 ·intro e
  have e2 := congrArg toF e
  rw [toF_mul, toF_mul, h.x, k.x] at e2
  refine F_cancel (F_ne h.nz k.nz) ?_
  grobner
 ·intro e
  apply toF_inj (mulP_lt _ _) (mulP_lt _ _)
  rw [toF_mul, toF_mul, h.x, k.x, e]
  grobner
theorem rsame_y {q r : Q4} {p s : Pt} (h : Rp q p) (k : Rp r s) : mulP q.Y r.Z = mulP r.Y q.Z ↔ p.y = s.y := by
 constructor
 ·intro e
  have e2 := congrArg toF e
  rw [toF_mul, toF_mul, h.y, k.y] at e2
  refine F_cancel (F_ne h.nz k.nz) ?_
  grobner
 ·intro e
  apply toF_inj (mulP_lt _ _) (mulP_lt _ _)
  rw [toF_mul, toF_mul, h.y, k.y, e]
  grobner
def rmQ (s : ByteArray) (q : Q4) : Nat → Q4
 | 0 => mdQ 0 1
 | k + 1 => if numS s / 2 ^ (255 - k) % 2 = 1 then suQ (suQ (rmQ s q k) (rmQ s q k)) q else suQ (rmQ s q k) (rmQ s q k)
theorem rmQ_lt (s : ByteArray) (q : Q4) : ∀ k, (rmQ s q k).lt
 | 0 => mdQ_lt (by decide) (by decide)
 | k + 1 => by
  unfold rmQ
  split
  ·exact suQ_lt _ _
  ·exact suQ_lt _ _
theorem rmQ_one (s : ByteArray) (q : Q4) (k j : Nat) (e : 256 - k = j + 1) (h : numS s / 2 ^ j % 2 = 1) : suQ (suQ (rmQ s q k) (rmQ s q k)) q = rmQ s q (k + 1) := by rw [rmQ, show 255 - k = j by omega, if_pos h]
theorem rmQ_nil (s : ByteArray) (q : Q4) (k j : Nat) (e : 256 - k = j + 1) (h : ¬ numS s / 2 ^ j % 2 = 1) : suQ (rmQ s q k) (rmQ s q k) = rmQ s q (k + 1) := by rw [rmQ, show 255 - k = j by omega, if_neg h]
theorem rm_rep (s : ByteArray) (hs : s.size = 32) {q : Q4} {p : Pt} (h : Rp q p) : ∀ k, k ≤ 256 → Rp (rmQ s q k) (mP p (numS s / 2 ^ (256 - k)))
 | 0, _ => by
  rw [Nat.div_eq_of_lt (numS_256 s hs)]
  exact Rp.none
 | k + 1, hk => by
  have ih := rm_rep s hs h k (by omega)
  have e : 256 - (k + 1) = 255 - k := by omega
  have e2 : 256 - k = (255 - k) + 1 := by omega
  rw [e2] at ih
  rw [e, gen_half (numS s) (255 - k)]
  have hd := ih.sum ih
  rw [← mP_two] at hd
  by_cases hb : numS s / 2 ^ (255 - k) % 2 = 1
  ·rw [← rmQ_one s q k (255 - k) e2 hb, hb]
   exact hd.sum h
  ·rw [← rmQ_nil s q k (255 - k) e2 hb, show numS s / 2 ^ (255 - k) % 2 = 0 by omega]
   exact hd
theorem base_q : mulP 4 (invE 5) = bY := by rw [invE_pm]; decide +kernel
theorem base_root : rootP (bsq bY) = some bX := by
 have e : bsq bY = mulP bX bX := by unfold bsq; rw [invE_pm]; decide +kernel
 rw [e, rootP_of]
 decide +kernel
theorem Rp.base : Rp (mdQ bX bY) bP := Rp.made bX_lt bY_lt rfl rfl
theorem rsum_any (q : Q4) (r : Q4) (hq : q.lt) (hr : r.lt) (w : World) :
  Calls Tryz.prog 76 #[rarr dN, .agg (rq q), .agg (rq r)] w fun e w' => e = .returned (.agg (rq (suQ q r))) ∧ Below w.heap.size w w' := by
 have H0 := HA.start w
 go_enter Tryz.func76, Tryz.ntmps76
 refine zsr ?_
 refine wl_make H0 51 (run_box32 (c := rl dN)) ?_
 intro q1 w2 h3
 refine wl_make h3 53 (run_box34 (c := rq q)) ?_
 intro q4 w5 h6
 refine wl_make h6 53 (run_box34 (c := rq r)) ?_
 intro q7 w8 h9
 refine wl_make h9 53 run_alloc34 ?_
 intro q10 w11 h12
 refine znt ?_
 refine zsr ?_
 refine zwv (.pointer (some ⟨q4, 0, none⟩)) ?_
 refine zwu (run_part32 (q := q4) (off := 16 * 0) (n := q.X) (h12.get 2 rfl) (rq_get q).1) ?_
 refine zwv (.pointer (some ⟨q7, 16, none⟩)) ?_
 refine zwu (run_part32 (q := q7) (off := 16 * 1) (n := r.Y) (h12.get 1 rfl) (rq_get r).2.1) ?_
 refine zwc h12 enter52 (wmul_any q.X r.Y hq.1 hr.2.1 w11) ?_
 intro w13 h14
 refine wl_make h14 51 run_alloc32 ?_
 intro q15 w16 h17
 refine wl_fill (c' := rl (mulP q.X r.Y)) h17 0 rfl (rl_sz (mulP q.X r.Y) 0) (info_rl (mulP q.X r.Y)) (one_rl (mulP q.X r.Y)) ?_
 intro w18 (h19 : HA w [(q15, 51, rl (mulP q.X r.Y)), (q10, 53, rq (Q4.mk 0 0 0 0)), (q7, 53, rq r), (q4, 53, rq q), (q1, 51, rl dN)] w18)
 refine znt ?_
 refine zsr ?_
 refine zwv (.pointer (some ⟨q7, 0, none⟩)) ?_
 refine zwu (run_part32 (q := q7) (off := 16 * 0) (n := r.X) (h19.get 2 rfl) (rq_get r).1) ?_
 refine zwv (.pointer (some ⟨q4, 16, none⟩)) ?_
 refine zwu (run_part32 (q := q4) (off := 16 * 1) (n := q.Y) (h19.get 3 rfl) (rq_get q).2.1) ?_
 refine zwc h19 enter52 (wmul_any r.X q.Y hr.1 hq.2.1 w18) ?_
 intro w20 h21
 refine wl_make h21 51 run_alloc32 ?_
 intro q22 w23 h24
 refine wl_fill (c' := rl (mulP r.X q.Y)) h24 0 rfl (rl_sz (mulP r.X q.Y) 0) (info_rl (mulP r.X q.Y)) (one_rl (mulP r.X q.Y)) ?_
 intro w25 (h26 : HA w [(q22, 51, rl (mulP r.X q.Y)), (q15, 51, rl (mulP q.X r.Y)), (q10, 53, rq (Q4.mk 0 0 0 0)), (q7, 53, rq r), (q4, 53, rq q), (q1, 51, rl dN)] w25)
 refine znt ?_
 refine wp_seq ?_
 obtain ⟨B27, eB27⟩ : ∃ B, B = w25.heap.size := ⟨_, rfl⟩
 refine zrg (fun g : Nat → Nat => (⟨(rarr dN :: .agg (rq q) :: .agg (rq r) :: pt q1 :: pt q4 :: pt q7 :: pt q10 :: pt q15 :: pt q22 :: pt (g 7) :: un :: un :: un :: un :: un :: pt q4 :: rarr q.X :: .pointer (some ⟨q7, 16, none⟩) :: rarr r.Y :: rarr (mulP q.X r.Y) :: pt q7 :: rarr r.X :: .pointer (some ⟨q4, 16, none⟩) :: rarr q.Y :: rarr (mulP r.X q.Y) :: rarr dN :: .pointer (some ⟨q4, 48, none⟩) :: rarr q.T :: .pointer (some ⟨q7, 48, none⟩) :: rarr r.T :: rarr (mulP q.T r.T) :: rarr (mulP dN (mulP q.T r.T)) :: List.replicate 38 un).toArray, []⟩ : Act)) (GS w [(q22, 51, rl (mulP r.X q.Y)), (q15, 51, rl (mulP q.X r.Y)), (q10, 53, rq (Q4.mk 0 0 0 0)), (q7, 53, rq r), (q4, 53, rq q), (q1, 51, rl dN)] B27 1 7 8 51 (rl 0) (fun _ => rl (mulP dN (mulP q.T r.T)))) (fun d hd => GS.start h26.drew eB27 (by decide) (fun _ _ => (rl_sz _ _)) (fun j hj => hd j (Nat.lt_of_lt_of_le hj (by decide)))) ?_ ?_
 ·refine zg (ghost_load 5 rfl Tryz.underlying51 rfl (info_rl dN)) ?_
  refine zg (ghost_plain (v := .pointer (some ⟨q4, 48, none⟩))) ?_
  refine zg (ghost_held (v := rarr q.T) (fun _ w' h' => run_part32 (q := q4) (off := 16 * 3) (n := q.T) (h'.get 4 rfl) (rq_get q).2.2.2)) ?_
  refine zg (ghost_plain (v := .pointer (some ⟨q7, 48, none⟩))) ?_
  refine zg (ghost_held (v := rarr r.T) (fun _ w' h' => run_part32 (q := q7) (off := 16 * 3) (n := r.T) (h'.get 3 rfl) (rq_get r).2.2.2)) ?_
  refine zg (ghost_call (v := rarr (mulP q.T r.T)) enter52 #[rarr q.T, rarr r.T] (fun w' h' => wmul_any q.T r.T hq.2.2.2 hr.2.2.2 w')) ?_
  refine zg (ghost_call (v := rarr (mulP dN (mulP q.T r.T))) enter52 #[rarr dN, rarr (mulP q.T r.T)] (fun w' h' => wmul_any dN (mulP q.T r.T) dN_lt (mulP_lt _ _) w')) ?_
  refine zg (ghost_make 0 rfl (fun _ _ => run_alloc32)) ?_
  refine zg (ghost_fill 0 rfl (info_rl (mulP dN (mulP q.T r.T))) (one_rl (mulP dN (mulP q.T r.T)))) ?_
  exact AllGhost.nil
 intro g w28 g29
 have h30 : HA w [(g 7, 51, rl (mulP dN (mulP q.T r.T))), (q22, 51, rl (mulP r.X q.Y)), (q15, 51, rl (mulP q.X r.Y)), (q10, 53, rq (Q4.mk 0 0 0 0)), (q7, 53, rq r), (q4, 53, rq q), (q1, 51, rl dN)] w28 := g29.one
 clear g29 eB27
 generalize g 7 = q31 at h30 ⊢
 clear g
 refine then_at rfl ?_
 refine zsr ?_
 refine zwv (.pointer (some ⟨q4, 32, none⟩)) ?_
 refine zwu (run_part32 (q := q4) (off := 16 * 2) (n := q.Z) (h30.get 5 rfl) (rq_get q).2.2.1) ?_
 refine zwv (.pointer (some ⟨q7, 32, none⟩)) ?_
 refine zwu (run_part32 (q := q7) (off := 16 * 2) (n := r.Z) (h30.get 4 rfl) (rq_get r).2.2.1) ?_
 refine zwc h30 enter52 (wmul_any q.Z r.Z hq.2.2.1 hr.2.2.1 w28) ?_
 intro w32 h33
 refine wl_make h33 51 run_alloc32 ?_
 intro q34 w35 h36
 refine wl_fill (c' := rl (mulP q.Z r.Z)) h36 0 rfl (rl_sz (mulP q.Z r.Z) 0) (info_rl (mulP q.Z r.Z)) (one_rl (mulP q.Z r.Z)) ?_
 intro w37 (h38 : HA w [(q34, 51, rl (mulP q.Z r.Z)), (q31, 51, rl (mulP dN (mulP q.T r.T))), (q22, 51, rl (mulP r.X q.Y)), (q15, 51, rl (mulP q.X r.Y)), (q10, 53, rq (Q4.mk 0 0 0 0)), (q7, 53, rq r), (q4, 53, rq q), (q1, 51, rl dN)] w37)
 refine znt ?_
 refine zsr ?_
 refine wl_load h38 3 rfl Tryz.underlying51 rfl (info_rl (mulP q.X r.Y)) ?_
 refine wl_load h38 2 rfl Tryz.underlying51 rfl (info_rl (mulP r.X q.Y)) ?_
 refine zwc (v := rarr (addP (mulP q.X r.Y) (mulP r.X q.Y))) (args := #[rarr (mulP q.X r.Y), rarr (mulP r.X q.Y)]) h38 enter68 (wadd_any (mulP q.X r.Y) (mulP r.X q.Y) (mulP_lt _ _) (mulP_lt _ _) w37) ?_
 intro w39 h40
 refine wl_make h40 51 run_alloc32 ?_
 intro q41 w42 h43
 refine wl_fill (c' := rl (addP (mulP q.X r.Y) (mulP r.X q.Y))) h43 0 rfl (rl_sz (addP (mulP q.X r.Y) (mulP r.X q.Y)) 0) (info_rl (addP (mulP q.X r.Y) (mulP r.X q.Y))) (one_rl (addP (mulP q.X r.Y) (mulP r.X q.Y))) ?_
 intro w44 (h45 : HA w [(q41, 51, rl (addP (mulP q.X r.Y) (mulP r.X q.Y))), (q34, 51, rl (mulP q.Z r.Z)), (q31, 51, rl (mulP dN (mulP q.T r.T))), (q22, 51, rl (mulP r.X q.Y)), (q15, 51, rl (mulP q.X r.Y)), (q10, 53, rq (Q4.mk 0 0 0 0)), (q7, 53, rq r), (q4, 53, rq q), (q1, 51, rl dN)] w44)
 refine znt ?_
 refine zsr ?_
 refine wl_load h45 1 rfl Tryz.underlying51 rfl (info_rl (mulP q.Z r.Z)) ?_
 refine wl_load h45 2 rfl Tryz.underlying51 rfl (info_rl (mulP dN (mulP q.T r.T))) ?_
 refine zwc (v := rarr (addP (mulP q.Z r.Z) (mulP dN (mulP q.T r.T)))) (args := #[rarr (mulP q.Z r.Z), rarr (mulP dN (mulP q.T r.T))]) h45 enter68 (wadd_any (mulP q.Z r.Z) (mulP dN (mulP q.T r.T)) (mulP_lt _ _) (mulP_lt _ _) w44) ?_
 intro w46 h47
 refine wl_make h47 51 run_alloc32 ?_
 intro q48 w49 h50
 refine wl_fill (c' := rl (addP (mulP q.Z r.Z) (mulP dN (mulP q.T r.T)))) h50 0 rfl (rl_sz (addP (mulP q.Z r.Z) (mulP dN (mulP q.T r.T))) 0) (info_rl (addP (mulP q.Z r.Z) (mulP dN (mulP q.T r.T)))) (one_rl (addP (mulP q.Z r.Z) (mulP dN (mulP q.T r.T)))) ?_
 intro w51 (h52 : HA w [(q48, 51, rl (addP (mulP q.Z r.Z) (mulP dN (mulP q.T r.T)))), (q41, 51, rl (addP (mulP q.X r.Y) (mulP r.X q.Y))), (q34, 51, rl (mulP q.Z r.Z)), (q31, 51, rl (mulP dN (mulP q.T r.T))), (q22, 51, rl (mulP r.X q.Y)), (q15, 51, rl (mulP q.X r.Y)), (q10, 53, rq (Q4.mk 0 0 0 0)), (q7, 53, rq r), (q4, 53, rq q), (q1, 51, rl dN)] w51)
 refine znt ?_
 refine wp_seq ?_
 obtain ⟨B53, eB53⟩ : ∃ B, B = w51.heap.size := ⟨_, rfl⟩
 refine zrg (fun g : Nat → Nat => (⟨(rarr dN :: .agg (rq q) :: .agg (rq r) :: pt q1 :: pt q4 :: pt q7 :: pt q10 :: pt q15 :: pt q22 :: pt q31 :: pt q34 :: pt q41 :: pt q48 :: pt (g 11) :: un :: pt q4 :: rarr q.X :: .pointer (some ⟨q7, 16, none⟩) :: rarr r.Y :: rarr (mulP q.X r.Y) :: pt q7 :: rarr r.X :: .pointer (some ⟨q4, 16, none⟩) :: rarr q.Y :: rarr (mulP r.X q.Y) :: rarr dN :: .pointer (some ⟨q4, 48, none⟩) :: rarr q.T :: .pointer (some ⟨q7, 48, none⟩) :: rarr r.T :: rarr (mulP q.T r.T) :: rarr (mulP dN (mulP q.T r.T)) :: .pointer (some ⟨q4, 32, none⟩) :: rarr q.Z :: .pointer (some ⟨q7, 32, none⟩) :: rarr r.Z :: rarr (mulP q.Z r.Z) :: rarr (mulP q.X r.Y) :: rarr (mulP r.X q.Y) :: rarr (addP (mulP q.X r.Y) (mulP r.X q.Y)) :: rarr (mulP q.Z r.Z) :: rarr (mulP dN (mulP q.T r.T)) :: rarr (addP (mulP q.Z r.Z) (mulP dN (mulP q.T r.T))) :: .pointer (some ⟨q4, 16, none⟩) :: rarr q.Y :: .pointer (some ⟨q7, 16, none⟩) :: rarr r.Y :: rarr (mulP q.Y r.Y) :: pt q4 :: rarr q.X :: pt q7 :: rarr r.X :: rarr (mulP q.X r.X) :: rarr (addP (mulP q.Y r.Y) (mulP q.X r.X)) :: List.replicate 16 un).toArray, []⟩ : Act)) (GS w [(q48, 51, rl (addP (mulP q.Z r.Z) (mulP dN (mulP q.T r.T)))), (q41, 51, rl (addP (mulP q.X r.Y) (mulP r.X q.Y))), (q34, 51, rl (mulP q.Z r.Z)), (q31, 51, rl (mulP dN (mulP q.T r.T))), (q22, 51, rl (mulP r.X q.Y)), (q15, 51, rl (mulP q.X r.Y)), (q10, 53, rq (Q4.mk 0 0 0 0)), (q7, 53, rq r), (q4, 53, rq q), (q1, 51, rl dN)] B53 1 11 12 51 (rl 0) (fun _ => rl (addP (mulP q.Y r.Y) (mulP q.X r.X)))) (fun d hd => GS.start h52.drew eB53 (by decide) (fun _ _ => (rl_sz _ _)) (fun j hj => hd j (Nat.lt_of_lt_of_le hj (by decide)))) ?_ ?_
 ·refine zg (ghost_plain (v := .pointer (some ⟨q4, 16, none⟩))) ?_
  refine zg (ghost_held (v := rarr q.Y) (fun _ w' h' => run_part32 (q := q4) (off := 16 * 1) (n := q.Y) (h'.get 8 rfl) (rq_get q).2.1)) ?_
  refine zg (ghost_plain (v := .pointer (some ⟨q7, 16, none⟩))) ?_
  refine zg (ghost_held (v := rarr r.Y) (fun _ w' h' => run_part32 (q := q7) (off := 16 * 1) (n := r.Y) (h'.get 7 rfl) (rq_get r).2.1)) ?_
  refine zg (ghost_call (v := rarr (mulP q.Y r.Y)) enter52 #[rarr q.Y, rarr r.Y] (fun w' h' => wmul_any q.Y r.Y hq.2.1 hr.2.1 w')) ?_
  refine zg (ghost_plain (v := .pointer (some ⟨q4, 0, none⟩))) ?_
  refine zg (ghost_held (v := rarr q.X) (fun _ w' h' => run_part32 (q := q4) (off := 16 * 0) (n := q.X) (h'.get 8 rfl) (rq_get q).1)) ?_
  refine zg (ghost_plain (v := .pointer (some ⟨q7, 0, none⟩))) ?_
  refine zg (ghost_held (v := rarr r.X) (fun _ w' h' => run_part32 (q := q7) (off := 16 * 0) (n := r.X) (h'.get 7 rfl) (rq_get r).1)) ?_
  refine zg (ghost_call (v := rarr (mulP q.X r.X)) enter52 #[rarr q.X, rarr r.X] (fun w' h' => wmul_any q.X r.X hq.1 hr.1 w')) ?_
  refine zg (ghost_call (v := rarr (addP (mulP q.Y r.Y) (mulP q.X r.X))) enter68 #[rarr (mulP q.Y r.Y), rarr (mulP q.X r.X)] (fun w' h' => wadd_any (mulP q.Y r.Y) (mulP q.X r.X) (mulP_lt _ _) (mulP_lt _ _) w')) ?_
  refine zg (ghost_make 0 rfl (fun _ _ => run_alloc32)) ?_
  refine zg (ghost_fill 0 rfl (info_rl (addP (mulP q.Y r.Y) (mulP q.X r.X))) (one_rl (addP (mulP q.Y r.Y) (mulP q.X r.X)))) ?_
  exact AllGhost.nil
 intro g w54 g55
 have h56 : HA w [(g 11, 51, rl (addP (mulP q.Y r.Y) (mulP q.X r.X))), (q48, 51, rl (addP (mulP q.Z r.Z) (mulP dN (mulP q.T r.T)))), (q41, 51, rl (addP (mulP q.X r.Y) (mulP r.X q.Y))), (q34, 51, rl (mulP q.Z r.Z)), (q31, 51, rl (mulP dN (mulP q.T r.T))), (q22, 51, rl (mulP r.X q.Y)), (q15, 51, rl (mulP q.X r.Y)), (q10, 53, rq (Q4.mk 0 0 0 0)), (q7, 53, rq r), (q4, 53, rq q), (q1, 51, rl dN)] w54 := g55.one
 clear g55 eB53
 generalize g 11 = q57 at h56 ⊢
 clear g
 refine then_at rfl ?_
 refine zsr ?_
 refine wl_load h56 3 rfl Tryz.underlying51 rfl (info_rl (mulP q.Z r.Z)) ?_
 refine wl_load h56 4 rfl Tryz.underlying51 rfl (info_rl (mulP dN (mulP q.T r.T))) ?_
 refine zwc (v := rarr (subP (mulP q.Z r.Z) (mulP dN (mulP q.T r.T)))) (args := #[rarr (mulP q.Z r.Z), rarr (mulP dN (mulP q.T r.T))]) h56 enter69 (wsub_any (mulP q.Z r.Z) (mulP dN (mulP q.T r.T)) (mulP_lt _ _) (mulP_lt _ _) w54) ?_
 intro w58 h59
 refine wl_make h59 51 run_alloc32 ?_
 intro q60 w61 h62
 refine wl_fill (c' := rl (subP (mulP q.Z r.Z) (mulP dN (mulP q.T r.T)))) h62 0 rfl (rl_sz (subP (mulP q.Z r.Z) (mulP dN (mulP q.T r.T))) 0) (info_rl (subP (mulP q.Z r.Z) (mulP dN (mulP q.T r.T)))) (one_rl (subP (mulP q.Z r.Z) (mulP dN (mulP q.T r.T)))) ?_
 intro w63 (h64 : HA w [(q60, 51, rl (subP (mulP q.Z r.Z) (mulP dN (mulP q.T r.T)))), (q57, 51, rl (addP (mulP q.Y r.Y) (mulP q.X r.X))), (q48, 51, rl (addP (mulP q.Z r.Z) (mulP dN (mulP q.T r.T)))), (q41, 51, rl (addP (mulP q.X r.Y) (mulP r.X q.Y))), (q34, 51, rl (mulP q.Z r.Z)), (q31, 51, rl (mulP dN (mulP q.T r.T))), (q22, 51, rl (mulP r.X q.Y)), (q15, 51, rl (mulP q.X r.Y)), (q10, 53, rq (Q4.mk 0 0 0 0)), (q7, 53, rq r), (q4, 53, rq q), (q1, 51, rl dN)] w63)
 refine znt ?_
 refine wp_seq ?_
 obtain ⟨C65, hC65⟩ : ∃ C, C = rq (Q4.mk (mulP (addP (mulP q.X r.Y) (mulP r.X q.Y)) (subP (mulP q.Z r.Z) (mulP dN (mulP q.T r.T)))) (mulP (addP (mulP q.Y r.Y) (mulP q.X r.X)) (addP (mulP q.Z r.Z) (mulP dN (mulP q.T r.T)))) (mulP (addP (mulP q.Z r.Z) (mulP dN (mulP q.T r.T))) (subP (mulP q.Z r.Z) (mulP dN (mulP q.T r.T)))) (mulP (addP (mulP q.X r.Y) (mulP r.X q.Y)) (addP (mulP q.Y r.Y) (mulP q.X r.X)))) := ⟨_, rfl⟩
 refine zrg (fun _ : Nat → Nat => (⟨(rarr dN :: .agg (rq q) :: .agg (rq r) :: pt q1 :: pt q4 :: pt q7 :: pt q10 :: pt q15 :: pt q22 :: pt q31 :: pt q34 :: pt q41 :: pt q48 :: pt q57 :: pt q60 :: pt q4 :: rarr q.X :: .pointer (some ⟨q7, 16, none⟩) :: rarr r.Y :: rarr (mulP q.X r.Y) :: pt q7 :: rarr r.X :: .pointer (some ⟨q4, 16, none⟩) :: rarr q.Y :: rarr (mulP r.X q.Y) :: rarr dN :: .pointer (some ⟨q4, 48, none⟩) :: rarr q.T :: .pointer (some ⟨q7, 48, none⟩) :: rarr r.T :: rarr (mulP q.T r.T) :: rarr (mulP dN (mulP q.T r.T)) :: .pointer (some ⟨q4, 32, none⟩) :: rarr q.Z :: .pointer (some ⟨q7, 32, none⟩) :: rarr r.Z :: rarr (mulP q.Z r.Z) :: rarr (mulP q.X r.Y) :: rarr (mulP r.X q.Y) :: rarr (addP (mulP q.X r.Y) (mulP r.X q.Y)) :: rarr (mulP q.Z r.Z) :: rarr (mulP dN (mulP q.T r.T)) :: rarr (addP (mulP q.Z r.Z) (mulP dN (mulP q.T r.T))) :: .pointer (some ⟨q4, 16, none⟩) :: rarr q.Y :: .pointer (some ⟨q7, 16, none⟩) :: rarr r.Y :: rarr (mulP q.Y r.Y) :: pt q4 :: rarr q.X :: pt q7 :: rarr r.X :: rarr (mulP q.X r.X) :: rarr (addP (mulP q.Y r.Y) (mulP q.X r.X)) :: rarr (mulP q.Z r.Z) :: rarr (mulP dN (mulP q.T r.T)) :: rarr (subP (mulP q.Z r.Z) (mulP dN (mulP q.T r.T))) :: rarr (addP (mulP q.X r.Y) (mulP r.X q.Y)) :: rarr (subP (mulP q.Z r.Z) (mulP dN (mulP q.T r.T))) :: rarr (mulP (addP (mulP q.X r.Y) (mulP r.X q.Y)) (subP (mulP q.Z r.Z) (mulP dN (mulP q.T r.T)))) :: rarr (addP (mulP q.Y r.Y) (mulP q.X r.X)) :: rarr (addP (mulP q.Z r.Z) (mulP dN (mulP q.T r.T))) :: rarr (mulP (addP (mulP q.Y r.Y) (mulP q.X r.X)) (addP (mulP q.Z r.Z) (mulP dN (mulP q.T r.T)))) :: rarr (addP (mulP q.Z r.Z) (mulP dN (mulP q.T r.T))) :: rarr (subP (mulP q.Z r.Z) (mulP dN (mulP q.T r.T))) :: rarr (mulP (addP (mulP q.Z r.Z) (mulP dN (mulP q.T r.T))) (subP (mulP q.Z r.Z) (mulP dN (mulP q.T r.T)))) :: rarr (addP (mulP q.X r.Y) (mulP r.X q.Y)) :: rarr (addP (mulP q.Y r.Y) (mulP q.X r.X)) :: rarr (mulP (addP (mulP q.X r.Y) (mulP r.X q.Y)) (addP (mulP q.Y r.Y) (mulP q.X r.X))) :: .agg C65 :: List.replicate 0 un).toArray, []⟩ : Act)) (GF w [(q60, 51, rl (subP (mulP q.Z r.Z) (mulP dN (mulP q.T r.T)))), (q57, 51, rl (addP (mulP q.Y r.Y) (mulP q.X r.X))), (q48, 51, rl (addP (mulP q.Z r.Z) (mulP dN (mulP q.T r.T)))), (q41, 51, rl (addP (mulP q.X r.Y) (mulP r.X q.Y))), (q34, 51, rl (mulP q.Z r.Z)), (q31, 51, rl (mulP dN (mulP q.T r.T))), (q22, 51, rl (mulP r.X q.Y)), (q15, 51, rl (mulP q.X r.Y)), (q10, 53, rq (Q4.mk 0 0 0 0)), (q7, 53, rq r), (q4, 53, rq q), (q1, 51, rl dN)] 13 12 8 q10 53 (C65)) (fun d hd => GF.start h64.drew (hd 13 (by decide))) ?_ ?_
 ·refine zg (gf_load2 3 rfl Tryz.underlying51 rfl (info_rl (addP (mulP q.X r.Y) (mulP r.X q.Y)))) ?_
  refine zg (gf_load2 0 rfl Tryz.underlying51 rfl (info_rl (subP (mulP q.Z r.Z) (mulP dN (mulP q.T r.T))))) ?_
  refine zg (gf_callh (v := rarr (mulP (addP (mulP q.X r.Y) (mulP r.X q.Y)) (subP (mulP q.Z r.Z) (mulP dN (mulP q.T r.T))))) enter52 #[rarr (addP (mulP q.X r.Y) (mulP r.X q.Y)), rarr (subP (mulP q.Z r.Z) (mulP dN (mulP q.T r.T)))] (fun w' ho => wmul_any (addP (mulP q.X r.Y) (mulP r.X q.Y)) (subP (mulP q.Z r.Z) (mulP dN (mulP q.T r.T))) (addP_lt _ _) (subP_lt _ _) w')) ?_
  refine zg (gf_load2 1 rfl Tryz.underlying51 rfl (info_rl (addP (mulP q.Y r.Y) (mulP q.X r.X)))) ?_
  refine zg (gf_load2 2 rfl Tryz.underlying51 rfl (info_rl (addP (mulP q.Z r.Z) (mulP dN (mulP q.T r.T))))) ?_
  refine zg (gf_callh (v := rarr (mulP (addP (mulP q.Y r.Y) (mulP q.X r.X)) (addP (mulP q.Z r.Z) (mulP dN (mulP q.T r.T))))) enter52 #[rarr (addP (mulP q.Y r.Y) (mulP q.X r.X)), rarr (addP (mulP q.Z r.Z) (mulP dN (mulP q.T r.T)))] (fun w' ho => wmul_any (addP (mulP q.Y r.Y) (mulP q.X r.X)) (addP (mulP q.Z r.Z) (mulP dN (mulP q.T r.T))) (addP_lt _ _) (addP_lt _ _) w')) ?_
  refine zg (gf_load2 2 rfl Tryz.underlying51 rfl (info_rl (addP (mulP q.Z r.Z) (mulP dN (mulP q.T r.T))))) ?_
  refine zg (gf_load2 0 rfl Tryz.underlying51 rfl (info_rl (subP (mulP q.Z r.Z) (mulP dN (mulP q.T r.T))))) ?_
  refine zg (gf_callh (v := rarr (mulP (addP (mulP q.Z r.Z) (mulP dN (mulP q.T r.T))) (subP (mulP q.Z r.Z) (mulP dN (mulP q.T r.T))))) enter52 #[rarr (addP (mulP q.Z r.Z) (mulP dN (mulP q.T r.T))), rarr (subP (mulP q.Z r.Z) (mulP dN (mulP q.T r.T)))] (fun w' ho => wmul_any (addP (mulP q.Z r.Z) (mulP dN (mulP q.T r.T))) (subP (mulP q.Z r.Z) (mulP dN (mulP q.T r.T))) (addP_lt _ _) (subP_lt _ _) w')) ?_
  refine zg (gf_load2 3 rfl Tryz.underlying51 rfl (info_rl (addP (mulP q.X r.Y) (mulP r.X q.Y)))) ?_
  refine zg (gf_load2 1 rfl Tryz.underlying51 rfl (info_rl (addP (mulP q.Y r.Y) (mulP q.X r.X)))) ?_
  refine zg (gf_callh (v := rarr (mulP (addP (mulP q.X r.Y) (mulP r.X q.Y)) (addP (mulP q.Y r.Y) (mulP q.X r.X)))) enter52 #[rarr (addP (mulP q.X r.Y) (mulP r.X q.Y)), rarr (addP (mulP q.Y r.Y) (mulP q.X r.X))] (fun w' ho => wmul_any (addP (mulP q.X r.Y) (mulP r.X q.Y)) (addP (mulP q.Y r.Y) (mulP q.X r.X)) (addP_lt _ _) (addP_lt _ _) w')) ?_
  refine zg (gf_plain (v := .agg C65) (hr := (fun _ _ => (by rw [hC65]; exact (run_build34 (a := mulP (addP (mulP q.X r.Y) (mulP r.X q.Y)) (subP (mulP q.Z r.Z) (mulP dN (mulP q.T r.T)))) (b := mulP (addP (mulP q.Y r.Y) (mulP q.X r.X)) (addP (mulP q.Z r.Z) (mulP dN (mulP q.T r.T)))) (c := mulP (addP (mulP q.Z r.Z) (mulP dN (mulP q.T r.T))) (subP (mulP q.Z r.Z) (mulP dN (mulP q.T r.T)))) (d := mulP (addP (mulP q.X r.Y) (mulP r.X q.Y)) (addP (mulP q.Y r.Y) (mulP q.X r.X))) (by kernel_rfl) (by kernel_rfl) (by kernel_rfl) (by kernel_rfl)))))) ?_
  refine zg (gf_fill rfl (by rw [hC65]; exact (rq_sz (Q4.mk (mulP (addP (mulP q.X r.Y) (mulP r.X q.Y)) (subP (mulP q.Z r.Z) (mulP dN (mulP q.T r.T)))) (mulP (addP (mulP q.Y r.Y) (mulP q.X r.X)) (addP (mulP q.Z r.Z) (mulP dN (mulP q.T r.T)))) (mulP (addP (mulP q.Z r.Z) (mulP dN (mulP q.T r.T))) (subP (mulP q.Z r.Z) (mulP dN (mulP q.T r.T)))) (mulP (addP (mulP q.X r.Y) (mulP r.X q.Y)) (addP (mulP q.Y r.Y) (mulP q.X r.X)))) (Q4.mk 0 0 0 0))) (by rw [hC65]; exact (info34q (Q4.mk (mulP (addP (mulP q.X r.Y) (mulP r.X q.Y)) (subP (mulP q.Z r.Z) (mulP dN (mulP q.T r.T)))) (mulP (addP (mulP q.Y r.Y) (mulP q.X r.X)) (addP (mulP q.Z r.Z) (mulP dN (mulP q.T r.T)))) (mulP (addP (mulP q.Z r.Z) (mulP dN (mulP q.T r.T))) (subP (mulP q.Z r.Z) (mulP dN (mulP q.T r.T)))) (mulP (addP (mulP q.X r.Y) (mulP r.X q.Y)) (addP (mulP q.Y r.Y) (mulP q.X r.X)))))) (by rw [hC65]; exact (one_rq (Q4.mk (mulP (addP (mulP q.X r.Y) (mulP r.X q.Y)) (subP (mulP q.Z r.Z) (mulP dN (mulP q.T r.T)))) (mulP (addP (mulP q.Y r.Y) (mulP q.X r.X)) (addP (mulP q.Z r.Z) (mulP dN (mulP q.T r.T)))) (mulP (addP (mulP q.Z r.Z) (mulP dN (mulP q.T r.T))) (subP (mulP q.Z r.Z) (mulP dN (mulP q.T r.T)))) (mulP (addP (mulP q.X r.Y) (mulP r.X q.Y)) (addP (mulP q.Y r.Y) (mulP q.X r.X))))))) ?_
  exact AllGhost.nil
 intro _ w66 g67
 have h68 : HA w [(q60, 51, rl (subP (mulP q.Z r.Z) (mulP dN (mulP q.T r.T)))), (q57, 51, rl (addP (mulP q.Y r.Y) (mulP q.X r.X))), (q48, 51, rl (addP (mulP q.Z r.Z) (mulP dN (mulP q.T r.T)))), (q41, 51, rl (addP (mulP q.X r.Y) (mulP r.X q.Y))), (q34, 51, rl (mulP q.Z r.Z)), (q31, 51, rl (mulP dN (mulP q.T r.T))), (q22, 51, rl (mulP r.X q.Y)), (q15, 51, rl (mulP q.X r.Y)), (q10, 53, C65), (q7, 53, rq r), (q4, 53, rq q), (q1, 51, rl dN)] w66 := g67.held
 clear g67
 subst hC65
 refine then_at rfl ?_
 refine wp_ret ?_
 repeat first | refine then_ret ?_ | refine block_ret ?_
 have hB : Blk w66 q10 53 (rq (Q4.mk (mulP (addP (mulP q.X r.Y) (mulP r.X q.Y)) (subP (mulP q.Z r.Z) (mulP dN (mulP q.T r.T)))) (mulP (addP (mulP q.Y r.Y) (mulP q.X r.X)) (addP (mulP q.Z r.Z) (mulP dN (mulP q.T r.T)))) (mulP (addP (mulP q.Z r.Z) (mulP dN (mulP q.T r.T))) (subP (mulP q.Z r.Z) (mulP dN (mulP q.T r.T)))) (mulP (addP (mulP q.X r.Y) (mulP r.X q.Y)) (addP (mulP q.Y r.Y) (mulP q.X r.X))))) := h68.get 8 rfl
 have e0 : suQ q r = Q4.mk (mulP (addP (mulP q.X r.Y) (mulP r.X q.Y)) (subP (mulP q.Z r.Z) (mulP dN (mulP q.T r.T)))) (mulP (addP (mulP q.Y r.Y) (mulP q.X r.X)) (addP (mulP q.Z r.Z) (mulP dN (mulP q.T r.T)))) (mulP (addP (mulP q.Z r.Z) (mulP dN (mulP q.T r.T))) (subP (mulP q.Z r.Z) (mulP dN (mulP q.T r.T)))) (mulP (addP (mulP q.X r.Y) (mulP r.X q.Y)) (addP (mulP q.Y r.Y) (mulP q.X r.X))) := rfl
 rw [← e0] at hB
 exact bodyPost_ret (res34 (p := 6) (suQ q r) (by kernel_rfl) (by kernel_rfl) hB) rfl ⟨rfl, h68.old⟩
theorem rAdd_any (q r : Q4) (hq : q.lt) (hr : r.lt) (w : World) :
  Calls Tryz.prog 36 #[.agg (rq q), .agg (rq r)] w fun e w' => e = .returned (.agg (rq (suQ q r))) ∧ Below w.heap.size w w' := by
 have H0 := HA.start w
 go_enter Tryz.func36, Tryz.ntmps36
 refine zsr ?_
 refine wl_make H0 53 (run_box34 (c := rq q)) ?_
 intro q1 w2 h3
 refine wl_make h3 53 (run_box34 (c := rq r)) ?_
 intro q4 w5 h6
 refine wl_make h6 53 run_alloc34 ?_
 intro q7 w8 h9
 refine znt ?_
 refine wp_seq ?_
 obtain ⟨C10, hC10⟩ : ∃ C, C = rq (suQ q r) := ⟨_, rfl⟩
 refine zrg (fun _ : Nat → Nat => (⟨(.agg (rq q) :: .agg (rq r) :: pt q1 :: pt q4 :: pt q7 :: rarr dN :: .agg (rq q) :: .agg (rq r) :: .agg C10 :: List.replicate 0 un).toArray, []⟩ : Act)) (GF w [(q7, 53, rq (Q4.mk 0 0 0 0)), (q4, 53, rq r), (q1, 53, rq q)] 4 3 0 q7 53 (C10)) (fun d hd => GF.start h9.drew (hd 4 (by decide))) ?_ ?_
 ·refine zg (gf_callh (v := rarr dN) enter59 #[] (fun w' ho => D_any w')) ?_
  refine zg (gf_load2 2 rfl Tryz.underlying53 rfl (info34q q)) ?_
  refine zg (gf_load2 1 rfl Tryz.underlying53 rfl (info34q r)) ?_
  refine zg (gf_callh (v := .agg C10) enter58 #[rarr dN, .agg (rq q), .agg (rq r)] (fun w' ho => (by rw [hC10]; exact rsum_any q r hq hr w'))) ?_
  refine zg (gf_fill rfl (by rw [hC10]; exact (rq_sz (suQ q r) (Q4.mk 0 0 0 0))) (by rw [hC10]; exact (info34q (suQ q r))) (by rw [hC10]; exact (one_rq (suQ q r)))) ?_
  exact AllGhost.nil
 intro _ w11 g12
 have h13 : HA w [(q7, 53, C10), (q4, 53, rq r), (q1, 53, rq q)] w11 := g12.held
 clear g12
 subst hC10
 refine then_at rfl ?_
 refine wp_ret ?_
 repeat first | refine then_ret ?_ | refine block_ret ?_
 have hB : Blk w11 q7 53 (rq (suQ q r)) := h13.get 0 rfl
 exact bodyPost_ret (res34 (p := 4) (suQ q r) (by kernel_rfl) (by kernel_rfl) hB) rfl ⟨rfl, h13.old⟩
theorem rSame_yes (q r : Q4) (hq : q.lt) (hr : r.lt) (h1 : mulP q.X r.Z = mulP r.X q.Z) (h2 : mulP q.Y r.Z = mulP r.Y q.Z) (w : World) :
  Calls Tryz.prog 35 #[.agg (rq q), .agg (rq r)] w fun e w' => e = .returned (.bool true) ∧ Below w.heap.size w w' := by
 have H0 := HA.start w
 go_enter Tryz.func35, Tryz.ntmps35
 refine zsr ?_
 refine wl_make H0 53 (run_box34 (c := rq q)) ?_
 intro q1 w2 h3
 refine wl_make h3 53 (run_box34 (c := rq r)) ?_
 intro q4 w5 h6
 refine zwv (.bool false) ?_
 refine znt ?_
 refine wp_seq ?_
 refine zrs ⟨(.agg (rq q) :: .agg (rq r) :: pt q1 :: pt q4 :: .bool true :: pt q1 :: rarr q.X :: .pointer (some ⟨q4, 32, none⟩) :: rarr r.Z :: rarr (mulP q.X r.Z) :: pt q4 :: rarr r.X :: .pointer (some ⟨q1, 32, none⟩) :: rarr q.Z :: rarr (mulP r.X q.Z) :: .bool true :: .bool true :: .pointer (some ⟨q1, 16, none⟩) :: rarr q.Y :: .pointer (some ⟨q4, 32, none⟩) :: rarr r.Z :: rarr (mulP q.Y r.Z) :: .pointer (some ⟨q4, 16, none⟩) :: rarr r.Y :: .pointer (some ⟨q1, 32, none⟩) :: rarr q.Z :: rarr (mulP r.Y q.Z) :: .bool true :: .bool true :: List.replicate 0 un).toArray, []⟩ (HA w [(q4, 53, rq r), (q1, 53, rq q)]) h6.drew ?_ ?_
 ·refine zsp (.pointer (some ⟨q1, 0, none⟩)) ?_
  refine zst (fun w' h' => run_part32 (q := q1) (off := 16 * 0) (n := q.X) (h'.get 1 rfl) (rq_get q).1) ?_
  refine zsp (.pointer (some ⟨q4, 32, none⟩)) ?_
  refine zst (fun w' h' => run_part32 (q := q4) (off := 16 * 2) (n := r.Z) (h'.get 0 rfl) (rq_get r).2.2.1) ?_
  refine zsc enter52 HA.keep (fun w' h' => wmul_any q.X r.Z hq.1 hr.2.2.1 w') ?_
  refine zsp (.pointer (some ⟨q4, 0, none⟩)) ?_
  refine zst (fun w' h' => run_part32 (q := q4) (off := 16 * 0) (n := r.X) (h'.get 0 rfl) (rq_get r).1) ?_
  refine zsp (.pointer (some ⟨q1, 32, none⟩)) ?_
  refine zst (fun w' h' => run_part32 (q := q1) (off := 16 * 2) (n := q.Z) (h'.get 1 rfl) (rq_get q).2.2.1) ?_
  refine zsc enter52 HA.keep (fun w' h' => wmul_any r.X q.Z hr.1 hq.2.2.1 w') ?_
  refine zst (fun _ _ => (run_eq32 (mulP q.X r.Z) (mulP r.X q.Z) (Nat.lt_trans (mulP_lt _ _) P_lt16) (Nat.lt_trans (mulP_lt _ _) P_lt16) true (decide_eq_true h1))) ?_
  refine zsp (.bool true) ?_
  refine zsp (.pointer (some ⟨q1, 16, none⟩)) ?_
  refine zst (fun w' h' => run_part32 (q := q1) (off := 16 * 1) (n := q.Y) (h'.get 1 rfl) (rq_get q).2.1) ?_
  refine zsp (.pointer (some ⟨q4, 32, none⟩)) ?_
  refine zst (fun w' h' => run_part32 (q := q4) (off := 16 * 2) (n := r.Z) (h'.get 0 rfl) (rq_get r).2.2.1) ?_
  refine zsc enter52 HA.keep (fun w' h' => wmul_any q.Y r.Z hq.2.1 hr.2.2.1 w') ?_
  refine zsp (.pointer (some ⟨q4, 16, none⟩)) ?_
  refine zst (fun w' h' => run_part32 (q := q4) (off := 16 * 1) (n := r.Y) (h'.get 0 rfl) (rq_get r).2.1) ?_
  refine zsp (.pointer (some ⟨q1, 32, none⟩)) ?_
  refine zst (fun w' h' => run_part32 (q := q1) (off := 16 * 2) (n := q.Z) (h'.get 1 rfl) (rq_get q).2.2.1) ?_
  refine zsc enter52 HA.keep (fun w' h' => wmul_any r.Y q.Z hr.2.1 hq.2.2.1 w') ?_
  refine zst (fun _ _ => (run_eq32 (mulP q.Y r.Z) (mulP r.Y q.Z) (Nat.lt_trans (mulP_lt _ _) P_lt16) (Nat.lt_trans (mulP_lt _ _) P_lt16) true (decide_eq_true h2))) ?_
  refine zsp (.bool true) ?_
  refine zsp (.bool true) ?_
  exact AllSure.nil
 intro w7 h8
 refine then_at rfl ?_
 exact wp_ret (zb h8.old)
theorem rSame_no1 (q r : Q4) (hq : q.lt) (hr : r.lt) (h1 : ¬ mulP q.X r.Z = mulP r.X q.Z) (w : World) :
  Calls Tryz.prog 35 #[.agg (rq q), .agg (rq r)] w fun e w' => e = .returned (.bool false) ∧ Below w.heap.size w w' := by
 have H0 := HA.start w
 go_enter Tryz.func35, Tryz.ntmps35
 refine zsr ?_
 refine wl_make H0 53 (run_box34 (c := rq q)) ?_
 intro q1 w2 h3
 refine wl_make h3 53 (run_box34 (c := rq r)) ?_
 intro q4 w5 h6
 refine zwv (.bool false) ?_
 refine znt ?_
 refine wp_seq ?_
 refine zrs ⟨(.agg (rq q) :: .agg (rq r) :: pt q1 :: pt q4 :: .bool false :: pt q1 :: rarr q.X :: .pointer (some ⟨q4, 32, none⟩) :: rarr r.Z :: rarr (mulP q.X r.Z) :: pt q4 :: rarr r.X :: .pointer (some ⟨q1, 32, none⟩) :: rarr q.Z :: rarr (mulP r.X q.Z) :: .bool false :: .bool false :: un :: un :: un :: un :: un :: un :: un :: un :: un :: un :: un :: .bool false :: List.replicate 0 un).toArray, []⟩ (HA w [(q4, 53, rq r), (q1, 53, rq q)]) h6.drew ?_ ?_
 ·refine zsp (.pointer (some ⟨q1, 0, none⟩)) ?_
  refine zst (fun w' h' => run_part32 (q := q1) (off := 16 * 0) (n := q.X) (h'.get 1 rfl) (rq_get q).1) ?_
  refine zsp (.pointer (some ⟨q4, 32, none⟩)) ?_
  refine zst (fun w' h' => run_part32 (q := q4) (off := 16 * 2) (n := r.Z) (h'.get 0 rfl) (rq_get r).2.2.1) ?_
  refine zsc enter52 HA.keep (fun w' h' => wmul_any q.X r.Z hq.1 hr.2.2.1 w') ?_
  refine zsp (.pointer (some ⟨q4, 0, none⟩)) ?_
  refine zst (fun w' h' => run_part32 (q := q4) (off := 16 * 0) (n := r.X) (h'.get 0 rfl) (rq_get r).1) ?_
  refine zsp (.pointer (some ⟨q1, 32, none⟩)) ?_
  refine zst (fun w' h' => run_part32 (q := q1) (off := 16 * 2) (n := q.Z) (h'.get 1 rfl) (rq_get q).2.2.1) ?_
  refine zsc enter52 HA.keep (fun w' h' => wmul_any r.X q.Z hr.1 hq.2.2.1 w') ?_
  refine zst (fun _ _ => (run_eq32 (mulP q.X r.Z) (mulP r.X q.Z) (Nat.lt_trans (mulP_lt _ _) P_lt16) (Nat.lt_trans (mulP_lt _ _) P_lt16) false (decide_eq_false h1))) ?_
  refine zsp (.bool false) ?_
  refine zsk ?_
  refine zsk ?_
  refine zsk ?_
  refine zsk ?_
  refine zsk ?_
  refine zsk ?_
  refine zsk ?_
  refine zsk ?_
  refine zsk ?_
  refine zsk ?_
  refine zsk ?_
  refine zsp (.bool false) ?_
  refine zsp (.bool false) ?_
  exact AllSure.nil
 intro w7 h8
 refine then_at rfl ?_
 exact wp_ret (zb h8.old)
theorem rSame_no2 (q r : Q4) (hq : q.lt) (hr : r.lt) (h1 : mulP q.X r.Z = mulP r.X q.Z) (h2 : ¬ mulP q.Y r.Z = mulP r.Y q.Z) (w : World) :
  Calls Tryz.prog 35 #[.agg (rq q), .agg (rq r)] w fun e w' => e = .returned (.bool false) ∧ Below w.heap.size w w' := by
 have H0 := HA.start w
 go_enter Tryz.func35, Tryz.ntmps35
 refine zsr ?_
 refine wl_make H0 53 (run_box34 (c := rq q)) ?_
 intro q1 w2 h3
 refine wl_make h3 53 (run_box34 (c := rq r)) ?_
 intro q4 w5 h6
 refine zwv (.bool false) ?_
 refine znt ?_
 refine wp_seq ?_
 refine zrs ⟨(.agg (rq q) :: .agg (rq r) :: pt q1 :: pt q4 :: .bool false :: pt q1 :: rarr q.X :: .pointer (some ⟨q4, 32, none⟩) :: rarr r.Z :: rarr (mulP q.X r.Z) :: pt q4 :: rarr r.X :: .pointer (some ⟨q1, 32, none⟩) :: rarr q.Z :: rarr (mulP r.X q.Z) :: .bool true :: .bool true :: .pointer (some ⟨q1, 16, none⟩) :: rarr q.Y :: .pointer (some ⟨q4, 32, none⟩) :: rarr r.Z :: rarr (mulP q.Y r.Z) :: .pointer (some ⟨q4, 16, none⟩) :: rarr r.Y :: .pointer (some ⟨q1, 32, none⟩) :: rarr q.Z :: rarr (mulP r.Y q.Z) :: .bool false :: .bool false :: List.replicate 0 un).toArray, []⟩ (HA w [(q4, 53, rq r), (q1, 53, rq q)]) h6.drew ?_ ?_
 ·refine zsp (.pointer (some ⟨q1, 0, none⟩)) ?_
  refine zst (fun w' h' => run_part32 (q := q1) (off := 16 * 0) (n := q.X) (h'.get 1 rfl) (rq_get q).1) ?_
  refine zsp (.pointer (some ⟨q4, 32, none⟩)) ?_
  refine zst (fun w' h' => run_part32 (q := q4) (off := 16 * 2) (n := r.Z) (h'.get 0 rfl) (rq_get r).2.2.1) ?_
  refine zsc enter52 HA.keep (fun w' h' => wmul_any q.X r.Z hq.1 hr.2.2.1 w') ?_
  refine zsp (.pointer (some ⟨q4, 0, none⟩)) ?_
  refine zst (fun w' h' => run_part32 (q := q4) (off := 16 * 0) (n := r.X) (h'.get 0 rfl) (rq_get r).1) ?_
  refine zsp (.pointer (some ⟨q1, 32, none⟩)) ?_
  refine zst (fun w' h' => run_part32 (q := q1) (off := 16 * 2) (n := q.Z) (h'.get 1 rfl) (rq_get q).2.2.1) ?_
  refine zsc enter52 HA.keep (fun w' h' => wmul_any r.X q.Z hr.1 hq.2.2.1 w') ?_
  refine zst (fun _ _ => (run_eq32 (mulP q.X r.Z) (mulP r.X q.Z) (Nat.lt_trans (mulP_lt _ _) P_lt16) (Nat.lt_trans (mulP_lt _ _) P_lt16) true (decide_eq_true h1))) ?_
  refine zsp (.bool true) ?_
  refine zsp (.pointer (some ⟨q1, 16, none⟩)) ?_
  refine zst (fun w' h' => run_part32 (q := q1) (off := 16 * 1) (n := q.Y) (h'.get 1 rfl) (rq_get q).2.1) ?_
  refine zsp (.pointer (some ⟨q4, 32, none⟩)) ?_
  refine zst (fun w' h' => run_part32 (q := q4) (off := 16 * 2) (n := r.Z) (h'.get 0 rfl) (rq_get r).2.2.1) ?_
  refine zsc enter52 HA.keep (fun w' h' => wmul_any q.Y r.Z hq.2.1 hr.2.2.1 w') ?_
  refine zsp (.pointer (some ⟨q4, 16, none⟩)) ?_
  refine zst (fun w' h' => run_part32 (q := q4) (off := 16 * 1) (n := r.Y) (h'.get 0 rfl) (rq_get r).2.1) ?_
  refine zsp (.pointer (some ⟨q1, 32, none⟩)) ?_
  refine zst (fun w' h' => run_part32 (q := q1) (off := 16 * 2) (n := q.Z) (h'.get 1 rfl) (rq_get q).2.2.1) ?_
  refine zsc enter52 HA.keep (fun w' h' => wmul_any r.Y q.Z hr.2.1 hq.2.2.1 w') ?_
  refine zst (fun _ _ => (run_eq32 (mulP q.Y r.Z) (mulP r.Y q.Z) (Nat.lt_trans (mulP_lt _ _) P_lt16) (Nat.lt_trans (mulP_lt _ _) P_lt16) false (decide_eq_false h2))) ?_
  refine zsp (.bool false) ?_
  refine zsp (.bool false) ?_
  exact AllSure.nil
 intro w7 h8
 refine then_at rfl ?_
 exact wp_ret (zb h8.old)
theorem rBase_any (w : World) :
  Calls Tryz.prog 34 #[] w fun e w' => e = .returned (.agg (rq (mdQ bX bY))) ∧ Below w.heap.size w w' := by
 have H0 := HA.start w
 go_enter Tryz.func34, Tryz.ntmps34
 refine zsr ?_
 refine wl_make H0 53 run_alloc34 ?_
 intro q1 w2 h3
 refine znt ?_
 refine zsr ?_
 refine zwc h3 enter67 (wsmall_any 4 (by decide) w2) ?_
 intro w4 h5
 refine zwc h5 enter67 (wsmall_any 5 (by decide) w4) ?_
 intro w6 h7
 refine zwc h7 enter70 (wover_any 4 5 (by decide) (by decide) w6) ?_
 intro w8 h9
 refine wl_call (v := .tuple #[.agg (rq (mdQ bX bY)), .bool true]) h9 enter46 #[rarr (mulP 4 (invE 5)), .bool false] ((by rw [show mulP 4 (invE 5) = bY from base_q]; exact rof_yes_even bY bY_lt bX bX_lt base_root w8)) ?_
 intro w10 h11
 refine zwv (.tuple #[.agg (rq (mdQ bX bY)), .bool true]) ?_
 refine zwv (.agg (rq (mdQ bX bY))) ?_
 refine zwv (.bool true) ?_
 refine wl_make h11 53 run_alloc34 ?_
 intro q12 w13 h14
 refine wl_fill (c' := rq (mdQ bX bY)) h14 0 rfl (rq_sz (mdQ bX bY) (Q4.mk 0 0 0 0)) (info34q (mdQ bX bY)) (one_rq (mdQ bX bY)) ?_
 intro w15 (h16 : HA w [(q12, 53, rq (mdQ bX bY)), (q1, 53, rq (Q4.mk 0 0 0 0))] w15)
 refine zwv (.bool true) ?_
 refine znt ?_
 refine zsr ?_
 refine zwu (run_load34 (mdQ bX bY) (by kernel_rfl) (show Blk w15 q12 53 (rq (mdQ bX bY)) from h16.get 0 rfl)) ?_
 refine wl_fill (c' := rq (mdQ bX bY)) h16 1 rfl (rq_sz (mdQ bX bY) (Q4.mk 0 0 0 0)) (info34q (mdQ bX bY)) (one_rq (mdQ bX bY)) ?_
 intro w17 (h18 : HA w [(q12, 53, rq (mdQ bX bY)), (q1, 53, rq (mdQ bX bY))] w17)
 refine znt ?_
 refine wp_ret ?_
 repeat first | refine then_ret ?_ | refine block_ret ?_
 have hB : Blk w17 q1 53 (rq (mdQ bX bY)) := h18.get 1 rfl
 exact bodyPost_ret (res34 (p := 0) (mdQ bX bY) (by kernel_rfl) (by kernel_rfl) hB) rfl ⟨rfl, h18.old⟩
theorem rMul_any (s : ByteArray) (hs : s.size = 32) (q : Q4) (hq : q.lt) (w : World) :
  Calls Tryz.prog 33 #[.agg (rq q), .string s] w fun e w' => e = .returned (.agg (rq (rmQ s q 256))) ∧ Below w.heap.size w w' := by
 have H0 := HA.start w
 go_enter Tryz.func33, Tryz.ntmps33
 refine zsr ?_
 refine wl_make H0 53 (run_box34 (c := rq q)) ?_
 intro q1 w2 h3
 refine wl_make h3 53 run_alloc34 ?_
 intro q4 w5 h6
 refine znt ?_
 refine zsr ?_
 refine zwc h6 enter44 (rNone_any w5) ?_
 intro w7 h8
 refine wl_make h8 53 run_alloc34 ?_
 intro q9 w10 h11
 refine wl_fill (c' := rq (mdQ 0 1)) h11 0 rfl (rq_sz (mdQ 0 1) (Q4.mk 0 0 0 0)) (info34q (mdQ 0 1)) (one_rq (mdQ 0 1)) ?_
 intro w12 (h13 : HA w [(q9, 53, rq (mdQ 0 1)), (q4, 53, rq (Q4.mk 0 0 0 0)), (q1, 53, rq q)] w12)
 refine znt ?_
 refine wp_seq ?_
 refine zsr ?_
 refine zwv (.string s) ?_
 refine zwu (run_len (s := s)) ?_
 refine zwu (run_nei (k := .i64) (a := s.size) (b := 32) false (decide_eq_false (not_not_intro hs))) ?_
 refine znt ?_
 refine zcf ?_
 refine wp_skip ?_
 refine then_at rfl ?_
 refine zsr ?_
 refine zwc h13 enter59 (D_any w12) ?_
 intro w14 h15
 refine wl_make h15 51 run_alloc32 ?_
 intro q16 w17 h18
 refine wl_fill (c' := rl dN) h18 0 rfl (rl_sz dN 0) (info_rl dN) (one_rl dN) ?_
 intro w19 (h20 : HA w [(q16, 51, rl dN), (q9, 53, rq (mdQ 0 1)), (q4, 53, rq (Q4.mk 0 0 0 0)), (q1, 53, rq q)] w19)
 refine znt ?_
 refine wp_seq ?_
 refine zsr ?_
 refine zwv (iN .i64 255) ?_
 refine znt ?_
 refine wp_block ?_
 refine wp_count (fun k A w' => ∃ u21 : Nat → Value, A = ⟨(.agg (rq q) :: .string s :: pt q1 :: un :: pt q4 :: pt q9 :: pt q16 :: dnv (256 - k) :: .agg (rq (mdQ 0 1)) :: .string s :: iN .i64 s.size :: .bool false :: un :: rarr dN :: u21 14 :: u21 15 :: u21 16 :: u21 17 :: u21 18 :: u21 19 :: u21 20 :: u21 21 :: u21 22 :: u21 23 :: u21 24 :: u21 25 :: u21 26 :: u21 27 :: u21 28 :: u21 29 :: u21 30 :: u21 31 :: u21 32 :: u21 33 :: u21 34 :: List.replicate 1 un).toArray, []⟩ ∧ HA w [(q16, 51, rl dN), (q9, 53, rq (rmQ s q k)), (q4, 53, rq (Q4.mk 0 0 0 0)), (q1, 53, rq q)] w') 256 ?_ ?_ ?_
 ·exact zex h20
 ·rintro k hk _ w22 ⟨u21, rfl, h23⟩
  obtain ⟨j, hj, ej⟩ : ∃ j, j < 256 ∧ 256 - k = j + 1 := ⟨255 - k, by omega, by omega⟩
  have ej2 : 256 - (k + 1) = j := by omega
  rw [ej, ej2]
  refine wp_seq ?_
  refine zsr ?_
  refine zwv (iN .i64 j) ?_
  refine zwu (run_geq0 (k := .i64) (a := ((j : Nat) : Int)) (b := 0) true (decide_eq_true (by omega))) ?_
  refine znt ?_
  refine zct ?_
  refine wp_skip ?_
  refine then_at rfl ?_
  refine wp_seq ?_
  refine wp_block ?_
  refine zsr ?_
  refine wl_load h23 0 rfl Tryz.underlying51 rfl (info_rl dN) ?_
  refine zwu (run_load34 (rmQ s q k) (by kernel_rfl) (show Blk w22 q9 53 (rq (rmQ s q k)) from h23.get 1 rfl)) ?_
  refine zwu (run_load34 (rmQ s q k) (by kernel_rfl) (show Blk w22 q9 53 (rq (rmQ s q k)) from h23.get 1 rfl)) ?_
  refine zwc h23 enter58 (rsum_any (rmQ s q k) (rmQ s q k) (rmQ_lt s q k) (rmQ_lt s q k) w22) ?_
  intro w24 h25
  refine wl_fill (c' := rq (suQ (rmQ s q k) (rmQ s q k))) h25 1 rfl (rq_sz (suQ (rmQ s q k) (rmQ s q k)) (rmQ s q k)) (info34q (suQ (rmQ s q k) (rmQ s q k))) (one_rq (suQ (rmQ s q k) (rmQ s q k))) ?_
  intro w26 (h27 : HA w [(q16, 51, rl dN), (q9, 53, rq (suQ (rmQ s q k) (rmQ s q k))), (q4, 53, rq (Q4.mk 0 0 0 0)), (q1, 53, rq q)] w26)
  refine znt ?_
  refine wp_seq ?_
  by_cases hbit : numS s / 2 ^ j % 2 = 1
  · -- region 9
   refine wl_region ?_
   refine zwv (.string s) ?_
   refine zwv (iN .i64 j) ?_
   refine zwu (run_quo (k := .i64) (a := j) (b := 8) (by omega) (by simp only [top]; omega)) ?_
   refine zwu (run_sidx (s := s) (a := j / 8) (by omega)) ?_
   refine zwv (iN .i64 j) ?_
   refine zwu (run_rem (k := .i64) (a := j) (b := 8) (by omega)) ?_
   refine zwu (run_shr (k2 := .i64) (k := .u8) (a := sb s (j / 8)) (b := j % 8) (show j % 8 ≤ 8 by omega)) ?_
   refine zwu (run_and8 (a := (sb s (j / 8)) / 2 ^ (j % 8)) (b := 1) (Nat.lt_of_le_of_lt (Nat.div_le_self _ _) (sb_lt _ _))) ?_
   refine zwu (v := .bool true) (run_eqi (k := .u8) (a := ((sb s (j / 8)) / 2 ^ (j % 8)) &&& 1) (b := 1) true (decide_eq_true (by rw [bit_of]; exact hbit))) ?_
   refine znt ?_
   refine zct ?_
   refine wl_region ?_
   refine wl_load h27 0 rfl Tryz.underlying51 rfl (info_rl dN) ?_
   refine zwu (run_load34 (suQ (rmQ s q k) (rmQ s q k)) (by kernel_rfl) (show Blk w26 q9 53 (rq (suQ (rmQ s q k) (rmQ s q k))) from h27.get 1 rfl)) ?_
   refine zwu (run_load34 q (by kernel_rfl) (show Blk w26 q1 53 (rq q) from h27.get 3 rfl)) ?_
   refine zwc h27 enter58 (rsum_any (suQ (rmQ s q k) (rmQ s q k)) q (suQ_lt (rmQ s q k) (rmQ s q k)) hq w26) ?_
   intro w28 h29
   refine wl_fill (c' := rq (suQ (suQ (rmQ s q k) (rmQ s q k)) q)) h29 1 rfl (rq_sz (suQ (suQ (rmQ s q k) (rmQ s q k)) q) (suQ (rmQ s q k) (rmQ s q k))) (info34q (suQ (suQ (rmQ s q k) (rmQ s q k)) q)) (one_rq (suQ (suQ (rmQ s q k) (rmQ s q k)) q)) ?_
   intro w30 (h31 : HA w [(q16, 51, rl dN), (q9, 53, rq (suQ (suQ (rmQ s q k) (rmQ s q k)) q)), (q4, 53, rq (Q4.mk 0 0 0 0)), (q1, 53, rq q)] w30)
   refine wl_nil ?_
   refine block_normal ?_
   refine then_at rfl ?_
   refine wl_region ?_
   refine zwv (iN .i64 j) ?_
   refine zwu (run_dec (j := j) (by omega)) ?_
   refine zwv (dnv j) ?_
   refine wl_nil ?_
   exact then_I (zex ((by rw [← rmQ_one s q k j ej hbit]; exact h31)))
  · -- region 9
   refine wl_region ?_
   refine zwv (.string s) ?_
   refine zwv (iN .i64 j) ?_
   refine zwu (run_quo (k := .i64) (a := j) (b := 8) (by omega) (by simp only [top]; omega)) ?_
   refine zwu (run_sidx (s := s) (a := j / 8) (by omega)) ?_
   refine zwv (iN .i64 j) ?_
   refine zwu (run_rem (k := .i64) (a := j) (b := 8) (by omega)) ?_
   refine zwu (run_shr (k2 := .i64) (k := .u8) (a := sb s (j / 8)) (b := j % 8) (show j % 8 ≤ 8 by omega)) ?_
   refine zwu (run_and8 (a := (sb s (j / 8)) / 2 ^ (j % 8)) (b := 1) (Nat.lt_of_le_of_lt (Nat.div_le_self _ _) (sb_lt _ _))) ?_
   refine zwu (v := .bool false) (run_eqi (k := .u8) (a := ((sb s (j / 8)) / 2 ^ (j % 8)) &&& 1) (b := 1) false (decide_eq_false (by rw [bit_of]; exact hbit))) ?_
   refine znt ?_
   refine zcf ?_
   refine wp_skip ?_
   refine block_normal ?_
   refine then_at rfl ?_
   refine wl_region ?_
   refine zwv (iN .i64 j) ?_
   refine zwu (run_dec (j := j) (by omega)) ?_
   refine zwv (dnv j) ?_
   refine wl_nil ?_
   exact then_I (zex ((by rw [← rmQ_nil s q k j ej hbit]; exact h27)))
 ·rintro _ w32 ⟨u21, rfl, h33⟩
  refine wp_seq ?_
  refine zsr ?_
  refine zwv (dnv 0) ?_
  refine zwu (run_geq0 (k := .i64) (a := -1) (b := 0) false (by decide)) ?_
  refine zna ⟨(.agg (rq q) :: .string s :: pt q1 :: un :: pt q4 :: pt q9 :: pt q16 :: dnv 0 :: .agg (rq (mdQ 0 1)) :: .string s :: iN .i64 s.size :: .bool false :: un :: rarr dN :: dnv 0 :: .bool false :: u21 16 :: u21 17 :: u21 18 :: u21 19 :: u21 20 :: u21 21 :: u21 22 :: u21 23 :: u21 24 :: u21 25 :: u21 26 :: u21 27 :: u21 28 :: u21 29 :: u21 30 :: u21 31 :: u21 32 :: u21 33 :: u21 34 :: List.replicate 1 un).toArray, []⟩ ?_
  refine zcf ?_
  refine wp_exit ?_
  repeat first | refine then_exit ?_ | refine block_exit ?_ | refine block_exit_ne (by decide) ?_
  refine then_at rfl ?_
  refine zsr ?_
  refine zwu (run_load34 (rmQ s q 256) (by kernel_rfl) (show Blk w32 q9 53 (rq (rmQ s q 256)) from h33.get 1 rfl)) ?_
  refine wl_fill (c' := rq (rmQ s q 256)) h33 2 rfl (rq_sz (rmQ s q 256) (Q4.mk 0 0 0 0)) (info34q (rmQ s q 256)) (one_rq (rmQ s q 256)) ?_
  intro w34 (h35 : HA w [(q16, 51, rl dN), (q9, 53, rq (rmQ s q 256)), (q4, 53, rq (rmQ s q 256)), (q1, 53, rq q)] w34)
  refine znt ?_
  refine wp_ret ?_
  repeat first | refine then_ret ?_ | refine block_ret ?_
  have hB : Blk w34 q4 53 (rq (rmQ s q 256)) := h35.get 2 rfl
  exact bodyPost_ret (res34 (p := 4) (rmQ s q 256) (by kernel_rfl) (by kernel_rfl) hB) rfl ⟨rfl, h35.old⟩
end Go.Proofs.YtefjnfeckenmkaaGreatDoor

namespace Go.Proofs.YtefjnfeckenmkaaGreatDoor
open Go.RowKit Num
theorem rmul_ex {q : Q4} {p : Pt} (h : Rp q p) (s : ByteArray) (hs : s.size = 32) : ∃ r, Rp r (mP p (numS s)) ∧ ∀ w, Calls Tryz.prog 33 #[.agg (rq q), .string s] w fun e w' => e = .returned (.agg (rq r)) ∧ Below w.heap.size w w' := by
 have hr := rm_rep s hs h 256 (Nat.le_refl _)
 rw [Nat.sub_self, Nat.pow_zero, Nat.div_one] at hr
 exact ⟨_, hr, fun w => rMul_any s hs q h.lt w⟩
theorem radd_ex {q r : Q4} {p s : Pt} (h : Rp q p) (k : Rp r s) : ∃ t, Rp t (aP p s) ∧ ∀ w, Calls Tryz.prog 36 #[.agg (rq q), .agg (rq r)] w fun e w' => e = .returned (.agg (rq t)) ∧ Below w.heap.size w w' := ⟨_, h.sum k, fun w => rAdd_any q r h.lt k.lt w⟩
theorem rsame_yes {q r : Q4} {p s : Pt} (h : Rp q p) (k : Rp r s) (e : p = s) (w : World) : Calls Tryz.prog 35 #[.agg (rq q), .agg (rq r)] w fun e w' => e = .returned (.bool true) ∧ Below w.heap.size w w' :=
 rSame_yes q r h.lt k.lt ((rsame_x h k).2 (by rw [e])) ((rsame_y h k).2 (by rw [e])) w
theorem rsame_no {q r : Q4} {p s : Pt} (h : Rp q p) (k : Rp r s) (e : p ≠ s) (w : World) : Calls Tryz.prog 35 #[.agg (rq q), .agg (rq r)] w fun e w' => e = .returned (.bool false) ∧ Below w.heap.size w w' := by
 by_cases h1 : p.x = s.x
 ·by_cases h2 : p.y = s.y
  ·exact absurd (Pt.same h1 h2) e
  ·exact rSame_no2 q r h.lt k.lt ((rsame_x h k).2 h1) (fun e => h2 ((rsame_y h k).1 e)) w
 ·exact rSame_no1 q r h.lt k.lt (fun e => h1 ((rsame_x h k).1 e)) w
end Go.Proofs.YtefjnfeckenmkaaGreatDoor
