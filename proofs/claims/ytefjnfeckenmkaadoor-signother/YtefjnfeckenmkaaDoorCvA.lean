/-
  what adds a point: the closure, and who makes it.
-/
import Derived.Test.YtefjnfeckenmkaaDoorCuS
namespace Go.Proofs.YtefjnfeckenmkaaDoor
open Go.RowKit Num

def zCvA_0 (a : Nat) (b : Nat) (c : Nat) (d : Nat) (qu : Nat) (qv : Nat) (qt : Nat) (qz : Nat) q1 q4 (u : Nat) (v : Nat) (zx7 zx8 zx9 zx10 : Value) (zt : List Value) := (.agg (qd a b c d) :: pt qu :: pt qv :: pt qt :: pt qz :: pt q1 :: pt q4 :: zx7 :: zx8 :: zx9 :: zx10 :: .pointer (some ⟨q1, 4, none⟩) :: arr b :: pt q1 :: arr a :: arr (addP b a) :: arr u :: arr (mulP (addP b a) u) :: .pointer (some ⟨q1, 4, none⟩) :: arr b :: pt q1 :: arr a :: arr (subP b a) :: arr v :: arr (mulP (subP b a) v) :: zt : List Value)
set_option linter.unusedVariables false in
set_option maxRecDepth 100000 in
set_option maxHeartbeats 2000000 in
theorem asum_any (a b c d : Nat) (ha : a < P) (hb : b < P) (hc : c < P) (hd : d < P) (u qu : Nat) (hu : u < P) (v qv : Nat) (hv : v < P) (t qt : Nat) (ht : t < P) (z qz : Nat) (hz : z < P) (w : World) (VV : Vars w) (hqu : Blk w qu 37 (el u)) (hqv : Blk w qv 37 (el v)) (hqt : Blk w qt 37 (el t)) (hqz : Blk w qz 37 (el z)) :
    Calls Tryd.prog 61 #[.agg (qd a b c d), .pointer (some ⟨qu, 0, none⟩), .pointer (some ⟨qv, 0, none⟩), .pointer (some ⟨qt, 0, none⟩), .pointer (some ⟨qz, 0, none⟩)] w fun e w' => e = .returned (.agg (qd (mulP (subP (mulP (addP b a) u) (mulP (subP b a) v)) (subP (mulP c t) (mulP d z))) (mulP (addP (mulP c t) (mulP d z)) (addP (mulP (addP b a) u) (mulP (subP b a) v))) (mulP (subP (mulP c t) (mulP d z)) (addP (mulP c t) (mulP d z))) (mulP (subP (mulP (addP b a) u) (mulP (subP b a) v)) (addP (mulP (addP b a) u) (mulP (subP b a) v))))) ∧ Below w.heap.size w w' := by
  have H0 := HA.start w
  go_enter Tryd.func61, Tryd.ntmps61
  refine wp_seq ?_
  refine wl_region ?_
  refine wl_make H0 66 (by kernel_rfl) (run_box82 (c := qd a b c d) (by kernel_rfl)) ?_
  intro q1 w2 h3
  refine wl_make h3 66 (by kernel_rfl) run_alloc82 ?_
  intro q4 w5 h6
  refine wl_nil ?_
  refine then_at (F := ⟨(.agg (qd a b c d) :: pt qu :: pt qv :: pt qt :: pt qz :: pt q1 :: pt q4 :: List.replicate 39 un).toArray, []⟩) (by kernel_rfl) ?_
  refine wp_seq ?_
  obtain ⟨B7, eB7⟩ : ∃ B, B = w5.heap.size := ⟨_, rfl⟩
  refine wp_region_ghost (fun g : Nat → Nat => (⟨(zCvA_0 a b c d qu qv qt qz q1 q4 u v (pt (g 14)) (pt (g 15)) un un (List.replicate 21 un)).toArray, []⟩ : Act)) (GS w [(q4, 66, qd 0 0 0 0), (q1, 66, qd a b c d)] B7 2 14 16 37 (el 0) (fun j => match j with | 0 => el (mulP (addP b a) u) | _ => el (mulP (subP b a) v))) [.pointer (some ⟨q1, 4, none⟩), arr b, .pointer (some ⟨q1, 0, none⟩), arr a, arr (addP b a), arr u, arr (mulP (addP b a) u), .pointer (some ⟨q1, 4, none⟩), arr b, .pointer (some ⟨q1, 0, none⟩), arr a, arr (subP b a), arr v, arr (mulP (subP b a) v), .pointer (some ⟨0, 0, none⟩), .pointer (some ⟨0, 0, none⟩), undef, undef] (by kernel_rfl) (by kernel_rfl) (by kernel_rfl) (by kernel_rfl) (fun _ _ _ _ h => h) (fun d hd => GS.start h6.drew eB7 (by decide) (fun j _ => by rcases j with _ | j <;> exact (el_sz _ _)) (fun j hj => hd j (Nat.lt_of_lt_of_le hj (by decide)))) ?_ ?_
  · refine AllGhost.cons (ghost_plain (v := .pointer (some ⟨q1, 4, none⟩)) (by decide) (fun _ => by kernel_rfl) (fun _ => by kernel_rfl) (fun _ _ => (by kernel_rfl))) ?_
    refine AllGhost.cons (ghost_held (v := arr b) (by decide) (fun _ => by kernel_rfl) (fun _ => by kernel_rfl) (fun _ w' h' => run_part (q := q1) (off := 4 * 1) (n := b) (by kernel_rfl) (h'.get 1 rfl) (qd_get a b c d).2.1)) ?_
    refine AllGhost.cons (ghost_plain (v := .pointer (some ⟨q1, 0, none⟩)) (by decide) (fun _ => by kernel_rfl) (fun _ => by kernel_rfl) (fun _ _ => (by kernel_rfl))) ?_
    refine AllGhost.cons (ghost_held (v := arr a) (by decide) (fun _ => by kernel_rfl) (fun _ => by kernel_rfl) (fun _ w' h' => run_part (q := q1) (off := 4 * 0) (n := a) (by kernel_rfl) (h'.get 1 rfl) (qd_get a b c d).1)) ?_
    refine AllGhost.cons (ghost_call (v := arr (addP b a)) (by decide) (fun _ => by kernel_rfl) (fun _ => by kernel_rfl) enter87 #[arr b, arr a] (fun _ => by kernel_rfl) (fun w' h' => Add_any b a hb ha w' (VV.below h'.old VV.big))) ?_
    refine AllGhost.cons (ghost_held (v := arr u) (by decide) (fun _ => by kernel_rfl) (fun _ => by kernel_rfl) (fun _ w' h' => run_part (q := qu) (off := 0) (n := u) (by kernel_rfl) (hqu.keep h'.old) (fun i _ => by rw [Nat.zero_add]))) ?_
    refine AllGhost.cons (ghost_call (v := arr (mulP (addP b a) u)) (by decide) (fun _ => by kernel_rfl) (fun _ => by kernel_rfl) enter80 #[arr (addP b a), arr u] (fun _ => by kernel_rfl) (fun w' h' => Mul_any (addP b a) u (addP_lt _ _) hu w' (VV.below h'.old VV.big))) ?_
    refine AllGhost.cons (ghost_plain (v := .pointer (some ⟨q1, 4, none⟩)) (by decide) (fun _ => by kernel_rfl) (fun _ => by kernel_rfl) (fun _ _ => (by kernel_rfl))) ?_
    refine AllGhost.cons (ghost_held (v := arr b) (by decide) (fun _ => by kernel_rfl) (fun _ => by kernel_rfl) (fun _ w' h' => run_part (q := q1) (off := 4 * 1) (n := b) (by kernel_rfl) (h'.get 1 rfl) (qd_get a b c d).2.1)) ?_
    refine AllGhost.cons (ghost_plain (v := .pointer (some ⟨q1, 0, none⟩)) (by decide) (fun _ => by kernel_rfl) (fun _ => by kernel_rfl) (fun _ _ => (by kernel_rfl))) ?_
    refine AllGhost.cons (ghost_held (v := arr a) (by decide) (fun _ => by kernel_rfl) (fun _ => by kernel_rfl) (fun _ w' h' => run_part (q := q1) (off := 4 * 0) (n := a) (by kernel_rfl) (h'.get 1 rfl) (qd_get a b c d).1)) ?_
    refine AllGhost.cons (ghost_call (v := arr (subP b a)) (by decide) (fun _ => by kernel_rfl) (fun _ => by kernel_rfl) enter79 #[arr b, arr a] (fun _ => by kernel_rfl) (fun w' h' => Sub_any b a hb ha w' (VV.below h'.old VV.big))) ?_
    refine AllGhost.cons (ghost_held (v := arr v) (by decide) (fun _ => by kernel_rfl) (fun _ => by kernel_rfl) (fun _ w' h' => run_part (q := qv) (off := 0) (n := v) (by kernel_rfl) (hqv.keep h'.old) (fun i _ => by rw [Nat.zero_add]))) ?_
    refine AllGhost.cons (ghost_call (v := arr (mulP (subP b a) v)) (by decide) (fun _ => by kernel_rfl) (fun _ => by kernel_rfl) enter80 #[arr (subP b a), arr v] (fun _ => by kernel_rfl) (fun w' h' => Mul_any (subP b a) v (subP_lt _ _) hv w' (VV.below h'.old VV.big))) ?_
    refine AllGhost.cons (ghost_make 0 (by decide) rfl (fun _ => by kernel_rfl) (fun _ _ => by kernel_rfl) (fun _ _ => run_alloc25)) ?_
    refine AllGhost.cons (ghost_make 1 (by decide) rfl (fun _ => by kernel_rfl) (fun _ _ => by kernel_rfl) (fun _ _ => run_alloc25)) ?_
    refine AllGhost.cons (ghost_fill 0 (by decide) rfl (fun _ => by kernel_rfl) (fun _ => by kernel_rfl) (fun _ => by kernel_rfl) (fun _ => by kernel_rfl) (info_el _) (one_el _) (by kernel_rfl)) ?_
    refine AllGhost.cons (ghost_fill 1 (by decide) rfl (fun _ => by kernel_rfl) (fun _ => by kernel_rfl) (fun _ => by kernel_rfl) (fun _ => by kernel_rfl) (info_el _) (one_el _) (by kernel_rfl)) ?_
    exact AllGhost.nil
  intro g w8 g9
  have h10 : HA w [(g 15, 37, el (mulP (subP b a) v)), (g 14, 37, el (mulP (addP b a) u)), (q4, 66, qd 0 0 0 0), (q1, 66, qd a b c d)] w8 := g9.two
  clear g9 eB7
  generalize g 14 = q11 at h10 ⊢
  generalize g 15 = q12 at h10 ⊢
  clear g
  refine then_at (F := ⟨(zCvA_0 a b c d qu qv qt qz q1 q4 u v (pt q11) (pt q12) un un (List.replicate 21 un)).toArray, []⟩) (by kernel_rfl) ?_
  refine wp_seq ?_
  obtain ⟨B13, eB13⟩ : ∃ B, B = w8.heap.size := ⟨_, rfl⟩
  refine wp_region_ghost (fun g : Nat → Nat => (⟨(zCvA_0 a b c d qu qv qt qz q1 q4 u v (pt q11) (pt q12) (pt (g 8)) (pt (g 9)) (.pointer (some ⟨q1, 8, none⟩) :: arr c :: arr t :: arr (mulP c t) :: .pointer (some ⟨q1, 12, none⟩) :: arr d :: arr z :: arr (mulP d z) :: List.replicate 13 un)).toArray, []⟩ : Act)) (GS w [(q12, 37, el (mulP (subP b a) v)), (q11, 37, el (mulP (addP b a) u)), (q4, 66, qd 0 0 0 0), (q1, 66, qd a b c d)] B13 2 8 10 37 (el 0) (fun j => match j with | 0 => el (mulP c t) | _ => el (mulP d z))) [.pointer (some ⟨q1, 8, none⟩), arr c, arr t, arr (mulP c t), .pointer (some ⟨q1, 12, none⟩), arr d, arr z, arr (mulP d z), .pointer (some ⟨0, 0, none⟩), .pointer (some ⟨0, 0, none⟩), undef, undef] (by kernel_rfl) (by kernel_rfl) (by kernel_rfl) (by kernel_rfl) (fun _ _ _ _ h => h) (fun d hd => GS.start h10.drew eB13 (by decide) (fun j _ => by rcases j with _ | j <;> exact (el_sz _ _)) (fun j hj => hd j (Nat.lt_of_lt_of_le hj (by decide)))) ?_ ?_
  · refine AllGhost.cons (ghost_plain (v := .pointer (some ⟨q1, 8, none⟩)) (by decide) (fun _ => by kernel_rfl) (fun _ => by kernel_rfl) (fun _ _ => (by kernel_rfl))) ?_
    refine AllGhost.cons (ghost_held (v := arr c) (by decide) (fun _ => by kernel_rfl) (fun _ => by kernel_rfl) (fun _ w' h' => run_part (q := q1) (off := 4 * 2) (n := c) (by kernel_rfl) (h'.get 3 rfl) (qd_get a b c d).2.2.1)) ?_
    refine AllGhost.cons (ghost_held (v := arr t) (by decide) (fun _ => by kernel_rfl) (fun _ => by kernel_rfl) (fun _ w' h' => run_part (q := qt) (off := 0) (n := t) (by kernel_rfl) (hqt.keep h'.old) (fun i _ => by rw [Nat.zero_add]))) ?_
    refine AllGhost.cons (ghost_call (v := arr (mulP c t)) (by decide) (fun _ => by kernel_rfl) (fun _ => by kernel_rfl) enter80 #[arr c, arr t] (fun _ => by kernel_rfl) (fun w' h' => Mul_any c t hc ht w' (VV.below h'.old VV.big))) ?_
    refine AllGhost.cons (ghost_plain (v := .pointer (some ⟨q1, 12, none⟩)) (by decide) (fun _ => by kernel_rfl) (fun _ => by kernel_rfl) (fun _ _ => (by kernel_rfl))) ?_
    refine AllGhost.cons (ghost_held (v := arr d) (by decide) (fun _ => by kernel_rfl) (fun _ => by kernel_rfl) (fun _ w' h' => run_part (q := q1) (off := 4 * 3) (n := d) (by kernel_rfl) (h'.get 3 rfl) (qd_get a b c d).2.2.2)) ?_
    refine AllGhost.cons (ghost_held (v := arr z) (by decide) (fun _ => by kernel_rfl) (fun _ => by kernel_rfl) (fun _ w' h' => run_part (q := qz) (off := 0) (n := z) (by kernel_rfl) (hqz.keep h'.old) (fun i _ => by rw [Nat.zero_add]))) ?_
    refine AllGhost.cons (ghost_call (v := arr (mulP d z)) (by decide) (fun _ => by kernel_rfl) (fun _ => by kernel_rfl) enter80 #[arr d, arr z] (fun _ => by kernel_rfl) (fun w' h' => Mul_any d z hd hz w' (VV.below h'.old VV.big))) ?_
    refine AllGhost.cons (ghost_make 0 (by decide) rfl (fun _ => by kernel_rfl) (fun _ _ => by kernel_rfl) (fun _ _ => run_alloc25)) ?_
    refine AllGhost.cons (ghost_make 1 (by decide) rfl (fun _ => by kernel_rfl) (fun _ _ => by kernel_rfl) (fun _ _ => run_alloc25)) ?_
    refine AllGhost.cons (ghost_fill 0 (by decide) rfl (fun _ => by kernel_rfl) (fun _ => by kernel_rfl) (fun _ => by kernel_rfl) (fun _ => by kernel_rfl) (info_el _) (one_el _) (by kernel_rfl)) ?_
    refine AllGhost.cons (ghost_fill 1 (by decide) rfl (fun _ => by kernel_rfl) (fun _ => by kernel_rfl) (fun _ => by kernel_rfl) (fun _ => by kernel_rfl) (info_el _) (one_el _) (by kernel_rfl)) ?_
    exact AllGhost.nil
  intro g w14 g15
  have h16 : HA w [(g 9, 37, el (mulP d z)), (g 8, 37, el (mulP c t)), (q12, 37, el (mulP (subP b a) v)), (q11, 37, el (mulP (addP b a) u)), (q4, 66, qd 0 0 0 0), (q1, 66, qd a b c d)] w14 := g15.two
  clear g15 eB13
  generalize g 8 = q17 at h16 ⊢
  generalize g 9 = q18 at h16 ⊢
  clear g
  refine then_at (F := ⟨(zCvA_0 a b c d qu qv qt qz q1 q4 u v (pt q11) (pt q12) (pt q17) (pt q18) (.pointer (some ⟨q1, 8, none⟩) :: arr c :: arr t :: arr (mulP c t) :: .pointer (some ⟨q1, 12, none⟩) :: arr d :: arr z :: arr (mulP d z) :: List.replicate 13 un)).toArray, []⟩) (by kernel_rfl) ?_
  refine wp_seq ?_
  obtain ⟨C19, hC19⟩ : ∃ C, C = qd (mulP (subP (mulP (addP b a) u) (mulP (subP b a) v)) (subP (mulP c t) (mulP d z))) (mulP (addP (mulP c t) (mulP d z)) (addP (mulP (addP b a) u) (mulP (subP b a) v))) (mulP (subP (mulP c t) (mulP d z)) (addP (mulP c t) (mulP d z))) (mulP (subP (mulP (addP b a) u) (mulP (subP b a) v)) (addP (mulP (addP b a) u) (mulP (subP b a) v))) := ⟨_, rfl⟩
  refine wp_region_ghost (fun _ : Nat → Nat => (⟨(zCvA_0 a b c d qu qv qt qz q1 q4 u v (pt q11) (pt q12) (pt q17) (pt q18) (.pointer (some ⟨q1, 8, none⟩) :: arr c :: arr t :: arr (mulP c t) :: .pointer (some ⟨q1, 12, none⟩) :: arr d :: arr z :: arr (mulP d z) :: arr (mulP (addP b a) u) :: arr (mulP (subP b a) v) :: arr (subP (mulP (addP b a) u) (mulP (subP b a) v)) :: arr (mulP c t) :: arr (mulP d z) :: arr (subP (mulP c t) (mulP d z)) :: arr (mulP c t) :: arr (mulP d z) :: arr (addP (mulP c t) (mulP d z)) :: arr (mulP (addP b a) u) :: arr (mulP (subP b a) v) :: arr (addP (mulP (addP b a) u) (mulP (subP b a) v)) :: .agg C19 :: [])).toArray, []⟩ : Act)) (GF w [(q18, 37, el (mulP d z)), (q17, 37, el (mulP c t)), (q12, 37, el (mulP (subP b a) v)), (q11, 37, el (mulP (addP b a) u)), (q4, 66, qd 0 0 0 0), (q1, 66, qd a b c d)] 13 12 4 q4 66 (C19)) [arr (mulP (addP b a) u), arr (mulP (subP b a) v), arr (subP (mulP (addP b a) u) (mulP (subP b a) v)), arr (mulP c t), arr (mulP d z), arr (subP (mulP c t) (mulP d z)), arr (mulP c t), arr (mulP d z), arr (addP (mulP c t) (mulP d z)), arr (mulP (addP b a) u), arr (mulP (subP b a) v), arr (addP (mulP (addP b a) u) (mulP (subP b a) v)), .agg C19, undef] (by kernel_rfl) (by kernel_rfl) (by kernel_rfl) (by kernel_rfl) (fun _ _ _ _ h => h) (fun d hd => GF.start h16.drew (hd 13 (by decide))) ?_ ?_
  · refine AllGhost.cons (gf_load2 3 (by decide) rfl (by decide) (fun _ => by kernel_rfl) (fun _ => by kernel_rfl) (fun _ => by kernel_rfl) Tryd.underlying37 rfl (info_el _)) ?_
    refine AllGhost.cons (gf_load2 2 (by decide) rfl (by decide) (fun _ => by kernel_rfl) (fun _ => by kernel_rfl) (fun _ => by kernel_rfl) Tryd.underlying37 rfl (info_el _)) ?_
    refine AllGhost.cons (gf_callh (v := arr (subP (mulP (addP b a) u) (mulP (subP b a) v))) (by decide) (fun _ => by kernel_rfl) (fun _ => by kernel_rfl) enter79 #[arr (mulP (addP b a) u), arr (mulP (subP b a) v)] (fun _ => by kernel_rfl) (fun w' ho => Sub_any (mulP (addP b a) u) (mulP (subP b a) v) (mulP_lt _ _) (mulP_lt _ _) w' (VV.below ho VV.big))) ?_
    refine AllGhost.cons (gf_load2 1 (by decide) rfl (by decide) (fun _ => by kernel_rfl) (fun _ => by kernel_rfl) (fun _ => by kernel_rfl) Tryd.underlying37 rfl (info_el _)) ?_
    refine AllGhost.cons (gf_load2 0 (by decide) rfl (by decide) (fun _ => by kernel_rfl) (fun _ => by kernel_rfl) (fun _ => by kernel_rfl) Tryd.underlying37 rfl (info_el _)) ?_
    refine AllGhost.cons (gf_callh (v := arr (subP (mulP c t) (mulP d z))) (by decide) (fun _ => by kernel_rfl) (fun _ => by kernel_rfl) enter79 #[arr (mulP c t), arr (mulP d z)] (fun _ => by kernel_rfl) (fun w' ho => Sub_any (mulP c t) (mulP d z) (mulP_lt _ _) (mulP_lt _ _) w' (VV.below ho VV.big))) ?_
    refine AllGhost.cons (gf_load2 1 (by decide) rfl (by decide) (fun _ => by kernel_rfl) (fun _ => by kernel_rfl) (fun _ => by kernel_rfl) Tryd.underlying37 rfl (info_el _)) ?_
    refine AllGhost.cons (gf_load2 0 (by decide) rfl (by decide) (fun _ => by kernel_rfl) (fun _ => by kernel_rfl) (fun _ => by kernel_rfl) Tryd.underlying37 rfl (info_el _)) ?_
    refine AllGhost.cons (gf_callh (v := arr (addP (mulP c t) (mulP d z))) (by decide) (fun _ => by kernel_rfl) (fun _ => by kernel_rfl) enter87 #[arr (mulP c t), arr (mulP d z)] (fun _ => by kernel_rfl) (fun w' ho => Add_any (mulP c t) (mulP d z) (mulP_lt _ _) (mulP_lt _ _) w' (VV.below ho VV.big))) ?_
    refine AllGhost.cons (gf_load2 3 (by decide) rfl (by decide) (fun _ => by kernel_rfl) (fun _ => by kernel_rfl) (fun _ => by kernel_rfl) Tryd.underlying37 rfl (info_el _)) ?_
    refine AllGhost.cons (gf_load2 2 (by decide) rfl (by decide) (fun _ => by kernel_rfl) (fun _ => by kernel_rfl) (fun _ => by kernel_rfl) Tryd.underlying37 rfl (info_el _)) ?_
    refine AllGhost.cons (gf_callh (v := arr (addP (mulP (addP b a) u) (mulP (subP b a) v))) (by decide) (fun _ => by kernel_rfl) (fun _ => by kernel_rfl) enter87 #[arr (mulP (addP b a) u), arr (mulP (subP b a) v)] (fun _ => by kernel_rfl) (fun w' ho => Add_any (mulP (addP b a) u) (mulP (subP b a) v) (mulP_lt _ _) (mulP_lt _ _) w' (VV.below ho VV.big))) ?_
    refine AllGhost.cons (gf_callh (v := .agg C19) (by decide) (fun _ => by kernel_rfl) (fun _ => by kernel_rfl) enter92 #[arr (subP (mulP (addP b a) u) (mulP (subP b a) v)), arr (subP (mulP c t) (mulP d z)), arr (addP (mulP c t) (mulP d z)), arr (addP (mulP (addP b a) u) (mulP (subP b a) v))] (fun _ => by kernel_rfl) (fun w' ho => (by rw [hC19]; exact crossed_any (subP (mulP (addP b a) u) (mulP (subP b a) v)) (subP (mulP c t) (mulP d z)) (addP (mulP c t) (mulP d z)) (addP (mulP (addP b a) u) (mulP (subP b a) v)) (subP_lt _ _) (subP_lt _ _) (addP_lt _ _) (addP_lt _ _) w' (VV.below ho VV.big)))) ?_
    refine AllGhost.cons (gf_fill rfl (by rw [hC19]; exact (qd_sz (mulP (subP (mulP (addP b a) u) (mulP (subP b a) v)) (subP (mulP c t) (mulP d z))) (mulP (addP (mulP c t) (mulP d z)) (addP (mulP (addP b a) u) (mulP (subP b a) v))) (mulP (subP (mulP c t) (mulP d z)) (addP (mulP c t) (mulP d z))) (mulP (subP (mulP (addP b a) u) (mulP (subP b a) v)) (addP (mulP (addP b a) u) (mulP (subP b a) v))) 0 0 0 0)) (fun _ => by kernel_rfl) (fun _ => by kernel_rfl) (fun _ => by kernel_rfl) (fun _ => by kernel_rfl) (by rw [hC19]; exact (info82q (mulP (subP (mulP (addP b a) u) (mulP (subP b a) v)) (subP (mulP c t) (mulP d z))) (mulP (addP (mulP c t) (mulP d z)) (addP (mulP (addP b a) u) (mulP (subP b a) v))) (mulP (subP (mulP c t) (mulP d z)) (addP (mulP c t) (mulP d z))) (mulP (subP (mulP (addP b a) u) (mulP (subP b a) v)) (addP (mulP (addP b a) u) (mulP (subP b a) v))))) (by rw [hC19]; exact (one_qd (mulP (subP (mulP (addP b a) u) (mulP (subP b a) v)) (subP (mulP c t) (mulP d z))) (mulP (addP (mulP c t) (mulP d z)) (addP (mulP (addP b a) u) (mulP (subP b a) v))) (mulP (subP (mulP c t) (mulP d z)) (addP (mulP c t) (mulP d z))) (mulP (subP (mulP (addP b a) u) (mulP (subP b a) v)) (addP (mulP (addP b a) u) (mulP (subP b a) v))))) (by decide) (by kernel_rfl)) ?_
    exact AllGhost.nil
  intro _ w20 g21
  have h22 : HA w [(q18, 37, el (mulP d z)), (q17, 37, el (mulP c t)), (q12, 37, el (mulP (subP b a) v)), (q11, 37, el (mulP (addP b a) u)), (q4, 66, C19), (q1, 66, qd a b c d)] w20 := g21.held
  clear g21
  subst hC19
  refine then_at (F := ⟨(zCvA_0 a b c d qu qv qt qz q1 q4 u v (pt q11) (pt q12) (pt q17) (pt q18) (.pointer (some ⟨q1, 8, none⟩) :: arr c :: arr t :: arr (mulP c t) :: .pointer (some ⟨q1, 12, none⟩) :: arr d :: arr z :: arr (mulP d z) :: arr (mulP (addP b a) u) :: arr (mulP (subP b a) v) :: arr (subP (mulP (addP b a) u) (mulP (subP b a) v)) :: arr (mulP c t) :: arr (mulP d z) :: arr (subP (mulP c t) (mulP d z)) :: arr (mulP c t) :: arr (mulP d z) :: arr (addP (mulP c t) (mulP d z)) :: arr (mulP (addP b a) u) :: arr (mulP (subP b a) v) :: arr (addP (mulP (addP b a) u) (mulP (subP b a) v)) :: .agg (qd (mulP (subP (mulP (addP b a) u) (mulP (subP b a) v)) (subP (mulP c t) (mulP d z))) (mulP (addP (mulP c t) (mulP d z)) (addP (mulP (addP b a) u) (mulP (subP b a) v))) (mulP (subP (mulP c t) (mulP d z)) (addP (mulP c t) (mulP d z))) (mulP (subP (mulP (addP b a) u) (mulP (subP b a) v)) (addP (mulP (addP b a) u) (mulP (subP b a) v)))) :: [])).toArray, []⟩) (by kernel_rfl) ?_
  refine wp_ret ?_
  repeat first | refine then_ret ?_ | refine block_ret ?_
  exact bodyPost_ret (v := .agg (qd (mulP (subP (mulP (addP b a) u) (mulP (subP b a) v)) (subP (mulP c t) (mulP d z))) (mulP (addP (mulP c t) (mulP d z)) (addP (mulP (addP b a) u) (mulP (subP b a) v))) (mulP (subP (mulP c t) (mulP d z)) (addP (mulP c t) (mulP d z))) (mulP (subP (mulP (addP b a) u) (mulP (subP b a) v)) (addP (mulP (addP b a) u) (mulP (subP b a) v))))) (res_cell (p := 6) (by kernel_rfl) (by kernel_rfl) (h22.get 4 rfl) Tryd.underlying66 rfl (info82q (mulP (subP (mulP (addP b a) u) (mulP (subP b a) v)) (subP (mulP c t) (mulP d z))) (mulP (addP (mulP c t) (mulP d z)) (addP (mulP (addP b a) u) (mulP (subP b a) v))) (mulP (subP (mulP c t) (mulP d z)) (addP (mulP c t) (mulP d z))) (mulP (subP (mulP (addP b a) u) (mulP (subP b a) v)) (addP (mulP (addP b a) u) (mulP (subP b a) v))))) rfl ⟨rfl, h22.old⟩

def zCvA_1 (a : Nat) (b : Nat) q1 (zx3 zx4 : Value) (zt : List Value) := (.agg (pr a b) :: pt q1 :: .nilFunc :: zx3 :: zx4 :: un :: un :: .agg (pr a b) :: arr (addP b 1) :: pt q1 :: arr a :: arr (addP (addP b 1) a) :: arr 121666 :: arr (mulP (addP (addP b 1) a) 121666) :: zt : List Value)
def zCvA_2 (a : Nat) (b : Nat) q1 q8 q13 (zx2 zx5 zx6 zx29 zx30 : Value) (zt : List Value) := (.agg (pr a b) :: pt q1 :: zx2 :: pt q8 :: pt q13 :: zx5 :: zx6 :: .agg (pr a b) :: arr (addP b 1) :: pt q1 :: arr a :: arr (addP (addP b 1) a) :: arr 121666 :: arr (mulP (addP (addP b 1) a) 121666) :: .agg (pr a b) :: arr (addP b 1) :: pt q1 :: arr a :: arr (subP (addP b 1) a) :: arr 121666 :: arr (mulP (subP (addP b 1) a) 121666) :: pt q1 :: arr a :: .agg (pr a b) :: arr (addP b 1) :: arr (mulP a (addP b 1)) :: arr 243330 :: arr (mulP (mulP a (addP b 1)) 243330) :: arr (negP (mulP (mulP a (addP b 1)) 243330)) :: zx29 :: zx30 :: zt : List Value)
set_option linter.unusedVariables false in
set_option maxRecDepth 100000 in
set_option maxHeartbeats 2000000 in
theorem adder_any (a b : Nat) (ha : a < P) (hb : b < P) (w : World) (VV : Vars w) :
    Calls Tryd.prog 33 #[.agg (pr a b)] w fun e w' => ∃ qu qv qt qz, e = .returned (.func (.func 61) #[] #[.pointer (some ⟨qu, 0, none⟩), .pointer (some ⟨qv, 0, none⟩), .pointer (some ⟨qt, 0, none⟩), .pointer (some ⟨qz, 0, none⟩)]) ∧ Blk w' qu 37 (el (mulP (addP (addP b 1) a) 121666)) ∧ Blk w' qv 37 (el (mulP (subP (addP b 1) a) 121666)) ∧ Blk w' qt 37 (el 243332) ∧ Blk w' qz 37 (el (negP (mulP (mulP a (addP b 1)) 243330))) ∧ Below w.heap.size w w' := by
  have H0 := HA.start w
  go_enter Tryd.func33, Tryd.ntmps33
  refine wp_seq ?_
  refine wl_region ?_
  refine wl_make H0 39 (by kernel_rfl) (run_box27 (c := pr a b) (by kernel_rfl)) ?_
  intro q1 w2 h3
  refine wl_val (.nilFunc) (by kernel_rfl) (by kernel_rfl) ?_
  refine wl_nil ?_
  refine then_at (F := ⟨(.agg (pr a b) :: pt q1 :: .nilFunc :: List.replicate 28 un).toArray, []⟩) (by kernel_rfl) ?_
  refine wp_seq ?_
  obtain ⟨B4, eB4⟩ : ∃ B, B = w2.heap.size := ⟨_, rfl⟩
  refine wp_region_ghost (fun g : Nat → Nat => (⟨(zCvA_1 a b q1 (pt (g 7)) un (List.replicate 17 un)).toArray, []⟩ : Act)) (GS w [(q1, 39, pr a b)] B4 1 7 8 37 (el 0) (fun _ => el (mulP (addP (addP b 1) a) 121666))) [.agg (pr a b), arr (addP b 1), .pointer (some ⟨q1, 0, none⟩), arr a, arr (addP (addP b 1) a), arr 121666, arr (mulP (addP (addP b 1) a) 121666), .pointer (some ⟨0, 0, none⟩), undef] (by kernel_rfl) (by kernel_rfl) (by kernel_rfl) (by kernel_rfl) (fun _ _ _ _ h => h) (fun d hd => GS.start h3.drew eB4 (by decide) (fun _ _ => (el_sz _ _)) (fun j hj => hd j (Nat.lt_of_lt_of_le hj (by decide)))) ?_ ?_
  · refine AllGhost.cons (ghost_load 0 rfl (by decide) (fun _ => by kernel_rfl) (fun _ => by kernel_rfl) (fun _ => by kernel_rfl) Tryd.underlying39 rfl (info27p a b)) ?_
    refine AllGhost.cons (ghost_call (v := arr (addP b 1)) (by decide) (fun _ => by kernel_rfl) (fun _ => by kernel_rfl) enter47 #[.agg (pr a b)] (fun _ => by kernel_rfl) (fun w' h' => y_any a b hb w' (VV.below h'.old VV.big))) ?_
    refine AllGhost.cons (ghost_plain (v := .pointer (some ⟨q1, 0, none⟩)) (by decide) (fun _ => by kernel_rfl) (fun _ => by kernel_rfl) (fun _ _ => (by kernel_rfl))) ?_
    refine AllGhost.cons (ghost_held (v := arr a) (by decide) (fun _ => by kernel_rfl) (fun _ => by kernel_rfl) (fun _ w' h' => run_part (q := q1) (off := 4 * 0) (n := a) (by kernel_rfl) (h'.get 0 rfl) (fun i hi => pr_get0 a b i hi))) ?_
    refine AllGhost.cons (ghost_call (v := arr (addP (addP b 1) a)) (by decide) (fun _ => by kernel_rfl) (fun _ => by kernel_rfl) enter87 #[arr (addP b 1), arr a] (fun _ => by kernel_rfl) (fun w' h' => Add_any (addP b 1) a (addP_lt _ _) ha w' (VV.below h'.old VV.big))) ?_
    refine AllGhost.cons (ghost_call (v := arr 121666) (by decide) (fun _ => by kernel_rfl) (fun _ => by kernel_rfl) enter41 #[iN .u32 121666] (fun _ => by kernel_rfl) (fun w' h' => Small_any 121666 (by decide) w')) ?_
    refine AllGhost.cons (ghost_call (v := arr (mulP (addP (addP b 1) a) 121666)) (by decide) (fun _ => by kernel_rfl) (fun _ => by kernel_rfl) enter80 #[arr (addP (addP b 1) a), arr 121666] (fun _ => by kernel_rfl) (fun w' h' => Mul_any (addP (addP b 1) a) 121666 (addP_lt _ _) (by decide) w' (VV.below h'.old VV.big))) ?_
    refine AllGhost.cons (ghost_make 0 (by decide) rfl (fun _ => by kernel_rfl) (fun _ _ => by kernel_rfl) (fun _ _ => run_alloc25)) ?_
    refine AllGhost.cons (ghost_fill 0 (by decide) rfl (fun _ => by kernel_rfl) (fun _ => by kernel_rfl) (fun _ => by kernel_rfl) (fun _ => by kernel_rfl) (info_el _) (one_el _) (by kernel_rfl)) ?_
    exact AllGhost.nil
  intro g w5 g6
  have h7 : HA w [(g 7, 37, el (mulP (addP (addP b 1) a) 121666)), (q1, 39, pr a b)] w5 := g6.one
  clear g6 eB4
  generalize g 7 = q8 at h7 ⊢
  clear g
  refine then_at (F := ⟨(zCvA_1 a b q1 (pt q8) un (List.replicate 17 un)).toArray, []⟩) (by kernel_rfl) ?_
  refine wp_seq ?_
  obtain ⟨B9, eB9⟩ : ∃ B, B = w5.heap.size := ⟨_, rfl⟩
  refine wp_region_ghost (fun g : Nat → Nat => (⟨(zCvA_1 a b q1 (pt q8) (pt (g 7)) (.agg (pr a b) :: arr (addP b 1) :: pt q1 :: arr a :: arr (subP (addP b 1) a) :: arr 121666 :: arr (mulP (subP (addP b 1) a) 121666) :: List.replicate 10 un)).toArray, []⟩ : Act)) (GS w [(q8, 37, el (mulP (addP (addP b 1) a) 121666)), (q1, 39, pr a b)] B9 1 7 8 37 (el 0) (fun _ => el (mulP (subP (addP b 1) a) 121666))) [.agg (pr a b), arr (addP b 1), .pointer (some ⟨q1, 0, none⟩), arr a, arr (subP (addP b 1) a), arr 121666, arr (mulP (subP (addP b 1) a) 121666), .pointer (some ⟨0, 0, none⟩), undef] (by kernel_rfl) (by kernel_rfl) (by kernel_rfl) (by kernel_rfl) (fun _ _ _ _ h => h) (fun d hd => GS.start h7.drew eB9 (by decide) (fun _ _ => (el_sz _ _)) (fun j hj => hd j (Nat.lt_of_lt_of_le hj (by decide)))) ?_ ?_
  · refine AllGhost.cons (ghost_load 1 rfl (by decide) (fun _ => by kernel_rfl) (fun _ => by kernel_rfl) (fun _ => by kernel_rfl) Tryd.underlying39 rfl (info27p a b)) ?_
    refine AllGhost.cons (ghost_call (v := arr (addP b 1)) (by decide) (fun _ => by kernel_rfl) (fun _ => by kernel_rfl) enter47 #[.agg (pr a b)] (fun _ => by kernel_rfl) (fun w' h' => y_any a b hb w' (VV.below h'.old VV.big))) ?_
    refine AllGhost.cons (ghost_plain (v := .pointer (some ⟨q1, 0, none⟩)) (by decide) (fun _ => by kernel_rfl) (fun _ => by kernel_rfl) (fun _ _ => (by kernel_rfl))) ?_
    refine AllGhost.cons (ghost_held (v := arr a) (by decide) (fun _ => by kernel_rfl) (fun _ => by kernel_rfl) (fun _ w' h' => run_part (q := q1) (off := 4 * 0) (n := a) (by kernel_rfl) (h'.get 1 rfl) (fun i hi => pr_get0 a b i hi))) ?_
    refine AllGhost.cons (ghost_call (v := arr (subP (addP b 1) a)) (by decide) (fun _ => by kernel_rfl) (fun _ => by kernel_rfl) enter79 #[arr (addP b 1), arr a] (fun _ => by kernel_rfl) (fun w' h' => Sub_any (addP b 1) a (addP_lt _ _) ha w' (VV.below h'.old VV.big))) ?_
    refine AllGhost.cons (ghost_call (v := arr 121666) (by decide) (fun _ => by kernel_rfl) (fun _ => by kernel_rfl) enter41 #[iN .u32 121666] (fun _ => by kernel_rfl) (fun w' h' => Small_any 121666 (by decide) w')) ?_
    refine AllGhost.cons (ghost_call (v := arr (mulP (subP (addP b 1) a) 121666)) (by decide) (fun _ => by kernel_rfl) (fun _ => by kernel_rfl) enter80 #[arr (subP (addP b 1) a), arr 121666] (fun _ => by kernel_rfl) (fun w' h' => Mul_any (subP (addP b 1) a) 121666 (subP_lt _ _) (by decide) w' (VV.below h'.old VV.big))) ?_
    refine AllGhost.cons (ghost_make 0 (by decide) rfl (fun _ => by kernel_rfl) (fun _ _ => by kernel_rfl) (fun _ _ => run_alloc25)) ?_
    refine AllGhost.cons (ghost_fill 0 (by decide) rfl (fun _ => by kernel_rfl) (fun _ => by kernel_rfl) (fun _ => by kernel_rfl) (fun _ => by kernel_rfl) (info_el _) (one_el _) (by kernel_rfl)) ?_
    exact AllGhost.nil
  intro g w10 g11
  have h12 : HA w [(g 7, 37, el (mulP (subP (addP b 1) a) 121666)), (q8, 37, el (mulP (addP (addP b 1) a) 121666)), (q1, 39, pr a b)] w10 := g11.one
  clear g11 eB9
  generalize g 7 = q13 at h12 ⊢
  clear g
  refine then_at (F := ⟨(zCvA_1 a b q1 (pt q8) (pt q13) (.agg (pr a b) :: arr (addP b 1) :: pt q1 :: arr a :: arr (subP (addP b 1) a) :: arr 121666 :: arr (mulP (subP (addP b 1) a) 121666) :: List.replicate 10 un)).toArray, []⟩) (by kernel_rfl) ?_
  refine wp_seq ?_
  obtain ⟨B14, eB14⟩ : ∃ B, B = w10.heap.size := ⟨_, rfl⟩
  refine wp_region_ghost (fun g : Nat → Nat => (⟨(zCvA_2 a b q1 q8 q13 (.nilFunc) (pt (g 8)) un un un ([])).toArray, []⟩ : Act)) (GS w [(q13, 37, el (mulP (subP (addP b 1) a) 121666)), (q8, 37, el (mulP (addP (addP b 1) a) 121666)), (q1, 39, pr a b)] B14 1 8 9 37 (el 0) (fun _ => el (negP (mulP (mulP a (addP b 1)) 243330)))) [.pointer (some ⟨q1, 0, none⟩), arr a, .agg (pr a b), arr (addP b 1), arr (mulP a (addP b 1)), arr 243330, arr (mulP (mulP a (addP b 1)) 243330), arr (negP (mulP (mulP a (addP b 1)) 243330)), .pointer (some ⟨0, 0, none⟩), undef] (by kernel_rfl) (by kernel_rfl) (by kernel_rfl) (by kernel_rfl) (fun _ _ _ _ h => h) (fun d hd => GS.start h12.drew eB14 (by decide) (fun _ _ => (el_sz _ _)) (fun j hj => hd j (Nat.lt_of_lt_of_le hj (by decide)))) ?_ ?_
  · refine AllGhost.cons (ghost_plain (v := .pointer (some ⟨q1, 0, none⟩)) (by decide) (fun _ => by kernel_rfl) (fun _ => by kernel_rfl) (fun _ _ => (by kernel_rfl))) ?_
    refine AllGhost.cons (ghost_held (v := arr a) (by decide) (fun _ => by kernel_rfl) (fun _ => by kernel_rfl) (fun _ w' h' => run_part (q := q1) (off := 4 * 0) (n := a) (by kernel_rfl) (h'.get 2 rfl) (fun i hi => pr_get0 a b i hi))) ?_
    refine AllGhost.cons (ghost_load 2 rfl (by decide) (fun _ => by kernel_rfl) (fun _ => by kernel_rfl) (fun _ => by kernel_rfl) Tryd.underlying39 rfl (info27p a b)) ?_
    refine AllGhost.cons (ghost_call (v := arr (addP b 1)) (by decide) (fun _ => by kernel_rfl) (fun _ => by kernel_rfl) enter47 #[.agg (pr a b)] (fun _ => by kernel_rfl) (fun w' h' => y_any a b hb w' (VV.below h'.old VV.big))) ?_
    refine AllGhost.cons (ghost_call (v := arr (mulP a (addP b 1))) (by decide) (fun _ => by kernel_rfl) (fun _ => by kernel_rfl) enter80 #[arr a, arr (addP b 1)] (fun _ => by kernel_rfl) (fun w' h' => Mul_any a (addP b 1) ha (addP_lt _ _) w' (VV.below h'.old VV.big))) ?_
    refine AllGhost.cons (ghost_call (v := arr 243330) (by decide) (fun _ => by kernel_rfl) (fun _ => by kernel_rfl) enter41 #[iN .u32 243330] (fun _ => by kernel_rfl) (fun w' h' => Small_any 243330 (by decide) w')) ?_
    refine AllGhost.cons (ghost_call (v := arr (mulP (mulP a (addP b 1)) 243330)) (by decide) (fun _ => by kernel_rfl) (fun _ => by kernel_rfl) enter80 #[arr (mulP a (addP b 1)), arr 243330] (fun _ => by kernel_rfl) (fun w' h' => Mul_any (mulP a (addP b 1)) 243330 (mulP_lt _ _) (by decide) w' (VV.below h'.old VV.big))) ?_
    refine AllGhost.cons (ghost_call (v := arr (negP (mulP (mulP a (addP b 1)) 243330))) (by decide) (fun _ => by kernel_rfl) (fun _ => by kernel_rfl) enter42 #[arr (mulP (mulP a (addP b 1)) 243330)] (fun _ => by kernel_rfl) (fun w' h' => Neg_any (mulP (mulP a (addP b 1)) 243330) (mulP_lt _ _) w' (VV.below h'.old VV.big))) ?_
    refine AllGhost.cons (ghost_make 0 (by decide) rfl (fun _ => by kernel_rfl) (fun _ _ => by kernel_rfl) (fun _ _ => run_alloc25)) ?_
    refine AllGhost.cons (ghost_fill 0 (by decide) rfl (fun _ => by kernel_rfl) (fun _ => by kernel_rfl) (fun _ => by kernel_rfl) (fun _ => by kernel_rfl) (info_el _) (one_el _) (by kernel_rfl)) ?_
    exact AllGhost.nil
  intro g w15 g16
  have h17 : HA w [(g 8, 37, el (negP (mulP (mulP a (addP b 1)) 243330))), (q13, 37, el (mulP (subP (addP b 1) a) 121666)), (q8, 37, el (mulP (addP (addP b 1) a) 121666)), (q1, 39, pr a b)] w15 := g16.one
  clear g16 eB14
  generalize g 8 = q18 at h17 ⊢
  clear g
  refine then_at (F := ⟨(zCvA_2 a b q1 q8 q13 (.nilFunc) (pt q18) un un un ([])).toArray, []⟩) (by kernel_rfl) ?_
  refine wp_seq ?_
  refine wl_region ?_
  refine wl_call (v := arr 243332) h17 (by kernel_rfl) enter41 #[iN .u32 243332] (by kernel_rfl) (Small_any 243332 (by decide) w15) ?_
  intro w19 h20
  refine wl_make h20 37 (by kernel_rfl) run_alloc25 ?_
  intro q21 w22 h23
  refine wl_fill (c' := el 243332) h23 0 rfl (by kernel_rfl) (by kernel_rfl) (by kernel_rfl) (el_sz _ _) (info_el _) (one_el _) ?_
  intro w24 (h25 : HA w [(q21, 37, el 243332), (q18, 37, el (negP (mulP (mulP a (addP b 1)) 243330))), (q13, 37, el (mulP (subP (addP b 1) a) 121666)), (q8, 37, el (mulP (addP (addP b 1) a) 121666)), (q1, 39, pr a b)] w24)
  refine wl_nil ?_
  refine then_at (F := ⟨(zCvA_2 a b q1 q8 q13 (.nilFunc) (pt q18) (pt q21) (arr 243332) un ([])).toArray, []⟩) (by kernel_rfl) ?_
  refine wp_seq ?_
  refine wl_region ?_
  refine wl_val (.func (.func 61) #[] #[.pointer (some ⟨q8, 0, none⟩), .pointer (some ⟨q13, 0, none⟩), .pointer (some ⟨q21, 0, none⟩), .pointer (some ⟨q18, 0, none⟩)]) (by kernel_rfl) (by kernel_rfl) ?_
  refine wl_val (.func (.func 61) #[] #[.pointer (some ⟨q8, 0, none⟩), .pointer (some ⟨q13, 0, none⟩), .pointer (some ⟨q21, 0, none⟩), .pointer (some ⟨q18, 0, none⟩)]) (by kernel_rfl) (by kernel_rfl) ?_
  refine wl_nil ?_
  refine then_at (F := ⟨(zCvA_2 a b q1 q8 q13 (.func (.func 61) #[] #[pt q8, pt q13, pt q21, pt q18]) (pt q18) (pt q21) (arr 243332) (.func (.func 61) #[] #[pt q8, pt q13, pt q21, pt q18]) ([])).toArray, []⟩) (by kernel_rfl) ?_
  refine wp_ret ?_
  repeat first | refine then_ret ?_ | refine block_ret ?_
  exact bodyPost_ret (v := .func (.func 61) #[] #[.pointer (some ⟨q8, 0, none⟩), .pointer (some ⟨q13, 0, none⟩), .pointer (some ⟨q21, 0, none⟩), .pointer (some ⟨q18, 0, none⟩)]) (by kernel_rfl) rfl ⟨q8, q13, q21, q18, rfl, (h25.get 3 rfl), (h25.get 2 rfl), (h25.get 0 rfl), (h25.get 1 rfl), h25.old⟩
end Go.Proofs.YtefjnfeckenmkaaDoor
