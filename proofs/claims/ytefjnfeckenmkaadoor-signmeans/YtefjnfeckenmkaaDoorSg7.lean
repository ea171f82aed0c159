/-
  the law SignMeans: a signature is one just if the sum is what it is to be.
-/
import Derived.Test.YtefjnfeckenmkaaDoorSg5
namespace Go.Proofs.YtefjnfeckenmkaaDoor
open Go.RowKit Num

section
variable {ρ : Operand → Value} {x y : Operand} {w : World} {dst : Option Tmp} {ty : TypeId} {pos : String} {aft : Array Edge} {gd : Option (Nat × Bool)} {q : Nat}
theorem run_boxB {c : Array Value} (hx : ρ x = .agg c) : (execOp ρ ⟨dst, .box 33 x, ty, pos, aft, gd⟩).run Tryd.prog w = .ok (.value (.pointer (some ⟨w.heap.size, 0, none⟩))) (w.alloc (.cells c 33)) := by
  simp only [execOp, hx]
  go_simp
theorem run_cutBh {z : Operand} (hx : ρ x = .pointer (some ⟨q, 0, none⟩)) (hz : ρ z = .int .i64 32) : (execOp ρ ⟨dst, .slice 33 x none (some z) none, ty, pos, aft, gd⟩).run Tryd.prog w = .ok (.value (.slice (some ⟨q, 0, none⟩) 32 64)) w := by
  simp only [execOp, hx, Option.map, hz]
  go_simp
theorem run_cutBl {z : Operand} (hx : ρ x = .pointer (some ⟨q, 0, none⟩)) (hz : ρ z = .int .i64 32) : (execOp ρ ⟨dst, .slice 33 x (some z) none none, ty, pos, aft, gd⟩).run Tryd.prog w = .ok (.value (.slice (some ⟨q, 32, none⟩) 32 32)) w := by
  simp only [execOp, hx, Option.map, hz]
  go_simp
theorem run_partText {t : TypeId} {l m : List UInt8} {o c : Nat} (hm : m.length = 32) (hg : ∀ j, j < 32 → l[o + j]? = m[j]?) (hx : ρ x = .slice (some ⟨q, o, none⟩) 32 c) (h : Blk w q t (cs l).toArray) : (execOp ρ ⟨dst, .convert 27 9 x, ty, pos, aft, gd⟩).run Tryd.prog w = .ok (.value (.string ⟨m.toArray⟩)) w := by
  have e := run_convert_bytes_back (P := Tryd.prog) w 27 9 5 ⟨q, o, none⟩ c m Tryd.underlying27 Tryd.underlying5 Tryd.underlying9 (fun j hj => by
    have hadd : (⟨q, o, none⟩ : Addr).add j = ⟨q, o + j, none⟩ := by unfold Addr.add; split <;> simp_all
    have e2 := hg j (by omega)
    rw [List.getElem?_eq_getElem hj] at e2
    rw [hadd, h.cell (o + j)]
    simp [cs, e2])
  rw [hm] at e
  simp only [execOp, hx, Sem.run_bind, e, Result.andThen_ok, Sem.run_pure]
end
theorem take32 (y : List UInt8) (hy : y.length = 64) : (y.take 32).length = 32 := by rw [List.length_take, hy]; rfl
theorem drop32 (y : List UInt8) (hy : y.length = 64) : (y.drop 32).length = 32 := by rw [List.length_drop, hy]
theorem takeS (y : List UInt8) (hy : y.length = 64) : (ByteArray.mk (y.take 32).toArray).size = 32 := take32 y hy
theorem dropS (y : List UInt8) (hy : y.length = 64) : (ByteArray.mk (y.drop 32).toArray).size = 32 := drop32 y hy
theorem aS_sz (a b : ByteArray) : (Sc.aS a b).size = 32 := bytesOf_size _
theorem mS_sz (a b : ByteArray) : (Sc.mS a b).size = 32 := bytesOf_size _
theorem take_at (y : List UInt8) : ∀ j, j < 32 → y[0 + j]? = (y.take 32)[j]? := fun j hj => by rw [Nat.zero_add, List.getElem?_take_of_lt hj]
theorem drop_at (y : List UInt8) : ∀ j, j < 32 → y[32 + j]? = (y.drop 32)[j]? := fun j _ => by rw [List.getElem?_drop]

def zSg7_0 (l : List UInt8) (t : ByteArray) (y : List UInt8) q1 q4 (zx7 : Value) (zt : List Value) := (.agg (cs l).toArray :: .string t :: .agg (cs y).toArray :: pt q1 :: un :: pt q4 :: .bool false :: zx7 :: un :: un :: un :: un :: un :: un :: un :: .bool true :: .bool false :: zt : List Value)
def zSg7_1 (l : List UInt8) (t : ByteArray) (y : List UInt8) q1 q4 q13 (A : Pt) (R : Pt) (zx8 zx9 zx10 zx11 : Value) (zt : List Value) := (.agg (cs l).toArray :: .string t :: .agg (cs y).toArray :: pt q1 :: un :: pt q4 :: .bool false :: pt q13 :: zx8 :: zx9 :: zx10 :: zx11 :: un :: un :: un :: .bool true :: .bool false :: ptv bP :: .slice (some ⟨q1, 0, none⟩) 32 32 :: .string (ByteArray.mk l.toArray) :: ptv A :: ptv bP :: .slice (some ⟨q4, 0, none⟩) 32 64 :: .string (ByteArray.mk (y.take 32).toArray) :: ptv R :: zt : List Value)
def zSg7_2 (l : List UInt8) (t : ByteArray) (y : List UInt8) q1 q4 q13 q18 (p : ByteArray) (f : ByteArray) (K : ByteArray) (W : ByteArray) (A : Pt) (R : Pt) q21 (D : ByteArray) (U : ByteArray) (zx6 zx13 zx14 : Value) (zt : List Value) := (.agg (cs l).toArray :: .string t :: .agg (cs y).toArray :: pt q1 :: un :: pt q4 :: zx6 :: pt q13 :: pt q18 :: .string p :: .string f :: .string K :: .string W :: zx13 :: zx14 :: .bool true :: .bool false :: ptv bP :: .slice (some ⟨q1, 0, none⟩) 32 32 :: .string (ByteArray.mk l.toArray) :: ptv A :: ptv bP :: .slice (some ⟨q4, 0, none⟩) 32 64 :: .string (ByteArray.mk (y.take 32).toArray) :: ptv R :: ptv A :: .string p :: ptv R :: .string f :: .string f :: .string p :: .string t :: .slice (some ⟨q21, 0, none⟩) 3 3 :: .string D :: .string K :: .slice (some ⟨q4, 0, none⟩) 32 64 :: .string (ByteArray.mk (y.take 32).toArray) :: .string K :: .slice (some ⟨q1, 0, none⟩) 32 32 :: .string (ByteArray.mk l.toArray) :: .string U :: .string W :: zt : List Value)
set_option linter.unusedVariables false in
set_option maxRecDepth 100000 in
set_option maxHeartbeats 2000000 in
theorem means_yes (l : List UInt8) (hl : l.length = 32) (t : ByteArray) (y : List UInt8) (hy : y.length = 64) (A R Q KP SP : Pt) (p f D K U W O : ByteArray) (fsz : f.size = 32) (wsz : W.size = 32) (osz : O.size = 32)
    (hmA : (∀ w, VA w → Calls Tryd.prog 14 #[ptv bP, .string (ByteArray.mk l.toArray)] w fun e w' => e = .returned (ptv A) ∧ Below w.heap.size w w')) (hmR : (∀ w, VA w → Calls Tryd.prog 14 #[ptv bP, .string (ByteArray.mk (y.take 32).toArray)] w fun e w' => e = .returned (ptv R) ∧ Below w.heap.size w w')) (hbA : (∀ w, VA w → Calls Tryd.prog 15 #[ptv A] w fun e w' => e = .returned (.string p) ∧ Below w.heap.size w w')) (hbR : (∀ w, VA w → Calls Tryd.prog 15 #[ptv R] w fun e w' => e = .returned (.string f) ∧ Below w.heap.size w w'))
    (hsha : ∀ q w, VA w → Blk w q 9 (Hh.psc [f, p, t]) → Calls Tryd.prog 17 #[.slice (some ⟨q, 0, none⟩) 3 3] w fun e w' => e = .returned (.string D) ∧ Below w.heap.size w w')
    (hred : (∀ w, VA w → Calls Tryd.prog 16 #[.string D] w fun e w' => e = .returned (.string K) ∧ Below w.heap.size w w')) (hmul : (∀ w, VA w → Calls Tryd.prog 18 #[.string K, .string (ByteArray.mk l.toArray)] w fun e w' => e = .returned (.string U) ∧ Below w.heap.size w w')) (hadd : (∀ w, VA w → Calls Tryd.prog 11 #[.string (ByteArray.mk (y.take 32).toArray), .string U] w fun e w' => e = .returned (.string W) ∧ Below w.heap.size w w')) (hrdo : (∀ w, VA w → Calls Tryd.prog 16 #[.string (ByteArray.mk (y.drop 32).toArray)] w fun e w' => e = .returned (.string O) ∧ Below w.heap.size w w'))
    (hmO : (∀ w, VA w → Calls Tryd.prog 14 #[ptv bP, .string O] w fun e w' => e = .returned (ptv Q) ∧ Below w.heap.size w w')) (hmK : (∀ w, VA w → Calls Tryd.prog 14 #[ptv A, .string K] w fun e w' => e = .returned (ptv KP) ∧ Below w.heap.size w w')) (hsum : (∀ w, VA w → Calls Tryd.prog 20 #[ptv R, ptv KP] w fun e w' => e = .returned (ptv SP) ∧ Below w.heap.size w w')) (hsam : (∀ w, VA w → Calls Tryd.prog 19 #[ptv Q, ptv SP] w fun e w' => e = .returned (.bool true) ∧ Below w.heap.size w w'))
    (v1 : (∀ w, VA w → Calls Tryd.prog 10 #[.string p, .string t, .string (f ++ W)] w fun e w' => e = .returned (.bool true) ∧ Below w.heap.size w w')) (v2 : (∀ w, VA w → Calls Tryd.prog 10 #[.string p, .string t, .string (f ++ O)] w fun e w' => e = .returned (.bool true) ∧ Below w.heap.size w w')) (w : World) (VV : VA w) :
    Calls Tryd.prog 5 #[.agg (cs l).toArray, .string t, .agg (cs y).toArray] w fun e w' => e = .returned (.bool true) ∧ Below w.heap.size w w' := by
  have H0 := HA.start w
  go_enter Tryd.func5, Tryd.ntmps5
  refine wp_seq ?_
  refine wl_region ?_
  refine wl_make H0 22 (by kernel_rfl) (run_boxA (c := (cs l).toArray) (by kernel_rfl)) ?_
  intro q1 w2 h3
  refine wl_make h3 33 (by kernel_rfl) (run_boxB (c := (cs y).toArray) (by kernel_rfl)) ?_
  intro q4 w5 h6
  refine wl_val (.bool false) (by kernel_rfl) (by kernel_rfl) ?_
  refine wl_nil ?_
  refine then_at (F := ⟨(.agg (cs l).toArray :: .string t :: .agg (cs y).toArray :: pt q1 :: un :: pt q4 :: .bool false :: List.replicate 63 un).toArray, []⟩) (by kernel_rfl) ?_
  refine wp_seq ?_
  refine wp_seq ?_
  refine wl_region ?_
  refine wl_call (v := .bool true) h6 (by kernel_rfl) ent7 #[] (by kernel_rfl) (works_any w5 (VV.below h6.old VV.big)) ?_
  intro w7 h8
  refine wl_val (.bool false) (by kernel_rfl) (by kernel_rfl) ?_
  refine wl_nil ?_
  refine then_at (F := ⟨(zSg7_0 l t y q1 q4 un (List.replicate 53 un)).toArray, []⟩) (by kernel_rfl) ?_
  refine wp_cond_false (by kernel_rfl) ?_
  refine wp_skip ?_
  refine then_at (F := ⟨(zSg7_0 l t y q1 q4 un (List.replicate 53 un)).toArray, []⟩) (by kernel_rfl) ?_
  refine wp_seq ?_
  obtain ⟨B9, eB9⟩ : ∃ B, B = w7.heap.size := ⟨_, rfl⟩
  refine wp_region_ghost (fun g : Nat → Nat => (⟨(zSg7_0 l t y q1 q4 (pt (g 4)) (ptv bP :: .slice (some ⟨q1, 0, none⟩) 32 32 :: .string (ByteArray.mk l.toArray) :: ptv A :: List.replicate 49 un)).toArray, []⟩ : Act)) (GS w [(q4, 33, (cs y).toArray), (q1, 22, (cs l).toArray)] B9 1 4 5 39 (pr 0 0) (fun _ => ptc A)) [ptv bP, .slice (some ⟨q1, 0, none⟩) 32 32, .string (ByteArray.mk l.toArray), ptv A, .pointer (some ⟨0, 0, none⟩), undef] (by kernel_rfl) (by kernel_rfl) (by kernel_rfl) (by kernel_rfl) (fun _ _ _ _ h => h) (fun d hd => GS.start h8.drew eB9 (by decide) (fun _ _ => (ptc_sz A)) (fun j hj => hd j (Nat.lt_of_lt_of_le hj (by decide)))) ?_ ?_
  · refine AllGhost.cons (ghost_call (v := ptv bP) (by decide) (fun _ => by kernel_rfl) (fun _ => by kernel_rfl) ent13 #[] (fun _ => by kernel_rfl) (fun w' h' => base_pv w' (VV.below h'.old VV.big))) ?_
    refine AllGhost.cons (ghost_plain (v := .slice (some ⟨q1, 0, none⟩) 32 32) (by decide) (fun _ => by kernel_rfl) (fun _ => by kernel_rfl) (fun _ _ => (run_cut41 (q := q1) (by kernel_rfl)))) ?_
    refine AllGhost.cons (ghost_held (v := .string (ByteArray.mk l.toArray)) (by decide) (fun _ => by kernel_rfl) (fun _ => by kernel_rfl) (fun _ w' h' => run_arrText (l := l) hl (by kernel_rfl) (h'.get 1 rfl))) ?_
    refine AllGhost.cons (ghost_call (v := ptv A) (by decide) (fun _ => by kernel_rfl) (fun _ => by kernel_rfl) ent14 #[ptv bP, .string (ByteArray.mk l.toArray)] (fun _ => by kernel_rfl) (fun w' h' => hmA w' (VV.below h'.old VV.big))) ?_
    refine AllGhost.cons (ghost_make 0 (by decide) rfl (fun _ => by kernel_rfl) (fun _ _ => by kernel_rfl) (fun _ _ => run_alloc27)) ?_
    refine AllGhost.cons (ghost_fill 0 (by decide) rfl (fun _ => by kernel_rfl) (fun _ => by kernel_rfl) (fun _ => by kernel_rfl) (fun _ => by kernel_rfl) (ptc_info A) (ptc_one A) (by kernel_rfl)) ?_
    exact AllGhost.nil
  intro g w10 g11
  have h12 : HA w [(g 4, 39, ptc A), (q4, 33, (cs y).toArray), (q1, 22, (cs l).toArray)] w10 := g11.one
  clear g11 eB9
  generalize g 4 = q13 at h12 ⊢
  clear g
  refine then_at (F := ⟨(zSg7_0 l t y q1 q4 (pt q13) (ptv bP :: .slice (some ⟨q1, 0, none⟩) 32 32 :: .string (ByteArray.mk l.toArray) :: ptv A :: List.replicate 49 un)).toArray, []⟩) (by kernel_rfl) ?_
  refine wp_seq ?_
  obtain ⟨B14, eB14⟩ : ∃ B, B = w10.heap.size := ⟨_, rfl⟩
  refine wp_region_ghost (fun g : Nat → Nat => (⟨(zSg7_1 l t y q1 q4 q13 A R (pt (g 4)) un un un (List.replicate 45 un)).toArray, []⟩ : Act)) (GS w [(q13, 39, ptc A), (q4, 33, (cs y).toArray), (q1, 22, (cs l).toArray)] B14 1 4 5 39 (pr 0 0) (fun _ => ptc R)) [ptv bP, .slice (some ⟨q4, 0, none⟩) 32 64, .string (ByteArray.mk (y.take 32).toArray), ptv R, .pointer (some ⟨0, 0, none⟩), undef] (by kernel_rfl) (by kernel_rfl) (by kernel_rfl) (by kernel_rfl) (fun _ _ _ _ h => h) (fun d hd => GS.start h12.drew eB14 (by decide) (fun _ _ => (ptc_sz R)) (fun j hj => hd j (Nat.lt_of_lt_of_le hj (by decide)))) ?_ ?_
  · refine AllGhost.cons (ghost_call (v := ptv bP) (by decide) (fun _ => by kernel_rfl) (fun _ => by kernel_rfl) ent13 #[] (fun _ => by kernel_rfl) (fun w' h' => base_pv w' (VV.below h'.old VV.big))) ?_
    refine AllGhost.cons (ghost_plain (v := .slice (some ⟨q4, 0, none⟩) 32 64) (by decide) (fun _ => by kernel_rfl) (fun _ => by kernel_rfl) (fun _ _ => (run_cutBh (q := q4) (by kernel_rfl) (by kernel_rfl)))) ?_
    refine AllGhost.cons (ghost_held (v := .string (ByteArray.mk (y.take 32).toArray)) (by decide) (fun _ => by kernel_rfl) (fun _ => by kernel_rfl) (fun _ w' h' => run_partText (c := 64) (l := y) (m := y.take 32) (take32 y hy) (take_at y) (by kernel_rfl) (h'.get 1 rfl))) ?_
    refine AllGhost.cons (ghost_call (v := ptv R) (by decide) (fun _ => by kernel_rfl) (fun _ => by kernel_rfl) ent14 #[ptv bP, .string (ByteArray.mk (y.take 32).toArray)] (fun _ => by kernel_rfl) (fun w' h' => hmR w' (VV.below h'.old VV.big))) ?_
    refine AllGhost.cons (ghost_make 0 (by decide) rfl (fun _ => by kernel_rfl) (fun _ _ => by kernel_rfl) (fun _ _ => run_alloc27)) ?_
    refine AllGhost.cons (ghost_fill 0 (by decide) rfl (fun _ => by kernel_rfl) (fun _ => by kernel_rfl) (fun _ => by kernel_rfl) (fun _ => by kernel_rfl) (ptc_info R) (ptc_one R) (by kernel_rfl)) ?_
    exact AllGhost.nil
  intro g w15 g16
  have h17 : HA w [(g 4, 39, ptc R), (q13, 39, ptc A), (q4, 33, (cs y).toArray), (q1, 22, (cs l).toArray)] w15 := g16.one
  clear g16 eB14
  generalize g 4 = q18 at h17 ⊢
  clear g
  refine then_at (F := ⟨(zSg7_1 l t y q1 q4 q13 A R (pt q18) un un un (List.replicate 45 un)).toArray, []⟩) (by kernel_rfl) ?_
  refine wp_seq ?_
  refine wp_region_sure ⟨(zSg7_1 l t y q1 q4 q13 A R (pt q18) (.string p) (.string f) un (ptv A :: .string p :: ptv R :: .string f :: List.replicate 41 un)).toArray, []⟩ (HA w [(q18, 39, ptc R), (q13, 39, ptc A), (q4, 33, (cs y).toArray), (q1, 22, (cs l).toArray)]) [ptv A, .string p, ptv R, .string f, .string p, .string f] (by kernel_rfl) (by kernel_rfl) (by kernel_rfl) (by kernel_rfl) (fun _ _ _ h => h) h17.drew ?_ ?_
  · refine AllSure.cons (OpSure.take (v := ptv A) (by kernel_rfl) (by kernel_rfl) (fun _ h => run_load_blk (by kernel_rfl) (h.get 1 rfl) Tryd.underlying39 rfl (ptc_info A))) ?_
    refine AllSure.cons (sure_call (v := .string p) (by kernel_rfl) (by kernel_rfl) ent15 HA.keep #[ptv A] (by kernel_rfl) (fun w' h' => hbA w' (VV.below h'.old VV.big))) ?_
    refine AllSure.cons (OpSure.take (v := ptv R) (by kernel_rfl) (by kernel_rfl) (fun _ h => run_load_blk (by kernel_rfl) (h.get 0 rfl) Tryd.underlying39 rfl (ptc_info R))) ?_
    refine AllSure.cons (sure_call (v := .string f) (by kernel_rfl) (by kernel_rfl) ent15 HA.keep #[ptv R] (by kernel_rfl) (fun w' h' => hbR w' (VV.below h'.old VV.big))) ?_
    refine AllSure.cons (OpSure.take (v := .string p) (by kernel_rfl) (by kernel_rfl) (fun _ _ => (by kernel_rfl))) ?_
    refine AllSure.cons (OpSure.take (v := .string f) (by kernel_rfl) (by kernel_rfl) (fun _ _ => (by kernel_rfl))) ?_
    exact AllSure.nil
  intro w19 h20
  refine then_at (F := ⟨(zSg7_1 l t y q1 q4 q13 A R (pt q18) (.string p) (.string f) un (ptv A :: .string p :: ptv R :: .string f :: List.replicate 41 un)).toArray, []⟩) (by kernel_rfl) ?_
  refine wp_seq ?_
  refine wl_region ?_
  refine wl_val (.string f) (by kernel_rfl) (by kernel_rfl) ?_
  refine wl_val (.string p) (by kernel_rfl) (by kernel_rfl) ?_
  refine wl_val (.string t) (by kernel_rfl) (by kernel_rfl) ?_
  refine Hh.wl_mks (n := 3) (m := 3) (c := Hh.psc ([f, p, t])) h20 9 (by kernel_rfl) (run_bs3 (u := f) (v := p) (v2 := t) (by kernel_rfl) (by kernel_rfl) (by kernel_rfl)) ?_
  intro q21 w22 h23
  refine wl_call (v := .string D) h23 (by kernel_rfl) ent17 #[.slice (some ⟨q21, 0, none⟩) 3 3] (by kernel_rfl) (hsha q21 w22 (VV.below h23.old VV.big) (h23.get 0 rfl)) ?_
  intro w24 h25
  refine wl_call (v := .string K) h25 (by kernel_rfl) ent16 #[.string D] (by kernel_rfl) (hred w24 (VV.below h25.old VV.big)) ?_
  intro w26 h27
  refine wl_val (.string K) (by kernel_rfl) (by kernel_rfl) ?_
  refine wl_nil ?_
  refine then_at (F := ⟨(zSg7_1 l t y q1 q4 q13 A R (pt q18) (.string p) (.string f) (.string K) (ptv A :: .string p :: ptv R :: .string f :: .string f :: .string p :: .string t :: .slice (some ⟨q21, 0, none⟩) 3 3 :: .string D :: .string K :: List.replicate 35 un)).toArray, []⟩) (by kernel_rfl) ?_
  refine wp_seq ?_
  refine wp_region_sure ⟨(zSg7_2 l t y q1 q4 q13 q18 p f K W A R q21 D U (.bool false) un un (List.replicate 28 un)).toArray, []⟩ (HA w [(q21, 9, Hh.psc ([f, p, t])), (q18, 39, ptc R), (q13, 39, ptc A), (q4, 33, (cs y).toArray), (q1, 22, (cs l).toArray)]) [.slice (some ⟨q4, 0, none⟩) 32 64, .string (ByteArray.mk (y.take 32).toArray), .string K, .slice (some ⟨q1, 0, none⟩) 32 32, .string (ByteArray.mk l.toArray), .string U, .string W, .string W] (by kernel_rfl) (by kernel_rfl) (by kernel_rfl) (by kernel_rfl) (fun _ _ _ h => h) h27.drew ?_ ?_
  · refine AllSure.cons (OpSure.take (v := .slice (some ⟨q4, 0, none⟩) 32 64) (by kernel_rfl) (by kernel_rfl) (fun _ _ => (run_cutBh (q := q4) (by kernel_rfl) (by kernel_rfl)))) ?_
    refine AllSure.cons (OpSure.take (v := .string (ByteArray.mk (y.take 32).toArray)) (by kernel_rfl) (by kernel_rfl) (fun w' h' => run_partText (c := 64) (l := y) (m := y.take 32) (take32 y hy) (take_at y) (by kernel_rfl) (h'.get 3 rfl))) ?_
    refine AllSure.cons (OpSure.take (v := .string K) (by kernel_rfl) (by kernel_rfl) (fun _ _ => (by kernel_rfl))) ?_
    refine AllSure.cons (OpSure.take (v := .slice (some ⟨q1, 0, none⟩) 32 32) (by kernel_rfl) (by kernel_rfl) (fun _ _ => (run_cut41 (q := q1) (by kernel_rfl)))) ?_
    refine AllSure.cons (OpSure.take (v := .string (ByteArray.mk l.toArray)) (by kernel_rfl) (by kernel_rfl) (fun w' h' => run_arrText (l := l) hl (by kernel_rfl) (h'.get 4 rfl))) ?_
    refine AllSure.cons (sure_call (v := .string U) (by kernel_rfl) (by kernel_rfl) ent18 HA.keep #[.string K, .string (ByteArray.mk l.toArray)] (by kernel_rfl) (fun w' h' => hmul w' (VV.below h'.old VV.big))) ?_
    refine AllSure.cons (sure_call (v := .string W) (by kernel_rfl) (by kernel_rfl) ent11 HA.keep #[.string (ByteArray.mk (y.take 32).toArray), .string U] (by kernel_rfl) (fun w' h' => hadd w' (VV.below h'.old VV.big))) ?_
    refine AllSure.cons (OpSure.take (v := .string W) (by kernel_rfl) (by kernel_rfl) (fun _ _ => (by kernel_rfl))) ?_
    exact AllSure.nil
  intro w28 h29
  refine then_at (F := ⟨(zSg7_2 l t y q1 q4 q13 q18 p f K W A R q21 D U (.bool false) un un (List.replicate 28 un)).toArray, []⟩) (by kernel_rfl) ?_
  refine wp_seq ?_
  refine wl_region ?_
  refine wl_val (.slice (some ⟨q4, 32, none⟩) 32 32) (by kernel_rfl) (run_cutBl (q := q4) (by kernel_rfl) (by kernel_rfl)) ?_
  refine wl_val (.string (ByteArray.mk (y.drop 32).toArray)) (by kernel_rfl) (run_partText (c := 32) (l := y) (m := y.drop 32) (drop32 y hy) (drop_at y) (by kernel_rfl) (h29.get 3 rfl)) ?_
  refine wl_call (v := .string O) h29 (by kernel_rfl) ent16 #[.string (ByteArray.mk (y.drop 32).toArray)] (by kernel_rfl) (hrdo w28 (VV.below h29.old VV.big)) ?_
  intro w30 h31
  refine wl_val (.string O) (by kernel_rfl) (by kernel_rfl) ?_
  refine wl_nil ?_
  refine then_at (F := ⟨(zSg7_2 l t y q1 q4 q13 q18 p f K W A R q21 D U (.bool false) (.string O) un (.slice (some ⟨q4, 32, none⟩) 32 32 :: .string (ByteArray.mk (y.drop 32).toArray) :: .string O :: List.replicate 25 un)).toArray, []⟩) (by kernel_rfl) ?_
  refine wp_seq ?_
  refine wp_region_sure ⟨(zSg7_2 l t y q1 q4 q13 q18 p f K W A R q21 D U (.bool false) (.string O) (.bool true) (.slice (some ⟨q4, 32, none⟩) 32 32 :: .string (ByteArray.mk (y.drop 32).toArray) :: .string O :: ptv bP :: .string O :: ptv Q :: ptv R :: ptv A :: .string K :: ptv KP :: ptv SP :: .bool true :: List.replicate 16 un)).toArray, []⟩ (HA w [(q21, 9, Hh.psc ([f, p, t])), (q18, 39, ptc R), (q13, 39, ptc A), (q4, 33, (cs y).toArray), (q1, 22, (cs l).toArray)]) [ptv bP, .string O, ptv Q, ptv R, ptv A, .string K, ptv KP, ptv SP, .bool true, .bool true] (by kernel_rfl) (by kernel_rfl) (by kernel_rfl) (by kernel_rfl) (fun _ _ _ h => h) h31.drew ?_ ?_
  · refine AllSure.cons (sure_call (v := ptv bP) (by kernel_rfl) (by kernel_rfl) ent13 HA.keep #[] (by kernel_rfl) (fun w' h' => base_pv w' (VV.below h'.old VV.big))) ?_
    refine AllSure.cons (OpSure.take (v := .string O) (by kernel_rfl) (by kernel_rfl) (fun _ _ => (by kernel_rfl))) ?_
    refine AllSure.cons (sure_call (v := ptv Q) (by kernel_rfl) (by kernel_rfl) ent14 HA.keep #[ptv bP, .string O] (by kernel_rfl) (fun w' h' => hmO w' (VV.below h'.old VV.big))) ?_
    refine AllSure.cons (OpSure.take (v := ptv R) (by kernel_rfl) (by kernel_rfl) (fun _ h => run_load_blk (by kernel_rfl) (h.get 1 rfl) Tryd.underlying39 rfl (ptc_info R))) ?_
    refine AllSure.cons (OpSure.take (v := ptv A) (by kernel_rfl) (by kernel_rfl) (fun _ h => run_load_blk (by kernel_rfl) (h.get 2 rfl) Tryd.underlying39 rfl (ptc_info A))) ?_
    refine AllSure.cons (OpSure.take (v := .string K) (by kernel_rfl) (by kernel_rfl) (fun _ _ => (by kernel_rfl))) ?_
    refine AllSure.cons (sure_call (v := ptv KP) (by kernel_rfl) (by kernel_rfl) ent14 HA.keep #[ptv A, .string K] (by kernel_rfl) (fun w' h' => hmK w' (VV.below h'.old VV.big))) ?_
    refine AllSure.cons (sure_call (v := ptv SP) (by kernel_rfl) (by kernel_rfl) ent20 HA.keep #[ptv R, ptv KP] (by kernel_rfl) (fun w' h' => hsum w' (VV.below h'.old VV.big))) ?_
    refine AllSure.cons (sure_call (v := .bool true) (by kernel_rfl) (by kernel_rfl) ent19 HA.keep #[ptv Q, ptv SP] (by kernel_rfl) (fun w' h' => hsam w' (VV.below h'.old VV.big))) ?_
    refine AllSure.cons (OpSure.take (v := .bool true) (by kernel_rfl) (by kernel_rfl) (fun _ _ => (by kernel_rfl))) ?_
    exact AllSure.nil
  intro w32 h33
  refine then_at (F := ⟨(zSg7_2 l t y q1 q4 q13 q18 p f K W A R q21 D U (.bool false) (.string O) (.bool true) (.slice (some ⟨q4, 32, none⟩) 32 32 :: .string (ByteArray.mk (y.drop 32).toArray) :: .string O :: ptv bP :: .string O :: ptv Q :: ptv R :: ptv A :: .string K :: ptv KP :: ptv SP :: .bool true :: List.replicate 16 un)).toArray, []⟩) (by kernel_rfl) ?_
  refine wp_seq ?_
  refine wl_region ?_
  refine wl_val (.string p) (by kernel_rfl) (by kernel_rfl) ?_
  refine wl_val (.string t) (by kernel_rfl) (by kernel_rfl) ?_
  refine wl_val (.string f) (by kernel_rfl) (by kernel_rfl) ?_
  refine wl_val (.string W) (by kernel_rfl) (by kernel_rfl) ?_
  refine wl_val (.string (f ++ W)) (by kernel_rfl) (run_cat (s := f) (t := W) (by kernel_rfl) (by kernel_rfl) (by rw [fsz, wsz]; decide)) ?_
  refine wl_call (v := .bool true) h33 (by kernel_rfl) ent10 #[.string p, .string t, .string (f ++ W)] (by kernel_rfl) (v1 w32 (VV.below h33.old VV.big)) ?_
  intro w34 h35
  refine wl_val (.bool true) (by kernel_rfl) (by kernel_rfl) ?_
  refine wl_val (.string p) (by kernel_rfl) (by kernel_rfl) ?_
  refine wl_val (.string t) (by kernel_rfl) (by kernel_rfl) ?_
  refine wl_val (.string f) (by kernel_rfl) (by kernel_rfl) ?_
  refine wl_val (.string O) (by kernel_rfl) (by kernel_rfl) ?_
  refine wl_val (.string (f ++ O)) (by kernel_rfl) (run_cat (s := f) (t := O) (by kernel_rfl) (by kernel_rfl) (by rw [fsz, osz]; decide)) ?_
  refine wl_call (v := .bool true) h35 (by kernel_rfl) ent10 #[.string p, .string t, .string (f ++ O)] (by kernel_rfl) (v2 w34 (VV.below h35.old VV.big)) ?_
  intro w36 h37
  refine wl_val (.bool true) (by kernel_rfl) (by kernel_rfl) ?_
  refine wl_val (.bool true) (by kernel_rfl) (run_eqb true true (by kernel_rfl) (by kernel_rfl)) ?_
  refine wl_val (.bool true) (by kernel_rfl) (by kernel_rfl) ?_
  refine wl_val (.bool true) (by kernel_rfl) (by kernel_rfl) ?_
  refine wl_nil ?_
  refine then_at (F := ⟨(zSg7_2 l t y q1 q4 q13 q18 p f K W A R q21 D U (.bool true) (.string O) (.bool true) (.slice (some ⟨q4, 32, none⟩) 32 32 :: .string (ByteArray.mk (y.drop 32).toArray) :: .string O :: ptv bP :: .string O :: ptv Q :: ptv R :: ptv A :: .string K :: ptv KP :: ptv SP :: .bool true :: .string p :: .string t :: .string f :: .string W :: .string (f ++ W) :: .bool true :: .bool true :: .string p :: .string t :: .string f :: .string O :: .string (f ++ O) :: .bool true :: .bool true :: .bool true :: .bool true :: [])).toArray, []⟩) (by kernel_rfl) ?_
  refine wp_ret ?_
  repeat first | refine then_ret ?_ | refine block_ret ?_
  exact bodyPost_ret (v := .bool true) (by kernel_rfl) rfl ⟨rfl, h37.old⟩

def zSg7_3 (l : List UInt8) (t : ByteArray) (y : List UInt8) q1 q4 (zx7 : Value) (zt : List Value) := (.agg (cs l).toArray :: .string t :: .agg (cs y).toArray :: pt q1 :: un :: pt q4 :: .bool false :: zx7 :: un :: un :: un :: un :: un :: un :: un :: .bool true :: .bool false :: zt : List Value)
def zSg7_4 (l : List UInt8) (t : ByteArray) (y : List UInt8) q1 q4 q13 (A : Pt) (R : Pt) (zx8 zx9 zx10 zx11 : Value) (zt : List Value) := (.agg (cs l).toArray :: .string t :: .agg (cs y).toArray :: pt q1 :: un :: pt q4 :: .bool false :: pt q13 :: zx8 :: zx9 :: zx10 :: zx11 :: un :: un :: un :: .bool true :: .bool false :: ptv bP :: .slice (some ⟨q1, 0, none⟩) 32 32 :: .string (ByteArray.mk l.toArray) :: ptv A :: ptv bP :: .slice (some ⟨q4, 0, none⟩) 32 64 :: .string (ByteArray.mk (y.take 32).toArray) :: ptv R :: zt : List Value)
def zSg7_5 (l : List UInt8) (t : ByteArray) (y : List UInt8) q1 q4 q13 q18 (p : ByteArray) (f : ByteArray) (K : ByteArray) (W : ByteArray) (A : Pt) (R : Pt) q21 (D : ByteArray) (U : ByteArray) (zx6 zx13 zx14 : Value) (zt : List Value) := (.agg (cs l).toArray :: .string t :: .agg (cs y).toArray :: pt q1 :: un :: pt q4 :: zx6 :: pt q13 :: pt q18 :: .string p :: .string f :: .string K :: .string W :: zx13 :: zx14 :: .bool true :: .bool false :: ptv bP :: .slice (some ⟨q1, 0, none⟩) 32 32 :: .string (ByteArray.mk l.toArray) :: ptv A :: ptv bP :: .slice (some ⟨q4, 0, none⟩) 32 64 :: .string (ByteArray.mk (y.take 32).toArray) :: ptv R :: ptv A :: .string p :: ptv R :: .string f :: .string f :: .string p :: .string t :: .slice (some ⟨q21, 0, none⟩) 3 3 :: .string D :: .string K :: .slice (some ⟨q4, 0, none⟩) 32 64 :: .string (ByteArray.mk (y.take 32).toArray) :: .string K :: .slice (some ⟨q1, 0, none⟩) 32 32 :: .string (ByteArray.mk l.toArray) :: .string U :: .string W :: zt : List Value)
set_option linter.unusedVariables false in
set_option maxRecDepth 100000 in
set_option maxHeartbeats 2000000 in
theorem means_no (l : List UInt8) (hl : l.length = 32) (t : ByteArray) (y : List UInt8) (hy : y.length = 64) (A R Q KP SP : Pt) (p f D K U W O : ByteArray) (fsz : f.size = 32) (wsz : W.size = 32) (osz : O.size = 32)
    (hmA : (∀ w, VA w → Calls Tryd.prog 14 #[ptv bP, .string (ByteArray.mk l.toArray)] w fun e w' => e = .returned (ptv A) ∧ Below w.heap.size w w')) (hmR : (∀ w, VA w → Calls Tryd.prog 14 #[ptv bP, .string (ByteArray.mk (y.take 32).toArray)] w fun e w' => e = .returned (ptv R) ∧ Below w.heap.size w w')) (hbA : (∀ w, VA w → Calls Tryd.prog 15 #[ptv A] w fun e w' => e = .returned (.string p) ∧ Below w.heap.size w w')) (hbR : (∀ w, VA w → Calls Tryd.prog 15 #[ptv R] w fun e w' => e = .returned (.string f) ∧ Below w.heap.size w w'))
    (hsha : ∀ q w, VA w → Blk w q 9 (Hh.psc [f, p, t]) → Calls Tryd.prog 17 #[.slice (some ⟨q, 0, none⟩) 3 3] w fun e w' => e = .returned (.string D) ∧ Below w.heap.size w w')
    (hred : (∀ w, VA w → Calls Tryd.prog 16 #[.string D] w fun e w' => e = .returned (.string K) ∧ Below w.heap.size w w')) (hmul : (∀ w, VA w → Calls Tryd.prog 18 #[.string K, .string (ByteArray.mk l.toArray)] w fun e w' => e = .returned (.string U) ∧ Below w.heap.size w w')) (hadd : (∀ w, VA w → Calls Tryd.prog 11 #[.string (ByteArray.mk (y.take 32).toArray), .string U] w fun e w' => e = .returned (.string W) ∧ Below w.heap.size w w')) (hrdo : (∀ w, VA w → Calls Tryd.prog 16 #[.string (ByteArray.mk (y.drop 32).toArray)] w fun e w' => e = .returned (.string O) ∧ Below w.heap.size w w'))
    (hmO : (∀ w, VA w → Calls Tryd.prog 14 #[ptv bP, .string O] w fun e w' => e = .returned (ptv Q) ∧ Below w.heap.size w w')) (hmK : (∀ w, VA w → Calls Tryd.prog 14 #[ptv A, .string K] w fun e w' => e = .returned (ptv KP) ∧ Below w.heap.size w w')) (hsum : (∀ w, VA w → Calls Tryd.prog 20 #[ptv R, ptv KP] w fun e w' => e = .returned (ptv SP) ∧ Below w.heap.size w w')) (hsam : (∀ w, VA w → Calls Tryd.prog 19 #[ptv Q, ptv SP] w fun e w' => e = .returned (.bool false) ∧ Below w.heap.size w w'))
    (v1 : (∀ w, VA w → Calls Tryd.prog 10 #[.string p, .string t, .string (f ++ W)] w fun e w' => e = .returned (.bool true) ∧ Below w.heap.size w w')) (v2 : (∀ w, VA w → Calls Tryd.prog 10 #[.string p, .string t, .string (f ++ O)] w fun e w' => e = .returned (.bool false) ∧ Below w.heap.size w w')) (w : World) (VV : VA w) :
    Calls Tryd.prog 5 #[.agg (cs l).toArray, .string t, .agg (cs y).toArray] w fun e w' => e = .returned (.bool true) ∧ Below w.heap.size w w' := by
  have H0 := HA.start w
  go_enter Tryd.func5, Tryd.ntmps5
  refine wp_seq ?_
  refine wl_region ?_
  refine wl_make H0 22 (by kernel_rfl) (run_boxA (c := (cs l).toArray) (by kernel_rfl)) ?_
  intro q1 w2 h3
  refine wl_make h3 33 (by kernel_rfl) (run_boxB (c := (cs y).toArray) (by kernel_rfl)) ?_
  intro q4 w5 h6
  refine wl_val (.bool false) (by kernel_rfl) (by kernel_rfl) ?_
  refine wl_nil ?_
  refine then_at (F := ⟨(.agg (cs l).toArray :: .string t :: .agg (cs y).toArray :: pt q1 :: un :: pt q4 :: .bool false :: List.replicate 63 un).toArray, []⟩) (by kernel_rfl) ?_
  refine wp_seq ?_
  refine wp_seq ?_
  refine wl_region ?_
  refine wl_call (v := .bool true) h6 (by kernel_rfl) ent7 #[] (by kernel_rfl) (works_any w5 (VV.below h6.old VV.big)) ?_
  intro w7 h8
  refine wl_val (.bool false) (by kernel_rfl) (by kernel_rfl) ?_
  refine wl_nil ?_
  refine then_at (F := ⟨(zSg7_3 l t y q1 q4 un (List.replicate 53 un)).toArray, []⟩) (by kernel_rfl) ?_
  refine wp_cond_false (by kernel_rfl) ?_
  refine wp_skip ?_
  refine then_at (F := ⟨(zSg7_3 l t y q1 q4 un (List.replicate 53 un)).toArray, []⟩) (by kernel_rfl) ?_
  refine wp_seq ?_
  obtain ⟨B9, eB9⟩ : ∃ B, B = w7.heap.size := ⟨_, rfl⟩
  refine wp_region_ghost (fun g : Nat → Nat => (⟨(zSg7_3 l t y q1 q4 (pt (g 4)) (ptv bP :: .slice (some ⟨q1, 0, none⟩) 32 32 :: .string (ByteArray.mk l.toArray) :: ptv A :: List.replicate 49 un)).toArray, []⟩ : Act)) (GS w [(q4, 33, (cs y).toArray), (q1, 22, (cs l).toArray)] B9 1 4 5 39 (pr 0 0) (fun _ => ptc A)) [ptv bP, .slice (some ⟨q1, 0, none⟩) 32 32, .string (ByteArray.mk l.toArray), ptv A, .pointer (some ⟨0, 0, none⟩), undef] (by kernel_rfl) (by kernel_rfl) (by kernel_rfl) (by kernel_rfl) (fun _ _ _ _ h => h) (fun d hd => GS.start h8.drew eB9 (by decide) (fun _ _ => (ptc_sz A)) (fun j hj => hd j (Nat.lt_of_lt_of_le hj (by decide)))) ?_ ?_
  · refine AllGhost.cons (ghost_call (v := ptv bP) (by decide) (fun _ => by kernel_rfl) (fun _ => by kernel_rfl) ent13 #[] (fun _ => by kernel_rfl) (fun w' h' => base_pv w' (VV.below h'.old VV.big))) ?_
    refine AllGhost.cons (ghost_plain (v := .slice (some ⟨q1, 0, none⟩) 32 32) (by decide) (fun _ => by kernel_rfl) (fun _ => by kernel_rfl) (fun _ _ => (run_cut41 (q := q1) (by kernel_rfl)))) ?_
    refine AllGhost.cons (ghost_held (v := .string (ByteArray.mk l.toArray)) (by decide) (fun _ => by kernel_rfl) (fun _ => by kernel_rfl) (fun _ w' h' => run_arrText (l := l) hl (by kernel_rfl) (h'.get 1 rfl))) ?_
    refine AllGhost.cons (ghost_call (v := ptv A) (by decide) (fun _ => by kernel_rfl) (fun _ => by kernel_rfl) ent14 #[ptv bP, .string (ByteArray.mk l.toArray)] (fun _ => by kernel_rfl) (fun w' h' => hmA w' (VV.below h'.old VV.big))) ?_
    refine AllGhost.cons (ghost_make 0 (by decide) rfl (fun _ => by kernel_rfl) (fun _ _ => by kernel_rfl) (fun _ _ => run_alloc27)) ?_
    refine AllGhost.cons (ghost_fill 0 (by decide) rfl (fun _ => by kernel_rfl) (fun _ => by kernel_rfl) (fun _ => by kernel_rfl) (fun _ => by kernel_rfl) (ptc_info A) (ptc_one A) (by kernel_rfl)) ?_
    exact AllGhost.nil
  intro g w10 g11
  have h12 : HA w [(g 4, 39, ptc A), (q4, 33, (cs y).toArray), (q1, 22, (cs l).toArray)] w10 := g11.one
  clear g11 eB9
  generalize g 4 = q13 at h12 ⊢
  clear g
  refine then_at (F := ⟨(zSg7_3 l t y q1 q4 (pt q13) (ptv bP :: .slice (some ⟨q1, 0, none⟩) 32 32 :: .string (ByteArray.mk l.toArray) :: ptv A :: List.replicate 49 un)).toArray, []⟩) (by kernel_rfl) ?_
  refine wp_seq ?_
  obtain ⟨B14, eB14⟩ : ∃ B, B = w10.heap.size := ⟨_, rfl⟩
  refine wp_region_ghost (fun g : Nat → Nat => (⟨(zSg7_4 l t y q1 q4 q13 A R (pt (g 4)) un un un (List.replicate 45 un)).toArray, []⟩ : Act)) (GS w [(q13, 39, ptc A), (q4, 33, (cs y).toArray), (q1, 22, (cs l).toArray)] B14 1 4 5 39 (pr 0 0) (fun _ => ptc R)) [ptv bP, .slice (some ⟨q4, 0, none⟩) 32 64, .string (ByteArray.mk (y.take 32).toArray), ptv R, .pointer (some ⟨0, 0, none⟩), undef] (by kernel_rfl) (by kernel_rfl) (by kernel_rfl) (by kernel_rfl) (fun _ _ _ _ h => h) (fun d hd => GS.start h12.drew eB14 (by decide) (fun _ _ => (ptc_sz R)) (fun j hj => hd j (Nat.lt_of_lt_of_le hj (by decide)))) ?_ ?_
  · refine AllGhost.cons (ghost_call (v := ptv bP) (by decide) (fun _ => by kernel_rfl) (fun _ => by kernel_rfl) ent13 #[] (fun _ => by kernel_rfl) (fun w' h' => base_pv w' (VV.below h'.old VV.big))) ?_
    refine AllGhost.cons (ghost_plain (v := .slice (some ⟨q4, 0, none⟩) 32 64) (by decide) (fun _ => by kernel_rfl) (fun _ => by kernel_rfl) (fun _ _ => (run_cutBh (q := q4) (by kernel_rfl) (by kernel_rfl)))) ?_
    refine AllGhost.cons (ghost_held (v := .string (ByteArray.mk (y.take 32).toArray)) (by decide) (fun _ => by kernel_rfl) (fun _ => by kernel_rfl) (fun _ w' h' => run_partText (c := 64) (l := y) (m := y.take 32) (take32 y hy) (take_at y) (by kernel_rfl) (h'.get 1 rfl))) ?_
    refine AllGhost.cons (ghost_call (v := ptv R) (by decide) (fun _ => by kernel_rfl) (fun _ => by kernel_rfl) ent14 #[ptv bP, .string (ByteArray.mk (y.take 32).toArray)] (fun _ => by kernel_rfl) (fun w' h' => hmR w' (VV.below h'.old VV.big))) ?_
    refine AllGhost.cons (ghost_make 0 (by decide) rfl (fun _ => by kernel_rfl) (fun _ _ => by kernel_rfl) (fun _ _ => run_alloc27)) ?_
    refine AllGhost.cons (ghost_fill 0 (by decide) rfl (fun _ => by kernel_rfl) (fun _ => by kernel_rfl) (fun _ => by kernel_rfl) (fun _ => by kernel_rfl) (ptc_info R) (ptc_one R) (by kernel_rfl)) ?_
    exact AllGhost.nil
  intro g w15 g16
  have h17 : HA w [(g 4, 39, ptc R), (q13, 39, ptc A), (q4, 33, (cs y).toArray), (q1, 22, (cs l).toArray)] w15 := g16.one
  clear g16 eB14
  generalize g 4 = q18 at h17 ⊢
  clear g
  refine then_at (F := ⟨(zSg7_4 l t y q1 q4 q13 A R (pt q18) un un un (List.replicate 45 un)).toArray, []⟩) (by kernel_rfl) ?_
  refine wp_seq ?_
  refine wp_region_sure ⟨(zSg7_4 l t y q1 q4 q13 A R (pt q18) (.string p) (.string f) un (ptv A :: .string p :: ptv R :: .string f :: List.replicate 41 un)).toArray, []⟩ (HA w [(q18, 39, ptc R), (q13, 39, ptc A), (q4, 33, (cs y).toArray), (q1, 22, (cs l).toArray)]) [ptv A, .string p, ptv R, .string f, .string p, .string f] (by kernel_rfl) (by kernel_rfl) (by kernel_rfl) (by kernel_rfl) (fun _ _ _ h => h) h17.drew ?_ ?_
  · refine AllSure.cons (OpSure.take (v := ptv A) (by kernel_rfl) (by kernel_rfl) (fun _ h => run_load_blk (by kernel_rfl) (h.get 1 rfl) Tryd.underlying39 rfl (ptc_info A))) ?_
    refine AllSure.cons (sure_call (v := .string p) (by kernel_rfl) (by kernel_rfl) ent15 HA.keep #[ptv A] (by kernel_rfl) (fun w' h' => hbA w' (VV.below h'.old VV.big))) ?_
    refine AllSure.cons (OpSure.take (v := ptv R) (by kernel_rfl) (by kernel_rfl) (fun _ h => run_load_blk (by kernel_rfl) (h.get 0 rfl) Tryd.underlying39 rfl (ptc_info R))) ?_
    refine AllSure.cons (sure_call (v := .string f) (by kernel_rfl) (by kernel_rfl) ent15 HA.keep #[ptv R] (by kernel_rfl) (fun w' h' => hbR w' (VV.below h'.old VV.big))) ?_
    refine AllSure.cons (OpSure.take (v := .string p) (by kernel_rfl) (by kernel_rfl) (fun _ _ => (by kernel_rfl))) ?_
    refine AllSure.cons (OpSure.take (v := .string f) (by kernel_rfl) (by kernel_rfl) (fun _ _ => (by kernel_rfl))) ?_
    exact AllSure.nil
  intro w19 h20
  refine then_at (F := ⟨(zSg7_4 l t y q1 q4 q13 A R (pt q18) (.string p) (.string f) un (ptv A :: .string p :: ptv R :: .string f :: List.replicate 41 un)).toArray, []⟩) (by kernel_rfl) ?_
  refine wp_seq ?_
  refine wl_region ?_
  refine wl_val (.string f) (by kernel_rfl) (by kernel_rfl) ?_
  refine wl_val (.string p) (by kernel_rfl) (by kernel_rfl) ?_
  refine wl_val (.string t) (by kernel_rfl) (by kernel_rfl) ?_
  refine Hh.wl_mks (n := 3) (m := 3) (c := Hh.psc ([f, p, t])) h20 9 (by kernel_rfl) (run_bs3 (u := f) (v := p) (v2 := t) (by kernel_rfl) (by kernel_rfl) (by kernel_rfl)) ?_
  intro q21 w22 h23
  refine wl_call (v := .string D) h23 (by kernel_rfl) ent17 #[.slice (some ⟨q21, 0, none⟩) 3 3] (by kernel_rfl) (hsha q21 w22 (VV.below h23.old VV.big) (h23.get 0 rfl)) ?_
  intro w24 h25
  refine wl_call (v := .string K) h25 (by kernel_rfl) ent16 #[.string D] (by kernel_rfl) (hred w24 (VV.below h25.old VV.big)) ?_
  intro w26 h27
  refine wl_val (.string K) (by kernel_rfl) (by kernel_rfl) ?_
  refine wl_nil ?_
  refine then_at (F := ⟨(zSg7_4 l t y q1 q4 q13 A R (pt q18) (.string p) (.string f) (.string K) (ptv A :: .string p :: ptv R :: .string f :: .string f :: .string p :: .string t :: .slice (some ⟨q21, 0, none⟩) 3 3 :: .string D :: .string K :: List.replicate 35 un)).toArray, []⟩) (by kernel_rfl) ?_
  refine wp_seq ?_
  refine wp_region_sure ⟨(zSg7_5 l t y q1 q4 q13 q18 p f K W A R q21 D U (.bool false) un un (List.replicate 28 un)).toArray, []⟩ (HA w [(q21, 9, Hh.psc ([f, p, t])), (q18, 39, ptc R), (q13, 39, ptc A), (q4, 33, (cs y).toArray), (q1, 22, (cs l).toArray)]) [.slice (some ⟨q4, 0, none⟩) 32 64, .string (ByteArray.mk (y.take 32).toArray), .string K, .slice (some ⟨q1, 0, none⟩) 32 32, .string (ByteArray.mk l.toArray), .string U, .string W, .string W] (by kernel_rfl) (by kernel_rfl) (by kernel_rfl) (by kernel_rfl) (fun _ _ _ h => h) h27.drew ?_ ?_
  · refine AllSure.cons (OpSure.take (v := .slice (some ⟨q4, 0, none⟩) 32 64) (by kernel_rfl) (by kernel_rfl) (fun _ _ => (run_cutBh (q := q4) (by kernel_rfl) (by kernel_rfl)))) ?_
    refine AllSure.cons (OpSure.take (v := .string (ByteArray.mk (y.take 32).toArray)) (by kernel_rfl) (by kernel_rfl) (fun w' h' => run_partText (c := 64) (l := y) (m := y.take 32) (take32 y hy) (take_at y) (by kernel_rfl) (h'.get 3 rfl))) ?_
    refine AllSure.cons (OpSure.take (v := .string K) (by kernel_rfl) (by kernel_rfl) (fun _ _ => (by kernel_rfl))) ?_
    refine AllSure.cons (OpSure.take (v := .slice (some ⟨q1, 0, none⟩) 32 32) (by kernel_rfl) (by kernel_rfl) (fun _ _ => (run_cut41 (q := q1) (by kernel_rfl)))) ?_
    refine AllSure.cons (OpSure.take (v := .string (ByteArray.mk l.toArray)) (by kernel_rfl) (by kernel_rfl) (fun w' h' => run_arrText (l := l) hl (by kernel_rfl) (h'.get 4 rfl))) ?_
    refine AllSure.cons (sure_call (v := .string U) (by kernel_rfl) (by kernel_rfl) ent18 HA.keep #[.string K, .string (ByteArray.mk l.toArray)] (by kernel_rfl) (fun w' h' => hmul w' (VV.below h'.old VV.big))) ?_
    refine AllSure.cons (sure_call (v := .string W) (by kernel_rfl) (by kernel_rfl) ent11 HA.keep #[.string (ByteArray.mk (y.take 32).toArray), .string U] (by kernel_rfl) (fun w' h' => hadd w' (VV.below h'.old VV.big))) ?_
    refine AllSure.cons (OpSure.take (v := .string W) (by kernel_rfl) (by kernel_rfl) (fun _ _ => (by kernel_rfl))) ?_
    exact AllSure.nil
  intro w28 h29
  refine then_at (F := ⟨(zSg7_5 l t y q1 q4 q13 q18 p f K W A R q21 D U (.bool false) un un (List.replicate 28 un)).toArray, []⟩) (by kernel_rfl) ?_
  refine wp_seq ?_
  refine wl_region ?_
  refine wl_val (.slice (some ⟨q4, 32, none⟩) 32 32) (by kernel_rfl) (run_cutBl (q := q4) (by kernel_rfl) (by kernel_rfl)) ?_
  refine wl_val (.string (ByteArray.mk (y.drop 32).toArray)) (by kernel_rfl) (run_partText (c := 32) (l := y) (m := y.drop 32) (drop32 y hy) (drop_at y) (by kernel_rfl) (h29.get 3 rfl)) ?_
  refine wl_call (v := .string O) h29 (by kernel_rfl) ent16 #[.string (ByteArray.mk (y.drop 32).toArray)] (by kernel_rfl) (hrdo w28 (VV.below h29.old VV.big)) ?_
  intro w30 h31
  refine wl_val (.string O) (by kernel_rfl) (by kernel_rfl) ?_
  refine wl_nil ?_
  refine then_at (F := ⟨(zSg7_5 l t y q1 q4 q13 q18 p f K W A R q21 D U (.bool false) (.string O) un (.slice (some ⟨q4, 32, none⟩) 32 32 :: .string (ByteArray.mk (y.drop 32).toArray) :: .string O :: List.replicate 25 un)).toArray, []⟩) (by kernel_rfl) ?_
  refine wp_seq ?_
  refine wp_region_sure ⟨(zSg7_5 l t y q1 q4 q13 q18 p f K W A R q21 D U (.bool false) (.string O) (.bool false) (.slice (some ⟨q4, 32, none⟩) 32 32 :: .string (ByteArray.mk (y.drop 32).toArray) :: .string O :: ptv bP :: .string O :: ptv Q :: ptv R :: ptv A :: .string K :: ptv KP :: ptv SP :: .bool false :: List.replicate 16 un)).toArray, []⟩ (HA w [(q21, 9, Hh.psc ([f, p, t])), (q18, 39, ptc R), (q13, 39, ptc A), (q4, 33, (cs y).toArray), (q1, 22, (cs l).toArray)]) [ptv bP, .string O, ptv Q, ptv R, ptv A, .string K, ptv KP, ptv SP, .bool false, .bool false] (by kernel_rfl) (by kernel_rfl) (by kernel_rfl) (by kernel_rfl) (fun _ _ _ h => h) h31.drew ?_ ?_
  · refine AllSure.cons (sure_call (v := ptv bP) (by kernel_rfl) (by kernel_rfl) ent13 HA.keep #[] (by kernel_rfl) (fun w' h' => base_pv w' (VV.below h'.old VV.big))) ?_
    refine AllSure.cons (OpSure.take (v := .string O) (by kernel_rfl) (by kernel_rfl) (fun _ _ => (by kernel_rfl))) ?_
    refine AllSure.cons (sure_call (v := ptv Q) (by kernel_rfl) (by kernel_rfl) ent14 HA.keep #[ptv bP, .string O] (by kernel_rfl) (fun w' h' => hmO w' (VV.below h'.old VV.big))) ?_
    refine AllSure.cons (OpSure.take (v := ptv R) (by kernel_rfl) (by kernel_rfl) (fun _ h => run_load_blk (by kernel_rfl) (h.get 1 rfl) Tryd.underlying39 rfl (ptc_info R))) ?_
    refine AllSure.cons (OpSure.take (v := ptv A) (by kernel_rfl) (by kernel_rfl) (fun _ h => run_load_blk (by kernel_rfl) (h.get 2 rfl) Tryd.underlying39 rfl (ptc_info A))) ?_
    refine AllSure.cons (OpSure.take (v := .string K) (by kernel_rfl) (by kernel_rfl) (fun _ _ => (by kernel_rfl))) ?_
    refine AllSure.cons (sure_call (v := ptv KP) (by kernel_rfl) (by kernel_rfl) ent14 HA.keep #[ptv A, .string K] (by kernel_rfl) (fun w' h' => hmK w' (VV.below h'.old VV.big))) ?_
    refine AllSure.cons (sure_call (v := ptv SP) (by kernel_rfl) (by kernel_rfl) ent20 HA.keep #[ptv R, ptv KP] (by kernel_rfl) (fun w' h' => hsum w' (VV.below h'.old VV.big))) ?_
    refine AllSure.cons (sure_call (v := .bool false) (by kernel_rfl) (by kernel_rfl) ent19 HA.keep #[ptv Q, ptv SP] (by kernel_rfl) (fun w' h' => hsam w' (VV.below h'.old VV.big))) ?_
    refine AllSure.cons (OpSure.take (v := .bool false) (by kernel_rfl) (by kernel_rfl) (fun _ _ => (by kernel_rfl))) ?_
    exact AllSure.nil
  intro w32 h33
  refine then_at (F := ⟨(zSg7_5 l t y q1 q4 q13 q18 p f K W A R q21 D U (.bool false) (.string O) (.bool false) (.slice (some ⟨q4, 32, none⟩) 32 32 :: .string (ByteArray.mk (y.drop 32).toArray) :: .string O :: ptv bP :: .string O :: ptv Q :: ptv R :: ptv A :: .string K :: ptv KP :: ptv SP :: .bool false :: List.replicate 16 un)).toArray, []⟩) (by kernel_rfl) ?_
  refine wp_seq ?_
  refine wl_region ?_
  refine wl_val (.string p) (by kernel_rfl) (by kernel_rfl) ?_
  refine wl_val (.string t) (by kernel_rfl) (by kernel_rfl) ?_
  refine wl_val (.string f) (by kernel_rfl) (by kernel_rfl) ?_
  refine wl_val (.string W) (by kernel_rfl) (by kernel_rfl) ?_
  refine wl_val (.string (f ++ W)) (by kernel_rfl) (run_cat (s := f) (t := W) (by kernel_rfl) (by kernel_rfl) (by rw [fsz, wsz]; decide)) ?_
  refine wl_call (v := .bool true) h33 (by kernel_rfl) ent10 #[.string p, .string t, .string (f ++ W)] (by kernel_rfl) (v1 w32 (VV.below h33.old VV.big)) ?_
  intro w34 h35
  refine wl_val (.bool true) (by kernel_rfl) (by kernel_rfl) ?_
  refine wl_val (.string p) (by kernel_rfl) (by kernel_rfl) ?_
  refine wl_val (.string t) (by kernel_rfl) (by kernel_rfl) ?_
  refine wl_val (.string f) (by kernel_rfl) (by kernel_rfl) ?_
  refine wl_val (.string O) (by kernel_rfl) (by kernel_rfl) ?_
  refine wl_val (.string (f ++ O)) (by kernel_rfl) (run_cat (s := f) (t := O) (by kernel_rfl) (by kernel_rfl) (by rw [fsz, osz]; decide)) ?_
  refine wl_call (v := .bool false) h35 (by kernel_rfl) ent10 #[.string p, .string t, .string (f ++ O)] (by kernel_rfl) (v2 w34 (VV.below h35.old VV.big)) ?_
  intro w36 h37
  refine wl_val (.bool false) (by kernel_rfl) (by kernel_rfl) ?_
  refine wl_val (.bool true) (by kernel_rfl) (run_eqb false false (by kernel_rfl) (by kernel_rfl)) ?_
  refine wl_val (.bool true) (by kernel_rfl) (by kernel_rfl) ?_
  refine wl_val (.bool true) (by kernel_rfl) (by kernel_rfl) ?_
  refine wl_nil ?_
  refine then_at (F := ⟨(zSg7_5 l t y q1 q4 q13 q18 p f K W A R q21 D U (.bool true) (.string O) (.bool false) (.slice (some ⟨q4, 32, none⟩) 32 32 :: .string (ByteArray.mk (y.drop 32).toArray) :: .string O :: ptv bP :: .string O :: ptv Q :: ptv R :: ptv A :: .string K :: ptv KP :: ptv SP :: .bool false :: .string p :: .string t :: .string f :: .string W :: .string (f ++ W) :: .bool true :: .bool true :: .string p :: .string t :: .string f :: .string O :: .string (f ++ O) :: .bool false :: .bool false :: .bool true :: .bool true :: [])).toArray, []⟩) (by kernel_rfl) ?_
  refine wp_ret ?_
  repeat first | refine then_ret ?_ | refine block_ret ?_
  exact bodyPost_ret (v := .bool true) (by kernel_rfl) rfl ⟨rfl, h37.old⟩

theorem sha_3 (a b c : ByteArray) (ha : a.size ≤ 1000) (hb : b.size ≤ 562949953421312) (hc : c.size ≤ 562949953421312) (q : Nat) (w : World) (VV : VA w) (hB : Blk w q 9 (Hh.psc [a, b, c])) : Calls Tryd.prog 17 #[.slice (some ⟨q, 0, none⟩) 3 3] w fun e w' => e = .returned (.string (sh (Hh.bl a ++ (Hh.bl b ++ Hh.bl c)))) ∧ Below w.heap.size w w' := by
  have h := Hh.shaL' [a, b, c] 3 rfl (some ⟨q, 0, none⟩) 3 w VV.h (Hh.parts_ofc hB) (sz_all [a, b, c] 3 (by show 0 + a.size + b.size + c.size ≤ _; omega)) (by decide)
  rw [← List.append_assoc]
  exact h
theorem SignMeans_any (l : List UInt8) (hl : l.length = 32) (t : ByteArray) (ht : t.size ≤ 562949953421312) (y : List UInt8) (hy : y.length = 64) (w : World) (VV : VA w) : Calls Tryd.prog 5 #[.agg (cs l).toArray, .string t, .agg (cs y).toArray] w fun e w' => e = .returned (.bool true) ∧ Below w.heap.size w w' := by
  obtain ⟨a, ea⟩ : ∃ a, numS (ByteArray.mk l.toArray) = a := ⟨_, rfl⟩
  obtain ⟨r, er⟩ : ∃ r, numS (ByteArray.mk (y.take 32).toArray) = r := ⟨_, rfl⟩
  obtain ⟨K, eK⟩ : ∃ K, kvS (encP (mP bP a)) t (encP (mP bP r)) = K := ⟨_, rfl⟩
  obtain ⟨O, eO⟩ : ∃ O, Sc.rS (ByteArray.mk (y.drop 32).toArray) = O := ⟨_, rfl⟩
  have ksz : K.size = 32 := by rw [← eK]; exact kS_size _
  have osz : O.size = 32 := by rw [← eO]; exact bytesOf_size _
  have olt : numS O < ordL := by
    rw [← eO, rS_num _ (dropS y hy)]
    exact Nat.mod_lt _ ordL_pos
  have wn : numS (Sc.aS (ByteArray.mk (y.take 32).toArray) (Sc.mS K (ByteArray.mk l.toArray))) = (r + a * numS K) % ordL := by
    rw [aS_num _ _ (takeS y hy) (mS_sz _ _), mS_num _ _ ksz (sz_l l hl), ea, er, Nat.add_mod_mod, Nat.mul_comm]
  have hv1 : verP (encP (mP bP a)) t (encP (mP bP r) ++ Sc.aS (ByteArray.mk (y.take 32).toArray) (Sc.mS K (ByteArray.mk l.toArray))) := by
    refine (ver_mul' a r t _ (aS_sz _ _) (by rw [wn]; exact Nat.mod_lt _ ordL_pos)).2 ?_
    rw [eK]
    exact wn
  have hv2 : verP (encP (mP bP a)) t (encP (mP bP r) ++ O) ↔ mP bP (numS O) = aP (mP bP r) (mP (mP bP a) (numS K)) := by
    rw [ver_mul' a r t O osz olt, eK, lin_mul, mP_iff, Nat.mod_eq_of_lt olt]
  by_cases hE : mP bP (numS O) = aP (mP bP r) (mP (mP bP a) (numS K))
  · exact means_yes l hl t y hy (mP bP a) (mP bP r) (mP bP (numS O)) (mP (mP bP a) (numS K)) (aP (mP bP r) (mP (mP bP a) (numS K))) (encP (mP bP a)) (encP (mP bP r)) (sh (Hh.bl (encP (mP bP r)) ++ (Hh.bl (encP (mP bP a)) ++ Hh.bl t))) K (Sc.mS K (ByteArray.mk l.toArray)) (Sc.aS (ByteArray.mk (y.take 32).toArray) (Sc.mS K (ByteArray.mk l.toArray))) O (encP_size _) (aS_sz _ _) osz
      (fun w V => by rw [← ea]; exact mul_pv bP _ (sz_l l hl) w V) (fun w V => by rw [← er]; exact mul_pv bP _ (takeS y hy) w V) (fun w V => bytes_pv _ w V) (fun w V => bytes_pv _ w V)
      (fun q w V hB => sha_3 _ _ t (by rw [encP_size]; decide) (by rw [encP_size]; decide) ht q w V hB) (fun w V => by rw [← eK]; exact Sc.Reduce_any _ w V.s) (fun w V => Sc.Mul_any _ _ w V.s) (fun w V => Sc.Add_any _ _ w V.s) (fun w V => by rw [← eO]; exact Sc.Reduce_any _ w V.s)
      (fun w V => mul_pv bP O osz w V) (fun w V => mul_pv _ K ksz w V) (fun w V => add_pv _ _ w V) (fun w V => same_pv_yes _ _ hE w) (fun w V => Verify_yes _ _ _ (by rw [encP_size]; decide) ht hv1 w V) (fun w V => Verify_yes _ _ _ (by rw [encP_size]; decide) ht (hv2.2 hE) w V) w VV
  · exact means_no l hl t y hy (mP bP a) (mP bP r) (mP bP (numS O)) (mP (mP bP a) (numS K)) (aP (mP bP r) (mP (mP bP a) (numS K))) (encP (mP bP a)) (encP (mP bP r)) (sh (Hh.bl (encP (mP bP r)) ++ (Hh.bl (encP (mP bP a)) ++ Hh.bl t))) K (Sc.mS K (ByteArray.mk l.toArray)) (Sc.aS (ByteArray.mk (y.take 32).toArray) (Sc.mS K (ByteArray.mk l.toArray))) O (encP_size _) (aS_sz _ _) osz
      (fun w V => by rw [← ea]; exact mul_pv bP _ (sz_l l hl) w V) (fun w V => by rw [← er]; exact mul_pv bP _ (takeS y hy) w V) (fun w V => bytes_pv _ w V) (fun w V => bytes_pv _ w V)
      (fun q w V hB => sha_3 _ _ t (by rw [encP_size]; decide) (by rw [encP_size]; decide) ht q w V hB) (fun w V => by rw [← eK]; exact Sc.Reduce_any _ w V.s) (fun w V => Sc.Mul_any _ _ w V.s) (fun w V => Sc.Add_any _ _ w V.s) (fun w V => by rw [← eO]; exact Sc.Reduce_any _ w V.s)
      (fun w V => mul_pv bP O osz w V) (fun w V => mul_pv _ K ksz w V) (fun w V => add_pv _ _ w V) (fun w V => same_pv_no _ _ hE w) (fun w V => Verify_yes _ _ _ (by rw [encP_size]; decide) ht hv1 w V) (fun w V => Verify_no _ _ _ (by rw [encP_size]; decide) ht (fun h => hE (hv2.1 h)) w V) w VV
end Go.Proofs.YtefjnfeckenmkaaDoor
