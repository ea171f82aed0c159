/-
 Structs of elements: points, fractions; their parts in memory.
-/
import Derived.Test.YtefjnfeckenmkaaGreatDoorR2
import Derived.Test.YtefjnfeckenmkaaGreatDoorB0
namespace Go.Proofs.YtefjnfeckenmkaaGreatDoor
open Go.RowKit Num
theorem el_sz (n m : Nat) : (el n).size = (el m).size := by rw [el_size, el_size]
theorem info_el (n : Nat) : (Tryz.prog.info? 37).map (·.size) = some (el n).size := by rw [el_size]; exact info25
def pr (a b : Nat) : Array Value := el a ++ el b
def qd (a b c d : Nat) : Array Value := el a ++ el b ++ el c ++ el d
theorem pr_size (a b : Nat) : (pr a b).size = 8 := by unfold pr; rw [Array.size_append, el_size, el_size]
theorem qd_size (a b c d : Nat) : (qd a b c d).size = 16 := by unfold qd; rw [Array.size_append, Array.size_append, Array.size_append, el_size, el_size, el_size, el_size]
theorem pr_sz (a b c d : Nat) : (pr a b).size = (pr c d).size := by rw [pr_size, pr_size]
theorem qd_sz (a b c d e f g h : Nat) : (qd a b c d).size = (qd e f g h).size := by rw [qd_size, qd_size]
theorem all_append {c d : Array Value} (h : c.all (·.oneCell') = true) (k : d.all (·.oneCell') = true) : (c ++ d).all (·.oneCell') = true := by rw [Array.all_append, h, k]; rfl
theorem one_pr (a b : Nat) : (pr a b).all (·.oneCell') = true := all_append (one_el a) (one_el b)
theorem one_qd (a b c d : Nat) : (qd a b c d).all (·.oneCell') = true := all_append (all_append (all_append (one_el a) (one_el b)) (one_el c)) (one_el d)
theorem info27 : (Tryz.prog.info? 39).map (·.size) = some 8 := by kernel_rfl
theorem info82 : (Tryz.prog.info? 68).map (·.size) = some 16 := by kernel_rfl
theorem info27p (a b : Nat) : (Tryz.prog.info? 39).map (·.size) = some (pr a b).size := by rw [pr_size]; exact info27
theorem info82q (a b c d : Nat) : (Tryz.prog.info? 68).map (·.size) = some (qd a b c d).size := by rw [qd_size]; exact info82
theorem pr_get0 (a b i : Nat) (hi : i < 4) : (pr a b)[4 * 0 + i]? = (el a)[i]? := by
 unfold pr
 rw [Nat.mul_zero, Nat.zero_add, Array.getElem?_append_left (by rw [el_size]; exact hi)]
theorem pr_get1 (a b i : Nat) : (pr a b)[4 * 1 + i]? = (el b)[i]? := by
 unfold pr
 rw [Array.getElem?_append_right (by rw [el_size]; omega), el_size, show 4 * 1 + i - 4 = i by omega]
theorem qd_get (a b c d : Nat) : (∀ i, i < 4 → (qd a b c d)[4 * 0 + i]? = (el a)[i]?) ∧ (∀ i, i < 4 → (qd a b c d)[4 * 1 + i]? = (el b)[i]?) ∧ (∀ i, i < 4 → (qd a b c d)[4 * 2 + i]? = (el c)[i]?) ∧ (∀ i, i < 4 → (qd a b c d)[4 * 3 + i]? = (el d)[i]?) := by
 unfold qd
 have s2 : (el a ++ el b).size = 8 := by rw [Array.size_append, el_size, el_size]
 have s3 : (el a ++ el b ++ el c).size = 12 := by rw [Array.size_append, Array.size_append, el_size, el_size, el_size]
 refine ⟨fun i hi => ?_, fun i hi => ?_, fun i hi => ?_, fun i hi => ?_⟩
 ·rw [Array.getElem?_append_left (by rw [s3]; omega), Array.getElem?_append_left (by rw [s2]; omega), Array.getElem?_append_left (by rw [el_size]; omega), Nat.mul_zero, Nat.zero_add]
 ·rw [Array.getElem?_append_left (by rw [s3]; omega), Array.getElem?_append_left (by rw [s2]; omega), Array.getElem?_append_right (by rw [el_size]; omega), el_size, show 4 * 1 + i - 4 = i by omega]
 ·rw [Array.getElem?_append_left (by rw [s3]; omega), Array.getElem?_append_right (by rw [s2]; omega), s2, show 4 * 2 + i - 8 = i by omega]
 ·rw [Array.getElem?_append_right (by rw [s3]; omega), s3, show 4 * 3 + i - 12 = i by omega]
section
variable {ρ : Operand → Value} {x y z v : Operand} {w : World} {dst : Option Tmp} {ty : TypeId} {pos : String} {aft : Array Edge} {gd : Option (Nat × Bool)} {q a b c d : Nat}
theorem run_alloc27 : (execOp ρ ⟨dst, .alloc 39, ty, pos, aft, gd⟩).run Tryz.prog w = .ok (.value (.pointer (some ⟨w.heap.size, 0, none⟩))) (w.alloc (.cells (pr 0 0) 39)) := by kernel_rfl
theorem run_alloc82 : (execOp ρ ⟨dst, .alloc 68, ty, pos, aft, gd⟩).run Tryz.prog w = .ok (.value (.pointer (some ⟨w.heap.size, 0, none⟩))) (w.alloc (.cells (qd 0 0 0 0) 68)) := by kernel_rfl
theorem run_box27 {c : Array Value}  (hx : ρ x = .agg c := by kernel_rfl) : (execOp ρ ⟨dst, .box 39 x, ty, pos, aft, gd⟩).run Tryz.prog w = .ok (.value (.pointer (some ⟨w.heap.size, 0, none⟩))) (w.alloc (.cells c 39)) := by
 simp only [execOp, hx]
 go_simp
theorem run_box82 {c : Array Value} (hx : ρ x = .agg c) : (execOp ρ ⟨dst, .box 68 x, ty, pos, aft, gd⟩).run Tryz.prog w = .ok (.value (.pointer (some ⟨w.heap.size, 0, none⟩))) (w.alloc (.cells c 68)) := by
 simp only [execOp, hx]
 go_simp
theorem run_part {off n : Nat} {t : TypeId} {c : Array Value}  (h : Blk w q t c) (hc : ∀ i, i < 4 → c[off + i]? = (el n)[i]?) (hx : ρ x = .pointer (some ⟨q, off, none⟩) := by kernel_rfl) : (execOp ρ ⟨dst, .load 37 x, ty, pos, aft, gd⟩).run Tryz.prog w = .ok (.value (arr n)) w := by
 have hr : w.rangeAt q off (el n).toList := fun j v hv => by
  have hj : j < 4 := by have := (List.getElem?_eq_some_iff.1 hv).1; simpa [el_size] using this
  rw [h.cell (off + j), hc j hj]
  rwa [Array.getElem?_toList] at hv
 simp only [execOp, hx, Instr.loadAt, Instr.sureAddr, Sem.run_bind, Sem.run_pure, Result.andThen_ok, run_loadVar_mid w q off 37 (el n).toList _ hr Tryz.underlying37 rfl (by rw [Array.length_toList]; exact info25)]
 rfl
theorem agg_arr (n : Nat) : ∃ a b c d : Value, el n = #[a, b, c, d] ∧ arr n = .agg #[a, b, c, d] := ⟨_, _, _, _, rfl, rfl⟩
theorem run_build27 (hx : ρ x = arr a) (hy : ρ y = arr b) : (execOp ρ ⟨dst, .build 39 #[(0, x), (1, y)], ty, pos, aft, gd⟩).run Tryz.prog w = .ok (.value (.agg (pr a b))) w := by
 obtain ⟨a0, a1, a2, a3, e1, e2⟩ := agg_arr a
 obtain ⟨b0, b1, b2, b3, f1, f2⟩ := agg_arr b
 rw [e2] at hx
 rw [f2] at hy
 unfold pr
 rw [e1, f1]
 simp only [execOp, Array.map]
 go_simp
theorem run_build27z : (execOp ρ ⟨dst, .build 39 #[], ty, pos, aft, gd⟩).run Tryz.prog w = .ok (.value (.agg (pr 0 0))) w := by kernel_rfl
theorem run_build82 (hx : ρ x = arr a) (hy : ρ y = arr b) (hz : ρ z = arr c) (hv : ρ v = arr d) : (execOp ρ ⟨dst, .build 68 #[(0, x), (1, y), (2, z), (3, v)], ty, pos, aft, gd⟩).run Tryz.prog w = .ok (.value (.agg (qd a b c d))) w := by
 obtain ⟨a0, a1, a2, a3, e1, e2⟩ := agg_arr a
 obtain ⟨b0, b1, b2, b3, f1, f2⟩ := agg_arr b
 obtain ⟨c0, c1, c2, c3, g1, g2⟩ := agg_arr c
 obtain ⟨d0, d1, d2, d3, h1, h2⟩ := agg_arr d
 rw [e2] at hx
 rw [f2] at hy
 rw [g2] at hz
 rw [h2] at hv
 unfold qd
 rw [e1, f1, g1, h1]
 simp only [execOp, Array.map]
 go_simp
end
section
variable {ops : Array Oper} {Q : Exit → Act → World → Prop} {F : (Nat → Nat) → Act} {md : Region.Mode} {i i0 i1 j q : Nat} {w0 : World} {L M : List (Nat × TypeId × Array Value)} {B k a0 t0 : Nat} {t : TypeId} {z c : Array Value} {val : Nat → Array Value}
theorem ghost_held {o : Oper} {v : Value}   
  (hr : ∀ g w, HA w0 L w → (execOp (F g).eval o).run Tryz.prog w = .ok (.value v) w) (hi : ∀ m, m < k → i ≠ a0 + m ∧ i ≠ t0 + m := by decide) (hw : ∀ g, Region.wanted o (yielded ops (F g).tmps) = true := by intro _; kernel_rfl) (hp : ∀ g, (F g).put o.dst v = F g := by intro _; kernel_rfl) : OpGhost Tryz.prog md ops Q (GS w0 L B k a0 t0 t z val) F i o :=
 OpGhost.take (v := fun _ => v) hw hp (fun g _ w h _ => ⟨hr g w h.held, h.load hi⟩)
theorem gf_read {o : Oper} {v : Value} {e : Nat × TypeId × Array Value} (m : Nat)  (hm : L[m]? = some e)   
  (hr : ∀ g w, Blk w e.1 e.2.1 e.2.2 → (execOp (F g).eval o).run Tryz.prog w = .ok (.value v) w) (hjm : j ≠ m := by decide) (hi : i ≠ i0 := by decide) (hw : ∀ g, Region.wanted o (yielded ops (F g).tmps) = true := by intro _; kernel_rfl) (hp : ∀ g, (F g).put o.dst v = F g := by intro _; kernel_rfl) : OpGhost Tryz.prog .any ops Q (GF w0 L i0 i1 j q t c) F i o :=
 OpGhost.take (v := fun _ => v) hw hp (fun g d w h _ => by
  have hB : Blk w e.1 e.2.1 e.2.2 := by
   have hH := h.held
   split at hH
   ·exact hH.get m (by rw [List.getElem?_set_ne hjm]; exact hm)
   ·exact hH.get m hm
  exact ⟨hr g w hB, h.keep hi (Below.refl _ w)⟩)
theorem gf_callh {dst : Option Tmp} {ty : TypeId} {pos : String} {aft : Array Edge} {gd : Option (Nat × Bool)} {f : FuncId} {xs : Array Operand} {ats : Array TypeId} {v : Value} 
  
  (hr : ∀ args w, (callFunc f args).run Tryz.prog w = .ok (.enter f args) w) (args : Array Value) 
  (hc : ∀ w, Below w0.heap.size w0 w → Calls Tryz.prog f args w fun e w' => e = .returned v ∧ Below w.heap.size w w') (hi : i ≠ i0 := by decide) (hw : ∀ g, Region.wanted ⟨dst, .call { callee := .value (.func f), args := xs, argTypes := ats }, ty, pos, aft, gd⟩ (yielded ops (F g).tmps) = true := by intro _; kernel_rfl) (hp : ∀ g, (F g).put dst v = F g := by intro _; kernel_rfl) (ha : ∀ g, #[] ++ xs.map (F g).eval ++ #[] = args := by intro _; kernel_rfl) :
  OpGhost Tryz.prog .any ops Q (GF w0 L i0 i1 j q t c) F i ⟨dst, .call { callee := .value (.func f), args := xs, argTypes := ats }, ty, pos, aft, gd⟩ :=
 OpGhost.call (v := fun _ => v) (args := fun _ => args) hw hp (fun g w => by rw [execOp_call_go, ha g]; exact hr _ w) (fun _ _ w hS _ => (hc w hS.held.old).mono fun _ _ h => ⟨h.1, hS.keep hi h.2⟩)
end
end Go.Proofs.YtefjnfeckenmkaaGreatDoor

namespace Go.Proofs.YtefjnfeckenmkaaGreatDoor
set_option linter.unusedVariables false
set_option maxRecDepth 100000
set_option maxHeartbeats 2000000
open Go.RowKit Num
theorem squared_any (a : Nat) (ha : a < P) (w : World) (VV : Vars w) :
  Calls Tryz.prog 93 #[arr a] w fun e w' => e = .returned (arr (mulP a a)) ∧ Below w.heap.size w w' := by
 have H0 := HA.start w
 go_enter Tryz.func93, Tryz.ntmps93
 refine zsr ?_
 refine wl_make H0 37 (run_box25 (c := el a)) ?_
 intro q1 w2 h3
 refine wl_make h3 37 run_alloc25 ?_
 intro q4 w5 h6
 refine znt ?_
 refine zsr ?_
 refine wl_load h6 1 rfl Tryz.underlying37 rfl (info_el _) ?_
 refine wl_load h6 1 rfl Tryz.underlying37 rfl (info_el _) ?_
 refine zwc h6 enter80 (Mul_any a a ha ha w5 (VV.below h6.old VV.big)) ?_
 intro w7 h8
 refine wl_fill (c' := el (mulP a a)) h8 0 rfl (el_sz _ _) (info_el _) (one_el _) ?_
 intro w9 (h10 : HA w [(q4, 37, el (mulP a a)), (q1, 37, el a)] w9)
 refine znt ?_
 refine wp_ret ?_
 repeat first | refine then_ret ?_ | refine block_ret ?_
 exact bodyPost_ret (res_cell (p := 2) (by kernel_rfl) (by kernel_rfl) (h10.get 0 rfl) Tryz.underlying37 rfl (info_el _)) rfl ⟨rfl, h10.old⟩
theorem at_any (a b : Nat) (ha : a < P) (hb : b < P) (w : World) (VV : Vars w) :
  Calls Tryz.prog 45 #[arr a, arr b] w fun e w' => e = .returned (.agg (pr a (subP b 1))) ∧ Below w.heap.size w w' := by
 have H0 := HA.start w
 go_enter Tryz.func45, Tryz.ntmps45
 refine zsr ?_
 refine wl_make H0 37 (run_box25 (c := el a)) ?_
 intro q1 w2 h3
 refine wl_make h3 37 (run_box25 (c := el b)) ?_
 intro q4 w5 h6
 refine wl_make h6 39 run_alloc27 ?_
 intro q7 w8 h9
 refine znt ?_
 refine wp_seq ?_
 refine zrg (fun _ : Nat → Nat => (⟨(arr a :: arr b :: pt q1 :: pt q4 :: pt q7 :: arr a :: arr b :: arr 1 :: arr (subP b 1) :: .agg (pr a (subP b 1)) :: List.replicate 0 un).toArray, []⟩ : Act)) (GF w [(q7, 39, pr 0 0), (q4, 37, el b), (q1, 37, el a)] 5 4 0 q7 39 (pr a (subP b 1))) (fun d hd => GF.start h9.drew (hd 5 (by decide))) ?_ ?_
 ·refine zg (gf_load2 2 rfl Tryz.underlying37 rfl (info_el _)) ?_
  refine zg (gf_load2 1 rfl Tryz.underlying37 rfl (info_el _)) ?_
  refine zg (gf_callh (v := arr 1) enter41 #[iN .u32 1] (fun w' ho => Small_any 1 (by decide) w')) ?_
  refine zg (gf_callh (v := arr (subP b 1)) enter79 #[arr b, arr 1] (fun w' ho => Sub_any b 1 hb (by decide) w' (VV.below ho VV.big))) ?_
  refine zg (gf_plain (v := .agg (pr a (subP b 1))) (hr := (fun _ _ => (run_build27 (a := a) (b := subP b 1) (by kernel_rfl) (by kernel_rfl))))) ?_
  refine zg (gf_fill rfl (pr_sz a (subP b 1) 0 0) (info27p a (subP b 1)) (one_pr a (subP b 1))) ?_
  exact AllGhost.nil
 intro _ w10 g11
 have h12 : HA w [(q7, 39, pr a (subP b 1)), (q4, 37, el b), (q1, 37, el a)] w10 := g11.held
 clear g11
 refine then_at rfl ?_
 refine wp_ret ?_
 repeat first | refine then_ret ?_ | refine block_ret ?_
 exact bodyPost_ret (res_cell (p := 4) (by kernel_rfl) (by kernel_rfl) (h12.get 0 rfl) Tryz.underlying39 rfl (info27p a (subP b 1))) rfl ⟨rfl, h12.old⟩
theorem y_any (a b : Nat) (hb : b < P) (w : World) (VV : Vars w) :
  Calls Tryz.prog 52 #[.agg (pr a b)] w fun e w' => e = .returned (arr (addP b 1)) ∧ Below w.heap.size w w' := by
 have H0 := HA.start w
 go_enter Tryz.func52, Tryz.ntmps52
 refine zsr ?_
 refine wl_make H0 39 (run_box27 (c := pr a b)) ?_
 intro q1 w2 h3
 refine wl_make h3 37 run_alloc25 ?_
 intro q4 w5 h6
 refine znt ?_
 refine wp_seq ?_
 refine zrg (fun _ : Nat → Nat => (⟨(.agg (pr a b) :: pt q1 :: pt q4 :: .pointer (some ⟨q1, 4, none⟩) :: arr b :: arr 1 :: arr (addP b 1) :: List.replicate 0 un).toArray, []⟩ : Act)) (GF w [(q4, 37, el 0), (q1, 39, pr a b)] 4 3 0 q4 37 (el (addP b 1))) (fun d hd => GF.start h6.drew (hd 4 (by decide))) ?_ ?_
 ·refine zg (gf_plain (v := .pointer (some ⟨q1, 4, none⟩))) ?_
  refine zg (gf_read (v := arr b) 1 rfl (fun _ _ hb => run_part (q := q1) (off := 4 * 1) (n := b) hb (fun i _ => pr_get1 a b i))) ?_
  refine zg (gf_callh (v := arr 1) enter41 #[iN .u32 1] (fun w' ho => Small_any 1 (by decide) w')) ?_
  refine zg (gf_callh (v := arr (addP b 1)) enter87 #[arr b, arr 1] (fun w' ho => Add_any b 1 hb (by decide) w' (VV.below ho VV.big))) ?_
  refine zg (gf_fill rfl (el_sz _ _) (info_el _) (one_el _)) ?_
  exact AllGhost.nil
 intro _ w7 g8
 have h9 : HA w [(q4, 37, el (addP b 1)), (q1, 39, pr a b)] w7 := g8.held
 clear g8
 refine then_at rfl ?_
 refine wp_ret ?_
 repeat first | refine then_ret ?_ | refine block_ret ?_
 exact bodyPost_ret (res_cell (p := 2) (by kernel_rfl) (by kernel_rfl) (h9.get 0 rfl) Tryz.underlying37 rfl (info_el _)) rfl ⟨rfl, h9.old⟩
theorem None_any (w : World) :
  Calls Tryz.prog 47 #[] w fun e w' => e = .returned (.agg (pr 0 0)) ∧ Below w.heap.size w w' := by
 have H0 := HA.start w
 go_enter Tryz.func47, Tryz.ntmps47
 refine zsr ?_
 refine wl_make H0 39 run_alloc27 ?_
 intro q1 w2 h3
 refine znt ?_
 refine zsr ?_
 refine zwu run_build27z ?_
 refine wl_fill (c' := pr 0 0) h3 0 rfl (pr_sz 0 0 0 0) (info27p 0 0) (one_pr 0 0) ?_
 intro w4 (h5 : HA w [(q1, 39, pr 0 0)] w4)
 refine znt ?_
 refine wp_ret ?_
 repeat first | refine then_ret ?_ | refine block_ret ?_
 exact bodyPost_ret (res_cell (p := 0) (by kernel_rfl) (by kernel_rfl) (h5.get 0 rfl) Tryz.underlying39 rfl (info27p 0 0)) rfl ⟨rfl, h5.old⟩
end Go.Proofs.YtefjnfeckenmkaaGreatDoor
