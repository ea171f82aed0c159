/-
  Structs of elements: points, fractions; their parts in memory.
-/
import Derived.Test.YtpaendmdcdeemaaDoorRefX2
import Derived.Test.YtpaendmdcdeemaaDoorOld
namespace Go.Proofs.YtpaendmdcdeemaaDoor
open Go.RowKit Num

theorem el_sz (n m : Nat) : (el n).size = (el m).size := by rw [el_size, el_size]
theorem info_el (n : Nat) : (Tryd.prog.info? 25).map (·.size) = some (el n).size := by rw [el_size]; exact info25
def pr (a b : Nat) : Array Value := el a ++ el b
def qd (a b c d : Nat) : Array Value := el a ++ el b ++ el c ++ el d
theorem pr_size (a b : Nat) : (pr a b).size = 8 := by unfold pr; rw [Array.size_append, el_size, el_size]
theorem qd_size (a b c d : Nat) : (qd a b c d).size = 16 := by unfold qd; rw [Array.size_append, Array.size_append, Array.size_append, el_size, el_size, el_size, el_size]
theorem pr_sz (a b c d : Nat) : (pr a b).size = (pr c d).size := by rw [pr_size, pr_size]
theorem qd_sz (a b c d e f g h : Nat) : (qd a b c d).size = (qd e f g h).size := by rw [qd_size, qd_size]
theorem all_append {c d : Array Value} (h : c.all (·.oneCell') = true) (k : d.all (·.oneCell') = true) : (c ++ d).all (·.oneCell') = true := by rw [Array.all_append, h, k]; rfl
theorem one_pr (a b : Nat) : (pr a b).all (·.oneCell') = true := all_append (one_el a) (one_el b)
theorem one_qd (a b c d : Nat) : (qd a b c d).all (·.oneCell') = true := all_append (all_append (all_append (one_el a) (one_el b)) (one_el c)) (one_el d)
theorem info27 : (Tryd.prog.info? 27).map (·.size) = some 8 := by kernel_rfl
theorem info113 : (Tryd.prog.info? 113).map (·.size) = some 8 := by kernel_rfl
theorem info82 : (Tryd.prog.info? 82).map (·.size) = some 16 := by kernel_rfl
theorem info27p (a b : Nat) : (Tryd.prog.info? 27).map (·.size) = some (pr a b).size := by rw [pr_size]; exact info27
theorem info113p (a b : Nat) : (Tryd.prog.info? 113).map (·.size) = some (pr a b).size := by rw [pr_size]; exact info113
theorem info82q (a b c d : Nat) : (Tryd.prog.info? 82).map (·.size) = some (qd a b c d).size := by rw [qd_size]; exact info82
theorem pr_get0 (a b i : Nat) (hi : i < 4) : (pr a b)[4 * 0 + i]? = (el a)[i]? := by
  unfold pr
  rw [Nat.mul_zero, Nat.zero_add, Array.getElem?_append_left (by rw [el_size]; exact hi)]
theorem pr_get1 (a b i : Nat) : (pr a b)[4 * 1 + i]? = (el b)[i]? := by
  unfold pr
  rw [Array.getElem?_append_right (by rw [el_size]; omega), el_size, show 4 * 1 + i - 4 = i by omega]
theorem qd_get (a b c d : Nat) : (∀ i, i < 4 → (qd a b c d)[4 * 0 + i]? = (el a)[i]?) ∧ (∀ i, i < 4 → (qd a b c d)[4 * 1 + i]? = (el b)[i]?) ∧ (∀ i, i < 4 → (qd a b c d)[4 * 2 + i]? = (el c)[i]?) ∧ (∀ i, i < 4 → (qd a b c d)[4 * 3 + i]? = (el d)[i]?) := by
  unfold qd
  have s2 : (el a ++ el b).size = 8 := by rw [Array.size_append, el_size, el_size]
  have s3 : (el a ++ el b ++ el c).size = 12 := by rw [Array.size_append, Array.size_append, el_size, el_size, el_size]
  refine ⟨fun i hi => ?_, fun i hi => ?_, fun i hi => ?_, fun i hi => ?_⟩
  · rw [Array.getElem?_append_left (by rw [s3]; omega), Array.getElem?_append_left (by rw [s2]; omega), Array.getElem?_append_left (by rw [el_size]; omega), Nat.mul_zero, Nat.zero_add]
  · rw [Array.getElem?_append_left (by rw [s3]; omega), Array.getElem?_append_left (by rw [s2]; omega), Array.getElem?_append_right (by rw [el_size]; omega), el_size, show 4 * 1 + i - 4 = i by omega]
  · rw [Array.getElem?_append_left (by rw [s3]; omega), Array.getElem?_append_right (by rw [s2]; omega), s2, show 4 * 2 + i - 8 = i by omega]
  · rw [Array.getElem?_append_right (by rw [s3]; omega), s3, show 4 * 3 + i - 12 = i by omega]
section
variable {ρ : Operand → Value} {x y z v : Operand} {w : World} {dst : Option Tmp} {ty : TypeId} {pos : String} {aft : Array Edge} {gd : Option (Nat × Bool)} {q a b c d : Nat}
theorem run_alloc27 : (execOp ρ ⟨dst, .alloc 27, ty, pos, aft, gd⟩).run Tryd.prog w = .ok (.value (.pointer (some ⟨w.heap.size, 0, none⟩))) (w.alloc (.cells (pr 0 0) 27)) := by kernel_rfl
theorem run_alloc113 : (execOp ρ ⟨dst, .alloc 113, ty, pos, aft, gd⟩).run Tryd.prog w = .ok (.value (.pointer (some ⟨w.heap.size, 0, none⟩))) (w.alloc (.cells (pr 0 0) 113)) := by kernel_rfl
theorem run_alloc82 : (execOp ρ ⟨dst, .alloc 82, ty, pos, aft, gd⟩).run Tryd.prog w = .ok (.value (.pointer (some ⟨w.heap.size, 0, none⟩))) (w.alloc (.cells (qd 0 0 0 0) 82)) := by kernel_rfl
theorem run_box27 {c : Array Value} (hx : ρ x = .agg c) : (execOp ρ ⟨dst, .box 27 x, ty, pos, aft, gd⟩).run Tryd.prog w = .ok (.value (.pointer (some ⟨w.heap.size, 0, none⟩))) (w.alloc (.cells c 27)) := by
  simp only [execOp, hx]
  go_simp
theorem run_box113 {c : Array Value} (hx : ρ x = .agg c) : (execOp ρ ⟨dst, .box 113 x, ty, pos, aft, gd⟩).run Tryd.prog w = .ok (.value (.pointer (some ⟨w.heap.size, 0, none⟩))) (w.alloc (.cells c 113)) := by
  simp only [execOp, hx]
  go_simp
theorem run_box82 {c : Array Value} (hx : ρ x = .agg c) : (execOp ρ ⟨dst, .box 82 x, ty, pos, aft, gd⟩).run Tryd.prog w = .ok (.value (.pointer (some ⟨w.heap.size, 0, none⟩))) (w.alloc (.cells c 82)) := by
  simp only [execOp, hx]
  go_simp
theorem run_part {off n : Nat} {t : TypeId} {c : Array Value} (hx : ρ x = .pointer (some ⟨q, off, none⟩)) (h : Blk w q t c) (hc : ∀ i, i < 4 → c[off + i]? = (el n)[i]?) : (execOp ρ ⟨dst, .load 25 x, ty, pos, aft, gd⟩).run Tryd.prog w = .ok (.value (arr n)) w := by
  have hr : w.rangeAt q off (el n).toList := fun j v hv => by
    have hj : j < 4 := by have := (List.getElem?_eq_some_iff.1 hv).1; simpa [el_size] using this
    rw [h.cell (off + j), hc j hj]
    rwa [Array.getElem?_toList] at hv
  simp only [execOp, hx, Instr.loadAt, Instr.sureAddr, Sem.run_bind, Sem.run_pure, Result.andThen_ok, run_loadVar_mid w q off 25 (el n).toList _ hr Tryd.underlying25 rfl (by rw [Array.length_toList]; exact info25)]
  rfl
theorem agg_arr (n : Nat) : ∃ a b c d : Value, el n = #[a, b, c, d] ∧ arr n = .agg #[a, b, c, d] := ⟨_, _, _, _, rfl, rfl⟩
theorem run_build27 (hx : ρ x = arr a) (hy : ρ y = arr b) : (execOp ρ ⟨dst, .build 27 #[(0, x), (1, y)], ty, pos, aft, gd⟩).run Tryd.prog w = .ok (.value (.agg (pr a b))) w := by
  obtain ⟨a0, a1, a2, a3, e1, e2⟩ := agg_arr a
  obtain ⟨b0, b1, b2, b3, f1, f2⟩ := agg_arr b
  rw [e2] at hx
  rw [f2] at hy
  unfold pr
  rw [e1, f1]
  simp only [execOp, Array.map]
  go_simp
theorem run_build113 (hx : ρ x = arr a) (hy : ρ y = arr b) : (execOp ρ ⟨dst, .build 113 #[(0, x), (1, y)], ty, pos, aft, gd⟩).run Tryd.prog w = .ok (.value (.agg (pr a b))) w := by
  obtain ⟨a0, a1, a2, a3, e1, e2⟩ := agg_arr a
  obtain ⟨b0, b1, b2, b3, f1, f2⟩ := agg_arr b
  rw [e2] at hx
  rw [f2] at hy
  unfold pr
  rw [e1, f1]
  simp only [execOp, Array.map]
  go_simp
theorem run_build113a (hx : ρ x = arr a) : (execOp ρ ⟨dst, .build 113 #[(0, x)], ty, pos, aft, gd⟩).run Tryd.prog w = .ok (.value (.agg (pr a 0))) w := by
  obtain ⟨a0, a1, a2, a3, e1, e2⟩ := agg_arr a
  rw [e2] at hx
  have f1 : el 0 = #[.int .u64 0, .int .u64 0, .int .u64 0, .int .u64 0] := by kernel_rfl
  unfold pr
  rw [e1, f1]
  simp only [execOp, Array.map]
  go_simp
theorem run_build27z : (execOp ρ ⟨dst, .build 27 #[], ty, pos, aft, gd⟩).run Tryd.prog w = .ok (.value (.agg (pr 0 0))) w := by kernel_rfl
theorem run_build82 (hx : ρ x = arr a) (hy : ρ y = arr b) (hz : ρ z = arr c) (hv : ρ v = arr d) : (execOp ρ ⟨dst, .build 82 #[(0, x), (1, y), (2, z), (3, v)], ty, pos, aft, gd⟩).run Tryd.prog w = .ok (.value (.agg (qd a b c d))) w := by
  obtain ⟨a0, a1, a2, a3, e1, e2⟩ := agg_arr a
  obtain ⟨b0, b1, b2, b3, f1, f2⟩ := agg_arr b
  obtain ⟨c0, c1, c2, c3, g1, g2⟩ := agg_arr c
  obtain ⟨d0, d1, d2, d3, h1, h2⟩ := agg_arr d
  rw [e2] at hx
  rw [f2] at hy
  rw [g2] at hz
  rw [h2] at hv
  unfold qd
  rw [e1, f1, g1, h1]
  simp only [execOp, Array.map]
  go_simp
end
section
variable {ops : Array Oper} {Q : Exit → Act → World → Prop} {F : (Nat → Nat) → Act} {md : Region.Mode} {i i0 i1 j q : Nat} {w0 : World} {L M : List (Nat × TypeId × Array Value)} {B k a0 t0 : Nat} {t : TypeId} {z c : Array Value} {val : Nat → Array Value}
/-- an operation that reads what is held -/
theorem ghost_held {o : Oper} {v : Value} (hi : ∀ m, m < k → i ≠ a0 + m ∧ i ≠ t0 + m) (hw : ∀ g, Region.wanted o (yielded ops (F g).tmps) = true) (hp : ∀ g, (F g).put o.dst v = F g)
    (hr : ∀ g w, HA w0 L w → (execOp (F g).eval o).run Tryd.prog w = .ok (.value v) w) : OpGhost Tryd.prog md ops Q (GS w0 L B k a0 t0 t z val) F i o :=
  OpGhost.take (v := fun _ => v) hw hp (fun g _ w h _ => ⟨hr g w h.held, h.load hi⟩)
theorem gf_read {o : Oper} {v : Value} {e : Nat × TypeId × Array Value} (m : Nat) (hjm : j ≠ m) (hm : L[m]? = some e) (hi : i ≠ i0) (hw : ∀ g, Region.wanted o (yielded ops (F g).tmps) = true) (hp : ∀ g, (F g).put o.dst v = F g)
    (hr : ∀ g w, Blk w e.1 e.2.1 e.2.2 → (execOp (F g).eval o).run Tryd.prog w = .ok (.value v) w) : OpGhost Tryd.prog .any ops Q (GF w0 L i0 i1 j q t c) F i o :=
  OpGhost.take (v := fun _ => v) hw hp (fun g d w h _ => by
    have hB : Blk w e.1 e.2.1 e.2.2 := by
      have hH := h.held
      split at hH
      · exact hH.get m (by rw [List.getElem?_set_ne hjm]; exact hm)
      · exact hH.get m hm
    exact ⟨hr g w hB, h.keep hi (Below.refl _ w)⟩)
theorem gf_old {o : Oper} {v : Value} (hi : i ≠ i0) (hw : ∀ g, Region.wanted o (yielded ops (F g).tmps) = true) (hp : ∀ g, (F g).put o.dst v = F g)
    (hr : ∀ g w, Below w0.heap.size w0 w → (execOp (F g).eval o).run Tryd.prog w = .ok (.value v) w) : OpGhost Tryd.prog .any ops Q (GF w0 L i0 i1 j q t c) F i o :=
  OpGhost.take (v := fun _ => v) hw hp (fun g _ w h _ => ⟨hr g w h.held.old, h.keep hi (Below.refl _ w)⟩)
/-- a call that wants what is held, but not the block that is filled -/
theorem gf_callh {dst : Option Tmp} {ty : TypeId} {pos : String} {aft : Array Edge} {gd : Option (Nat × Bool)} {f : FuncId} {xs : Array Operand} {ats : Array TypeId} {v : Value} (hi : i ≠ i0)
    (hw : ∀ g, Region.wanted ⟨dst, .call { callee := .value (.func f), args := xs, argTypes := ats }, ty, pos, aft, gd⟩ (yielded ops (F g).tmps) = true) (hp : ∀ g, (F g).put dst v = F g)
    (hr : ∀ args w, (callFunc f args).run Tryd.prog w = .ok (.enter f args) w) (args : Array Value) (ha : ∀ g, #[] ++ xs.map (F g).eval ++ #[] = args)
    (hc : ∀ w, Below w0.heap.size w0 w → Calls Tryd.prog f args w fun e w' => e = .returned v ∧ Below w.heap.size w w') :
    OpGhost Tryd.prog .any ops Q (GF w0 L i0 i1 j q t c) F i ⟨dst, .call { callee := .value (.func f), args := xs, argTypes := ats }, ty, pos, aft, gd⟩ :=
  OpGhost.call (v := fun _ => v) (args := fun _ => args) hw hp (fun g w => by rw [execOp_call_go, ha g]; exact hr _ w) (fun _ _ w hS _ => (hc w hS.held.old).mono fun _ _ h => ⟨h.1, hS.keep hi h.2⟩)
end
end Go.Proofs.YtpaendmdcdeemaaDoor
