/-
  power: squares by a closure, and their product.
-/
import Derived.Test.YtpaendmdcdeemaaDoorFold
namespace Go.Proofs.YtpaendmdcdeemaaDoor
open Go.RowKit Num
set_option linter.unusedSimpArgs false

/-- of the old blocks one alone has turned -/
structure Only (b : Nat) (w w' : World) : Prop where
  os : w'.os = w.os
  tape : w'.tape = w.tape
  output : w'.output = w.output
  size : w.heap.size ≤ w'.heap.size
  block : ∀ k, k < w.heap.size → k ≠ b → w'.heap[k]? = w.heap[k]?

theorem Only.refl (b : Nat) (w : World) : Only b w w := ⟨rfl, rfl, rfl, Nat.le_refl _, fun _ _ _ => rfl⟩
theorem Only.step {b B : Nat} {a w w' : World} (h : Only b a w) (hb : Below B w w') (hB : a.heap.size ≤ B) : Only b a w' :=
  ⟨hb.os.trans h.os, hb.tape.trans h.tape, hb.output.trans h.output, Nat.le_trans h.size hb.size, fun k hk hkb => (hb.block k (by omega)).trans (h.block k hk hkb)⟩
theorem Only.new {b : Nat} {a w : World} (h : Only b a w) {o : Obj} : Only b a (w.alloc o) := h.step (new_below (Below.refl _ w) h.size) (Nat.le_refl _)
theorem Only.put {b : Nat} {a w : World} (h : Only b a w) {g o : Nat} {v : Value} (hg : g = b ∨ a.heap.size ≤ g) : Only b a (w.setCell ⟨g, o, none⟩ v) :=
  ⟨h.os, h.tape, h.output, by have := h.size; simpa using this, fun k hk hkb => by
    rw [Below.heap_setCell w ⟨g, o, none⟩ v k (show k ≠ g by omega)]
    exact h.block k hk hkb⟩
theorem Only.row {b g : Nat} {w w' : World} {t : TypeId} {k : IntKind} {l : List Nat} (h : Only b w w') (r : Row w g t k l) (hg : g ≠ b) : Row w' g t k l := by
  unfold Row
  rw [h.block g r.lt hg]
  exact r
theorem Only.below {b B : Nat} {w w' : World} (h : Only b w w') (hB : B ≤ b) (hw : B ≤ w.heap.size) : Below B w w' :=
  ⟨h.os, h.tape, h.output, h.size, fun k hk => h.block k (by omega) (by omega)⟩

set_option maxHeartbeats 2000000 in
theorem next_any (b n : Nat) (hn : n < P) (w : World) (V : Vars w) (_hb : 4 ≤ b) (R : Row w b 25 .u64 (digs K 4 n)) :
    Calls Tryd.prog 116 #[.pointer (some ⟨b, 0, none⟩)] w fun e w' => e = .returned (arr n) ∧ Only b w w' ∧ Row w' b 25 .u64 (digs K 4 (mulP n n)) := by
  have hV := V.big
  have VV := hide V
  have hbs := R.lt
  have C1 := fun w V => Mul_any n n hn hn w V
  obtain ⟨a0, a1, a2, a3, ea, ea'⟩ := arr_open n
  obtain ⟨r0, r1, r2, r3, er, er'⟩ := arr_open (mulP n n)
  rw [ea', er'] at C1
  rw [ea] at R
  have EA := hide ea'
  have ER := hide er
  obtain ⟨c0, c1, c2, c3⟩ := R.four
  have C1' := hide C1
  have HR := hide R
  clear C1 ea ea' er er' V hn R
  go_enter Tryd.func116, Tryd.ntmps116
  go_wp2_with fail
  refine (C1'.out _ (VV.out.below (show Below w.heap.size w _ by repeat (first | exact Below.refl _ _ | refine new_below ?_ (Nat.le_refl _))) hV)).mono ?_
  rintro e w1 ⟨rfl, hb1⟩
  have q1 : Row w1 w.heap.size 25 .u64 [0, 0, 0, 0] := Row.below (by repeat (first | (refine Row.mk ?_ rfl; simp; done) | refine Row.alloc ?_ _)) hb1 (by simp; omega)
  have q2 : Row w1 (w.heap.size + 1) 25 .u64 [a0, a1, a2, a3] := Row.below (by repeat (first | (refine Row.mk ?_ rfl; simp; done) | refine Row.alloc ?_ _)) hb1 (by simp)
  have q3 : Row w1 b 25 .u64 [a0, a1, a2, a3] := Row.below (by repeat (first | exact HR.out | refine Row.alloc ?_ _)) hb1 (by simp; omega)
  have hO1 : Only b w w1 := ((Only.refl b w).new.new).step hb1 (by simp; omega)
  obtain ⟨z0, z1, z2, z3⟩ := q1.four
  have f1 := fun i => q1.free i
  obtain ⟨y0, y1, y2, y3⟩ := q2.four
  obtain ⟨x0, x1, x2, x3⟩ := q3.four
  have f3 := fun i => q3.free i
  have hne : ¬ (w.heap.size = b) := by omega
  have hne1 : ¬ (w.heap.size + 1 = b) := by omega
  have hne2 : ¬ (b = w.heap.size) := by omega
  have hne3 : ¬ (b = w.heap.size + 1) := by omega
  have Q3 := hide q3
  clear hb1 C1' q1 q2 q3 HR c0 c1 c2 c3
  go_wp2
  refine bodyPost_ret (v := .agg #[.int .u64 a0, .int .u64 a1, .int .u64 a2, .int .u64 a3]) (by simp [results, Tryd.results116, go_sem, z0, z1, z2, z3, hne, hne2]) rfl ⟨by rw [EA.out], ?_, ?_⟩
  · repeat (first | refine Only.put ?_ (by omega) | exact hO1)
  · rw [ER.out]
    have r := (((Q3.out.set 0 r0).set 1 r1).set 2 r2).set 3 r3
    repeat (first | refine Row.off ?_ (by omega) | exact r)
end Go.Proofs.YtpaendmdcdeemaaDoor
