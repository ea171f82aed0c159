/-
 The reference's points: four numbers of sixteen digits.
-/
import Derived.Test.YtefjnfeckenmkaaGreatDoorV1
namespace Go.Proofs.YtefjnfeckenmkaaGreatDoor
set_option maxRecDepth 100000
set_option maxHeartbeats 4000000
open Go.RowKit Num
def rq (q : Q4) : Array Value := rl q.X ++ rl q.Y ++ rl q.Z ++ rl q.T
theorem rq_size (q : Q4) : (rq q).size = 64 := by unfold rq; rw [Array.size_append, Array.size_append, Array.size_append, rl_size, rl_size, rl_size, rl_size]
theorem rq_sz (q r : Q4) : (rq q).size = (rq r).size := by rw [rq_size, rq_size]
theorem one_rq (q : Q4) : (rq q).all (·.oneCell') = true := all_append (all_append (all_append (one_rl _) (one_rl _)) (one_rl _)) (one_rl _)
theorem info34 : (Tryz.prog.info? 53).map (·.size) = some 64 := by kernel_rfl
theorem info34q (q : Q4) : (Tryz.prog.info? 53).map (·.size) = some (rq q).size := by rw [rq_size]; exact info34
theorem rq_get (q : Q4) : (∀ i, i < 16 → (rq q)[16 * 0 + i]? = (rl q.X)[i]?) ∧ (∀ i, i < 16 → (rq q)[16 * 1 + i]? = (rl q.Y)[i]?) ∧ (∀ i, i < 16 → (rq q)[16 * 2 + i]? = (rl q.Z)[i]?) ∧ (∀ i, i < 16 → (rq q)[16 * 3 + i]? = (rl q.T)[i]?) := by
 unfold rq
 have s2 : (rl q.X ++ rl q.Y).size = 32 := by rw [Array.size_append, rl_size, rl_size]
 have s3 : (rl q.X ++ rl q.Y ++ rl q.Z).size = 48 := by rw [Array.size_append, Array.size_append, rl_size, rl_size, rl_size]
 refine ⟨fun i hi => ?_, fun i hi => ?_, fun i hi => ?_, fun i hi => ?_⟩
 ·rw [Array.getElem?_append_left (by rw [s3]; omega), Array.getElem?_append_left (by rw [s2]; omega), Array.getElem?_append_left (by rw [rl_size]; omega), Nat.mul_zero, Nat.zero_add]
 ·rw [Array.getElem?_append_left (by rw [s3]; omega), Array.getElem?_append_left (by rw [s2]; omega), Array.getElem?_append_right (by rw [rl_size]; omega), rl_size, show 16 * 1 + i - 16 = i by omega]
 ·rw [Array.getElem?_append_left (by rw [s3]; omega), Array.getElem?_append_right (by rw [s2]; omega), s2, show 16 * 2 + i - 32 = i by omega]
 ·rw [Array.getElem?_append_right (by rw [s3]; omega), s3, show 16 * 3 + i - 48 = i by omega]
section
variable {ρ : Operand → Value} {x y z v : Operand} {w : World} {dst : Option Tmp} {ty : TypeId} {pos : String} {aft : Array Edge} {gd : Option (Nat × Bool)} {q a b c d : Nat}
theorem run_alloc34 : (execOp ρ ⟨dst, .alloc 53, ty, pos, aft, gd⟩).run Tryz.prog w = .ok (.value (.pointer (some ⟨w.heap.size, 0, none⟩))) (w.alloc (.cells (rq ⟨0, 0, 0, 0⟩) 53)) := by kernel_rfl
theorem run_box34 {c : Array Value}  (hx : ρ x = .agg c := by kernel_rfl) : (execOp ρ ⟨dst, .box 53 x, ty, pos, aft, gd⟩).run Tryz.prog w = .ok (.value (.pointer (some ⟨w.heap.size, 0, none⟩))) (w.alloc (.cells c 53)) := by
 simp only [execOp, hx]
 go_simp
theorem run_part32 {off n : Nat} {t : TypeId} {c : Array Value}  (h : Blk w q t c) (hc : ∀ i, i < 16 → c[off + i]? = (rl n)[i]?) (hx : ρ x = .pointer (some ⟨q, off, none⟩) := by kernel_rfl) : (execOp ρ ⟨dst, .load 51 x, ty, pos, aft, gd⟩).run Tryz.prog w = .ok (.value (rarr n)) w := by
 have hr : w.rangeAt q off (rl n).toList := fun j v hv => by
  have hj : j < 16 := by have := (List.getElem?_eq_some_iff.1 hv).1; simpa [rl_size] using this
  rw [h.cell (off + j), hc j hj]
  rwa [Array.getElem?_toList] at hv
 simp only [execOp, hx, Instr.loadAt, Instr.sureAddr, Sem.run_bind, Sem.run_pure, Result.andThen_ok, run_loadVar_mid w q off 51 (rl n).toList _ hr Tryz.underlying51 rfl (by rw [Array.length_toList]; exact info_rl n)]
 rfl
theorem agg_r (n : Nat) : ∃ a0 a1 a2 a3 a4 a5 a6 a7 a8 a9 a10 a11 a12 a13 a14 a15 : Value, rl n = #[a0, a1, a2, a3, a4, a5, a6, a7, a8, a9, a10, a11, a12, a13, a14, a15] ∧ rarr n = .agg #[a0, a1, a2, a3, a4, a5, a6, a7, a8, a9, a10, a11, a12, a13, a14, a15] := ⟨_, _, _, _, _, _, _, _, _, _, _, _, _, _, _, _, rfl, rfl⟩
theorem run_build34 (hx : ρ x = rarr a) (hy : ρ y = rarr b) (hz : ρ z = rarr c) (hv : ρ v = rarr d) : (execOp ρ ⟨dst, .build 53 #[(0, x), (1, y), (2, z), (3, v)], ty, pos, aft, gd⟩).run Tryz.prog w = .ok (.value (.agg (rq ⟨a, b, c, d⟩))) w := by
 obtain ⟨a0, a1, a2, a3, a4, a5, a6, a7, a8, a9, a10, a11, a12, a13, a14, a15, ea, fa⟩ := agg_r a
 rw [fa] at hx
 obtain ⟨b0, b1, b2, b3, b4, b5, b6, b7, b8, b9, b10, b11, b12, b13, b14, b15, eb, fb⟩ := agg_r b
 rw [fb] at hy
 obtain ⟨c0, c1, c2, c3, c4, c5, c6, c7, c8, c9, c10, c11, c12, c13, c14, c15, ec, fc⟩ := agg_r c
 rw [fc] at hz
 obtain ⟨d0, d1, d2, d3, d4, d5, d6, d7, d8, d9, d10, d11, d12, d13, d14, d15, ed, fd⟩ := agg_r d
 rw [fd] at hv
 unfold rq
 rw [ea, eb, ec, ed]
 simp only [execOp, Array.map]
 go_simp
end
end Go.Proofs.YtefjnfeckenmkaaGreatDoor
