/-
  the law SignHolds: what is signed is verified.
-/
import Derived.Test.YtefjnfeckenmkaaDoorSg4
namespace Go.Proofs.YtefjnfeckenmkaaDoor
open Go.RowKit Num

section
variable {ρ : Operand → Value} {x y : Operand} {w : World} {dst : Option Tmp} {ty : TypeId} {pos : String} {aft : Array Edge} {gd : Option (Nat × Bool)}
theorem run_cut_hiE {s r : ByteArray} {b : Nat} (hx : ρ x = .string s) (hy : ρ y = iN .i64 b) (hb : b ≤ s.size) (e : s.extract 0 b = r) : (execOp ρ ⟨dst, .slice 9 x none (some y) none, ty, pos, aft, gd⟩).run Tryd.prog w = .ok (.value (.string r)) w := by
  subst e
  exact Sc.run_cut_hi hx hy hb
theorem run_cut_loE {z : Operand} {s r : ByteArray} {a : Nat} (hx : ρ x = .string s) (hz : ρ z = iN .i64 a) (ha : a ≤ s.size) (e : s.extract a s.size = r) : (execOp ρ ⟨dst, .slice 9 x (some z) none none, ty, pos, aft, gd⟩).run Tryd.prog w = .ok (.value (.string r)) w := by
  subst e
  exact Sc.run_cut_lo hx hz ha
end
theorem run_boxA {ρ : Operand → Value} {x : Operand} {c : Array Value} {w : World} {dst : Option Tmp} {ty : TypeId} {pos : String} {aft : Array Edge} {gd : Option (Nat × Bool)} (hx : ρ x = .agg c) : (execOp ρ ⟨dst, .box 22 x, ty, pos, aft, gd⟩).run Tryd.prog w = .ok (.value (.pointer (some ⟨w.heap.size, 0, none⟩))) (w.alloc (.cells c 22)) := by
  simp only [execOp, hx]
  go_simp
theorem sig_lo (s t : ByteArray) : (sigS s t).extract 0 32 = RbS s t := ext_l _ _ (RbS_size s t)
theorem sig_hi (s t : ByteArray) : (sigS s t).extract 32 (sigS s t).size = SsS s t := ext_r _ _ (RbS_size s t)
theorem pk_size (s : ByteArray) : (pkS (hS s)).size = 32 := encP_size _

def zSg5_0 (l : List UInt8) (t : ByteArray) q1 (zx5 zx6 : Value) (zt : List Value) := (.agg (cs l).toArray :: .string t :: pt q1 :: un :: .bool false :: zx5 :: zx6 :: un :: un :: un :: un :: .bool true :: .bool false :: zt : List Value)
def zSg5_1 (l : List UInt8) (t : ByteArray) q1 (zx4 zx9 zx10 : Value) (zt : List Value) := (.agg (cs l).toArray :: .string t :: pt q1 :: un :: zx4 :: .string (pkS (hS (ByteArray.mk l.toArray))) :: iN .i64 0 :: .string (sigS (ByteArray.mk l.toArray) t) :: iN .i64 0 :: zx9 :: zx10 :: .bool true :: .bool false :: .tuple #[.string (pkS (hS (ByteArray.mk l.toArray))), iN .i64 0] :: .slice (some ⟨q1, 0, none⟩) 32 32 :: .string (ByteArray.mk l.toArray) :: .tuple #[.string (pkS (hS (ByteArray.mk l.toArray))), iN .i64 0] :: .string (pkS (hS (ByteArray.mk l.toArray))) :: iN .i64 0 :: .tuple #[.string (sigS (ByteArray.mk l.toArray) t), iN .i64 0] :: .slice (some ⟨q1, 0, none⟩) 32 32 :: .string (ByteArray.mk l.toArray) :: .string t :: .tuple #[.string (sigS (ByteArray.mk l.toArray) t), iN .i64 0] :: .string (sigS (ByteArray.mk l.toArray) t) :: iN .i64 0 :: zt : List Value)
set_option linter.unusedVariables false in
set_option maxRecDepth 100000 in
set_option maxHeartbeats 2000000 in
theorem SignHolds_any (l : List UInt8) (hl : l.length = 32) (t : ByteArray) (ht : t.size ≤ 562949953421312) (w : World) (VV : VA w) :
    Calls Tryd.prog 3 #[.agg (cs l).toArray, .string t] w fun e w' => e = .returned (.bool true) ∧ Below w.heap.size w w' := by
  have H0 := HA.start w
  go_enter Tryd.func3, Tryd.ntmps3
  refine wp_seq ?_
  refine wl_region ?_
  refine wl_make H0 22 (by kernel_rfl) (run_boxA (c := (cs l).toArray) (by kernel_rfl)) ?_
  intro q1 w2 h3
  refine wl_val (.bool false) (by kernel_rfl) (by kernel_rfl) ?_
  refine wl_nil ?_
  refine then_at (F := ⟨(.agg (cs l).toArray :: .string t :: pt q1 :: un :: .bool false :: List.replicate 54 un).toArray, []⟩) (by kernel_rfl) ?_
  refine wp_seq ?_
  refine wp_seq ?_
  refine wl_region ?_
  refine wl_call (v := .bool true) h3 (by kernel_rfl) ent7 #[] (by kernel_rfl) (works_any w2 (VV.below h3.old VV.big)) ?_
  intro w4 h5
  refine wl_val (.bool false) (by kernel_rfl) (by kernel_rfl) ?_
  refine wl_nil ?_
  refine then_at (F := ⟨(zSg5_0 l t q1 un un (List.replicate 46 un)).toArray, []⟩) (by kernel_rfl) ?_
  refine wp_cond_false (by kernel_rfl) ?_
  refine wp_skip ?_
  refine then_at (F := ⟨(zSg5_0 l t q1 un un (List.replicate 46 un)).toArray, []⟩) (by kernel_rfl) ?_
  refine wp_seq ?_
  refine wl_region ?_
  refine wl_val (.slice (some ⟨q1, 0, none⟩) 32 32) (by kernel_rfl) (run_cut41 (q := q1) (by kernel_rfl)) ?_
  refine wl_val (.string (ByteArray.mk l.toArray)) (by kernel_rfl) (run_arrText (l := l) hl (by kernel_rfl) (h5.get 0 rfl)) ?_
  refine wl_call (v := .tuple #[.string (pkS (hS (ByteArray.mk l.toArray))), iN .i64 0]) h5 (by kernel_rfl) ent8 #[.string (ByteArray.mk l.toArray)] (by kernel_rfl) (Public_yes (ByteArray.mk l.toArray) (sz_l l hl) w4 (VV.below h5.old VV.big)) ?_
  intro w6 h7
  refine wl_val (.tuple #[.string (pkS (hS (ByteArray.mk l.toArray))), iN .i64 0]) (by kernel_rfl) (by kernel_rfl) ?_
  refine wl_val (.string (pkS (hS (ByteArray.mk l.toArray)))) (by kernel_rfl) (by kernel_rfl) ?_
  refine wl_val (iN .i64 0) (by kernel_rfl) (by kernel_rfl) ?_
  refine wl_val (.string (pkS (hS (ByteArray.mk l.toArray)))) (by kernel_rfl) (by kernel_rfl) ?_
  refine wl_val (iN .i64 0) (by kernel_rfl) (by kernel_rfl) ?_
  refine wl_nil ?_
  refine then_at (F := ⟨(zSg5_0 l t q1 (.string (pkS (hS (ByteArray.mk l.toArray)))) (iN .i64 0) (.tuple #[.string (pkS (hS (ByteArray.mk l.toArray))), iN .i64 0] :: .slice (some ⟨q1, 0, none⟩) 32 32 :: .string (ByteArray.mk l.toArray) :: .tuple #[.string (pkS (hS (ByteArray.mk l.toArray))), iN .i64 0] :: .string (pkS (hS (ByteArray.mk l.toArray))) :: iN .i64 0 :: List.replicate 40 un)).toArray, []⟩) (by kernel_rfl) ?_
  refine wp_seq ?_
  refine wl_region ?_
  refine wl_val (.slice (some ⟨q1, 0, none⟩) 32 32) (by kernel_rfl) (run_cut41 (q := q1) (by kernel_rfl)) ?_
  refine wl_val (.string (ByteArray.mk l.toArray)) (by kernel_rfl) (run_arrText (l := l) hl (by kernel_rfl) (h7.get 0 rfl)) ?_
  refine wl_val (.string t) (by kernel_rfl) (by kernel_rfl) ?_
  refine wl_call (v := .tuple #[.string (sigS (ByteArray.mk l.toArray) t), iN .i64 0]) h7 (by kernel_rfl) ent9 #[.string (ByteArray.mk l.toArray), .string t] (by kernel_rfl) (Sign_yes (ByteArray.mk l.toArray) t (sz_l l hl) ht w6 (VV.below h7.old VV.big)) ?_
  intro w8 h9
  refine wl_val (.tuple #[.string (sigS (ByteArray.mk l.toArray) t), iN .i64 0]) (by kernel_rfl) (by kernel_rfl) ?_
  refine wl_val (.string (sigS (ByteArray.mk l.toArray) t)) (by kernel_rfl) (by kernel_rfl) ?_
  refine wl_val (iN .i64 0) (by kernel_rfl) (by kernel_rfl) ?_
  refine wl_val (.string (sigS (ByteArray.mk l.toArray) t)) (by kernel_rfl) (by kernel_rfl) ?_
  refine wl_val (iN .i64 0) (by kernel_rfl) (by kernel_rfl) ?_
  refine wl_nil ?_
  refine then_at (F := ⟨(zSg5_1 l t q1 (.bool false) un un (List.replicate 33 un)).toArray, []⟩) (by kernel_rfl) ?_
  refine wp_seq ?_
  refine wl_region ?_
  refine wl_val (.slice (some ⟨q1, 0, none⟩) 32 32) (by kernel_rfl) (run_cut41 (q := q1) (by kernel_rfl)) ?_
  refine wl_val (.string (ByteArray.mk l.toArray)) (by kernel_rfl) (run_arrText (l := l) hl (by kernel_rfl) (h9.get 0 rfl)) ?_
  refine wl_val (.string t) (by kernel_rfl) (by kernel_rfl) ?_
  refine wl_call (v := .tuple #[.string (sigS (ByteArray.mk l.toArray) t), iN .i64 0]) h9 (by kernel_rfl) ent9 #[.string (ByteArray.mk l.toArray), .string t] (by kernel_rfl) (Sign_yes (ByteArray.mk l.toArray) t (sz_l l hl) ht w8 (VV.below h9.old VV.big)) ?_
  intro w10 h11
  refine wl_val (.tuple #[.string (sigS (ByteArray.mk l.toArray) t), iN .i64 0]) (by kernel_rfl) (by kernel_rfl) ?_
  refine wl_val (.string (sigS (ByteArray.mk l.toArray) t)) (by kernel_rfl) (by kernel_rfl) ?_
  refine wl_val (iN .i64 0) (by kernel_rfl) (by kernel_rfl) ?_
  refine wl_val (.string (sigS (ByteArray.mk l.toArray) t)) (by kernel_rfl) (by kernel_rfl) ?_
  refine wl_val (iN .i64 0) (by kernel_rfl) (by kernel_rfl) ?_
  refine wl_nil ?_
  refine then_at (F := ⟨(zSg5_1 l t q1 (.bool false) (.string (sigS (ByteArray.mk l.toArray) t)) (iN .i64 0) (.tuple #[.string (sigS (ByteArray.mk l.toArray) t), iN .i64 0] :: .slice (some ⟨q1, 0, none⟩) 32 32 :: .string (ByteArray.mk l.toArray) :: .string t :: .tuple #[.string (sigS (ByteArray.mk l.toArray) t), iN .i64 0] :: .string (sigS (ByteArray.mk l.toArray) t) :: iN .i64 0 :: List.replicate 26 un)).toArray, []⟩) (by kernel_rfl) ?_
  refine wp_seq ?_
  refine wl_region ?_
  refine wl_val (iN .i64 0) (by kernel_rfl) (by kernel_rfl) ?_
  refine wl_val (.bool true) (by kernel_rfl) (run_eqi (k := .i64) (a := 0) (b := 0) (by kernel_rfl) (by kernel_rfl) true (by decide)) ?_
  refine wl_val (.bool true) (by kernel_rfl) (by kernel_rfl) ?_
  refine wl_val (iN .i64 0) (by kernel_rfl) (by kernel_rfl) ?_
  refine wl_val (.bool true) (by kernel_rfl) (run_eqi (k := .i64) (a := 0) (b := 0) (by kernel_rfl) (by kernel_rfl) true (by decide)) ?_
  refine wl_val (.bool true) (by kernel_rfl) (by kernel_rfl) ?_
  refine wl_val (.bool true) (by kernel_rfl) (by kernel_rfl) ?_
  refine wl_val (iN .i64 0) (by kernel_rfl) (by kernel_rfl) ?_
  refine wl_val (.bool true) (by kernel_rfl) (run_eqi (k := .i64) (a := 0) (b := 0) (by kernel_rfl) (by kernel_rfl) true (by decide)) ?_
  refine wl_val (.bool true) (by kernel_rfl) (by kernel_rfl) ?_
  refine wl_val (.bool true) (by kernel_rfl) (by kernel_rfl) ?_
  refine wl_val (.string (sigS (ByteArray.mk l.toArray) t)) (by kernel_rfl) (by kernel_rfl) ?_
  refine wl_val (.string (sigS (ByteArray.mk l.toArray) t)) (by kernel_rfl) (by kernel_rfl) ?_
  refine wl_val (.bool true) (by kernel_rfl) (run_eqs (s := sigS (ByteArray.mk l.toArray) t) (t := sigS (ByteArray.mk l.toArray) t) (by kernel_rfl) (by kernel_rfl) true (decide_eq_true rfl)) ?_
  refine wl_val (.bool true) (by kernel_rfl) (by kernel_rfl) ?_
  refine wl_val (.bool true) (by kernel_rfl) (by kernel_rfl) ?_
  refine wl_val (.string (sigS (ByteArray.mk l.toArray) t)) (by kernel_rfl) (by kernel_rfl) ?_
  refine wl_val (iN .i64 ((sigS (ByteArray.mk l.toArray) t).size)) (by kernel_rfl) (run_len (s := sigS (ByteArray.mk l.toArray) t) (by kernel_rfl)) ?_
  refine wl_val (.bool true) (by kernel_rfl) (run_eqi (k := .i64) (a := (sigS (ByteArray.mk l.toArray) t).size) (b := 64) (by kernel_rfl) (by kernel_rfl) true (decide_eq_true (sigS_size _ _))) ?_
  refine wl_val (.bool true) (by kernel_rfl) (by kernel_rfl) ?_
  refine wl_val (.bool true) (by kernel_rfl) (by kernel_rfl) ?_
  refine wl_val (.string (pkS (hS (ByteArray.mk l.toArray)))) (by kernel_rfl) (by kernel_rfl) ?_
  refine wl_val (.string t) (by kernel_rfl) (by kernel_rfl) ?_
  refine wl_val (.string (sigS (ByteArray.mk l.toArray) t)) (by kernel_rfl) (by kernel_rfl) ?_
  refine wl_call (v := .bool true) h11 (by kernel_rfl) ent10 #[.string (pkS (hS (ByteArray.mk l.toArray))), .string t, .string (sigS (ByteArray.mk l.toArray) t)] (by kernel_rfl) (Verify_yes (pkS (hS (ByteArray.mk l.toArray))) t (sigS (ByteArray.mk l.toArray) t) (by rw [pk_size]; decide) ht (sig_ver _ _) w10 (VV.below h11.old VV.big)) ?_
  intro w12 h13
  refine wl_val (.bool true) (by kernel_rfl) (by kernel_rfl) ?_
  refine wl_val (.bool true) (by kernel_rfl) (by kernel_rfl) ?_
  refine wl_nil ?_
  refine then_at (F := ⟨(zSg5_1 l t q1 (.bool true) (.string (sigS (ByteArray.mk l.toArray) t)) (iN .i64 0) (.tuple #[.string (sigS (ByteArray.mk l.toArray) t), iN .i64 0] :: .slice (some ⟨q1, 0, none⟩) 32 32 :: .string (ByteArray.mk l.toArray) :: .string t :: .tuple #[.string (sigS (ByteArray.mk l.toArray) t), iN .i64 0] :: .string (sigS (ByteArray.mk l.toArray) t) :: iN .i64 0 :: iN .i64 0 :: .bool true :: .bool true :: iN .i64 0 :: .bool true :: .bool true :: .bool true :: iN .i64 0 :: .bool true :: .bool true :: .bool true :: .string (sigS (ByteArray.mk l.toArray) t) :: .string (sigS (ByteArray.mk l.toArray) t) :: .bool true :: .bool true :: .bool true :: .string (sigS (ByteArray.mk l.toArray) t) :: iN .i64 ((sigS (ByteArray.mk l.toArray) t).size) :: .bool true :: .bool true :: .bool true :: .string (pkS (hS (ByteArray.mk l.toArray))) :: .string t :: .string (sigS (ByteArray.mk l.toArray) t) :: .bool true :: .bool true :: [])).toArray, []⟩) (by kernel_rfl) ?_
  refine wp_ret ?_
  repeat first | refine then_ret ?_ | refine block_ret ?_
  exact bodyPost_ret (v := .bool true) (by kernel_rfl) rfl ⟨rfl, h13.old⟩
end Go.Proofs.YtefjnfeckenmkaaDoor
