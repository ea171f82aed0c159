/-
  the law of the beginning.
-/
import Derived.Test.YtmlldbkhphngeaaDoorML
import Derived.Test.YtmlldbkhphngeaaDoorM4
namespace Go.Proofs.YtmlldbkhphngeaaDoor
open Go.RowKit


section
variable {ρ : Operand → Value} {x y : Operand} {w : World} {dst : Option Tmp} {ty : TypeId} {pos : String} {aft : Array Edge} {gd : Option (Nat × Bool)}
theorem run_eqb (a b : Bool) (hx : ρ x = .bool a) (hy : ρ y = .bool b) : (execOp ρ ⟨dst, .binOp .eql 4 x y 4, ty, pos, aft, gd⟩).run Tryd.prog w = .ok (.value (.bool (a == b))) w := by
  simp only [execOp, hx, hy]
  cases a <;> cases b <;> go_simp
end
theorem run_boxU {ρ : Operand → Value} {x : Operand} {w : World} {dst : Option Tmp} {ty : TypeId} {pos : String} {aft : Array Edge} {gd : Option (Nat × Bool)} {c : Array Value} (hx : ρ x = .agg c) : (execOp ρ ⟨dst, .box 34 x, ty, pos, aft, gd⟩).run Tryd.prog w = .ok (.value (.pointer (some ⟨w.heap.size, 0, none⟩))) (w.alloc (.cells c 34)) := by
  simp only [execOp, hx]
  go_simp
theorem ex_cut (k f : ByteArray) (m n : Nat) (h : m ≤ n) : (ByteArray.mk (exR k f n).toArray).extract 0 m = ByteArray.mk (exR k f m).toArray := bl_inj (by
  rw [bl_extract, List.drop_zero, Nat.sub_zero, ← exR_take k f m n h]
  rfl)

set_option linter.unusedVariables false in
set_option maxRecDepth 100000 in
set_option maxHeartbeats 2000000 in
theorem MacBegins_any (k f : ByteArray) (x y : Nat) (hx : x ≤ 65535) (hy : y ≤ 65535) (hk : k.size ≤ 140737488351232) (hf : f.size ≤ 140737488351232) (w : World) (VV : Vars w) :
    Calls Tryd.prog 8 #[.string k, .string f, .agg #[iN .u16 x, iN .u16 y]] w fun e w' => e = .returned (.bool true) ∧ Below w.heap.size w w' := by
  have H0 := HA.start w
  go_enter Tryd.func8, Tryd.ntmps8
  refine wp_seq ?_
  -- region 0
  refine wl_region ?_
  refine wl_make H0 34 (by kernel_rfl) (run_boxU (c := #[iN .u16 x, iN .u16 y]) (by kernel_rfl)) ?_
  intro q1 w2 h3
  refine wl_val (.bool false) (by kernel_rfl) (by kernel_rfl) ?_
  refine wl_nil ?_
  refine then_at (F := ⟨(.string k :: .string f :: .agg #[iN .u16 x, iN .u16 y] :: un :: un :: pt q1 :: .bool false :: List.replicate 79 un).toArray, []⟩) (by kernel_rfl) ?_
  refine wp_seq ?_
  refine wp_seq ?_
  -- region 1
  refine wl_region ?_
  refine wl_call (v := .bool true) h3 (by kernel_rfl) enter14 #[] (by kernel_rfl) (worksc w2 (VV.below h3.old VV.big)) ?_
  intro w4 h5
  refine wl_val (.bool false) (by kernel_rfl) (by kernel_rfl) ?_
  refine wl_nil ?_
  refine then_at (F := ⟨(.string k :: .string f :: .agg #[iN .u16 x, iN .u16 y] :: un :: un :: pt q1 :: .bool false :: un :: un :: un :: un :: un :: un :: un :: .bool true :: .bool false :: List.replicate 70 un).toArray, []⟩) (by kernel_rfl) ?_
  refine wp_cond_false (by kernel_rfl) ?_
  refine wp_skip ?_
  refine then_at (F := ⟨(.string k :: .string f :: .agg #[iN .u16 x, iN .u16 y] :: un :: un :: pt q1 :: .bool false :: un :: un :: un :: un :: un :: un :: un :: .bool true :: .bool false :: List.replicate 70 un).toArray, []⟩) (by kernel_rfl) ?_
  refine wp_seq ?_
  -- region 3
  refine wp_region_sure ⟨(.string k :: .string f :: .agg #[iN .u16 x, iN .u16 y] :: un :: un :: pt q1 :: .bool false :: iN .i64 (x % 9000) :: iN .i64 (y % 9000) :: un :: un :: un :: un :: un :: .bool true :: .bool false :: pt q1 :: iN .u16 x :: iN .u16 (x % 9000) :: iN .i64 (x % 9000) :: .pointer (some ⟨q1, 1, none⟩) :: iN .u16 y :: iN .u16 (y % 9000) :: iN .i64 (y % 9000) :: List.replicate 62 un).toArray, []⟩ (HA w [(q1, 34, #[iN .u16 x, iN .u16 y])]) [.pointer (some ⟨q1, 0, none⟩), iN .u16 x, iN .u16 (x % 9000), iN .i64 (x % 9000), .pointer (some ⟨q1, 1, none⟩), iN .u16 y, iN .u16 (y % 9000), iN .i64 (y % 9000), iN .i64 (x % 9000), iN .i64 (y % 9000)] (by kernel_rfl) (by kernel_rfl) (by kernel_rfl) (by kernel_rfl) (fun _ _ _ h => h) h5.drew ?_ ?_
  · refine AllSure.cons (OpSure.take (v := .pointer (some ⟨q1, 0, none⟩)) (by kernel_rfl) (by kernel_rfl) (fun _ _ => (run_addr_arr (q := q1) (a := 0) Tryd.underlying34 (fun w => Tryd.sizeOf33 w) (by kernel_rfl) (by kernel_rfl) (by decide)))) ?_
    refine AllSure.cons (OpSure.take (v := iN .u16 x) (by kernel_rfl) (by kernel_rfl) (fun _ h => run_load1 (fun w => Tryd.isAgg33 w) (by kernel_rfl) (((h.get 0 rfl).cell 0).trans (by kernel_rfl)))) ?_
    refine AllSure.cons (OpSure.take (v := iN .u16 (x % 9000)) (by kernel_rfl) (by kernel_rfl) (fun _ _ => (run_rem (k := .u16) (a := x) (b := 9000) (by kernel_rfl) (by kernel_rfl) (by omega)))) ?_
    refine AllSure.cons (OpSure.take (v := iN .i64 (x % 9000)) (by kernel_rfl) (by kernel_rfl) (fun _ _ => (run_conv .i64 Tryd.underlying33 Tryd.underlying3 (by kernel_rfl) (by simp only [top]; omega)))) ?_
    refine AllSure.cons (OpSure.take (v := .pointer (some ⟨q1, 1, none⟩)) (by kernel_rfl) (by kernel_rfl) (fun _ _ => (run_addr_arr (q := q1) (a := 1) Tryd.underlying34 (fun w => Tryd.sizeOf33 w) (by kernel_rfl) (by kernel_rfl) (by decide)))) ?_
    refine AllSure.cons (OpSure.take (v := iN .u16 y) (by kernel_rfl) (by kernel_rfl) (fun _ h => run_load1 (fun w => Tryd.isAgg33 w) (by kernel_rfl) (((h.get 0 rfl).cell 1).trans (by kernel_rfl)))) ?_
    refine AllSure.cons (OpSure.take (v := iN .u16 (y % 9000)) (by kernel_rfl) (by kernel_rfl) (fun _ _ => (run_rem (k := .u16) (a := y) (b := 9000) (by kernel_rfl) (by kernel_rfl) (by omega)))) ?_
    refine AllSure.cons (OpSure.take (v := iN .i64 (y % 9000)) (by kernel_rfl) (by kernel_rfl) (fun _ _ => (run_conv .i64 Tryd.underlying33 Tryd.underlying3 (by kernel_rfl) (by simp only [top]; omega)))) ?_
    refine AllSure.cons (OpSure.take (v := iN .i64 (x % 9000)) (by kernel_rfl) (by kernel_rfl) (fun _ _ => (by kernel_rfl))) ?_
    refine AllSure.cons (OpSure.take (v := iN .i64 (y % 9000)) (by kernel_rfl) (by kernel_rfl) (fun _ _ => (by kernel_rfl))) ?_
    exact AllSure.nil
  intro w6 h7
  refine then_at (F := ⟨(.string k :: .string f :: .agg #[iN .u16 x, iN .u16 y] :: un :: un :: pt q1 :: .bool false :: iN .i64 (x % 9000) :: iN .i64 (y % 9000) :: un :: un :: un :: un :: un :: .bool true :: .bool false :: pt q1 :: iN .u16 x :: iN .u16 (x % 9000) :: iN .i64 (x % 9000) :: .pointer (some ⟨q1, 1, none⟩) :: iN .u16 y :: iN .u16 (y % 9000) :: iN .i64 (y % 9000) :: List.replicate 62 un).toArray, []⟩) (by kernel_rfl) ?_
  refine wp_seq ?_
  by_cases hA : 8160 < x % 9000
  · by_cases hB : 8160 < y % 9000
    · -- region 4
      refine wl_region ?_
      refine wl_val (.string k) (by kernel_rfl) (by kernel_rfl) ?_
      refine wl_val (.string f) (by kernel_rfl) (by kernel_rfl) ?_
      refine wl_val (iN .i64 (x % 9000)) (by kernel_rfl) (by kernel_rfl) ?_
      refine wl_call (v := .tuple #[.string ({ data := #[] }), iN .i64 3]) h7 (by kernel_rfl) enter15 #[.string k, .string f, iN .i64 (x % 9000)] (by kernel_rfl) (expandc_big k f (x % 9000) hA w6) ?_
      intro w8 h9
      refine wl_val (.tuple #[.string ({ data := #[] }), iN .i64 3]) (by kernel_rfl) (by kernel_rfl) ?_
      refine wl_val (.string ({ data := #[] })) (by kernel_rfl) (by kernel_rfl) ?_
      refine wl_val (iN .i64 3) (by kernel_rfl) (by kernel_rfl) ?_
      refine wl_val (.string ({ data := #[] })) (by kernel_rfl) (by kernel_rfl) ?_
      refine wl_val (iN .i64 3) (by kernel_rfl) (by kernel_rfl) ?_
      refine wl_nil ?_
      refine then_at (F := ⟨(.string k :: .string f :: .agg #[iN .u16 x, iN .u16 y] :: un :: un :: pt q1 :: .bool false :: iN .i64 (x % 9000) :: iN .i64 (y % 9000) :: .string ({ data := #[] }) :: iN .i64 3 :: un :: un :: un :: .bool true :: .bool false :: pt q1 :: iN .u16 x :: iN .u16 (x % 9000) :: iN .i64 (x % 9000) :: .pointer (some ⟨q1, 1, none⟩) :: iN .u16 y :: iN .u16 (y % 9000) :: iN .i64 (y % 9000) :: .tuple #[.string ({ data := #[] }), iN .i64 3] :: .string k :: .string f :: iN .i64 (x % 9000) :: .tuple #[.string ({ data := #[] }), iN .i64 3] :: .string ({ data := #[] }) :: iN .i64 3 :: List.replicate 55 un).toArray, []⟩) (by kernel_rfl) ?_
      refine wp_seq ?_
      -- region 5
      refine wl_region ?_
      refine wl_val (.string k) (by kernel_rfl) (by kernel_rfl) ?_
      refine wl_val (.string f) (by kernel_rfl) (by kernel_rfl) ?_
      refine wl_val (iN .i64 (y % 9000)) (by kernel_rfl) (by kernel_rfl) ?_
      refine wl_call (v := .tuple #[.string ({ data := #[] }), iN .i64 3]) h9 (by kernel_rfl) enter15 #[.string k, .string f, iN .i64 (y % 9000)] (by kernel_rfl) (expandc_big k f (y % 9000) hB w8) ?_
      intro w10 h11
      refine wl_val (.tuple #[.string ({ data := #[] }), iN .i64 3]) (by kernel_rfl) (by kernel_rfl) ?_
      refine wl_val (.string ({ data := #[] })) (by kernel_rfl) (by kernel_rfl) ?_
      refine wl_val (iN .i64 3) (by kernel_rfl) (by kernel_rfl) ?_
      refine wl_val (.string ({ data := #[] })) (by kernel_rfl) (by kernel_rfl) ?_
      refine wl_val (iN .i64 3) (by kernel_rfl) (by kernel_rfl) ?_
      refine wl_nil ?_
      refine then_at (F := ⟨(.string k :: .string f :: .agg #[iN .u16 x, iN .u16 y] :: un :: un :: pt q1 :: .bool false :: iN .i64 (x % 9000) :: iN .i64 (y % 9000) :: .string ({ data := #[] }) :: iN .i64 3 :: .string ({ data := #[] }) :: iN .i64 3 :: un :: .bool true :: .bool false :: pt q1 :: iN .u16 x :: iN .u16 (x % 9000) :: iN .i64 (x % 9000) :: .pointer (some ⟨q1, 1, none⟩) :: iN .u16 y :: iN .u16 (y % 9000) :: iN .i64 (y % 9000) :: .tuple #[.string ({ data := #[] }), iN .i64 3] :: .string k :: .string f :: iN .i64 (x % 9000) :: .tuple #[.string ({ data := #[] }), iN .i64 3] :: .string ({ data := #[] }) :: iN .i64 3 :: .tuple #[.string ({ data := #[] }), iN .i64 3] :: .string k :: .string f :: iN .i64 (y % 9000) :: .tuple #[.string ({ data := #[] }), iN .i64 3] :: .string ({ data := #[] }) :: iN .i64 3 :: List.replicate 48 un).toArray, []⟩) (by kernel_rfl) ?_
      refine wp_seq ?_
      refine wp_seq ?_
      -- region 6
      refine wl_region ?_
      refine wl_val (iN .i64 (x % 9000)) (by kernel_rfl) (by kernel_rfl) ?_
      refine wl_val (.bool true) (by kernel_rfl) (run_gtr (k := .i64) (a := x % 9000) (b := 8160) (by kernel_rfl) (by kernel_rfl) true (decide_eq_true hA)) ?_
      refine wl_val (.bool true) (by kernel_rfl) (by kernel_rfl) ?_
      refine wl_skip (by kernel_rfl) ?_
      refine wl_skip (by kernel_rfl) ?_
      refine wl_val (.bool true) (by kernel_rfl) (by kernel_rfl) ?_
      refine wl_nil ?_
      refine then_at (F := ⟨(.string k :: .string f :: .agg #[iN .u16 x, iN .u16 y] :: un :: un :: pt q1 :: .bool false :: iN .i64 (x % 9000) :: iN .i64 (y % 9000) :: .string ({ data := #[] }) :: iN .i64 3 :: .string ({ data := #[] }) :: iN .i64 3 :: un :: .bool true :: .bool false :: pt q1 :: iN .u16 x :: iN .u16 (x % 9000) :: iN .i64 (x % 9000) :: .pointer (some ⟨q1, 1, none⟩) :: iN .u16 y :: iN .u16 (y % 9000) :: iN .i64 (y % 9000) :: .tuple #[.string ({ data := #[] }), iN .i64 3] :: .string k :: .string f :: iN .i64 (x % 9000) :: .tuple #[.string ({ data := #[] }), iN .i64 3] :: .string ({ data := #[] }) :: iN .i64 3 :: .tuple #[.string ({ data := #[] }), iN .i64 3] :: .string k :: .string f :: iN .i64 (y % 9000) :: .tuple #[.string ({ data := #[] }), iN .i64 3] :: .string ({ data := #[] }) :: iN .i64 3 :: iN .i64 (x % 9000) :: .bool true :: .bool true :: un :: un :: .bool true :: List.replicate 42 un).toArray, []⟩) (by kernel_rfl) ?_
      refine wp_cond_true (by kernel_rfl) ?_
      refine wp_seq ?_
      -- region 7
      refine wl_region ?_
      refine wl_val (iN .i64 3) (by kernel_rfl) (by kernel_rfl) ?_
      refine wl_val (.bool true) (by kernel_rfl) (run_eqi (k := .i64) (a := 3) (b := 3) (by kernel_rfl) (by kernel_rfl) true (by decide)) ?_
      refine wl_val (iN .i64 (x % 9000)) (by kernel_rfl) (by kernel_rfl) ?_
      refine wl_val (.bool true) (by kernel_rfl) (run_gtr (k := .i64) (a := x % 9000) (b := 8160) (by kernel_rfl) (by kernel_rfl) true (decide_eq_true hA)) ?_
      refine wl_val (.bool true) (by kernel_rfl) (run_eqb true true (by kernel_rfl) (by kernel_rfl)) ?_
      refine wl_val (.bool true) (by kernel_rfl) (by kernel_rfl) ?_
      refine wl_val (iN .i64 3) (by kernel_rfl) (by kernel_rfl) ?_
      refine wl_val (.bool true) (by kernel_rfl) (run_eqi (k := .i64) (a := 3) (b := 3) (by kernel_rfl) (by kernel_rfl) true (by decide)) ?_
      refine wl_val (iN .i64 (y % 9000)) (by kernel_rfl) (by kernel_rfl) ?_
      refine wl_val (.bool true) (by kernel_rfl) (run_gtr (k := .i64) (a := y % 9000) (b := 8160) (by kernel_rfl) (by kernel_rfl) true (decide_eq_true hB)) ?_
      refine wl_val (.bool true) (by kernel_rfl) (run_eqb true true (by kernel_rfl) (by kernel_rfl)) ?_
      refine wl_val (.bool true) (by kernel_rfl) (by kernel_rfl) ?_
      refine wl_val (.bool true) (by kernel_rfl) (by kernel_rfl) ?_
      refine wl_nil ?_
      refine then_at (F := ⟨(.string k :: .string f :: .agg #[iN .u16 x, iN .u16 y] :: un :: un :: pt q1 :: .bool true :: iN .i64 (x % 9000) :: iN .i64 (y % 9000) :: .string ({ data := #[] }) :: iN .i64 3 :: .string ({ data := #[] }) :: iN .i64 3 :: un :: .bool true :: .bool false :: pt q1 :: iN .u16 x :: iN .u16 (x % 9000) :: iN .i64 (x % 9000) :: .pointer (some ⟨q1, 1, none⟩) :: iN .u16 y :: iN .u16 (y % 9000) :: iN .i64 (y % 9000) :: .tuple #[.string ({ data := #[] }), iN .i64 3] :: .string k :: .string f :: iN .i64 (x % 9000) :: .tuple #[.string ({ data := #[] }), iN .i64 3] :: .string ({ data := #[] }) :: iN .i64 3 :: .tuple #[.string ({ data := #[] }), iN .i64 3] :: .string k :: .string f :: iN .i64 (y % 9000) :: .tuple #[.string ({ data := #[] }), iN .i64 3] :: .string ({ data := #[] }) :: iN .i64 3 :: iN .i64 (x % 9000) :: .bool true :: .bool true :: un :: un :: .bool true :: iN .i64 3 :: .bool true :: iN .i64 (x % 9000) :: .bool true :: .bool true :: .bool true :: iN .i64 3 :: .bool true :: iN .i64 (y % 9000) :: .bool true :: .bool true :: .bool true :: List.replicate 30 un).toArray, []⟩) (by kernel_rfl) ?_
      refine wp_ret ?_
      repeat first | refine then_ret ?_ | refine block_ret ?_
      exact bodyPost_ret (v := .bool true) (by kernel_rfl) rfl ⟨rfl, h11.old⟩
    · -- region 4
      refine wl_region ?_
      refine wl_val (.string k) (by kernel_rfl) (by kernel_rfl) ?_
      refine wl_val (.string f) (by kernel_rfl) (by kernel_rfl) ?_
      refine wl_val (iN .i64 (x % 9000)) (by kernel_rfl) (by kernel_rfl) ?_
      refine wl_call (v := .tuple #[.string ({ data := #[] }), iN .i64 3]) h7 (by kernel_rfl) enter15 #[.string k, .string f, iN .i64 (x % 9000)] (by kernel_rfl) (expandc_big k f (x % 9000) hA w6) ?_
      intro w12 h13
      refine wl_val (.tuple #[.string ({ data := #[] }), iN .i64 3]) (by kernel_rfl) (by kernel_rfl) ?_
      refine wl_val (.string ({ data := #[] })) (by kernel_rfl) (by kernel_rfl) ?_
      refine wl_val (iN .i64 3) (by kernel_rfl) (by kernel_rfl) ?_
      refine wl_val (.string ({ data := #[] })) (by kernel_rfl) (by kernel_rfl) ?_
      refine wl_val (iN .i64 3) (by kernel_rfl) (by kernel_rfl) ?_
      refine wl_nil ?_
      refine then_at (F := ⟨(.string k :: .string f :: .agg #[iN .u16 x, iN .u16 y] :: un :: un :: pt q1 :: .bool false :: iN .i64 (x % 9000) :: iN .i64 (y % 9000) :: .string ({ data := #[] }) :: iN .i64 3 :: un :: un :: un :: .bool true :: .bool false :: pt q1 :: iN .u16 x :: iN .u16 (x % 9000) :: iN .i64 (x % 9000) :: .pointer (some ⟨q1, 1, none⟩) :: iN .u16 y :: iN .u16 (y % 9000) :: iN .i64 (y % 9000) :: .tuple #[.string ({ data := #[] }), iN .i64 3] :: .string k :: .string f :: iN .i64 (x % 9000) :: .tuple #[.string ({ data := #[] }), iN .i64 3] :: .string ({ data := #[] }) :: iN .i64 3 :: List.replicate 55 un).toArray, []⟩) (by kernel_rfl) ?_
      refine wp_seq ?_
      -- region 5
      refine wl_region ?_
      refine wl_val (.string k) (by kernel_rfl) (by kernel_rfl) ?_
      refine wl_val (.string f) (by kernel_rfl) (by kernel_rfl) ?_
      refine wl_val (iN .i64 (y % 9000)) (by kernel_rfl) (by kernel_rfl) ?_
      refine wl_call (v := .tuple #[.string (ByteArray.mk (exR k f (y % 9000)).toArray), iN .i64 0]) h13 (by kernel_rfl) enter15 #[.string k, .string f, iN .i64 (y % 9000)] (by kernel_rfl) (expandc k (by omega) f (by omega) (y % 9000) (Nat.le_of_not_lt hB) w12 (VV.below h13.old VV.big)) ?_
      intro w14 h15
      refine wl_val (.tuple #[.string (ByteArray.mk (exR k f (y % 9000)).toArray), iN .i64 0]) (by kernel_rfl) (by kernel_rfl) ?_
      refine wl_val (.string (ByteArray.mk (exR k f (y % 9000)).toArray)) (by kernel_rfl) (by kernel_rfl) ?_
      refine wl_val (iN .i64 0) (by kernel_rfl) (by kernel_rfl) ?_
      refine wl_val (.string (ByteArray.mk (exR k f (y % 9000)).toArray)) (by kernel_rfl) (by kernel_rfl) ?_
      refine wl_val (iN .i64 0) (by kernel_rfl) (by kernel_rfl) ?_
      refine wl_nil ?_
      refine then_at (F := ⟨(.string k :: .string f :: .agg #[iN .u16 x, iN .u16 y] :: un :: un :: pt q1 :: .bool false :: iN .i64 (x % 9000) :: iN .i64 (y % 9000) :: .string ({ data := #[] }) :: iN .i64 3 :: .string (ByteArray.mk (exR k f (y % 9000)).toArray) :: iN .i64 0 :: un :: .bool true :: .bool false :: pt q1 :: iN .u16 x :: iN .u16 (x % 9000) :: iN .i64 (x % 9000) :: .pointer (some ⟨q1, 1, none⟩) :: iN .u16 y :: iN .u16 (y % 9000) :: iN .i64 (y % 9000) :: .tuple #[.string ({ data := #[] }), iN .i64 3] :: .string k :: .string f :: iN .i64 (x % 9000) :: .tuple #[.string ({ data := #[] }), iN .i64 3] :: .string ({ data := #[] }) :: iN .i64 3 :: .tuple #[.string (ByteArray.mk (exR k f (y % 9000)).toArray), iN .i64 0] :: .string k :: .string f :: iN .i64 (y % 9000) :: .tuple #[.string (ByteArray.mk (exR k f (y % 9000)).toArray), iN .i64 0] :: .string (ByteArray.mk (exR k f (y % 9000)).toArray) :: iN .i64 0 :: List.replicate 48 un).toArray, []⟩) (by kernel_rfl) ?_
      refine wp_seq ?_
      refine wp_seq ?_
      -- region 6
      refine wl_region ?_
      refine wl_val (iN .i64 (x % 9000)) (by kernel_rfl) (by kernel_rfl) ?_
      refine wl_val (.bool true) (by kernel_rfl) (run_gtr (k := .i64) (a := x % 9000) (b := 8160) (by kernel_rfl) (by kernel_rfl) true (decide_eq_true hA)) ?_
      refine wl_val (.bool true) (by kernel_rfl) (by kernel_rfl) ?_
      refine wl_skip (by kernel_rfl) ?_
      refine wl_skip (by kernel_rfl) ?_
      refine wl_val (.bool true) (by kernel_rfl) (by kernel_rfl) ?_
      refine wl_nil ?_
      refine then_at (F := ⟨(.string k :: .string f :: .agg #[iN .u16 x, iN .u16 y] :: un :: un :: pt q1 :: .bool false :: iN .i64 (x % 9000) :: iN .i64 (y % 9000) :: .string ({ data := #[] }) :: iN .i64 3 :: .string (ByteArray.mk (exR k f (y % 9000)).toArray) :: iN .i64 0 :: un :: .bool true :: .bool false :: pt q1 :: iN .u16 x :: iN .u16 (x % 9000) :: iN .i64 (x % 9000) :: .pointer (some ⟨q1, 1, none⟩) :: iN .u16 y :: iN .u16 (y % 9000) :: iN .i64 (y % 9000) :: .tuple #[.string ({ data := #[] }), iN .i64 3] :: .string k :: .string f :: iN .i64 (x % 9000) :: .tuple #[.string ({ data := #[] }), iN .i64 3] :: .string ({ data := #[] }) :: iN .i64 3 :: .tuple #[.string (ByteArray.mk (exR k f (y % 9000)).toArray), iN .i64 0] :: .string k :: .string f :: iN .i64 (y % 9000) :: .tuple #[.string (ByteArray.mk (exR k f (y % 9000)).toArray), iN .i64 0] :: .string (ByteArray.mk (exR k f (y % 9000)).toArray) :: iN .i64 0 :: iN .i64 (x % 9000) :: .bool true :: .bool true :: un :: un :: .bool true :: List.replicate 42 un).toArray, []⟩) (by kernel_rfl) ?_
      refine wp_cond_true (by kernel_rfl) ?_
      refine wp_seq ?_
      -- region 7
      refine wl_region ?_
      refine wl_val (iN .i64 3) (by kernel_rfl) (by kernel_rfl) ?_
      refine wl_val (.bool true) (by kernel_rfl) (run_eqi (k := .i64) (a := 3) (b := 3) (by kernel_rfl) (by kernel_rfl) true (by decide)) ?_
      refine wl_val (iN .i64 (x % 9000)) (by kernel_rfl) (by kernel_rfl) ?_
      refine wl_val (.bool true) (by kernel_rfl) (run_gtr (k := .i64) (a := x % 9000) (b := 8160) (by kernel_rfl) (by kernel_rfl) true (decide_eq_true hA)) ?_
      refine wl_val (.bool true) (by kernel_rfl) (run_eqb true true (by kernel_rfl) (by kernel_rfl)) ?_
      refine wl_val (.bool true) (by kernel_rfl) (by kernel_rfl) ?_
      refine wl_val (iN .i64 0) (by kernel_rfl) (by kernel_rfl) ?_
      refine wl_val (.bool false) (by kernel_rfl) (run_eqi (k := .i64) (a := 0) (b := 3) (by kernel_rfl) (by kernel_rfl) false (by decide)) ?_
      refine wl_val (iN .i64 (y % 9000)) (by kernel_rfl) (by kernel_rfl) ?_
      refine wl_val (.bool false) (by kernel_rfl) (run_gtr (k := .i64) (a := y % 9000) (b := 8160) (by kernel_rfl) (by kernel_rfl) false (decide_eq_false hB)) ?_
      refine wl_val (.bool true) (by kernel_rfl) (run_eqb false false (by kernel_rfl) (by kernel_rfl)) ?_
      refine wl_val (.bool true) (by kernel_rfl) (by kernel_rfl) ?_
      refine wl_val (.bool true) (by kernel_rfl) (by kernel_rfl) ?_
      refine wl_nil ?_
      refine then_at (F := ⟨(.string k :: .string f :: .agg #[iN .u16 x, iN .u16 y] :: un :: un :: pt q1 :: .bool true :: iN .i64 (x % 9000) :: iN .i64 (y % 9000) :: .string ({ data := #[] }) :: iN .i64 3 :: .string (ByteArray.mk (exR k f (y % 9000)).toArray) :: iN .i64 0 :: un :: .bool true :: .bool false :: pt q1 :: iN .u16 x :: iN .u16 (x % 9000) :: iN .i64 (x % 9000) :: .pointer (some ⟨q1, 1, none⟩) :: iN .u16 y :: iN .u16 (y % 9000) :: iN .i64 (y % 9000) :: .tuple #[.string ({ data := #[] }), iN .i64 3] :: .string k :: .string f :: iN .i64 (x % 9000) :: .tuple #[.string ({ data := #[] }), iN .i64 3] :: .string ({ data := #[] }) :: iN .i64 3 :: .tuple #[.string (ByteArray.mk (exR k f (y % 9000)).toArray), iN .i64 0] :: .string k :: .string f :: iN .i64 (y % 9000) :: .tuple #[.string (ByteArray.mk (exR k f (y % 9000)).toArray), iN .i64 0] :: .string (ByteArray.mk (exR k f (y % 9000)).toArray) :: iN .i64 0 :: iN .i64 (x % 9000) :: .bool true :: .bool true :: un :: un :: .bool true :: iN .i64 3 :: .bool true :: iN .i64 (x % 9000) :: .bool true :: .bool true :: .bool true :: iN .i64 0 :: .bool false :: iN .i64 (y % 9000) :: .bool false :: .bool true :: .bool true :: List.replicate 30 un).toArray, []⟩) (by kernel_rfl) ?_
      refine wp_ret ?_
      repeat first | refine then_ret ?_ | refine block_ret ?_
      exact bodyPost_ret (v := .bool true) (by kernel_rfl) rfl ⟨rfl, h15.old⟩
  · by_cases hB : 8160 < y % 9000
    · -- region 4
      refine wl_region ?_
      refine wl_val (.string k) (by kernel_rfl) (by kernel_rfl) ?_
      refine wl_val (.string f) (by kernel_rfl) (by kernel_rfl) ?_
      refine wl_val (iN .i64 (x % 9000)) (by kernel_rfl) (by kernel_rfl) ?_
      refine wl_call (v := .tuple #[.string (ByteArray.mk (exR k f (x % 9000)).toArray), iN .i64 0]) h7 (by kernel_rfl) enter15 #[.string k, .string f, iN .i64 (x % 9000)] (by kernel_rfl) (expandc k (by omega) f (by omega) (x % 9000) (Nat.le_of_not_lt hA) w6 (VV.below h7.old VV.big)) ?_
      intro w16 h17
      refine wl_val (.tuple #[.string (ByteArray.mk (exR k f (x % 9000)).toArray), iN .i64 0]) (by kernel_rfl) (by kernel_rfl) ?_
      refine wl_val (.string (ByteArray.mk (exR k f (x % 9000)).toArray)) (by kernel_rfl) (by kernel_rfl) ?_
      refine wl_val (iN .i64 0) (by kernel_rfl) (by kernel_rfl) ?_
      refine wl_val (.string (ByteArray.mk (exR k f (x % 9000)).toArray)) (by kernel_rfl) (by kernel_rfl) ?_
      refine wl_val (iN .i64 0) (by kernel_rfl) (by kernel_rfl) ?_
      refine wl_nil ?_
      refine then_at (F := ⟨(.string k :: .string f :: .agg #[iN .u16 x, iN .u16 y] :: un :: un :: pt q1 :: .bool false :: iN .i64 (x % 9000) :: iN .i64 (y % 9000) :: .string (ByteArray.mk (exR k f (x % 9000)).toArray) :: iN .i64 0 :: un :: un :: un :: .bool true :: .bool false :: pt q1 :: iN .u16 x :: iN .u16 (x % 9000) :: iN .i64 (x % 9000) :: .pointer (some ⟨q1, 1, none⟩) :: iN .u16 y :: iN .u16 (y % 9000) :: iN .i64 (y % 9000) :: .tuple #[.string (ByteArray.mk (exR k f (x % 9000)).toArray), iN .i64 0] :: .string k :: .string f :: iN .i64 (x % 9000) :: .tuple #[.string (ByteArray.mk (exR k f (x % 9000)).toArray), iN .i64 0] :: .string (ByteArray.mk (exR k f (x % 9000)).toArray) :: iN .i64 0 :: List.replicate 55 un).toArray, []⟩) (by kernel_rfl) ?_
      refine wp_seq ?_
      -- region 5
      refine wl_region ?_
      refine wl_val (.string k) (by kernel_rfl) (by kernel_rfl) ?_
      refine wl_val (.string f) (by kernel_rfl) (by kernel_rfl) ?_
      refine wl_val (iN .i64 (y % 9000)) (by kernel_rfl) (by kernel_rfl) ?_
      refine wl_call (v := .tuple #[.string ({ data := #[] }), iN .i64 3]) h17 (by kernel_rfl) enter15 #[.string k, .string f, iN .i64 (y % 9000)] (by kernel_rfl) (expandc_big k f (y % 9000) hB w16) ?_
      intro w18 h19
      refine wl_val (.tuple #[.string ({ data := #[] }), iN .i64 3]) (by kernel_rfl) (by kernel_rfl) ?_
      refine wl_val (.string ({ data := #[] })) (by kernel_rfl) (by kernel_rfl) ?_
      refine wl_val (iN .i64 3) (by kernel_rfl) (by kernel_rfl) ?_
      refine wl_val (.string ({ data := #[] })) (by kernel_rfl) (by kernel_rfl) ?_
      refine wl_val (iN .i64 3) (by kernel_rfl) (by kernel_rfl) ?_
      refine wl_nil ?_
      refine then_at (F := ⟨(.string k :: .string f :: .agg #[iN .u16 x, iN .u16 y] :: un :: un :: pt q1 :: .bool false :: iN .i64 (x % 9000) :: iN .i64 (y % 9000) :: .string (ByteArray.mk (exR k f (x % 9000)).toArray) :: iN .i64 0 :: .string ({ data := #[] }) :: iN .i64 3 :: un :: .bool true :: .bool false :: pt q1 :: iN .u16 x :: iN .u16 (x % 9000) :: iN .i64 (x % 9000) :: .pointer (some ⟨q1, 1, none⟩) :: iN .u16 y :: iN .u16 (y % 9000) :: iN .i64 (y % 9000) :: .tuple #[.string (ByteArray.mk (exR k f (x % 9000)).toArray), iN .i64 0] :: .string k :: .string f :: iN .i64 (x % 9000) :: .tuple #[.string (ByteArray.mk (exR k f (x % 9000)).toArray), iN .i64 0] :: .string (ByteArray.mk (exR k f (x % 9000)).toArray) :: iN .i64 0 :: .tuple #[.string ({ data := #[] }), iN .i64 3] :: .string k :: .string f :: iN .i64 (y % 9000) :: .tuple #[.string ({ data := #[] }), iN .i64 3] :: .string ({ data := #[] }) :: iN .i64 3 :: List.replicate 48 un).toArray, []⟩) (by kernel_rfl) ?_
      refine wp_seq ?_
      refine wp_seq ?_
      -- region 6
      refine wl_region ?_
      refine wl_val (iN .i64 (x % 9000)) (by kernel_rfl) (by kernel_rfl) ?_
      refine wl_val (.bool false) (by kernel_rfl) (run_gtr (k := .i64) (a := x % 9000) (b := 8160) (by kernel_rfl) (by kernel_rfl) false (decide_eq_false hA)) ?_
      refine wl_val (.bool false) (by kernel_rfl) (by kernel_rfl) ?_
      refine wl_val (iN .i64 (y % 9000)) (by kernel_rfl) (by kernel_rfl) ?_
      refine wl_val (.bool true) (by kernel_rfl) (run_gtr (k := .i64) (a := y % 9000) (b := 8160) (by kernel_rfl) (by kernel_rfl) true (decide_eq_true hB)) ?_
      refine wl_val (.bool true) (by kernel_rfl) (by kernel_rfl) ?_
      refine wl_nil ?_
      refine then_at (F := ⟨(.string k :: .string f :: .agg #[iN .u16 x, iN .u16 y] :: un :: un :: pt q1 :: .bool false :: iN .i64 (x % 9000) :: iN .i64 (y % 9000) :: .string (ByteArray.mk (exR k f (x % 9000)).toArray) :: iN .i64 0 :: .string ({ data := #[] }) :: iN .i64 3 :: un :: .bool true :: .bool false :: pt q1 :: iN .u16 x :: iN .u16 (x % 9000) :: iN .i64 (x % 9000) :: .pointer (some ⟨q1, 1, none⟩) :: iN .u16 y :: iN .u16 (y % 9000) :: iN .i64 (y % 9000) :: .tuple #[.string (ByteArray.mk (exR k f (x % 9000)).toArray), iN .i64 0] :: .string k :: .string f :: iN .i64 (x % 9000) :: .tuple #[.string (ByteArray.mk (exR k f (x % 9000)).toArray), iN .i64 0] :: .string (ByteArray.mk (exR k f (x % 9000)).toArray) :: iN .i64 0 :: .tuple #[.string ({ data := #[] }), iN .i64 3] :: .string k :: .string f :: iN .i64 (y % 9000) :: .tuple #[.string ({ data := #[] }), iN .i64 3] :: .string ({ data := #[] }) :: iN .i64 3 :: iN .i64 (x % 9000) :: .bool false :: .bool false :: iN .i64 (y % 9000) :: .bool true :: .bool true :: List.replicate 42 un).toArray, []⟩) (by kernel_rfl) ?_
      refine wp_cond_true (by kernel_rfl) ?_
      refine wp_seq ?_
      -- region 7
      refine wl_region ?_
      refine wl_val (iN .i64 0) (by kernel_rfl) (by kernel_rfl) ?_
      refine wl_val (.bool false) (by kernel_rfl) (run_eqi (k := .i64) (a := 0) (b := 3) (by kernel_rfl) (by kernel_rfl) false (by decide)) ?_
      refine wl_val (iN .i64 (x % 9000)) (by kernel_rfl) (by kernel_rfl) ?_
      refine wl_val (.bool false) (by kernel_rfl) (run_gtr (k := .i64) (a := x % 9000) (b := 8160) (by kernel_rfl) (by kernel_rfl) false (decide_eq_false hA)) ?_
      refine wl_val (.bool true) (by kernel_rfl) (run_eqb false false (by kernel_rfl) (by kernel_rfl)) ?_
      refine wl_val (.bool true) (by kernel_rfl) (by kernel_rfl) ?_
      refine wl_val (iN .i64 3) (by kernel_rfl) (by kernel_rfl) ?_
      refine wl_val (.bool true) (by kernel_rfl) (run_eqi (k := .i64) (a := 3) (b := 3) (by kernel_rfl) (by kernel_rfl) true (by decide)) ?_
      refine wl_val (iN .i64 (y % 9000)) (by kernel_rfl) (by kernel_rfl) ?_
      refine wl_val (.bool true) (by kernel_rfl) (run_gtr (k := .i64) (a := y % 9000) (b := 8160) (by kernel_rfl) (by kernel_rfl) true (decide_eq_true hB)) ?_
      refine wl_val (.bool true) (by kernel_rfl) (run_eqb true true (by kernel_rfl) (by kernel_rfl)) ?_
      refine wl_val (.bool true) (by kernel_rfl) (by kernel_rfl) ?_
      refine wl_val (.bool true) (by kernel_rfl) (by kernel_rfl) ?_
      refine wl_nil ?_
      refine then_at (F := ⟨(.string k :: .string f :: .agg #[iN .u16 x, iN .u16 y] :: un :: un :: pt q1 :: .bool true :: iN .i64 (x % 9000) :: iN .i64 (y % 9000) :: .string (ByteArray.mk (exR k f (x % 9000)).toArray) :: iN .i64 0 :: .string ({ data := #[] }) :: iN .i64 3 :: un :: .bool true :: .bool false :: pt q1 :: iN .u16 x :: iN .u16 (x % 9000) :: iN .i64 (x % 9000) :: .pointer (some ⟨q1, 1, none⟩) :: iN .u16 y :: iN .u16 (y % 9000) :: iN .i64 (y % 9000) :: .tuple #[.string (ByteArray.mk (exR k f (x % 9000)).toArray), iN .i64 0] :: .string k :: .string f :: iN .i64 (x % 9000) :: .tuple #[.string (ByteArray.mk (exR k f (x % 9000)).toArray), iN .i64 0] :: .string (ByteArray.mk (exR k f (x % 9000)).toArray) :: iN .i64 0 :: .tuple #[.string ({ data := #[] }), iN .i64 3] :: .string k :: .string f :: iN .i64 (y % 9000) :: .tuple #[.string ({ data := #[] }), iN .i64 3] :: .string ({ data := #[] }) :: iN .i64 3 :: iN .i64 (x % 9000) :: .bool false :: .bool false :: iN .i64 (y % 9000) :: .bool true :: .bool true :: iN .i64 0 :: .bool false :: iN .i64 (x % 9000) :: .bool false :: .bool true :: .bool true :: iN .i64 3 :: .bool true :: iN .i64 (y % 9000) :: .bool true :: .bool true :: .bool true :: List.replicate 30 un).toArray, []⟩) (by kernel_rfl) ?_
      refine wp_ret ?_
      repeat first | refine then_ret ?_ | refine block_ret ?_
      exact bodyPost_ret (v := .bool true) (by kernel_rfl) rfl ⟨rfl, h19.old⟩
    · -- region 4
      refine wl_region ?_
      refine wl_val (.string k) (by kernel_rfl) (by kernel_rfl) ?_
      refine wl_val (.string f) (by kernel_rfl) (by kernel_rfl) ?_
      refine wl_val (iN .i64 (x % 9000)) (by kernel_rfl) (by kernel_rfl) ?_
      refine wl_call (v := .tuple #[.string (ByteArray.mk (exR k f (x % 9000)).toArray), iN .i64 0]) h7 (by kernel_rfl) enter15 #[.string k, .string f, iN .i64 (x % 9000)] (by kernel_rfl) (expandc k (by omega) f (by omega) (x % 9000) (Nat.le_of_not_lt hA) w6 (VV.below h7.old VV.big)) ?_
      intro w20 h21
      refine wl_val (.tuple #[.string (ByteArray.mk (exR k f (x % 9000)).toArray), iN .i64 0]) (by kernel_rfl) (by kernel_rfl) ?_
      refine wl_val (.string (ByteArray.mk (exR k f (x % 9000)).toArray)) (by kernel_rfl) (by kernel_rfl) ?_
      refine wl_val (iN .i64 0) (by kernel_rfl) (by kernel_rfl) ?_
      refine wl_val (.string (ByteArray.mk (exR k f (x % 9000)).toArray)) (by kernel_rfl) (by kernel_rfl) ?_
      refine wl_val (iN .i64 0) (by kernel_rfl) (by kernel_rfl) ?_
      refine wl_nil ?_
      refine then_at (F := ⟨(.string k :: .string f :: .agg #[iN .u16 x, iN .u16 y] :: un :: un :: pt q1 :: .bool false :: iN .i64 (x % 9000) :: iN .i64 (y % 9000) :: .string (ByteArray.mk (exR k f (x % 9000)).toArray) :: iN .i64 0 :: un :: un :: un :: .bool true :: .bool false :: pt q1 :: iN .u16 x :: iN .u16 (x % 9000) :: iN .i64 (x % 9000) :: .pointer (some ⟨q1, 1, none⟩) :: iN .u16 y :: iN .u16 (y % 9000) :: iN .i64 (y % 9000) :: .tuple #[.string (ByteArray.mk (exR k f (x % 9000)).toArray), iN .i64 0] :: .string k :: .string f :: iN .i64 (x % 9000) :: .tuple #[.string (ByteArray.mk (exR k f (x % 9000)).toArray), iN .i64 0] :: .string (ByteArray.mk (exR k f (x % 9000)).toArray) :: iN .i64 0 :: List.replicate 55 un).toArray, []⟩) (by kernel_rfl) ?_
      refine wp_seq ?_
      -- region 5
      refine wl_region ?_
      refine wl_val (.string k) (by kernel_rfl) (by kernel_rfl) ?_
      refine wl_val (.string f) (by kernel_rfl) (by kernel_rfl) ?_
      refine wl_val (iN .i64 (y % 9000)) (by kernel_rfl) (by kernel_rfl) ?_
      refine wl_call (v := .tuple #[.string (ByteArray.mk (exR k f (y % 9000)).toArray), iN .i64 0]) h21 (by kernel_rfl) enter15 #[.string k, .string f, iN .i64 (y % 9000)] (by kernel_rfl) (expandc k (by omega) f (by omega) (y % 9000) (Nat.le_of_not_lt hB) w20 (VV.below h21.old VV.big)) ?_
      intro w22 h23
      refine wl_val (.tuple #[.string (ByteArray.mk (exR k f (y % 9000)).toArray), iN .i64 0]) (by kernel_rfl) (by kernel_rfl) ?_
      refine wl_val (.string (ByteArray.mk (exR k f (y % 9000)).toArray)) (by kernel_rfl) (by kernel_rfl) ?_
      refine wl_val (iN .i64 0) (by kernel_rfl) (by kernel_rfl) ?_
      refine wl_val (.string (ByteArray.mk (exR k f (y % 9000)).toArray)) (by kernel_rfl) (by kernel_rfl) ?_
      refine wl_val (iN .i64 0) (by kernel_rfl) (by kernel_rfl) ?_
      refine wl_nil ?_
      refine then_at (F := ⟨(.string k :: .string f :: .agg #[iN .u16 x, iN .u16 y] :: un :: un :: pt q1 :: .bool false :: iN .i64 (x % 9000) :: iN .i64 (y % 9000) :: .string (ByteArray.mk (exR k f (x % 9000)).toArray) :: iN .i64 0 :: .string (ByteArray.mk (exR k f (y % 9000)).toArray) :: iN .i64 0 :: un :: .bool true :: .bool false :: pt q1 :: iN .u16 x :: iN .u16 (x % 9000) :: iN .i64 (x % 9000) :: .pointer (some ⟨q1, 1, none⟩) :: iN .u16 y :: iN .u16 (y % 9000) :: iN .i64 (y % 9000) :: .tuple #[.string (ByteArray.mk (exR k f (x % 9000)).toArray), iN .i64 0] :: .string k :: .string f :: iN .i64 (x % 9000) :: .tuple #[.string (ByteArray.mk (exR k f (x % 9000)).toArray), iN .i64 0] :: .string (ByteArray.mk (exR k f (x % 9000)).toArray) :: iN .i64 0 :: .tuple #[.string (ByteArray.mk (exR k f (y % 9000)).toArray), iN .i64 0] :: .string k :: .string f :: iN .i64 (y % 9000) :: .tuple #[.string (ByteArray.mk (exR k f (y % 9000)).toArray), iN .i64 0] :: .string (ByteArray.mk (exR k f (y % 9000)).toArray) :: iN .i64 0 :: List.replicate 48 un).toArray, []⟩) (by kernel_rfl) ?_
      refine wp_seq ?_
      refine wp_seq ?_
      -- region 6
      refine wl_region ?_
      refine wl_val (iN .i64 (x % 9000)) (by kernel_rfl) (by kernel_rfl) ?_
      refine wl_val (.bool false) (by kernel_rfl) (run_gtr (k := .i64) (a := x % 9000) (b := 8160) (by kernel_rfl) (by kernel_rfl) false (decide_eq_false hA)) ?_
      refine wl_val (.bool false) (by kernel_rfl) (by kernel_rfl) ?_
      refine wl_val (iN .i64 (y % 9000)) (by kernel_rfl) (by kernel_rfl) ?_
      refine wl_val (.bool false) (by kernel_rfl) (run_gtr (k := .i64) (a := y % 9000) (b := 8160) (by kernel_rfl) (by kernel_rfl) false (decide_eq_false hB)) ?_
      refine wl_val (.bool false) (by kernel_rfl) (by kernel_rfl) ?_
      refine wl_nil ?_
      refine then_at (F := ⟨(.string k :: .string f :: .agg #[iN .u16 x, iN .u16 y] :: un :: un :: pt q1 :: .bool false :: iN .i64 (x % 9000) :: iN .i64 (y % 9000) :: .string (ByteArray.mk (exR k f (x % 9000)).toArray) :: iN .i64 0 :: .string (ByteArray.mk (exR k f (y % 9000)).toArray) :: iN .i64 0 :: un :: .bool true :: .bool false :: pt q1 :: iN .u16 x :: iN .u16 (x % 9000) :: iN .i64 (x % 9000) :: .pointer (some ⟨q1, 1, none⟩) :: iN .u16 y :: iN .u16 (y % 9000) :: iN .i64 (y % 9000) :: .tuple #[.string (ByteArray.mk (exR k f (x % 9000)).toArray), iN .i64 0] :: .string k :: .string f :: iN .i64 (x % 9000) :: .tuple #[.string (ByteArray.mk (exR k f (x % 9000)).toArray), iN .i64 0] :: .string (ByteArray.mk (exR k f (x % 9000)).toArray) :: iN .i64 0 :: .tuple #[.string (ByteArray.mk (exR k f (y % 9000)).toArray), iN .i64 0] :: .string k :: .string f :: iN .i64 (y % 9000) :: .tuple #[.string (ByteArray.mk (exR k f (y % 9000)).toArray), iN .i64 0] :: .string (ByteArray.mk (exR k f (y % 9000)).toArray) :: iN .i64 0 :: iN .i64 (x % 9000) :: .bool false :: .bool false :: iN .i64 (y % 9000) :: .bool false :: .bool false :: List.replicate 42 un).toArray, []⟩) (by kernel_rfl) ?_
      refine wp_cond_false (by kernel_rfl) ?_
      refine wp_skip ?_
      refine then_at (F := ⟨(.string k :: .string f :: .agg #[iN .u16 x, iN .u16 y] :: un :: un :: pt q1 :: .bool false :: iN .i64 (x % 9000) :: iN .i64 (y % 9000) :: .string (ByteArray.mk (exR k f (x % 9000)).toArray) :: iN .i64 0 :: .string (ByteArray.mk (exR k f (y % 9000)).toArray) :: iN .i64 0 :: un :: .bool true :: .bool false :: pt q1 :: iN .u16 x :: iN .u16 (x % 9000) :: iN .i64 (x % 9000) :: .pointer (some ⟨q1, 1, none⟩) :: iN .u16 y :: iN .u16 (y % 9000) :: iN .i64 (y % 9000) :: .tuple #[.string (ByteArray.mk (exR k f (x % 9000)).toArray), iN .i64 0] :: .string k :: .string f :: iN .i64 (x % 9000) :: .tuple #[.string (ByteArray.mk (exR k f (x % 9000)).toArray), iN .i64 0] :: .string (ByteArray.mk (exR k f (x % 9000)).toArray) :: iN .i64 0 :: .tuple #[.string (ByteArray.mk (exR k f (y % 9000)).toArray), iN .i64 0] :: .string k :: .string f :: iN .i64 (y % 9000) :: .tuple #[.string (ByteArray.mk (exR k f (y % 9000)).toArray), iN .i64 0] :: .string (ByteArray.mk (exR k f (y % 9000)).toArray) :: iN .i64 0 :: iN .i64 (x % 9000) :: .bool false :: .bool false :: iN .i64 (y % 9000) :: .bool false :: .bool false :: List.replicate 42 un).toArray, []⟩) (by kernel_rfl) ?_
      refine wp_seq ?_
      -- region 8
      refine wl_region ?_
      refine wl_val (iN .i64 (x % 9000)) (by kernel_rfl) (by kernel_rfl) ?_
      refine wl_val (iN .i64 (y % 9000)) (by kernel_rfl) (by kernel_rfl) ?_
      refine wl_val (iN .i64 (min (x % 9000) (y % 9000))) (by kernel_rfl) (run_min (i := x % 9000) (j := y % 9000) (by kernel_rfl) (by kernel_rfl)) ?_
      refine wl_val (iN .i64 (min (x % 9000) (y % 9000))) (by kernel_rfl) (by kernel_rfl) ?_
      refine wl_nil ?_
      refine then_at (F := ⟨(.string k :: .string f :: .agg #[iN .u16 x, iN .u16 y] :: un :: un :: pt q1 :: .bool false :: iN .i64 (x % 9000) :: iN .i64 (y % 9000) :: .string (ByteArray.mk (exR k f (x % 9000)).toArray) :: iN .i64 0 :: .string (ByteArray.mk (exR k f (y % 9000)).toArray) :: iN .i64 0 :: iN .i64 (min (x % 9000) (y % 9000)) :: .bool true :: .bool false :: pt q1 :: iN .u16 x :: iN .u16 (x % 9000) :: iN .i64 (x % 9000) :: .pointer (some ⟨q1, 1, none⟩) :: iN .u16 y :: iN .u16 (y % 9000) :: iN .i64 (y % 9000) :: .tuple #[.string (ByteArray.mk (exR k f (x % 9000)).toArray), iN .i64 0] :: .string k :: .string f :: iN .i64 (x % 9000) :: .tuple #[.string (ByteArray.mk (exR k f (x % 9000)).toArray), iN .i64 0] :: .string (ByteArray.mk (exR k f (x % 9000)).toArray) :: iN .i64 0 :: .tuple #[.string (ByteArray.mk (exR k f (y % 9000)).toArray), iN .i64 0] :: .string k :: .string f :: iN .i64 (y % 9000) :: .tuple #[.string (ByteArray.mk (exR k f (y % 9000)).toArray), iN .i64 0] :: .string (ByteArray.mk (exR k f (y % 9000)).toArray) :: iN .i64 0 :: iN .i64 (x % 9000) :: .bool false :: .bool false :: iN .i64 (y % 9000) :: .bool false :: .bool false :: un :: un :: un :: un :: un :: un :: un :: un :: un :: un :: un :: un :: iN .i64 (x % 9000) :: iN .i64 (y % 9000) :: iN .i64 (min (x % 9000) (y % 9000)) :: List.replicate 27 un).toArray, []⟩) (by kernel_rfl) ?_
      refine wp_seq ?_
      -- region 9
      refine wp_region_sure ⟨(.string k :: .string f :: .agg #[iN .u16 x, iN .u16 y] :: un :: un :: pt q1 :: .bool true :: iN .i64 (x % 9000) :: iN .i64 (y % 9000) :: .string (ByteArray.mk (exR k f (x % 9000)).toArray) :: iN .i64 0 :: .string (ByteArray.mk (exR k f (y % 9000)).toArray) :: iN .i64 0 :: iN .i64 (min (x % 9000) (y % 9000)) :: .bool true :: .bool false :: pt q1 :: iN .u16 x :: iN .u16 (x % 9000) :: iN .i64 (x % 9000) :: .pointer (some ⟨q1, 1, none⟩) :: iN .u16 y :: iN .u16 (y % 9000) :: iN .i64 (y % 9000) :: .tuple #[.string (ByteArray.mk (exR k f (x % 9000)).toArray), iN .i64 0] :: .string k :: .string f :: iN .i64 (x % 9000) :: .tuple #[.string (ByteArray.mk (exR k f (x % 9000)).toArray), iN .i64 0] :: .string (ByteArray.mk (exR k f (x % 9000)).toArray) :: iN .i64 0 :: .tuple #[.string (ByteArray.mk (exR k f (y % 9000)).toArray), iN .i64 0] :: .string k :: .string f :: iN .i64 (y % 9000) :: .tuple #[.string (ByteArray.mk (exR k f (y % 9000)).toArray), iN .i64 0] :: .string (ByteArray.mk (exR k f (y % 9000)).toArray) :: iN .i64 0 :: iN .i64 (x % 9000) :: .bool false :: .bool false :: iN .i64 (y % 9000) :: .bool false :: .bool false :: un :: un :: un :: un :: un :: un :: un :: un :: un :: un :: un :: un :: iN .i64 (x % 9000) :: iN .i64 (y % 9000) :: iN .i64 (min (x % 9000) (y % 9000)) :: iN .i64 0 :: .bool true :: .bool true :: iN .i64 0 :: .bool true :: .bool true :: .bool true :: .string (ByteArray.mk (exR k f (x % 9000)).toArray) :: iN .i64 ((ByteArray.mk (exR k f (x % 9000)).toArray).size) :: iN .i64 (x % 9000) :: .bool true :: .bool true :: .bool true :: .string (ByteArray.mk (exR k f (y % 9000)).toArray) :: iN .i64 ((ByteArray.mk (exR k f (y % 9000)).toArray).size) :: iN .i64 (y % 9000) :: .bool true :: .bool true :: .bool true :: .string (ByteArray.mk (exR k f (x % 9000)).toArray) :: iN .i64 (min (x % 9000) (y % 9000)) :: .string ((ByteArray.mk (exR k f (x % 9000)).toArray).extract 0 (min (x % 9000) (y % 9000))) :: .string (ByteArray.mk (exR k f (y % 9000)).toArray) :: iN .i64 (min (x % 9000) (y % 9000)) :: .string ((ByteArray.mk (exR k f (y % 9000)).toArray).extract 0 (min (x % 9000) (y % 9000))) :: .bool true :: .bool true :: List.replicate 0 un).toArray, []⟩ (HA w [(q1, 34, #[iN .u16 x, iN .u16 y])]) [iN .i64 0, .bool true, .bool true, iN .i64 0, .bool true, .bool true, .bool true, .string (ByteArray.mk (exR k f (x % 9000)).toArray), iN .i64 ((ByteArray.mk (exR k f (x % 9000)).toArray).size), iN .i64 (x % 9000), .bool true, .bool true, .bool true, .string (ByteArray.mk (exR k f (y % 9000)).toArray), iN .i64 ((ByteArray.mk (exR k f (y % 9000)).toArray).size), iN .i64 (y % 9000), .bool true, .bool true, .bool true, .string (ByteArray.mk (exR k f (x % 9000)).toArray), iN .i64 (min (x % 9000) (y % 9000)), .string ((ByteArray.mk (exR k f (x % 9000)).toArray).extract 0 (min (x % 9000) (y % 9000))), .string (ByteArray.mk (exR k f (y % 9000)).toArray), iN .i64 (min (x % 9000) (y % 9000)), .string ((ByteArray.mk (exR k f (y % 9000)).toArray).extract 0 (min (x % 9000) (y % 9000))), .bool true, .bool true, .bool true] (by kernel_rfl) (by kernel_rfl) (by kernel_rfl) (by kernel_rfl) (fun _ _ _ h => h) h23.drew ?_ ?_
      · refine AllSure.cons (OpSure.take (v := iN .i64 0) (by kernel_rfl) (by kernel_rfl) (fun _ _ => (by kernel_rfl))) ?_
        refine AllSure.cons (OpSure.take (v := .bool true) (by kernel_rfl) (by kernel_rfl) (fun _ _ => (run_eqi (k := .i64) (a := 0) (b := 0) (by kernel_rfl) (by kernel_rfl) true (by decide)))) ?_
        refine AllSure.cons (OpSure.take (v := .bool true) (by kernel_rfl) (by kernel_rfl) (fun _ _ => (by kernel_rfl))) ?_
        refine AllSure.cons (OpSure.take (v := iN .i64 0) (by kernel_rfl) (by kernel_rfl) (fun _ _ => (by kernel_rfl))) ?_
        refine AllSure.cons (OpSure.take (v := .bool true) (by kernel_rfl) (by kernel_rfl) (fun _ _ => (run_eqi (k := .i64) (a := 0) (b := 0) (by kernel_rfl) (by kernel_rfl) true (by decide)))) ?_
        refine AllSure.cons (OpSure.take (v := .bool true) (by kernel_rfl) (by kernel_rfl) (fun _ _ => (by kernel_rfl))) ?_
        refine AllSure.cons (OpSure.take (v := .bool true) (by kernel_rfl) (by kernel_rfl) (fun _ _ => (by kernel_rfl))) ?_
        refine AllSure.cons (OpSure.take (v := .string (ByteArray.mk (exR k f (x % 9000)).toArray)) (by kernel_rfl) (by kernel_rfl) (fun _ _ => (by kernel_rfl))) ?_
        refine AllSure.cons (OpSure.take (v := iN .i64 ((ByteArray.mk (exR k f (x % 9000)).toArray).size)) (by kernel_rfl) (by kernel_rfl) (fun _ _ => (run_len (s := ByteArray.mk (exR k f (x % 9000)).toArray) (by kernel_rfl)))) ?_
        refine AllSure.cons (OpSure.take (v := iN .i64 (x % 9000)) (by kernel_rfl) (by kernel_rfl) (fun _ _ => (by kernel_rfl))) ?_
        refine AllSure.cons (OpSure.take (v := .bool true) (by kernel_rfl) (by kernel_rfl) (fun _ _ => (run_eqi (k := .i64) (a := (ByteArray.mk (exR k f (x % 9000)).toArray).size) (b := x % 9000) (by kernel_rfl) (by kernel_rfl) true (decide_eq_true (by rw [sz_mk, exR_len]))))) ?_
        refine AllSure.cons (OpSure.take (v := .bool true) (by kernel_rfl) (by kernel_rfl) (fun _ _ => (by kernel_rfl))) ?_
        refine AllSure.cons (OpSure.take (v := .bool true) (by kernel_rfl) (by kernel_rfl) (fun _ _ => (by kernel_rfl))) ?_
        refine AllSure.cons (OpSure.take (v := .string (ByteArray.mk (exR k f (y % 9000)).toArray)) (by kernel_rfl) (by kernel_rfl) (fun _ _ => (by kernel_rfl))) ?_
        refine AllSure.cons (OpSure.take (v := iN .i64 ((ByteArray.mk (exR k f (y % 9000)).toArray).size)) (by kernel_rfl) (by kernel_rfl) (fun _ _ => (run_len (s := ByteArray.mk (exR k f (y % 9000)).toArray) (by kernel_rfl)))) ?_
        refine AllSure.cons (OpSure.take (v := iN .i64 (y % 9000)) (by kernel_rfl) (by kernel_rfl) (fun _ _ => (by kernel_rfl))) ?_
        refine AllSure.cons (OpSure.take (v := .bool true) (by kernel_rfl) (by kernel_rfl) (fun _ _ => (run_eqi (k := .i64) (a := (ByteArray.mk (exR k f (y % 9000)).toArray).size) (b := y % 9000) (by kernel_rfl) (by kernel_rfl) true (decide_eq_true (by rw [sz_mk, exR_len]))))) ?_
        refine AllSure.cons (OpSure.take (v := .bool true) (by kernel_rfl) (by kernel_rfl) (fun _ _ => (by kernel_rfl))) ?_
        refine AllSure.cons (OpSure.take (v := .bool true) (by kernel_rfl) (by kernel_rfl) (fun _ _ => (by kernel_rfl))) ?_
        refine AllSure.cons (OpSure.take (v := .string (ByteArray.mk (exR k f (x % 9000)).toArray)) (by kernel_rfl) (by kernel_rfl) (fun _ _ => (by kernel_rfl))) ?_
        refine AllSure.cons (OpSure.take (v := iN .i64 (min (x % 9000) (y % 9000))) (by kernel_rfl) (by kernel_rfl) (fun _ _ => (by kernel_rfl))) ?_
        refine AllSure.cons (OpSure.take (v := .string ((ByteArray.mk (exR k f (x % 9000)).toArray).extract 0 (min (x % 9000) (y % 9000)))) (by kernel_rfl) (by kernel_rfl) (fun _ _ => (run_cut_hi (s := ByteArray.mk (exR k f (x % 9000)).toArray) (b := min (x % 9000) (y % 9000)) (by kernel_rfl) (by kernel_rfl) (by rw [sz_mk, exR_len]; first | exact Nat.min_le_left _ _ | exact Nat.min_le_right _ _)))) ?_
        refine AllSure.cons (OpSure.take (v := .string (ByteArray.mk (exR k f (y % 9000)).toArray)) (by kernel_rfl) (by kernel_rfl) (fun _ _ => (by kernel_rfl))) ?_
        refine AllSure.cons (OpSure.take (v := iN .i64 (min (x % 9000) (y % 9000))) (by kernel_rfl) (by kernel_rfl) (fun _ _ => (by kernel_rfl))) ?_
        refine AllSure.cons (OpSure.take (v := .string ((ByteArray.mk (exR k f (y % 9000)).toArray).extract 0 (min (x % 9000) (y % 9000)))) (by kernel_rfl) (by kernel_rfl) (fun _ _ => (run_cut_hi (s := ByteArray.mk (exR k f (y % 9000)).toArray) (b := min (x % 9000) (y % 9000)) (by kernel_rfl) (by kernel_rfl) (by rw [sz_mk, exR_len]; first | exact Nat.min_le_left _ _ | exact Nat.min_le_right _ _)))) ?_
        refine AllSure.cons (OpSure.take (v := .bool true) (by kernel_rfl) (by kernel_rfl) (fun _ _ => (run_eqs (s := (ByteArray.mk (exR k f (x % 9000)).toArray).extract 0 (min (x % 9000) (y % 9000))) (t := (ByteArray.mk (exR k f (y % 9000)).toArray).extract 0 (min (x % 9000) (y % 9000))) (by kernel_rfl) (by kernel_rfl) true (decide_eq_true (by rw [ex_cut _ _ _ _ (Nat.min_le_left _ _), ex_cut _ _ _ _ (Nat.min_le_right _ _)]))))) ?_
        refine AllSure.cons (OpSure.take (v := .bool true) (by kernel_rfl) (by kernel_rfl) (fun _ _ => (by kernel_rfl))) ?_
        refine AllSure.cons (OpSure.take (v := .bool true) (by kernel_rfl) (by kernel_rfl) (fun _ _ => (by kernel_rfl))) ?_
        exact AllSure.nil
      intro w24 h25
      refine then_at (F := ⟨(.string k :: .string f :: .agg #[iN .u16 x, iN .u16 y] :: un :: un :: pt q1 :: .bool true :: iN .i64 (x % 9000) :: iN .i64 (y % 9000) :: .string (ByteArray.mk (exR k f (x % 9000)).toArray) :: iN .i64 0 :: .string (ByteArray.mk (exR k f (y % 9000)).toArray) :: iN .i64 0 :: iN .i64 (min (x % 9000) (y % 9000)) :: .bool true :: .bool false :: pt q1 :: iN .u16 x :: iN .u16 (x % 9000) :: iN .i64 (x % 9000) :: .pointer (some ⟨q1, 1, none⟩) :: iN .u16 y :: iN .u16 (y % 9000) :: iN .i64 (y % 9000) :: .tuple #[.string (ByteArray.mk (exR k f (x % 9000)).toArray), iN .i64 0] :: .string k :: .string f :: iN .i64 (x % 9000) :: .tuple #[.string (ByteArray.mk (exR k f (x % 9000)).toArray), iN .i64 0] :: .string (ByteArray.mk (exR k f (x % 9000)).toArray) :: iN .i64 0 :: .tuple #[.string (ByteArray.mk (exR k f (y % 9000)).toArray), iN .i64 0] :: .string k :: .string f :: iN .i64 (y % 9000) :: .tuple #[.string (ByteArray.mk (exR k f (y % 9000)).toArray), iN .i64 0] :: .string (ByteArray.mk (exR k f (y % 9000)).toArray) :: iN .i64 0 :: iN .i64 (x % 9000) :: .bool false :: .bool false :: iN .i64 (y % 9000) :: .bool false :: .bool false :: un :: un :: un :: un :: un :: un :: un :: un :: un :: un :: un :: un :: iN .i64 (x % 9000) :: iN .i64 (y % 9000) :: iN .i64 (min (x % 9000) (y % 9000)) :: iN .i64 0 :: .bool true :: .bool true :: iN .i64 0 :: .bool true :: .bool true :: .bool true :: .string (ByteArray.mk (exR k f (x % 9000)).toArray) :: iN .i64 ((ByteArray.mk (exR k f (x % 9000)).toArray).size) :: iN .i64 (x % 9000) :: .bool true :: .bool true :: .bool true :: .string (ByteArray.mk (exR k f (y % 9000)).toArray) :: iN .i64 ((ByteArray.mk (exR k f (y % 9000)).toArray).size) :: iN .i64 (y % 9000) :: .bool true :: .bool true :: .bool true :: .string (ByteArray.mk (exR k f (x % 9000)).toArray) :: iN .i64 (min (x % 9000) (y % 9000)) :: .string ((ByteArray.mk (exR k f (x % 9000)).toArray).extract 0 (min (x % 9000) (y % 9000))) :: .string (ByteArray.mk (exR k f (y % 9000)).toArray) :: iN .i64 (min (x % 9000) (y % 9000)) :: .string ((ByteArray.mk (exR k f (y % 9000)).toArray).extract 0 (min (x % 9000) (y % 9000))) :: .bool true :: .bool true :: List.replicate 0 un).toArray, []⟩) (by kernel_rfl) ?_
      refine wp_ret ?_
      repeat first | refine then_ret ?_ | refine block_ret ?_
      exact bodyPost_ret (v := .bool true) (by kernel_rfl) rfl ⟨rfl, h25.old⟩
end Go.Proofs.YtmlldbkhphngeaaDoor
