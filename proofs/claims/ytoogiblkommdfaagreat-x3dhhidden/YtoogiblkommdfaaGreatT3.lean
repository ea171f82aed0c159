/-
  add: a term behind the others.
-/
import Derived.Test.YtoogiblkommdfaaGreatGA
namespace Go.Proofs.YtoogiblkommdfaaGreat
open Go.RowKit

theorem Row.form {e : TypeId} {sz n : Nat} {v : Value} {xs : List Value} {Lr : List (Nat × TypeId × Array Value)} (h : Row e sz v n xs Lr) : ∃ p c, v = .slice p n c := by
  rcases h.2 with ⟨h1, h2, _⟩ | ⟨g, cap, cur, h1, _⟩
  · exact ⟨none, 0, by rw [h1, h2]⟩
  · exact ⟨_, _, h1⟩
section
variable {ρ : Operand → Value} {x y : Operand} {w : World} {dst : Option Tmp} {ty : TypeId} {pos : String} {aft : Array Edge} {gd : Option (Nat × Bool)}
theorem run_build70 {v : Value} (hx : ρ x = v) (h1 : v.oneCell' = true) : (execOp ρ ⟨dst, .buildSlice 141 1 #[(0, x)], ty, pos, aft, gd⟩).run Tryz.prog w = .ok (.value (.slice (some ⟨w.heap.size, 0, none⟩) 1 1)) (w.alloc (.cells #[v] 150)) := by
  simp only [execOp]
  rw [show Array.map (fun x => (x.fst, ρ x.snd)) #[(0, x)] = #[(0, v)] from by simp [hx]]
  clear hx
  cases v <;> first | (simp [Value.oneCell'] at h1; done) | kernel_rfl
end
theorem info69 : (Tryz.prog.info? 150).map (fun i => (i.zero, i.size, i.bytes)) = some (some .nilIface, 1, 16) := by kernel_rfl
set_option linter.unusedVariables false in
set_option maxRecDepth 100000 in
set_option maxHeartbeats 2000000 in
theorem add_any {z : Base} {q : Nat} {t : Tb} {n0 n : Nat} {v : Value} {xs : List Value} {Lr L : List (Nat × TypeId × Array Value)} {w : World} (hR : Row 150 1 v n xs Lr) (H0 : HA z ((q, 145, tcell t n0 v) :: (Lr ++ L)) w) (hn : n < 60000) (x : Value) (hx : x.oneCell' = true) :
    Calls Tryz.prog 365 #[pt q, x] w fun e w' => ∃ v' Lr', e = .returned (.tuple #[iN .i64 n, .bool true]) ∧ Row 150 1 v' (n + 1) (xs ++ [x]) Lr' ∧ HA z ((q, 145, tcell t n0 v') :: (Lr' ++ L)) w' := by
  obtain ⟨p, c, rfl⟩ := hR.form
  go_enter Tryz.func365, Tryz.ntmps365
  refine wp_seq (wl_region ?_)
  refine zv (iN .i64 0) ?_
  refine zv (.bool false) ?_
  refine wl_nil ?_
  refine then_at (F := ⟨(pt q :: x :: un :: un :: iN .i64 0 :: .bool false :: List.replicate 19 un).toArray, []⟩) ky ?_
  refine wp_seq (wl_region ?_)
  refine zv (.pointer (some ⟨q, 0, none⟩)) ?_
  refine zv (.pointer (some ⟨q, 0, none⟩)) ?_
  refine zv (.pointer (some ⟨q, 0, none⟩)) ?_
  refine zu (.slice p n c) (run_load1 (fun w => Tryz.isAgg141 w) ky (((H0.get 0 rfl).cell 0).trans rfl)) ?_
  refine zv (iN .i64 n) ?_
  refine zv (iN .i64 n) ?_
  refine wl_nil ?_
  refine then_at (F := ⟨(pt q :: x :: un :: un :: iN .i64 0 :: .bool false :: iN .i64 n :: pt q :: pt q :: pt q :: .slice p n c :: iN .i64 n :: List.replicate 13 un).toArray, []⟩) ky ?_
  refine wp_seq (wp_seq (wl_region ?_))
  refine zv (iN .i64 n) ?_
  refine zu (.bool false) (run_geq (k := .i64) (a := n) (b := 65536) ky ky false (decide_eq_false (by omega))) ?_
  refine wl_nil ?_
  refine then_at (F := ⟨(pt q :: x :: un :: un :: iN .i64 0 :: .bool false :: iN .i64 n :: pt q :: pt q :: pt q :: .slice p n c :: iN .i64 n :: iN .i64 n :: .bool false :: List.replicate 11 un).toArray, []⟩) ky ?_
  refine wp_cond_false ky ?_
  refine wp_skip ?_
  refine then_at (F := ⟨(pt q :: x :: un :: un :: iN .i64 0 :: .bool false :: iN .i64 n :: pt q :: pt q :: pt q :: .slice p n c :: iN .i64 n :: iN .i64 n :: .bool false :: List.replicate 11 un).toArray, []⟩) ky ?_
  refine wp_seq (wl_region ?_)
  refine zv (.pointer (some ⟨q, 0, none⟩)) ?_
  refine zv (.pointer (some ⟨q, 0, none⟩)) ?_
  refine zv (.pointer (some ⟨q, 0, none⟩)) ?_
  refine zv (.pointer (some ⟨q, 0, none⟩)) ?_
  refine zu (.slice p n c) (run_load1 (fun w => Tryz.isAgg141 w) ky (((H0.get 0 rfl).cell 0).trans rfl)) ?_
  refine zv (x) ?_
  refine wl_mks (n := 1) (m := 1) (c := #[x]) H0 150 ky (run_build70 ky hx) ?_
  intro q1 w2 (h3 : HA z ((q1, 150, #[x]) :: (q, 145, tcell t n0 (.slice p n c)) :: (Lr ++ L)) w2)
  have h4 : HA z ((q1, 150, #[x]) :: (Lr ++ ((q, 145, tcell t n0 (.slice p n c)) :: L))) w2 := h3.perm (List.Perm.cons _ List.perm_middle.symm)
  refine wl_append (m := 1) (c := 1) hR h4 (by decide) .nilIface 16 Tryz.underlying141 info69 rfl (by decide) ky ky ky rfl (by simp [hx]) (by unfold maxLen; omega) (by omega) (by decide) ?_
  intro v1 w5 Lr1 hR1 h6
  have h7 : HA z ((q, 145, tcell t n0 (.slice p n c)) :: (Lr1 ++ L)) w5 := h6.perm List.perm_middle
  obtain ⟨p1, c1, rfl⟩ := hR1.form
  refine zv (.pointer (some ⟨q, 0, none⟩)) ?_
  refine zv (.pointer (some ⟨q, 0, none⟩)) ?_
  refine wl_putv (v := .slice p1 (n + 1) c1) h7 0 rfl 0 (by show 0 < 4; decide) ky (fun w => Tryz.sizeOf141 w) ky ky ky ?_
  intro w8 (h9 : HA z ((q, 145, tcell t n0 (.slice p1 (n + 1) c1)) :: (Lr1 ++ L)) w8)
  refine wl_nil ?_
  refine then_at (F := ⟨(pt q :: x :: un :: un :: iN .i64 0 :: .bool false :: iN .i64 n :: pt q :: pt q :: pt q :: .slice p n c :: iN .i64 n :: iN .i64 n :: .bool false :: pt q :: pt q :: pt q :: pt q :: .slice p n c :: x :: .slice (some ⟨q1, 0, none⟩) 1 1 :: .slice p1 (n + 1) c1 :: pt q :: pt q :: List.replicate 1 un).toArray, []⟩) ky ?_
  refine wp_seq (wl_region ?_)
  refine zv (iN .i64 n) ?_
  refine zv (iN .i64 n) ?_
  refine zv (.bool true) ?_
  refine wl_nil ?_
  refine then_at (F := ⟨(pt q :: x :: un :: un :: iN .i64 n :: .bool true :: iN .i64 n :: pt q :: pt q :: pt q :: .slice p n c :: iN .i64 n :: iN .i64 n :: .bool false :: pt q :: pt q :: pt q :: pt q :: .slice p n c :: x :: .slice (some ⟨q1, 0, none⟩) 1 1 :: .slice p1 (n + 1) c1 :: pt q :: pt q :: iN .i64 n :: List.replicate 0 un).toArray, []⟩) ky ?_
  refine wp_ret ?_
  repeat first | refine then_ret ?_ | refine block_ret ?_
  exact bodyPost_ret (v := .tuple #[iN .i64 n, .bool true]) ky rfl ⟨_, Lr1, rfl, hR1, h9⟩
end Go.Proofs.YtoogiblkommdfaaGreat
