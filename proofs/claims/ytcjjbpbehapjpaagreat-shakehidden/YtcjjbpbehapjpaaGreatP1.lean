/-
  Is it a prim; its kind.
-/
import Derived.Test.YtcjjbpbehapjpaaGreatWZ
set_option linter.unusedVariables false
namespace Go.Proofs.YtcjjbpbehapjpaaGreat
open Go.RowKit

set_option maxRecDepth 100000 in
set_option maxHeartbeats 2000000 in
theorem none_k {w : World} {q tq : Nat} (hk : w.cell? ⟨q, 0, none⟩ = some (.iface 97 (.agg #[pt tq]))) :
    Calls Tryz.prog 29 #[pt q] w fun e w' => e = .returned (.bool false) ∧ Below w.heap.size w w' := by
  have H0 := HA.start w
  go_enter Tryz.func29, Tryz.ntmps29
  refine wp_seq (wl_region ?_)
  refine zv (.bool false) ?_
  refine wl_nil ?_
  refine then_at (F := ⟨(pt q :: un :: .bool false :: List.replicate 9 un).toArray, []⟩) ky ?_
  refine wp_seq (wl_region ?_)
  refine zv (.pointer (some ⟨q, 0, none⟩)) ?_
  refine zv (.bool false) ?_
  refine zv (.bool false) ?_
  refine zv (.pointer (some ⟨q, 0, none⟩)) ?_
  refine zv (.pointer (some ⟨q, 0, none⟩)) ?_
  refine zv (.pointer (some ⟨q, 0, none⟩)) ?_
  refine zu (.iface 97 (.agg #[pt tq])) (run_load1 (fun w => Tryz.isAgg93 w) ky (got H0.old.old hk)) ?_
  refine zv (.bool false) ?_
  refine zv (.bool false) ?_
  refine zv (.bool false) ?_
  refine wl_nil ?_
  refine then_at (F := ⟨(pt q :: un :: .bool false :: pt q :: .bool false :: .bool false :: pt q :: pt q :: pt q :: .iface 97 (.agg #[pt tq]) :: .bool false :: .bool false :: List.replicate 0 un).toArray, []⟩) ky ?_
  refine wp_ret ?_
  repeat first | refine then_ret ?_ | refine block_ret ?_
  exact bodyPost_ret (v := .bool false) ky rfl ⟨rfl, H0.old.old⟩
set_option maxRecDepth 100000 in
set_option maxHeartbeats 2000000 in
theorem numberOf_k {w : World} {tq : Nat} :
    Calls Tryz.prog 140 #[.iface 97 (.agg #[pt tq])] w fun e w' => e = .returned (iN .i64 1) ∧ Below w.heap.size w w' := by
  have H0 := HA.start w
  go_enter Tryz.func140, Tryz.ntmps140
  refine wp_seq (wl_region ?_)
  refine zv (iN .i64 0) ?_
  refine wl_nil ?_
  refine then_at (F := ⟨(.iface 97 (.agg #[pt tq]) :: un :: iN .i64 0 :: List.replicate 7 un).toArray, []⟩) ky ?_
  refine wp_seq (wp_seq (wl_region ?_))
  refine zv (.iface 97 (.agg #[pt tq])) ?_
  refine wl_nil ?_
  refine then_at (F := ⟨(.iface 97 (.agg #[pt tq]) :: un :: iN .i64 0 :: .iface 97 (.agg #[pt tq]) :: List.replicate 6 un).toArray, []⟩) ky ?_
  refine wp_block (wp_seq (wl_region ?_))
  refine zv (.tuple #[.agg #[], .bool false]) ?_
  refine zv (.bool false) ?_
  refine zv (.agg #[]) ?_
  refine wl_nil ?_
  refine then_at (F := ⟨(.iface 97 (.agg #[pt tq]) :: un :: iN .i64 0 :: .iface 97 (.agg #[pt tq]) :: .tuple #[.agg #[], .bool false] :: .bool false :: .agg #[] :: List.replicate 3 un).toArray, []⟩) ky ?_
  refine wp_cond_false ky ?_
  refine wp_seq (wl_region ?_)
  refine zv (.tuple #[.agg #[.pointer (some ⟨tq, 0, none⟩)], .bool true]) ?_
  refine zv (.bool true) ?_
  refine zv (.agg #[.pointer (some ⟨tq, 0, none⟩)]) ?_
  refine wl_nil ?_
  refine then_at (F := ⟨(.iface 97 (.agg #[pt tq]) :: un :: iN .i64 0 :: .iface 97 (.agg #[pt tq]) :: .tuple #[.agg #[], .bool false] :: .bool false :: .agg #[] :: .tuple #[.agg #[pt tq], .bool true] :: .bool true :: .agg #[pt tq] :: List.replicate 0 un).toArray, []⟩) ky ?_
  refine wp_cond_true ky ?_
  refine wp_seq (wl_region ?_)
  refine zv (iN .i64 1) ?_
  refine wl_nil ?_
  refine then_at (F := ⟨(.iface 97 (.agg #[pt tq]) :: un :: iN .i64 1 :: .iface 97 (.agg #[pt tq]) :: .tuple #[.agg #[], .bool false] :: .bool false :: .agg #[] :: .tuple #[.agg #[pt tq], .bool true] :: .bool true :: .agg #[pt tq] :: List.replicate 0 un).toArray, []⟩) ky ?_
  refine wp_ret ?_
  repeat first | refine then_ret ?_ | refine block_ret ?_
  exact bodyPost_ret (v := iN .i64 1) ky rfl ⟨rfl, H0.old.old⟩
set_option maxRecDepth 100000 in
set_option maxHeartbeats 2000000 in
theorem Kit_k {w : World} {q tq : Nat} (hk : w.cell? ⟨q, 0, none⟩ = some (.iface 97 (.agg #[pt tq]))) :
    Calls Tryz.prog 91 #[pt q] w fun e w' => e = .returned (iN .i64 1) ∧ Below w.heap.size w w' := by
  have H0 := HA.start w
  go_enter Tryz.func91, Tryz.ntmps91
  refine wp_seq (wl_region ?_)
  refine zv (iN .i64 0) ?_
  refine wl_nil ?_
  refine then_at (F := ⟨(pt q :: un :: iN .i64 0 :: List.replicate 7 un).toArray, []⟩) ky ?_
  refine wp_seq (wp_seq (wl_region ?_))
  refine zv (.pointer (some ⟨q, 0, none⟩)) ?_
  refine wl_call (v := .bool false) H0 ky enter29 #[.pointer (some ⟨q, 0, none⟩)] ky (none_k (got H0.old.old hk)) ?_
  intro w1 h2
  refine wl_nil ?_
  refine then_at (F := ⟨(pt q :: un :: iN .i64 0 :: pt q :: .bool false :: List.replicate 5 un).toArray, []⟩) ky ?_
  refine wp_cond_false ky ?_
  refine wp_skip ?_
  refine then_at (F := ⟨(pt q :: un :: iN .i64 0 :: pt q :: .bool false :: List.replicate 5 un).toArray, []⟩) ky ?_
  refine wp_seq (wl_region ?_)
  refine zv (.pointer (some ⟨q, 0, none⟩)) ?_
  refine zv (.pointer (some ⟨q, 0, none⟩)) ?_
  refine zv (.pointer (some ⟨q, 0, none⟩)) ?_
  refine zu (.iface 97 (.agg #[pt tq])) (run_load1 (fun w => Tryz.isAgg93 w) ky (got h2.old.old hk)) ?_
  refine wl_call (v := iN .i64 1) h2 ky enter140 #[.iface 97 (.agg #[pt tq])] ky (numberOf_k) ?_
  intro w3 h4
  refine zv (iN .i64 1) ?_
  refine wl_nil ?_
  refine then_at (F := ⟨(pt q :: un :: iN .i64 1 :: pt q :: .bool false :: pt q :: pt q :: pt q :: .iface 97 (.agg #[pt tq]) :: iN .i64 1 :: List.replicate 0 un).toArray, []⟩) ky ?_
  refine wp_ret ?_
  repeat first | refine then_ret ?_ | refine block_ret ?_
  exact bodyPost_ret (v := iN .i64 1) ky rfl ⟨rfl, h4.old.old⟩
set_option maxRecDepth 100000 in
set_option maxHeartbeats 2000000 in
theorem snone_k {w : World} {q tq : Nat} (hk : w.cell? ⟨q, 0, none⟩ = some (.iface 97 (.agg #[pt tq]))) :
    Calls Tryz.prog 35 #[pt q] w fun e w' => e = .returned (.bool false) ∧ Below w.heap.size w w' := by
  have H0 := HA.start w
  go_enter Tryz.func35, Tryz.ntmps35
  refine wp_seq (wl_region ?_)
  refine zv (.bool false) ?_
  refine wl_nil ?_
  refine then_at (F := ⟨(pt q :: un :: .bool false :: List.replicate 3 un).toArray, []⟩) ky ?_
  refine wp_seq (wl_region ?_)
  refine zv (.pointer (some ⟨q, 0, none⟩)) ?_
  refine wl_call (v := iN .i64 1) H0 ky enter91 #[.pointer (some ⟨q, 0, none⟩)] ky (Kit_k (got H0.old.old hk)) ?_
  intro w1 h2
  refine zv (.bool false) ?_
  refine zv (.bool false) ?_
  refine wl_nil ?_
  refine then_at (F := ⟨(pt q :: un :: .bool false :: pt q :: iN .i64 1 :: .bool false :: List.replicate 0 un).toArray, []⟩) ky ?_
  refine wp_ret ?_
  repeat first | refine then_ret ?_ | refine block_ret ?_
  exact bodyPost_ret (v := .bool false) ky rfl ⟨rfl, h2.old.old⟩
end Go.Proofs.YtcjjbpbehapjpaaGreat
