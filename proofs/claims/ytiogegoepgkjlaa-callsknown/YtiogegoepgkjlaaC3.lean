/-
  SameCall, mayBe, Check.
-/
import Derived.Test.YtiogegoepgkjlaaC2
set_option linter.unusedVariables false
namespace Go.Proofs.Ytiogegoepgkjlaa
open Go.RowKit

def sameC (a b : Ca) : Bool := decide (a.kd = b.kd) && decide (a.us = b.us) && decide (a.dv = b.dv) && sameL a.li b.li && decide (a.bu = b.bu) && decide (a.on = b.on) && decide (a.tt = b.tt) && decide (a.no = b.no) && decide (a.af = b.af) && decide (a.nm = b.nm) && decide (a.ix = b.ix) && decide (a.bt = b.bt)
theorem sameC_eq (a b : Ca) : sameC a b = decide (a = b) := by
  obtain ⟨a1, a2, a3, a4, a5, a6, a7, a8, a9, a10, a11, a12⟩ := a
  obtain ⟨b1, b2, b3, b4, b5, b6, b7, b8, b9, b10, b11, b12⟩ := b
  rw [Bool.eq_iff_iff]
  simp [sameC, sameL_eq, and_assoc]
set_option maxRecDepth 100000 in
set_option maxHeartbeats 4000000 in
theorem smc_any {w : World} (a b : Ca) {o p o2 p2 : Option Addr} {k m k2 m2 : Nat} (hP : At w o (mcl a.li.ds)) (hQ : At w p (scl a.on)) (hP2 : At w o2 (mcl b.li.ds)) (hQ2 : At w p2 (scl b.on)) (hl1 : a.li.ds.length ≤ 1000000) (hl2 : a.on.length ≤ 1000000) :
    Calls Try.prog 12 #[.agg (caC a (.slice o a.li.ds.length k) (.slice p a.on.length m)), .agg (caC b (.slice o2 b.li.ds.length k2) (.slice p2 b.on.length m2))] w fun e w' => e = .returned (.bool (sameC a b)) ∧ Below w.heap.size w w' := by
  have H0 := HA.start w
  go_enter Try.func12, Try.ntmps12
  refine wp_seq (wl_region ?_)
  refine wl_make (c := caC a (.slice o a.li.ds.length k) (.slice p a.on.length m)) H0 30 ky ky ?_
  intro q1 w2 (h3 : HA (bs w) [(q1, 30, caC a (.slice o a.li.ds.length k) (.slice p a.on.length m))] w2)
  refine wl_make (c := caC b (.slice o2 b.li.ds.length k2) (.slice p2 b.on.length m2)) h3 30 ky ky ?_
  intro q4 w5 (h6 : HA (bs w) [(q4, 30, caC b (.slice o2 b.li.ds.length k2) (.slice p2 b.on.length m2)), (q1, 30, caC a (.slice o a.li.ds.length k) (.slice p a.on.length m))] w5)
  refine zv (.bool false) ?_
  refine wl_nil (then_at rfl (wp_seq (wl_region ?_)))
  refine zv (.pointer (some ⟨q1, 0, none⟩)) ?_
  refine zu (.int .i64 a.kd) (run_load1 (fun w => Try.isAgg3 w) ky (((h6.get 1 rfl).cell 0).trans rfl)) ?_
  refine zv (.pointer (some ⟨q4, 0, none⟩)) ?_
  refine zu (.int .i64 b.kd) (run_load1 (fun w => Try.isAgg3 w) ky (((h6.get 0 rfl).cell 0).trans rfl)) ?_
  rcases q7 : decide (a.kd = b.kd) with _ | _
  · refine zu (.bool false) (run_eqZ (k := .i64) (a := a.kd) (b := b.kd) ky ky false q7) ?_
    refine zv (.bool false) ?_
    refine wl_skip ky ?_
    refine wl_skip ky ?_
    refine wl_skip ky ?_
    refine wl_skip ky ?_
    refine wl_skip ky ?_
    refine zv (.bool false) ?_
    refine zv (.bool false) ?_
    refine wl_skip ky ?_
    refine wl_skip ky ?_
    refine wl_skip ky ?_
    refine wl_skip ky ?_
    refine wl_skip ky ?_
    refine zv (.bool false) ?_
    refine zv (.bool false) ?_
    refine wl_skip ky ?_
    refine wl_skip ky ?_
    refine wl_skip ky ?_
    refine wl_skip ky ?_
    refine wl_skip ky ?_
    refine zv (.bool false) ?_
    refine zv (.bool false) ?_
    refine wl_skip ky ?_
    refine wl_skip ky ?_
    refine wl_skip ky ?_
    refine wl_skip ky ?_
    refine wl_skip ky ?_
    refine zv (.bool false) ?_
    refine zv (.bool false) ?_
    refine wl_skip ky ?_
    refine wl_skip ky ?_
    refine wl_skip ky ?_
    refine wl_skip ky ?_
    refine wl_skip ky ?_
    refine zv (.bool false) ?_
    refine zv (.bool false) ?_
    refine wl_skip ky ?_
    refine wl_skip ky ?_
    refine wl_skip ky ?_
    refine wl_skip ky ?_
    refine wl_skip ky ?_
    refine zv (.bool false) ?_
    refine zv (.bool false) ?_
    refine wl_skip ky ?_
    refine wl_skip ky ?_
    refine wl_skip ky ?_
    refine wl_skip ky ?_
    refine wl_skip ky ?_
    refine zv (.bool false) ?_
    refine zv (.bool false) ?_
    refine wl_skip ky ?_
    refine wl_skip ky ?_
    refine wl_skip ky ?_
    refine wl_skip ky ?_
    refine wl_skip ky ?_
    refine zv (.bool false) ?_
    refine zv (.bool false) ?_
    refine wl_skip ky ?_
    refine wl_skip ky ?_
    refine wl_skip ky ?_
    refine wl_skip ky ?_
    refine wl_skip ky ?_
    refine zv (.bool false) ?_
    refine zv (.bool false) ?_
    refine wl_skip ky ?_
    refine wl_skip ky ?_
    refine wl_skip ky ?_
    refine wl_skip ky ?_
    refine wl_skip ky ?_
    refine zv (.bool false) ?_
    refine zv (.bool false) ?_
    refine wl_skip ky ?_
    refine wl_skip ky ?_
    refine wl_skip ky ?_
    refine wl_skip ky ?_
    refine wl_skip ky ?_
    refine zv (.bool false) ?_
    refine zv (.bool false) ?_
    refine wl_nil (then_at rfl ?_)
    refine wp_ret ?_
    repeat first | refine then_ret ?_ | refine block_ret ?_
    exact bodyPost_ret (v := .bool false) ky rfl ⟨by rw [(show sameC a b = false from by unfold sameC; rw [q7]; first | done | rfl)], h6.old.old⟩
  refine zu (.bool true) (run_eqZ (k := .i64) (a := a.kd) (b := b.kd) ky ky true q7) ?_
  refine zv (.bool true) ?_
  refine zv (.pointer (some ⟨q1, 1, none⟩)) ?_
  refine zu (.int .i64 a.us) (run_load1 (fun w => Try.isAgg3 w) ky (((h6.get 1 rfl).cell 1).trans rfl)) ?_
  refine zv (.pointer (some ⟨q4, 1, none⟩)) ?_
  refine zu (.int .i64 b.us) (run_load1 (fun w => Try.isAgg3 w) ky (((h6.get 0 rfl).cell 1).trans rfl)) ?_
  rcases q8 : decide (a.us = b.us) with _ | _
  · refine zu (.bool false) (run_eqZ (k := .i64) (a := a.us) (b := b.us) ky ky false q8) ?_
    refine zv (.bool false) ?_
    refine zv (.bool false) ?_
    refine wl_skip ky ?_
    refine wl_skip ky ?_
    refine wl_skip ky ?_
    refine wl_skip ky ?_
    refine wl_skip ky ?_
    refine zv (.bool false) ?_
    refine zv (.bool false) ?_
    refine wl_skip ky ?_
    refine wl_skip ky ?_
    refine wl_skip ky ?_
    refine wl_skip ky ?_
    refine wl_skip ky ?_
    refine zv (.bool false) ?_
    refine zv (.bool false) ?_
    refine wl_skip ky ?_
    refine wl_skip ky ?_
    refine wl_skip ky ?_
    refine wl_skip ky ?_
    refine wl_skip ky ?_
    refine zv (.bool false) ?_
    refine zv (.bool false) ?_
    refine wl_skip ky ?_
    refine wl_skip ky ?_
    refine wl_skip ky ?_
    refine wl_skip ky ?_
    refine wl_skip ky ?_
    refine zv (.bool false) ?_
    refine zv (.bool false) ?_
    refine wl_skip ky ?_
    refine wl_skip ky ?_
    refine wl_skip ky ?_
    refine wl_skip ky ?_
    refine wl_skip ky ?_
    refine zv (.bool false) ?_
    refine zv (.bool false) ?_
    refine wl_skip ky ?_
    refine wl_skip ky ?_
    refine wl_skip ky ?_
    refine wl_skip ky ?_
    refine wl_skip ky ?_
    refine zv (.bool false) ?_
    refine zv (.bool false) ?_
    refine wl_skip ky ?_
    refine wl_skip ky ?_
    refine wl_skip ky ?_
    refine wl_skip ky ?_
    refine wl_skip ky ?_
    refine zv (.bool false) ?_
    refine zv (.bool false) ?_
    refine wl_skip ky ?_
    refine wl_skip ky ?_
    refine wl_skip ky ?_
    refine wl_skip ky ?_
    refine wl_skip ky ?_
    refine zv (.bool false) ?_
    refine zv (.bool false) ?_
    refine wl_skip ky ?_
    refine wl_skip ky ?_
    refine wl_skip ky ?_
    refine wl_skip ky ?_
    refine wl_skip ky ?_
    refine zv (.bool false) ?_
    refine zv (.bool false) ?_
    refine wl_skip ky ?_
    refine wl_skip ky ?_
    refine wl_skip ky ?_
    refine wl_skip ky ?_
    refine wl_skip ky ?_
    refine zv (.bool false) ?_
    refine zv (.bool false) ?_
    refine wl_nil (then_at rfl ?_)
    refine wp_ret ?_
    repeat first | refine then_ret ?_ | refine block_ret ?_
    exact bodyPost_ret (v := .bool false) ky rfl ⟨by rw [(show sameC a b = false from by unfold sameC; rw [q7, q8]; first | done | rfl)], h6.old.old⟩
  refine zu (.bool true) (run_eqZ (k := .i64) (a := a.us) (b := b.us) ky ky true q8) ?_
  refine zv (.bool true) ?_
  refine zv (.bool true) ?_
  refine zv (.pointer (some ⟨q1, 2, none⟩)) ?_
  refine zu (.int .i64 a.dv) (run_load1 (fun w => Try.isAgg3 w) ky (((h6.get 1 rfl).cell 2).trans rfl)) ?_
  refine zv (.pointer (some ⟨q4, 2, none⟩)) ?_
  refine zu (.int .i64 b.dv) (run_load1 (fun w => Try.isAgg3 w) ky (((h6.get 0 rfl).cell 2).trans rfl)) ?_
  rcases q9 : decide (a.dv = b.dv) with _ | _
  · refine zu (.bool false) (run_eqZ (k := .i64) (a := a.dv) (b := b.dv) ky ky false q9) ?_
    refine zv (.bool false) ?_
    refine zv (.bool false) ?_
    refine wl_skip ky ?_
    refine wl_skip ky ?_
    refine wl_skip ky ?_
    refine wl_skip ky ?_
    refine wl_skip ky ?_
    refine zv (.bool false) ?_
    refine zv (.bool false) ?_
    refine wl_skip ky ?_
    refine wl_skip ky ?_
    refine wl_skip ky ?_
    refine wl_skip ky ?_
    refine wl_skip ky ?_
    refine zv (.bool false) ?_
    refine zv (.bool false) ?_
    refine wl_skip ky ?_
    refine wl_skip ky ?_
    refine wl_skip ky ?_
    refine wl_skip ky ?_
    refine wl_skip ky ?_
    refine zv (.bool false) ?_
    refine zv (.bool false) ?_
    refine wl_skip ky ?_
    refine wl_skip ky ?_
    refine wl_skip ky ?_
    refine wl_skip ky ?_
    refine wl_skip ky ?_
    refine zv (.bool false) ?_
    refine zv (.bool false) ?_
    refine wl_skip ky ?_
    refine wl_skip ky ?_
    refine wl_skip ky ?_
    refine wl_skip ky ?_
    refine wl_skip ky ?_
    refine zv (.bool false) ?_
    refine zv (.bool false) ?_
    refine wl_skip ky ?_
    refine wl_skip ky ?_
    refine wl_skip ky ?_
    refine wl_skip ky ?_
    refine wl_skip ky ?_
    refine zv (.bool false) ?_
    refine zv (.bool false) ?_
    refine wl_skip ky ?_
    refine wl_skip ky ?_
    refine wl_skip ky ?_
    refine wl_skip ky ?_
    refine wl_skip ky ?_
    refine zv (.bool false) ?_
    refine zv (.bool false) ?_
    refine wl_skip ky ?_
    refine wl_skip ky ?_
    refine wl_skip ky ?_
    refine wl_skip ky ?_
    refine wl_skip ky ?_
    refine zv (.bool false) ?_
    refine zv (.bool false) ?_
    refine wl_skip ky ?_
    refine wl_skip ky ?_
    refine wl_skip ky ?_
    refine wl_skip ky ?_
    refine wl_skip ky ?_
    refine zv (.bool false) ?_
    refine zv (.bool false) ?_
    refine wl_nil (then_at rfl ?_)
    refine wp_ret ?_
    repeat first | refine then_ret ?_ | refine block_ret ?_
    exact bodyPost_ret (v := .bool false) ky rfl ⟨by rw [(show sameC a b = false from by unfold sameC; rw [q7, q8, q9]; first | done | rfl)], h6.old.old⟩
  refine zu (.bool true) (run_eqZ (k := .i64) (a := a.dv) (b := b.dv) ky ky true q9) ?_
  refine zv (.bool true) ?_
  refine zv (.bool true) ?_
  refine zv (.pointer (some ⟨q1, 3, none⟩)) ?_
  refine zu (.agg #[.int .i64 a.li.u, .int .i64 a.li.v, .string a.li.ac, .slice o a.li.ds.length k, .string a.li.sg]) (run_load_part (q := q1) (off := 3) (d := #[.int .i64 a.li.u, .int .i64 a.li.v, .string a.li.ac, .slice o a.li.ds.length k, .string a.li.sg]) ky (h6.get 1 rfl) Try.underlying25 rfl ky (by intro j hj; match j, hj with | 0, _ => rfl | 1, _ => rfl | 2, _ => rfl | 3, _ => rfl | 4, _ => rfl)) ?_
  refine zv (.pointer (some ⟨q4, 3, none⟩)) ?_
  refine zu (.agg #[.int .i64 b.li.u, .int .i64 b.li.v, .string b.li.ac, .slice o2 b.li.ds.length k2, .string b.li.sg]) (run_load_part (q := q4) (off := 3) (d := #[.int .i64 b.li.u, .int .i64 b.li.v, .string b.li.ac, .slice o2 b.li.ds.length k2, .string b.li.sg]) ky (h6.get 0 rfl) Try.underlying25 rfl ky (by intro j hj; match j, hj with | 0, _ => rfl | 1, _ => rfl | 2, _ => rfl | 3, _ => rfl | 4, _ => rfl)) ?_
  rcases q10 : sameL a.li b.li with _ | _
  · refine wl_call (v := .bool false) h6 ky enter16 #[.agg #[.int .i64 a.li.u, .int .i64 a.li.v, .string a.li.ac, .slice o a.li.ds.length k, .string a.li.sg], .agg #[.int .i64 b.li.u, .int .i64 b.li.v, .string b.li.ac, .slice o2 b.li.ds.length k2, .string b.li.sg]] ky (((sml_any a.li b.li (hP.keep h6.old.old) (hP2.keep h6.old.old) hl1).mono fun _ _ hh => ⟨by rw [hh.1, q10], hh.2⟩)) ?_
    intro w11 h12
    refine zv (.bool false) ?_
    refine zv (.bool false) ?_
    refine wl_skip ky ?_
    refine wl_skip ky ?_
    refine wl_skip ky ?_
    refine wl_skip ky ?_
    refine wl_skip ky ?_
    refine zv (.bool false) ?_
    refine zv (.bool false) ?_
    refine wl_skip ky ?_
    refine wl_skip ky ?_
    refine wl_skip ky ?_
    refine wl_skip ky ?_
    refine wl_skip ky ?_
    refine zv (.bool false) ?_
    refine zv (.bool false) ?_
    refine wl_skip ky ?_
    refine wl_skip ky ?_
    refine wl_skip ky ?_
    refine wl_skip ky ?_
    refine wl_skip ky ?_
    refine zv (.bool false) ?_
    refine zv (.bool false) ?_
    refine wl_skip ky ?_
    refine wl_skip ky ?_
    refine wl_skip ky ?_
    refine wl_skip ky ?_
    refine wl_skip ky ?_
    refine zv (.bool false) ?_
    refine zv (.bool false) ?_
    refine wl_skip ky ?_
    refine wl_skip ky ?_
    refine wl_skip ky ?_
    refine wl_skip ky ?_
    refine wl_skip ky ?_
    refine zv (.bool false) ?_
    refine zv (.bool false) ?_
    refine wl_skip ky ?_
    refine wl_skip ky ?_
    refine wl_skip ky ?_
    refine wl_skip ky ?_
    refine wl_skip ky ?_
    refine zv (.bool false) ?_
    refine zv (.bool false) ?_
    refine wl_skip ky ?_
    refine wl_skip ky ?_
    refine wl_skip ky ?_
    refine wl_skip ky ?_
    refine wl_skip ky ?_
    refine zv (.bool false) ?_
    refine zv (.bool false) ?_
    refine wl_skip ky ?_
    refine wl_skip ky ?_
    refine wl_skip ky ?_
    refine wl_skip ky ?_
    refine wl_skip ky ?_
    refine zv (.bool false) ?_
    refine zv (.bool false) ?_
    refine wl_nil (then_at rfl ?_)
    refine wp_ret ?_
    repeat first | refine then_ret ?_ | refine block_ret ?_
    exact bodyPost_ret (v := .bool false) ky rfl ⟨by rw [(show sameC a b = false from by unfold sameC; rw [q7, q8, q9, q10]; first | done | rfl)], h12.old.old⟩
  refine wl_call (v := .bool true) h6 ky enter16 #[.agg #[.int .i64 a.li.u, .int .i64 a.li.v, .string a.li.ac, .slice o a.li.ds.length k, .string a.li.sg], .agg #[.int .i64 b.li.u, .int .i64 b.li.v, .string b.li.ac, .slice o2 b.li.ds.length k2, .string b.li.sg]] ky (((sml_any a.li b.li (hP.keep h6.old.old) (hP2.keep h6.old.old) hl1).mono fun _ _ hh => ⟨by rw [hh.1, q10], hh.2⟩)) ?_
  intro w13 h14
  refine zv (.bool true) ?_
  refine zv (.bool true) ?_
  refine zv (.pointer (some ⟨q1, 8, none⟩)) ?_
  refine zu (.agg #[.int .i64 a.bu.u, .int .i64 a.bu.d, .string a.bu.sg, .string a.bu.dh, .int .i64 a.bu.pi, .string a.bu.pr, .string a.bu.ps, .int .i64 a.bu.oi, .string a.bu.on]) (run_load_part (q := q1) (off := 8) (d := #[.int .i64 a.bu.u, .int .i64 a.bu.d, .string a.bu.sg, .string a.bu.dh, .int .i64 a.bu.pi, .string a.bu.pr, .string a.bu.ps, .int .i64 a.bu.oi, .string a.bu.on]) ky (h14.get 1 rfl) Try.underlying27 rfl ky (by intro j hj; match j, hj with | 0, _ => rfl | 1, _ => rfl | 2, _ => rfl | 3, _ => rfl | 4, _ => rfl | 5, _ => rfl | 6, _ => rfl | 7, _ => rfl | 8, _ => rfl)) ?_
  refine zv (.pointer (some ⟨q4, 8, none⟩)) ?_
  refine zu (.agg #[.int .i64 b.bu.u, .int .i64 b.bu.d, .string b.bu.sg, .string b.bu.dh, .int .i64 b.bu.pi, .string b.bu.pr, .string b.bu.ps, .int .i64 b.bu.oi, .string b.bu.on]) (run_load_part (q := q4) (off := 8) (d := #[.int .i64 b.bu.u, .int .i64 b.bu.d, .string b.bu.sg, .string b.bu.dh, .int .i64 b.bu.pi, .string b.bu.pr, .string b.bu.ps, .int .i64 b.bu.oi, .string b.bu.on]) ky (h14.get 0 rfl) Try.underlying27 rfl ky (by intro j hj; match j, hj with | 0, _ => rfl | 1, _ => rfl | 2, _ => rfl | 3, _ => rfl | 4, _ => rfl | 5, _ => rfl | 6, _ => rfl | 7, _ => rfl | 8, _ => rfl)) ?_
  rcases q15 : decide ((a.bu : Bu) = b.bu) with _ | _
  · refine zu (.bool false) (run_eqB (a := a.bu) (b := b.bu) ky ky false q15) ?_
    refine zv (.bool false) ?_
    refine zv (.bool false) ?_
    refine wl_skip ky ?_
    refine wl_skip ky ?_
    refine wl_skip ky ?_
    refine wl_skip ky ?_
    refine wl_skip ky ?_
    refine zv (.bool false) ?_
    refine zv (.bool false) ?_
    refine wl_skip ky ?_
    refine wl_skip ky ?_
    refine wl_skip ky ?_
    refine wl_skip ky ?_
    refine wl_skip ky ?_
    refine zv (.bool false) ?_
    refine zv (.bool false) ?_
    refine wl_skip ky ?_
    refine wl_skip ky ?_
    refine wl_skip ky ?_
    refine wl_skip ky ?_
    refine wl_skip ky ?_
    refine zv (.bool false) ?_
    refine zv (.bool false) ?_
    refine wl_skip ky ?_
    refine wl_skip ky ?_
    refine wl_skip ky ?_
    refine wl_skip ky ?_
    refine wl_skip ky ?_
    refine zv (.bool false) ?_
    refine zv (.bool false) ?_
    refine wl_skip ky ?_
    refine wl_skip ky ?_
    refine wl_skip ky ?_
    refine wl_skip ky ?_
    refine wl_skip ky ?_
    refine zv (.bool false) ?_
    refine zv (.bool false) ?_
    refine wl_skip ky ?_
    refine wl_skip ky ?_
    refine wl_skip ky ?_
    refine wl_skip ky ?_
    refine wl_skip ky ?_
    refine zv (.bool false) ?_
    refine zv (.bool false) ?_
    refine wl_skip ky ?_
    refine wl_skip ky ?_
    refine wl_skip ky ?_
    refine wl_skip ky ?_
    refine wl_skip ky ?_
    refine zv (.bool false) ?_
    refine zv (.bool false) ?_
    refine wl_nil (then_at rfl ?_)
    refine wp_ret ?_
    repeat first | refine then_ret ?_ | refine block_ret ?_
    exact bodyPost_ret (v := .bool false) ky rfl ⟨by rw [(show sameC a b = false from by unfold sameC; rw [q7, q8, q9, q10, q15]; first | done | rfl)], h14.old.old⟩
  refine zu (.bool true) (run_eqB (a := a.bu) (b := b.bu) ky ky true q15) ?_
  refine zv (.bool true) ?_
  refine zv (.bool true) ?_
  refine zv (.pointer (some ⟨q1, 17, none⟩)) ?_
  refine zu (.slice p a.on.length m) (run_load1 (fun w => Try.isAgg28 w) ky (((h14.get 1 rfl).cell 17).trans rfl)) ?_
  refine zv (.pointer (some ⟨q4, 17, none⟩)) ?_
  refine zu (.slice p2 b.on.length m2) (run_load1 (fun w => Try.isAgg28 w) ky (((h14.get 0 rfl).cell 17).trans rfl)) ?_
  rcases q16 : decide (a.on = b.on) with _ | _
  · refine wl_call (v := .bool false) h14 ky enter41 #[.slice p a.on.length m, .slice p2 b.on.length m2] ky (((eqs_any a.on b.on (hQ.keep h14.old.old) (hQ2.keep h14.old.old) hl2).mono fun _ _ hh => ⟨by rw [hh.1, q16], hh.2⟩)) ?_
    intro w17 h18
    refine zv (.bool false) ?_
    refine zv (.bool false) ?_
    refine wl_skip ky ?_
    refine wl_skip ky ?_
    refine wl_skip ky ?_
    refine wl_skip ky ?_
    refine wl_skip ky ?_
    refine zv (.bool false) ?_
    refine zv (.bool false) ?_
    refine wl_skip ky ?_
    refine wl_skip ky ?_
    refine wl_skip ky ?_
    refine wl_skip ky ?_
    refine wl_skip ky ?_
    refine zv (.bool false) ?_
    refine zv (.bool false) ?_
    refine wl_skip ky ?_
    refine wl_skip ky ?_
    refine wl_skip ky ?_
    refine wl_skip ky ?_
    refine wl_skip ky ?_
    refine zv (.bool false) ?_
    refine zv (.bool false) ?_
    refine wl_skip ky ?_
    refine wl_skip ky ?_
    refine wl_skip ky ?_
    refine wl_skip ky ?_
    refine wl_skip ky ?_
    refine zv (.bool false) ?_
    refine zv (.bool false) ?_
    refine wl_skip ky ?_
    refine wl_skip ky ?_
    refine wl_skip ky ?_
    refine wl_skip ky ?_
    refine wl_skip ky ?_
    refine zv (.bool false) ?_
    refine zv (.bool false) ?_
    refine wl_skip ky ?_
    refine wl_skip ky ?_
    refine wl_skip ky ?_
    refine wl_skip ky ?_
    refine wl_skip ky ?_
    refine zv (.bool false) ?_
    refine zv (.bool false) ?_
    refine wl_nil (then_at rfl ?_)
    refine wp_ret ?_
    repeat first | refine then_ret ?_ | refine block_ret ?_
    exact bodyPost_ret (v := .bool false) ky rfl ⟨by rw [(show sameC a b = false from by unfold sameC; rw [q7, q8, q9, q10, q15, q16]; first | done | rfl)], h18.old.old⟩
  refine wl_call (v := .bool true) h14 ky enter41 #[.slice p a.on.length m, .slice p2 b.on.length m2] ky (((eqs_any a.on b.on (hQ.keep h14.old.old) (hQ2.keep h14.old.old) hl2).mono fun _ _ hh => ⟨by rw [hh.1, q16], hh.2⟩)) ?_
  intro w19 h20
  refine zv (.bool true) ?_
  refine zv (.bool true) ?_
  refine zv (.pointer (some ⟨q1, 18, none⟩)) ?_
  refine zu (.int .i64 a.tt) (run_load1 (fun w => Try.isAgg3 w) ky (((h20.get 1 rfl).cell 18).trans rfl)) ?_
  refine zv (.pointer (some ⟨q4, 18, none⟩)) ?_
  refine zu (.int .i64 b.tt) (run_load1 (fun w => Try.isAgg3 w) ky (((h20.get 0 rfl).cell 18).trans rfl)) ?_
  rcases q21 : decide (a.tt = b.tt) with _ | _
  · refine zu (.bool false) (run_eqZ (k := .i64) (a := a.tt) (b := b.tt) ky ky false q21) ?_
    refine zv (.bool false) ?_
    refine zv (.bool false) ?_
    refine wl_skip ky ?_
    refine wl_skip ky ?_
    refine wl_skip ky ?_
    refine wl_skip ky ?_
    refine wl_skip ky ?_
    refine zv (.bool false) ?_
    refine zv (.bool false) ?_
    refine wl_skip ky ?_
    refine wl_skip ky ?_
    refine wl_skip ky ?_
    refine wl_skip ky ?_
    refine wl_skip ky ?_
    refine zv (.bool false) ?_
    refine zv (.bool false) ?_
    refine wl_skip ky ?_
    refine wl_skip ky ?_
    refine wl_skip ky ?_
    refine wl_skip ky ?_
    refine wl_skip ky ?_
    refine zv (.bool false) ?_
    refine zv (.bool false) ?_
    refine wl_skip ky ?_
    refine wl_skip ky ?_
    refine wl_skip ky ?_
    refine wl_skip ky ?_
    refine wl_skip ky ?_
    refine zv (.bool false) ?_
    refine zv (.bool false) ?_
    refine wl_skip ky ?_
    refine wl_skip ky ?_
    refine wl_skip ky ?_
    refine wl_skip ky ?_
    refine wl_skip ky ?_
    refine zv (.bool false) ?_
    refine zv (.bool false) ?_
    refine wl_nil (then_at rfl ?_)
    refine wp_ret ?_
    repeat first | refine then_ret ?_ | refine block_ret ?_
    exact bodyPost_ret (v := .bool false) ky rfl ⟨by rw [(show sameC a b = false from by unfold sameC; rw [q7, q8, q9, q10, q15, q16, q21]; first | done | rfl)], h20.old.old⟩
  refine zu (.bool true) (run_eqZ (k := .i64) (a := a.tt) (b := b.tt) ky ky true q21) ?_
  refine zv (.bool true) ?_
  refine zv (.bool true) ?_
  refine zv (.pointer (some ⟨q1, 19, none⟩)) ?_
  refine zu (iN .u64 a.no) (run_load1 (fun w => Try.isAgg22 w) ky (((h20.get 1 rfl).cell 19).trans rfl)) ?_
  refine zv (.pointer (some ⟨q4, 19, none⟩)) ?_
  refine zu (iN .u64 b.no) (run_load1 (fun w => Try.isAgg22 w) ky (((h20.get 0 rfl).cell 19).trans rfl)) ?_
  rcases q22 : decide (a.no = b.no) with _ | _
  · refine zu (.bool false) (run_eqi (k := .u64) (a := a.no) (b := b.no) ky ky false q22) ?_
    refine zv (.bool false) ?_
    refine zv (.bool false) ?_
    refine wl_skip ky ?_
    refine wl_skip ky ?_
    refine wl_skip ky ?_
    refine wl_skip ky ?_
    refine wl_skip ky ?_
    refine zv (.bool false) ?_
    refine zv (.bool false) ?_
    refine wl_skip ky ?_
    refine wl_skip ky ?_
    refine wl_skip ky ?_
    refine wl_skip ky ?_
    refine wl_skip ky ?_
    refine zv (.bool false) ?_
    refine zv (.bool false) ?_
    refine wl_skip ky ?_
    refine wl_skip ky ?_
    refine wl_skip ky ?_
    refine wl_skip ky ?_
    refine wl_skip ky ?_
    refine zv (.bool false) ?_
    refine zv (.bool false) ?_
    refine wl_skip ky ?_
    refine wl_skip ky ?_
    refine wl_skip ky ?_
    refine wl_skip ky ?_
    refine wl_skip ky ?_
    refine zv (.bool false) ?_
    refine zv (.bool false) ?_
    refine wl_nil (then_at rfl ?_)
    refine wp_ret ?_
    repeat first | refine then_ret ?_ | refine block_ret ?_
    exact bodyPost_ret (v := .bool false) ky rfl ⟨by rw [(show sameC a b = false from by unfold sameC; rw [q7, q8, q9, q10, q15, q16, q21, q22]; first | done | rfl)], h20.old.old⟩
  refine zu (.bool true) (run_eqi (k := .u64) (a := a.no) (b := b.no) ky ky true q22) ?_
  refine zv (.bool true) ?_
  refine zv (.bool true) ?_
  refine zv (.pointer (some ⟨q1, 20, none⟩)) ?_
  refine zu (iN .u64 a.af) (run_load1 (fun w => Try.isAgg22 w) ky (((h20.get 1 rfl).cell 20).trans rfl)) ?_
  refine zv (.pointer (some ⟨q4, 20, none⟩)) ?_
  refine zu (iN .u64 b.af) (run_load1 (fun w => Try.isAgg22 w) ky (((h20.get 0 rfl).cell 20).trans rfl)) ?_
  rcases q23 : decide (a.af = b.af) with _ | _
  · refine zu (.bool false) (run_eqi (k := .u64) (a := a.af) (b := b.af) ky ky false q23) ?_
    refine zv (.bool false) ?_
    refine zv (.bool false) ?_
    refine wl_skip ky ?_
    refine wl_skip ky ?_
    refine wl_skip ky ?_
    refine wl_skip ky ?_
    refine wl_skip ky ?_
    refine zv (.bool false) ?_
    refine zv (.bool false) ?_
    refine wl_skip ky ?_
    refine wl_skip ky ?_
    refine wl_skip ky ?_
    refine wl_skip ky ?_
    refine wl_skip ky ?_
    refine zv (.bool false) ?_
    refine zv (.bool false) ?_
    refine wl_skip ky ?_
    refine wl_skip ky ?_
    refine wl_skip ky ?_
    refine wl_skip ky ?_
    refine wl_skip ky ?_
    refine zv (.bool false) ?_
    refine zv (.bool false) ?_
    refine wl_nil (then_at rfl ?_)
    refine wp_ret ?_
    repeat first | refine then_ret ?_ | refine block_ret ?_
    exact bodyPost_ret (v := .bool false) ky rfl ⟨by rw [(show sameC a b = false from by unfold sameC; rw [q7, q8, q9, q10, q15, q16, q21, q22, q23]; first | done | rfl)], h20.old.old⟩
  refine zu (.bool true) (run_eqi (k := .u64) (a := a.af) (b := b.af) ky ky true q23) ?_
  refine zv (.bool true) ?_
  refine zv (.bool true) ?_
  refine zv (.pointer (some ⟨q1, 21, none⟩)) ?_
  refine zu (.string a.nm) (run_load1 (fun w => Try.isAgg9 w) ky (((h20.get 1 rfl).cell 21).trans rfl)) ?_
  refine zv (.pointer (some ⟨q4, 21, none⟩)) ?_
  refine zu (.string b.nm) (run_load1 (fun w => Try.isAgg9 w) ky (((h20.get 0 rfl).cell 21).trans rfl)) ?_
  rcases q24 : decide (a.nm = b.nm) with _ | _
  · refine zu (.bool false) (run_eqs (s := a.nm) (t := b.nm) ky ky false q24) ?_
    refine zv (.bool false) ?_
    refine zv (.bool false) ?_
    refine wl_skip ky ?_
    refine wl_skip ky ?_
    refine wl_skip ky ?_
    refine wl_skip ky ?_
    refine wl_skip ky ?_
    refine zv (.bool false) ?_
    refine zv (.bool false) ?_
    refine wl_skip ky ?_
    refine wl_skip ky ?_
    refine wl_skip ky ?_
    refine wl_skip ky ?_
    refine wl_skip ky ?_
    refine zv (.bool false) ?_
    refine zv (.bool false) ?_
    refine wl_nil (then_at rfl ?_)
    refine wp_ret ?_
    repeat first | refine then_ret ?_ | refine block_ret ?_
    exact bodyPost_ret (v := .bool false) ky rfl ⟨by rw [(show sameC a b = false from by unfold sameC; rw [q7, q8, q9, q10, q15, q16, q21, q22, q23, q24]; first | done | rfl)], h20.old.old⟩
  refine zu (.bool true) (run_eqs (s := a.nm) (t := b.nm) ky ky true q24) ?_
  refine zv (.bool true) ?_
  refine zv (.bool true) ?_
  refine zv (.pointer (some ⟨q1, 22, none⟩)) ?_
  refine zu (.int .i64 a.ix) (run_load1 (fun w => Try.isAgg3 w) ky (((h20.get 1 rfl).cell 22).trans rfl)) ?_
  refine zv (.pointer (some ⟨q4, 22, none⟩)) ?_
  refine zu (.int .i64 b.ix) (run_load1 (fun w => Try.isAgg3 w) ky (((h20.get 0 rfl).cell 22).trans rfl)) ?_
  rcases q25 : decide (a.ix = b.ix) with _ | _
  · refine zu (.bool false) (run_eqZ (k := .i64) (a := a.ix) (b := b.ix) ky ky false q25) ?_
    refine zv (.bool false) ?_
    refine zv (.bool false) ?_
    refine wl_skip ky ?_
    refine wl_skip ky ?_
    refine wl_skip ky ?_
    refine wl_skip ky ?_
    refine wl_skip ky ?_
    refine zv (.bool false) ?_
    refine zv (.bool false) ?_
    refine wl_nil (then_at rfl ?_)
    refine wp_ret ?_
    repeat first | refine then_ret ?_ | refine block_ret ?_
    exact bodyPost_ret (v := .bool false) ky rfl ⟨by rw [(show sameC a b = false from by unfold sameC; rw [q7, q8, q9, q10, q15, q16, q21, q22, q23, q24, q25]; first | done | rfl)], h20.old.old⟩
  refine zu (.bool true) (run_eqZ (k := .i64) (a := a.ix) (b := b.ix) ky ky true q25) ?_
  refine zv (.bool true) ?_
  refine zv (.bool true) ?_
  refine zv (.pointer (some ⟨q1, 23, none⟩)) ?_
  refine zu (.string a.bt) (run_load1 (fun w => Try.isAgg9 w) ky (((h20.get 1 rfl).cell 23).trans rfl)) ?_
  refine zv (.pointer (some ⟨q4, 23, none⟩)) ?_
  refine zu (.string b.bt) (run_load1 (fun w => Try.isAgg9 w) ky (((h20.get 0 rfl).cell 23).trans rfl)) ?_
  rcases q26 : decide (a.bt = b.bt) with _ | _
  · refine zu (.bool false) (run_eqs (s := a.bt) (t := b.bt) ky ky false q26) ?_
    refine zv (.bool false) ?_
    refine zv (.bool false) ?_
    refine wl_nil (then_at rfl ?_)
    refine wp_ret ?_
    repeat first | refine then_ret ?_ | refine block_ret ?_
    exact bodyPost_ret (v := .bool false) ky rfl ⟨by rw [(show sameC a b = false from by unfold sameC; rw [q7, q8, q9, q10, q15, q16, q21, q22, q23, q24, q25, q26]; first | done | rfl)], h20.old.old⟩
  refine zu (.bool true) (run_eqs (s := a.bt) (t := b.bt) ky ky true q26) ?_
  refine zv (.bool true) ?_
  refine zv (.bool true) ?_
  refine wl_nil (then_at rfl ?_)
  refine wp_ret ?_
  repeat first | refine then_ret ?_ | refine block_ret ?_
  exact bodyPost_ret (v := .bool true) ky rfl ⟨by rw [(show sameC a b = true from by unfold sameC; rw [q7, q8, q9, q10, q15, q16, q21, q22, q23, q24, q25, q26]; first | done | rfl)], h20.old.old⟩
/-- may a call be? -/
def mayC (c : Ca) : Bool := bif decide (c.kd = 2) then ((wi c.dv 0 1 && wi c.us 0 2) && sameC c ⟨c.kd, c.us, c.dv, ⟨0, 0, { data := #[] }, [], { data := #[] }⟩, ⟨0, 0, { data := #[] }, { data := #[] }, 0, { data := #[] }, { data := #[] }, 0, { data := #[] }⟩, [], 0, 0, 0, { data := #[] }, 0, { data := #[] }⟩) else bif decide (c.kd = 1) then (wi c.us 0 2 && sameC c ⟨c.kd, c.us, 0, ⟨0, 0, { data := #[] }, [], { data := #[] }⟩, ⟨0, 0, { data := #[] }, { data := #[] }, 0, { data := #[] }, { data := #[] }, 0, { data := #[] }⟩, [], 0, 0, 0, { data := #[] }, 0, { data := #[] }⟩) else bif decide (c.kd = 3) then (mayL c.li && sameC c ⟨c.kd, 0, 0, c.li, ⟨0, 0, { data := #[] }, { data := #[] }, 0, { data := #[] }, { data := #[] }, 0, { data := #[] }⟩, [], 0, 0, 0, { data := #[] }, 0, { data := #[] }⟩) else bif decide (c.kd = 4) then ((!decide ((encA c.bu).1 = { data := #[] }) && decide (c.bu.oi = 0) && wi c.ix 1 1073741824 && decide (c.on.length ≤ 20) && c.on.all kk) && sameC c ⟨c.kd, 0, 0, ⟨0, 0, { data := #[] }, [], { data := #[] }⟩, c.bu, c.on, 0, 0, 0, { data := #[] }, c.ix, { data := #[] }⟩) else bif decide (c.kd = 5) then ((isD c.tt && wn c.no 1 1099511627776 && wi ((c.bt.size : Nat) : Int) 1 4096) && sameC c ⟨c.kd, 0, 0, ⟨0, 0, { data := #[] }, [], { data := #[] }⟩, ⟨0, 0, { data := #[] }, { data := #[] }, 0, { data := #[] }, { data := #[] }, 0, { data := #[] }⟩, [], c.tt, c.no, 0, { data := #[] }, 0, c.bt⟩) else bif (decide (c.kd = 6) || decide (c.kd = 7)) then (wn c.af 0 1099511627776 && sameC c ⟨c.kd, 0, 0, ⟨0, 0, { data := #[] }, [], { data := #[] }⟩, ⟨0, 0, { data := #[] }, { data := #[] }, 0, { data := #[] }, { data := #[] }, 0, { data := #[] }⟩, [], 0, 0, c.af, { data := #[] }, 0, { data := #[] }⟩) else bif decide (c.kd = 8) then ((wi ((c.bt.size : Nat) : Int) 1 4096 && wi ((c.nm.size : Nat) : Int) 1 40 && wi c.ix 0 63) && sameC c ⟨c.kd, 0, 0, ⟨0, 0, { data := #[] }, [], { data := #[] }⟩, ⟨0, 0, { data := #[] }, { data := #[] }, 0, { data := #[] }, { data := #[] }, 0, { data := #[] }⟩, [], 0, 0, 0, c.nm, c.ix, c.bt⟩) else bif decide (c.kd = 9) then ((wi ((c.nm.size : Nat) : Int) 1 40 && wi c.ix 0 63) && sameC c ⟨c.kd, 0, 0, ⟨0, 0, { data := #[] }, [], { data := #[] }⟩, ⟨0, 0, { data := #[] }, { data := #[] }, 0, { data := #[] }, { data := #[] }, 0, { data := #[] }⟩, [], 0, 0, 0, c.nm, c.ix, { data := #[] }⟩) else false
set_option maxRecDepth 100000 in
set_option maxHeartbeats 8000000 in
theorem mayC_any {w : World} (c : Ca) {o p : Option Addr} {k m : Nat} (hP : At w o (mcl c.li.ds)) (hQ : At w p (scl c.on)) (hl1 : c.li.ds.length ≤ 1000000) (hl2 : c.on.length ≤ 1000000) :
    Calls Try.prog 33 #[.agg (caC c (.slice o c.li.ds.length k) (.slice p c.on.length m))] w fun e w' => e = .returned (.bool (mayC c)) ∧ Below w.heap.size w w' := by
  have H0 := HA.start w
  go_enter Try.func33, Try.ntmps33
  refine wp_seq (wl_region ?_)
  refine wl_make (c := caC c (.slice o c.li.ds.length k) (.slice p c.on.length m)) H0 30 ky ky ?_
  intro q1 w2 (h3 : HA (bs w) [(q1, 30, caC c (.slice o c.li.ds.length k) (.slice p c.on.length m))] w2)
  refine zv (.bool false) ?_
  refine wl_nil (then_at rfl (wp_seq (wl_region ?_)))
  refine zv (.pointer (some ⟨q1, 0, none⟩)) ?_
  refine zu (.int .i64 c.kd) (run_load1 (fun w => Try.isAgg3 w) ky (((h3.get 0 rfl).cell 0).trans rfl)) ?_
  refine zv (.agg #[.int .i64 c.kd, iN .i64 0, iN .i64 0, iN .i64 0, iN .i64 0, .string ({ data := #[] }), .slice none 0 0, .string ({ data := #[] }), iN .i64 0, iN .i64 0, .string ({ data := #[] }), .string ({ data := #[] }), iN .i64 0, .string ({ data := #[] }), .string ({ data := #[] }), iN .i64 0, .string ({ data := #[] }), .slice none 0 0, iN .i64 0, iN .u64 0, iN .u64 0, .string ({ data := #[] }), iN .i64 0, .string ({ data := #[] })]) ?_
  refine wl_make (c := #[iN .i64 0, iN .i64 0, iN .i64 0, iN .i64 0, iN .i64 0, .string ({ data := #[] }), .slice none 0 0, .string ({ data := #[] }), iN .i64 0, iN .i64 0, .string ({ data := #[] }), .string ({ data := #[] }), iN .i64 0, .string ({ data := #[] }), .string ({ data := #[] }), iN .i64 0, .string ({ data := #[] }), .slice none 0 0, iN .i64 0, iN .u64 0, iN .u64 0, .string ({ data := #[] }), iN .i64 0, .string ({ data := #[] })]) h3 30 ky ky ?_
  intro q4 w5 (h6 : HA (bs w) [(q4, 30, #[iN .i64 0, iN .i64 0, iN .i64 0, iN .i64 0, iN .i64 0, .string ({ data := #[] }), .slice none 0 0, .string ({ data := #[] }), iN .i64 0, iN .i64 0, .string ({ data := #[] }), .string ({ data := #[] }), iN .i64 0, .string ({ data := #[] }), .string ({ data := #[] }), iN .i64 0, .string ({ data := #[] }), .slice none 0 0, iN .i64 0, iN .u64 0, iN .u64 0, .string ({ data := #[] }), iN .i64 0, .string ({ data := #[] })]), (q1, 30, caC c (.slice o c.li.ds.length k) (.slice p c.on.length m))] w5)
  refine wl_fill (c' := #[.int .i64 c.kd, iN .i64 0, iN .i64 0, iN .i64 0, iN .i64 0, .string ({ data := #[] }), .slice none 0 0, .string ({ data := #[] }), iN .i64 0, iN .i64 0, .string ({ data := #[] }), .string ({ data := #[] }), iN .i64 0, .string ({ data := #[] }), .string ({ data := #[] }), iN .i64 0, .string ({ data := #[] }), .slice none 0 0, iN .i64 0, iN .u64 0, iN .u64 0, .string ({ data := #[] }), iN .i64 0, .string ({ data := #[] })]) h6 0 rfl ky ky ky rfl ky ky ?_
  intro w7 (h8 : HA (bs w) [(q4, 30, #[.int .i64 c.kd, iN .i64 0, iN .i64 0, iN .i64 0, iN .i64 0, .string ({ data := #[] }), .slice none 0 0, .string ({ data := #[] }), iN .i64 0, iN .i64 0, .string ({ data := #[] }), .string ({ data := #[] }), iN .i64 0, .string ({ data := #[] }), .string ({ data := #[] }), iN .i64 0, .string ({ data := #[] }), .slice none 0 0, iN .i64 0, iN .u64 0, iN .u64 0, .string ({ data := #[] }), iN .i64 0, .string ({ data := #[] })]), (q1, 30, caC c (.slice o c.li.ds.length k) (.slice p c.on.length m))] w7)
  refine zv (.bool true) ?_
  refine wl_nil (then_at rfl (wp_seq ?_))
  refine wp_meet (fun AQ w' => ∃ (hd : Ca) (okb : Bool) (o2 : Option Addr) (k2 : Nat) (p2 : Option Addr) (m2 : Nat) (u9 : Nat → Value), AQ = ⟨(.agg (caC c (.slice o c.li.ds.length k) (.slice p c.on.length m)) :: pt q1 :: u9 2 :: pt q4 :: .bool okb :: pt q1 :: .int .i64 c.kd :: .agg #[.int .i64 c.kd, iN .i64 0, iN .i64 0, iN .i64 0, iN .i64 0, .string ({ data := #[] }), .slice none 0 0, .string ({ data := #[] }), iN .i64 0, iN .i64 0, .string ({ data := #[] }), .string ({ data := #[] }), iN .i64 0, .string ({ data := #[] }), .string ({ data := #[] }), iN .i64 0, .string ({ data := #[] }), .slice none 0 0, iN .i64 0, iN .u64 0, iN .u64 0, .string ({ data := #[] }), iN .i64 0, .string ({ data := #[] })] :: u9 8 :: u9 9 :: u9 10 :: u9 11 :: u9 12 :: u9 13 :: u9 14 :: u9 15 :: u9 16 :: u9 17 :: u9 18 :: u9 19 :: u9 20 :: u9 21 :: u9 22 :: u9 23 :: u9 24 :: u9 25 :: u9 26 :: u9 27 :: u9 28 :: u9 29 :: u9 30 :: u9 31 :: u9 32 :: u9 33 :: u9 34 :: u9 35 :: u9 36 :: u9 37 :: u9 38 :: u9 39 :: u9 40 :: u9 41 :: u9 42 :: u9 43 :: u9 44 :: u9 45 :: u9 46 :: u9 47 :: u9 48 :: u9 49 :: u9 50 :: u9 51 :: u9 52 :: u9 53 :: u9 54 :: u9 55 :: u9 56 :: u9 57 :: u9 58 :: u9 59 :: u9 60 :: u9 61 :: u9 62 :: u9 63 :: u9 64 :: u9 65 :: u9 66 :: u9 67 :: u9 68 :: u9 69 :: u9 70 :: u9 71 :: u9 72 :: u9 73 :: u9 74 :: u9 75 :: u9 76 :: u9 77 :: u9 78 :: u9 79 :: u9 80 :: u9 81 :: u9 82 :: u9 83 :: u9 84 :: u9 85 :: u9 86 :: u9 87 :: u9 88 :: u9 89 :: u9 90 :: u9 91 :: u9 92 :: u9 93 :: u9 94 :: u9 95 :: u9 96 :: u9 97 :: u9 98 :: u9 99 :: u9 100 :: u9 101 :: u9 102 :: u9 103 :: u9 104 :: u9 105 :: u9 106 :: u9 107 :: u9 108 :: u9 109 :: u9 110 :: u9 111 :: u9 112 :: u9 113 :: u9 114 :: u9 115 :: u9 116 :: u9 117 :: u9 118 :: u9 119 :: u9 120 :: u9 121 :: u9 122 :: u9 123 :: u9 124 :: u9 125 :: u9 126 :: u9 127 :: u9 128 :: u9 129 :: u9 130 :: u9 131 :: u9 132 :: u9 133 :: u9 134 :: u9 135 :: u9 136 :: u9 137 :: List.replicate 6 un).toArray, []⟩ ∧ mayC c = (okb && sameC c hd) ∧ At w o2 (mcl hd.li.ds) ∧ At w p2 (scl hd.on) ∧ HA (bs w) [(q4, 30, caC hd (.slice o2 hd.li.ds.length k2) (.slice p2 hd.on.length m2)), (q1, 30, caC c (.slice o c.li.ds.length k) (.slice p c.on.length m))] w') ?_ ?_
  · refine wp_seq ?_
    refine wl_region ?_
    refine zv (.pointer (some ⟨q1, 0, none⟩)) ?_
    refine zu (.int .i64 c.kd) (run_load1 (fun w => Try.isAgg3 w) ky (((h8.get 1 rfl).cell 0).trans rfl)) ?_
    refine wl_nil (then_at rfl (wp_block (wp_seq (wp_block (wp_seq (wp_block (wp_seq (wp_block (wp_seq (wp_block (wp_seq (wp_block (wp_seq (wp_block (wp_seq (wp_block (wp_seq (wp_block (wp_seq (wp_block (wp_seq (wp_seq (wp_seq (wl_region ?_))))))))))))))))))))))))
    rcases q10 : decide (c.kd = 2) with _ | _; rotate_left
    · refine zu (.bool true) (run_eqZ (k := .i64) (a := c.kd) (b := 2) ky ky true q10) ?_
      refine zv (.bool true) ?_
      refine wl_nil (then_at rfl ?_)
      refine wp_cond_true ky ?_
      refine wp_exit ?_
      repeat first | refine then_exit ?_ | refine block_exit ?_ | refine block_exit_ne (by decide) ?_
      refine then_at rfl (wp_seq (wl_region ?_))
      refine zv (.pointer (some ⟨q1, 2, none⟩)) ?_
      refine zu (.int .i64 c.dv) (run_load1 (fun w => Try.isAgg3 w) ky (((h8.get 1 rfl).cell 2).trans rfl)) ?_
      refine zv (.pointer (some ⟨q4, 2, none⟩)) ?_
      refine wl_putv (v := .int .i64 c.dv) h8 0 rfl 2 (by show 2 < 24; decide) ky (fun w => Try.sizeOf3 w) ky ky ky ?_
      intro w11 (h12 : HA (bs w) [(q4, 30, #[.int .i64 c.kd, iN .i64 0, .int .i64 c.dv, iN .i64 0, iN .i64 0, .string ({ data := #[] }), .slice none 0 0, .string ({ data := #[] }), iN .i64 0, iN .i64 0, .string ({ data := #[] }), .string ({ data := #[] }), iN .i64 0, .string ({ data := #[] }), .string ({ data := #[] }), iN .i64 0, .string ({ data := #[] }), .slice none 0 0, iN .i64 0, iN .u64 0, iN .u64 0, .string ({ data := #[] }), iN .i64 0, .string ({ data := #[] })]), (q1, 30, caC c (.slice o c.li.ds.length k) (.slice p c.on.length m))] w11)
      refine wl_nil (then_at rfl (wl_region ?_))
      refine zv (.pointer (some ⟨q1, 2, none⟩)) ?_
      refine zu (.int .i64 c.dv) (run_load1 (fun w => Try.isAgg3 w) ky (((h12.get 1 rfl).cell 2).trans rfl)) ?_
      rcases q13 : wi c.dv 0 1 with _ | _
      · refine wl_call (v := .bool false) h12 ky enter42 #[.int .i64 c.dv, iN .i64 0, iN .i64 1] ky (((wi_any c.dv 0 1).mono fun _ _ hh => ⟨by rw [hh.1, q13], hh.2⟩)) ?_
        intro w14 h15
        refine zv (.bool false) ?_
        refine wl_nil (block_normal (then_at rfl (wp_seq (wp_seq (wl_region ?_)))))
        refine zv (.pointer (some ⟨q1, 1, none⟩)) ?_
        refine zu (.int .i64 c.us) (run_load1 (fun w => Try.isAgg3 w) ky (((h15.get 1 rfl).cell 1).trans rfl)) ?_
        refine zv (.pointer (some ⟨q4, 1, none⟩)) ?_
        refine wl_putv (v := .int .i64 c.us) h15 0 rfl 1 (by show 1 < 24; decide) ky (fun w => Try.sizeOf3 w) ky ky ky ?_
        intro w16 (h17 : HA (bs w) [(q4, 30, #[.int .i64 c.kd, .int .i64 c.us, .int .i64 c.dv, iN .i64 0, iN .i64 0, .string ({ data := #[] }), .slice none 0 0, .string ({ data := #[] }), iN .i64 0, iN .i64 0, .string ({ data := #[] }), .string ({ data := #[] }), iN .i64 0, .string ({ data := #[] }), .string ({ data := #[] }), iN .i64 0, .string ({ data := #[] }), .slice none 0 0, iN .i64 0, iN .u64 0, iN .u64 0, .string ({ data := #[] }), iN .i64 0, .string ({ data := #[] })]), (q1, 30, caC c (.slice o c.li.ds.length k) (.slice p c.on.length m))] w16)
        refine wl_nil (then_at rfl (wl_region ?_))
        refine zv (.bool false) ?_
        refine zv (.bool false) ?_
        refine wl_skip ky ?_
        refine wl_skip ky ?_
        refine wl_skip ky ?_
        refine zv (.bool false) ?_
        refine zv (.bool false) ?_
        refine wl_nil (then_at rfl ?_)
        refine wp_exit ?_
        repeat first | refine then_exit ?_ | refine block_exit ?_ | refine block_exit_ne (by decide) ?_
        exact then_I ⟨⟨c.kd, c.us, c.dv, ⟨0, 0, { data := #[] }, [], { data := #[] }⟩, ⟨0, 0, { data := #[] }, { data := #[] }, 0, { data := #[] }, { data := #[] }, 0, { data := #[] }⟩, [], 0, 0, 0, { data := #[] }, 0, { data := #[] }⟩, false, none, 0, none, 0, fun ii => (([(2, .bool false), (8, .pointer (some ⟨q1, 0, none⟩)), (9, .int .i64 c.kd), (10, .bool true), (11, .bool true), (27, .pointer (some ⟨q1, 2, none⟩)), (28, .int .i64 c.dv), (29, .pointer (some ⟨q4, 2, none⟩)), (30, .pointer (some ⟨q1, 2, none⟩)), (31, .int .i64 c.dv), (32, .bool false), (33, .pointer (some ⟨q1, 1, none⟩)), (34, .int .i64 c.us), (35, .pointer (some ⟨q4, 1, none⟩)), (36, .bool false), (37, .bool false), (41, .bool false)] : List (Nat × Value)).find? (·.1 == ii)).elim undef (·.2), by kernel_rfl, (by unfold mayC; rw [q10, q13]; rfl), (At.nil _), (At.nil _), h17⟩
      refine wl_call (v := .bool true) h12 ky enter42 #[.int .i64 c.dv, iN .i64 0, iN .i64 1] ky (((wi_any c.dv 0 1).mono fun _ _ hh => ⟨by rw [hh.1, q13], hh.2⟩)) ?_
      intro w18 h19
      refine zv (.bool true) ?_
      refine wl_nil (block_normal (then_at rfl (wp_seq (wp_seq (wl_region ?_)))))
      refine zv (.pointer (some ⟨q1, 1, none⟩)) ?_
      refine zu (.int .i64 c.us) (run_load1 (fun w => Try.isAgg3 w) ky (((h19.get 1 rfl).cell 1).trans rfl)) ?_
      refine zv (.pointer (some ⟨q4, 1, none⟩)) ?_
      refine wl_putv (v := .int .i64 c.us) h19 0 rfl 1 (by show 1 < 24; decide) ky (fun w => Try.sizeOf3 w) ky ky ky ?_
      intro w20 (h21 : HA (bs w) [(q4, 30, #[.int .i64 c.kd, .int .i64 c.us, .int .i64 c.dv, iN .i64 0, iN .i64 0, .string ({ data := #[] }), .slice none 0 0, .string ({ data := #[] }), iN .i64 0, iN .i64 0, .string ({ data := #[] }), .string ({ data := #[] }), iN .i64 0, .string ({ data := #[] }), .string ({ data := #[] }), iN .i64 0, .string ({ data := #[] }), .slice none 0 0, iN .i64 0, iN .u64 0, iN .u64 0, .string ({ data := #[] }), iN .i64 0, .string ({ data := #[] })]), (q1, 30, caC c (.slice o c.li.ds.length k) (.slice p c.on.length m))] w20)
      refine wl_nil (then_at rfl (wl_region ?_))
      refine zv (.bool true) ?_
      refine zv (.bool true) ?_
      refine zv (.pointer (some ⟨q1, 1, none⟩)) ?_
      refine zu (.int .i64 c.us) (run_load1 (fun w => Try.isAgg3 w) ky (((h21.get 1 rfl).cell 1).trans rfl)) ?_
      rcases q22 : wi c.us 0 2 with _ | _
      · refine wl_call (v := .bool false) h21 ky enter42 #[.int .i64 c.us, iN .i64 0, iN .i64 2] ky (((wi_any c.us 0 2).mono fun _ _ hh => ⟨by rw [hh.1, q22], hh.2⟩)) ?_
        intro w23 h24
        refine zv (.bool false) ?_
        refine zv (.bool false) ?_
        refine wl_nil (then_at rfl ?_)
        refine wp_exit ?_
        repeat first | refine then_exit ?_ | refine block_exit ?_ | refine block_exit_ne (by decide) ?_
        exact then_I ⟨⟨c.kd, c.us, c.dv, ⟨0, 0, { data := #[] }, [], { data := #[] }⟩, ⟨0, 0, { data := #[] }, { data := #[] }, 0, { data := #[] }, { data := #[] }, 0, { data := #[] }⟩, [], 0, 0, 0, { data := #[] }, 0, { data := #[] }⟩, false, none, 0, none, 0, fun ii => (([(2, .bool false), (8, .pointer (some ⟨q1, 0, none⟩)), (9, .int .i64 c.kd), (10, .bool true), (11, .bool true), (27, .pointer (some ⟨q1, 2, none⟩)), (28, .int .i64 c.dv), (29, .pointer (some ⟨q4, 2, none⟩)), (30, .pointer (some ⟨q1, 2, none⟩)), (31, .int .i64 c.dv), (32, .bool true), (33, .pointer (some ⟨q1, 1, none⟩)), (34, .int .i64 c.us), (35, .pointer (some ⟨q4, 1, none⟩)), (36, .bool true), (37, .bool true), (38, .pointer (some ⟨q1, 1, none⟩)), (39, .int .i64 c.us), (40, .bool false), (41, .bool false)] : List (Nat × Value)).find? (·.1 == ii)).elim undef (·.2), by kernel_rfl, (by unfold mayC; rw [q10, q13, q22]; rfl), (At.nil _), (At.nil _), h24⟩
      refine wl_call (v := .bool true) h21 ky enter42 #[.int .i64 c.us, iN .i64 0, iN .i64 2] ky (((wi_any c.us 0 2).mono fun _ _ hh => ⟨by rw [hh.1, q22], hh.2⟩)) ?_
      intro w25 h26
      refine zv (.bool true) ?_
      refine zv (.bool true) ?_
      refine wl_nil (then_at rfl ?_)
      refine wp_exit ?_
      repeat first | refine then_exit ?_ | refine block_exit ?_ | refine block_exit_ne (by decide) ?_
      exact then_I ⟨⟨c.kd, c.us, c.dv, ⟨0, 0, { data := #[] }, [], { data := #[] }⟩, ⟨0, 0, { data := #[] }, { data := #[] }, 0, { data := #[] }, { data := #[] }, 0, { data := #[] }⟩, [], 0, 0, 0, { data := #[] }, 0, { data := #[] }⟩, true, none, 0, none, 0, fun ii => (([(2, .bool false), (8, .pointer (some ⟨q1, 0, none⟩)), (9, .int .i64 c.kd), (10, .bool true), (11, .bool true), (27, .pointer (some ⟨q1, 2, none⟩)), (28, .int .i64 c.dv), (29, .pointer (some ⟨q4, 2, none⟩)), (30, .pointer (some ⟨q1, 2, none⟩)), (31, .int .i64 c.dv), (32, .bool true), (33, .pointer (some ⟨q1, 1, none⟩)), (34, .int .i64 c.us), (35, .pointer (some ⟨q4, 1, none⟩)), (36, .bool true), (37, .bool true), (38, .pointer (some ⟨q1, 1, none⟩)), (39, .int .i64 c.us), (40, .bool true), (41, .bool true)] : List (Nat × Value)).find? (·.1 == ii)).elim undef (·.2), by kernel_rfl, (by unfold mayC; rw [q10, q13, q22]; rfl), (At.nil _), (At.nil _), h26⟩
    refine zu (.bool false) (run_eqZ (k := .i64) (a := c.kd) (b := 2) ky ky false q10) ?_
    refine zv (.bool false) ?_
    refine wl_nil (then_at rfl ?_)
    refine wp_cond_false ky ?_
    refine wp_skip (then_at rfl (wp_seq (wp_seq (wl_region ?_))))
    rcases q27 : decide (c.kd = 1) with _ | _; rotate_left
    · refine zu (.bool true) (run_eqZ (k := .i64) (a := c.kd) (b := 1) ky ky true q27) ?_
      refine zv (.bool true) ?_
      refine wl_nil (then_at rfl ?_)
      refine wp_cond_true ky ?_
      refine wp_exit ?_
      repeat first | refine then_exit ?_ | refine block_exit ?_ | refine block_exit_ne (by decide) ?_
      refine then_at rfl (wp_seq (wp_seq (wl_region ?_)))
      refine zv (.pointer (some ⟨q1, 1, none⟩)) ?_
      refine zu (.int .i64 c.us) (run_load1 (fun w => Try.isAgg3 w) ky (((h8.get 1 rfl).cell 1).trans rfl)) ?_
      refine zv (.pointer (some ⟨q4, 1, none⟩)) ?_
      refine wl_putv (v := .int .i64 c.us) h8 0 rfl 1 (by show 1 < 24; decide) ky (fun w => Try.sizeOf3 w) ky ky ky ?_
      intro w28 (h29 : HA (bs w) [(q4, 30, #[.int .i64 c.kd, .int .i64 c.us, iN .i64 0, iN .i64 0, iN .i64 0, .string ({ data := #[] }), .slice none 0 0, .string ({ data := #[] }), iN .i64 0, iN .i64 0, .string ({ data := #[] }), .string ({ data := #[] }), iN .i64 0, .string ({ data := #[] }), .string ({ data := #[] }), iN .i64 0, .string ({ data := #[] }), .slice none 0 0, iN .i64 0, iN .u64 0, iN .u64 0, .string ({ data := #[] }), iN .i64 0, .string ({ data := #[] })]), (q1, 30, caC c (.slice o c.li.ds.length k) (.slice p c.on.length m))] w28)
      refine wl_nil (then_at rfl (wl_region ?_))
      refine zv (.bool true) ?_
      refine zv (.bool true) ?_
      refine zv (.pointer (some ⟨q1, 1, none⟩)) ?_
      refine zu (.int .i64 c.us) (run_load1 (fun w => Try.isAgg3 w) ky (((h29.get 1 rfl).cell 1).trans rfl)) ?_
      rcases q30 : wi c.us 0 2 with _ | _
      · refine wl_call (v := .bool false) h29 ky enter42 #[.int .i64 c.us, iN .i64 0, iN .i64 2] ky (((wi_any c.us 0 2).mono fun _ _ hh => ⟨by rw [hh.1, q30], hh.2⟩)) ?_
        intro w31 h32
        refine zv (.bool false) ?_
        refine zv (.bool false) ?_
        refine wl_nil (then_at rfl ?_)
        refine wp_exit ?_
        repeat first | refine then_exit ?_ | refine block_exit ?_ | refine block_exit_ne (by decide) ?_
        exact then_I ⟨⟨c.kd, c.us, 0, ⟨0, 0, { data := #[] }, [], { data := #[] }⟩, ⟨0, 0, { data := #[] }, { data := #[] }, 0, { data := #[] }, { data := #[] }, 0, { data := #[] }⟩, [], 0, 0, 0, { data := #[] }, 0, { data := #[] }⟩, false, none, 0, none, 0, fun ii => (([(2, .bool false), (8, .pointer (some ⟨q1, 0, none⟩)), (9, .int .i64 c.kd), (10, .bool false), (11, .bool false), (12, .bool true), (13, .bool true), (33, .pointer (some ⟨q1, 1, none⟩)), (34, .int .i64 c.us), (35, .pointer (some ⟨q4, 1, none⟩)), (36, .bool true), (37, .bool true), (38, .pointer (some ⟨q1, 1, none⟩)), (39, .int .i64 c.us), (40, .bool false), (41, .bool false)] : List (Nat × Value)).find? (·.1 == ii)).elim undef (·.2), by kernel_rfl, (by unfold mayC; rw [q10, q27, q30]; rfl), (At.nil _), (At.nil _), h32⟩
      refine wl_call (v := .bool true) h29 ky enter42 #[.int .i64 c.us, iN .i64 0, iN .i64 2] ky (((wi_any c.us 0 2).mono fun _ _ hh => ⟨by rw [hh.1, q30], hh.2⟩)) ?_
      intro w33 h34
      refine zv (.bool true) ?_
      refine zv (.bool true) ?_
      refine wl_nil (then_at rfl ?_)
      refine wp_exit ?_
      repeat first | refine then_exit ?_ | refine block_exit ?_ | refine block_exit_ne (by decide) ?_
      exact then_I ⟨⟨c.kd, c.us, 0, ⟨0, 0, { data := #[] }, [], { data := #[] }⟩, ⟨0, 0, { data := #[] }, { data := #[] }, 0, { data := #[] }, { data := #[] }, 0, { data := #[] }⟩, [], 0, 0, 0, { data := #[] }, 0, { data := #[] }⟩, true, none, 0, none, 0, fun ii => (([(2, .bool false), (8, .pointer (some ⟨q1, 0, none⟩)), (9, .int .i64 c.kd), (10, .bool false), (11, .bool false), (12, .bool true), (13, .bool true), (33, .pointer (some ⟨q1, 1, none⟩)), (34, .int .i64 c.us), (35, .pointer (some ⟨q4, 1, none⟩)), (36, .bool true), (37, .bool true), (38, .pointer (some ⟨q1, 1, none⟩)), (39, .int .i64 c.us), (40, .bool true), (41, .bool true)] : List (Nat × Value)).find? (·.1 == ii)).elim undef (·.2), by kernel_rfl, (by unfold mayC; rw [q10, q27, q30]; rfl), (At.nil _), (At.nil _), h34⟩
    refine zu (.bool false) (run_eqZ (k := .i64) (a := c.kd) (b := 1) ky ky false q27) ?_
    refine zv (.bool false) ?_
    refine wl_nil (then_at rfl ?_)
    refine wp_cond_false ky ?_
    refine wp_skip (then_at rfl (wp_seq (wp_seq (wl_region ?_))))
    rcases q35 : decide (c.kd = 3) with _ | _; rotate_left
    · refine zu (.bool true) (run_eqZ (k := .i64) (a := c.kd) (b := 3) ky ky true q35) ?_
      refine zv (.bool true) ?_
      refine wl_nil (then_at rfl ?_)
      refine wp_cond_true ky ?_
      refine wp_exit ?_
      repeat first | refine then_exit ?_ | refine block_exit ?_ | refine block_exit_ne (by decide) ?_
      refine then_at rfl (wp_seq (wp_seq (wl_region ?_)))
      refine zv (.pointer (some ⟨q1, 3, none⟩)) ?_
      refine zu (.agg #[.int .i64 c.li.u, .int .i64 c.li.v, .string c.li.ac, .slice o c.li.ds.length k, .string c.li.sg]) (run_load_part (q := q1) (off := 3) (d := #[.int .i64 c.li.u, .int .i64 c.li.v, .string c.li.ac, .slice o c.li.ds.length k, .string c.li.sg]) ky (h8.get 1 rfl) Try.underlying25 rfl ky (by intro j hj; match j, hj with | 0, _ => rfl | 1, _ => rfl | 2, _ => rfl | 3, _ => rfl | 4, _ => rfl)) ?_
      refine zv (.pointer (some ⟨q4, 3, none⟩)) ?_
      refine wl_puts (d := #[.int .i64 c.li.u, .int .i64 c.li.v, .string c.li.ac, .slice o c.li.ds.length k, .string c.li.sg]) (c' := #[.int .i64 c.kd, iN .i64 0, iN .i64 0, .int .i64 c.li.u, .int .i64 c.li.v, .string c.li.ac, .slice o c.li.ds.length k, .string c.li.sg, iN .i64 0, iN .i64 0, .string ({ data := #[] }), .string ({ data := #[] }), iN .i64 0, .string ({ data := #[] }), .string ({ data := #[] }), iN .i64 0, .string ({ data := #[] }), .slice none 0 0, iN .i64 0, iN .u64 0, iN .u64 0, .string ({ data := #[] }), iN .i64 0, .string ({ data := #[] })]) h8 0 rfl (off := 3) ky ky ky ky ky ky ky ?_
      intro w36 (h37 : HA (bs w) [(q4, 30, #[.int .i64 c.kd, iN .i64 0, iN .i64 0, .int .i64 c.li.u, .int .i64 c.li.v, .string c.li.ac, .slice o c.li.ds.length k, .string c.li.sg, iN .i64 0, iN .i64 0, .string ({ data := #[] }), .string ({ data := #[] }), iN .i64 0, .string ({ data := #[] }), .string ({ data := #[] }), iN .i64 0, .string ({ data := #[] }), .slice none 0 0, iN .i64 0, iN .u64 0, iN .u64 0, .string ({ data := #[] }), iN .i64 0, .string ({ data := #[] })]), (q1, 30, caC c (.slice o c.li.ds.length k) (.slice p c.on.length m))] w36)
      refine wl_nil (then_at rfl (wl_region ?_))
      refine zv (.pointer (some ⟨q1, 3, none⟩)) ?_
      refine zu (.agg #[.int .i64 c.li.u, .int .i64 c.li.v, .string c.li.ac, .slice o c.li.ds.length k, .string c.li.sg]) (run_load_part (q := q1) (off := 3) (d := #[.int .i64 c.li.u, .int .i64 c.li.v, .string c.li.ac, .slice o c.li.ds.length k, .string c.li.sg]) ky (h37.get 1 rfl) Try.underlying25 rfl ky (by intro j hj; match j, hj with | 0, _ => rfl | 1, _ => rfl | 2, _ => rfl | 3, _ => rfl | 4, _ => rfl)) ?_
      rcases q38 : mayL c.li with _ | _
      · refine wl_call (v := iN .i64 2) h37 ky enter14 #[.agg #[.int .i64 c.li.u, .int .i64 c.li.v, .string c.li.ac, .slice o c.li.ds.length k, .string c.li.sg]] ky (((chk_any c.li (hP.keep h37.old.old)).mono fun _ _ hh => ⟨by rw [hh.1, show chkL c.li = 2 from by unfold chkL; rw [q38]; rfl], hh.2⟩)) ?_
        intro w39 h40
        refine zu (.bool false) (run_eqi (k := .i64) (a := 2) (b := 0) ky ky false (by decide)) ?_
        refine zv (.bool false) ?_
        refine wl_nil (then_at rfl ?_)
        refine wp_exit ?_
        repeat first | refine then_exit ?_ | refine block_exit ?_ | refine block_exit_ne (by decide) ?_
        exact then_I ⟨⟨c.kd, 0, 0, c.li, ⟨0, 0, { data := #[] }, { data := #[] }, 0, { data := #[] }, { data := #[] }, 0, { data := #[] }⟩, [], 0, 0, 0, { data := #[] }, 0, { data := #[] }⟩, false, o, k, none, 0, fun ii => (([(2, .bool false), (8, .pointer (some ⟨q1, 0, none⟩)), (9, .int .i64 c.kd), (10, .bool false), (11, .bool false), (12, .bool false), (13, .bool false), (14, .bool true), (15, .bool true), (42, .pointer (some ⟨q1, 3, none⟩)), (43, .agg #[.int .i64 c.li.u, .int .i64 c.li.v, .string c.li.ac, .slice o c.li.ds.length k, .string c.li.sg]), (44, .pointer (some ⟨q4, 3, none⟩)), (45, .pointer (some ⟨q1, 3, none⟩)), (46, .agg #[.int .i64 c.li.u, .int .i64 c.li.v, .string c.li.ac, .slice o c.li.ds.length k, .string c.li.sg]), (47, iN .i64 2), (48, .bool false)] : List (Nat × Value)).find? (·.1 == ii)).elim undef (·.2), by kernel_rfl, (by unfold mayC; rw [q10, q27, q35, q38]; rfl), hP, (At.nil _), h40⟩
      refine wl_call (v := iN .i64 0) h37 ky enter14 #[.agg #[.int .i64 c.li.u, .int .i64 c.li.v, .string c.li.ac, .slice o c.li.ds.length k, .string c.li.sg]] ky (((chk_any c.li (hP.keep h37.old.old)).mono fun _ _ hh => ⟨by rw [hh.1, show chkL c.li = 0 from by unfold chkL; rw [q38]; rfl], hh.2⟩)) ?_
      intro w41 h42
      refine zu (.bool true) (run_eqi (k := .i64) (a := 0) (b := 0) ky ky true (by decide)) ?_
      refine zv (.bool true) ?_
      refine wl_nil (then_at rfl ?_)
      refine wp_exit ?_
      repeat first | refine then_exit ?_ | refine block_exit ?_ | refine block_exit_ne (by decide) ?_
      exact then_I ⟨⟨c.kd, 0, 0, c.li, ⟨0, 0, { data := #[] }, { data := #[] }, 0, { data := #[] }, { data := #[] }, 0, { data := #[] }⟩, [], 0, 0, 0, { data := #[] }, 0, { data := #[] }⟩, true, o, k, none, 0, fun ii => (([(2, .bool false), (8, .pointer (some ⟨q1, 0, none⟩)), (9, .int .i64 c.kd), (10, .bool false), (11, .bool false), (12, .bool false), (13, .bool false), (14, .bool true), (15, .bool true), (42, .pointer (some ⟨q1, 3, none⟩)), (43, .agg #[.int .i64 c.li.u, .int .i64 c.li.v, .string c.li.ac, .slice o c.li.ds.length k, .string c.li.sg]), (44, .pointer (some ⟨q4, 3, none⟩)), (45, .pointer (some ⟨q1, 3, none⟩)), (46, .agg #[.int .i64 c.li.u, .int .i64 c.li.v, .string c.li.ac, .slice o c.li.ds.length k, .string c.li.sg]), (47, iN .i64 0), (48, .bool true)] : List (Nat × Value)).find? (·.1 == ii)).elim undef (·.2), by kernel_rfl, (by unfold mayC; rw [q10, q27, q35, q38]; rfl), hP, (At.nil _), h42⟩
    refine zu (.bool false) (run_eqZ (k := .i64) (a := c.kd) (b := 3) ky ky false q35) ?_
    refine zv (.bool false) ?_
    refine wl_nil (then_at rfl ?_)
    refine wp_cond_false ky ?_
    refine wp_skip (then_at rfl (wp_seq (wp_seq (wl_region ?_))))
    rcases q43 : decide (c.kd = 4) with _ | _; rotate_left
    · refine zu (.bool true) (run_eqZ (k := .i64) (a := c.kd) (b := 4) ky ky true q43) ?_
      refine zv (.bool true) ?_
      refine wl_nil (then_at rfl ?_)
      refine wp_cond_true ky ?_
      refine wp_exit ?_
      repeat first | refine then_exit ?_ | refine block_exit ?_ | refine block_exit_ne (by decide) ?_
      refine then_at rfl (wp_seq (wp_seq ?_))
      refine wp_region_wx (fun w' => Blk w' q1 30 (caC c (.slice o c.li.ds.length k) (.slice p c.on.length m))) (fun AQ w' => AQ = ⟨(.agg (caC c (.slice o c.li.ds.length k) (.slice p c.on.length m)) :: pt q1 :: .bool false :: pt q4 :: .bool true :: pt q1 :: .int .i64 c.kd :: .agg #[.int .i64 c.kd, iN .i64 0, iN .i64 0, iN .i64 0, iN .i64 0, .string ({ data := #[] }), .slice none 0 0, .string ({ data := #[] }), iN .i64 0, iN .i64 0, .string ({ data := #[] }), .string ({ data := #[] }), iN .i64 0, .string ({ data := #[] }), .string ({ data := #[] }), iN .i64 0, .string ({ data := #[] }), .slice none 0 0, iN .i64 0, iN .u64 0, iN .u64 0, .string ({ data := #[] }), iN .i64 0, .string ({ data := #[] })] :: pt q1 :: .int .i64 c.kd :: .bool false :: .bool false :: .bool false :: .bool false :: .bool false :: .bool false :: .bool true :: .bool true :: un :: un :: un :: un :: un :: un :: un :: un :: un :: un :: un :: un :: un :: un :: un :: un :: un :: un :: un :: un :: un :: un :: un :: un :: un :: un :: un :: un :: un :: un :: un :: .pointer (some ⟨q1, 8, none⟩) :: .agg #[.int .i64 c.bu.u, .int .i64 c.bu.d, .string c.bu.sg, .string c.bu.dh, .int .i64 c.bu.pi, .string c.bu.pr, .string c.bu.ps, .int .i64 c.bu.oi, .string c.bu.on] :: .pointer (some ⟨q1, 22, none⟩) :: .int .i64 c.ix :: .pointer (some ⟨q1, 17, none⟩) :: .slice p c.on.length m :: .pointer (some ⟨q4, 8, none⟩) :: .pointer (some ⟨q4, 22, none⟩) :: .pointer (some ⟨q4, 17, none⟩) :: List.replicate 86 un).toArray, []⟩ ∧ HA (bs w) [(q4, 30, #[.int .i64 c.kd, iN .i64 0, iN .i64 0, iN .i64 0, iN .i64 0, .string ({ data := #[] }), .slice none 0 0, .string ({ data := #[] }), .int .i64 c.bu.u, .int .i64 c.bu.d, .string c.bu.sg, .string c.bu.dh, .int .i64 c.bu.pi, .string c.bu.pr, .string c.bu.ps, .int .i64 c.bu.oi, .string c.bu.on, .slice p c.on.length m, iN .i64 0, iN .u64 0, iN .u64 0, .string ({ data := #[] }), .int .i64 c.ix, .string ({ data := #[] })]), (q1, 30, caC c (.slice o c.li.ds.length k) (.slice p c.on.length m))] w') 12 ky ky ky ky ky ((h8.drew).get 1 rfl) ?_ ?_
      · have h44 := h8.drew
        refine zp 0 (.pointer (some ⟨q1, 8, none⟩)) ?_
        refine wx_val (i := 1) (.agg #[.int .i64 c.bu.u, .int .i64 c.bu.d, .string c.bu.sg, .string c.bu.dh, .int .i64 c.bu.pi, .string c.bu.pr, .string c.bu.ps, .int .i64 c.bu.oi, .string c.bu.on]) rfl rfl ky ky (fun w' h' => run_load_part (q := q1) (off := 8) (d := #[.int .i64 c.bu.u, .int .i64 c.bu.d, .string c.bu.sg, .string c.bu.dh, .int .i64 c.bu.pi, .string c.bu.pr, .string c.bu.ps, .int .i64 c.bu.oi, .string c.bu.on]) ky h' Try.underlying27 rfl ky (by intro j hj; match j, hj with | 0, _ => rfl | 1, _ => rfl | 2, _ => rfl | 3, _ => rfl | 4, _ => rfl | 5, _ => rfl | 6, _ => rfl | 7, _ => rfl | 8, _ => rfl)) ?_
        refine zp 2 (.pointer (some ⟨q1, 22, none⟩)) ?_
        refine wx_val (i := 3) (.int .i64 c.ix) rfl rfl ky ky (fun w' h' => run_load1 (fun w => Try.isAgg3 w) ky ((h'.cell 22).trans rfl)) ?_
        refine zp 4 (.pointer (some ⟨q1, 17, none⟩)) ?_
        refine wx_val (i := 5) (.slice p c.on.length m) rfl rfl ky ky (fun w' h' => run_load1 (fun w => Try.isAgg28 w) ky ((h'.cell 17).trans rfl)) ?_
        refine zp 6 (.pointer (some ⟨q4, 8, none⟩)) ?_
        refine wx_one 7 ky ?_
        refine ex_puts (d := #[.int .i64 c.bu.u, .int .i64 c.bu.d, .string c.bu.sg, .string c.bu.dh, .int .i64 c.bu.pi, .string c.bu.pr, .string c.bu.ps, .int .i64 c.bu.oi, .string c.bu.on]) (c' := #[.int .i64 c.kd, iN .i64 0, iN .i64 0, iN .i64 0, iN .i64 0, .string ({ data := #[] }), .slice none 0 0, .string ({ data := #[] }), .int .i64 c.bu.u, .int .i64 c.bu.d, .string c.bu.sg, .string c.bu.dh, .int .i64 c.bu.pi, .string c.bu.pr, .string c.bu.ps, .int .i64 c.bu.oi, .string c.bu.on, .slice none 0 0, iN .i64 0, iN .u64 0, iN .u64 0, .string ({ data := #[] }), iN .i64 0, .string ({ data := #[] })]) (off := 8) rfl ky h44 0 rfl ky ky ky ky ky ky ?_
        intro w48 (h47 : HA (bs w) [(q4, 30, #[.int .i64 c.kd, iN .i64 0, iN .i64 0, iN .i64 0, iN .i64 0, .string ({ data := #[] }), .slice none 0 0, .string ({ data := #[] }), .int .i64 c.bu.u, .int .i64 c.bu.d, .string c.bu.sg, .string c.bu.dh, .int .i64 c.bu.pi, .string c.bu.pr, .string c.bu.ps, .int .i64 c.bu.oi, .string c.bu.on, .slice none 0 0, iN .i64 0, iN .u64 0, iN .u64 0, .string ({ data := #[] }), iN .i64 0, .string ({ data := #[] })]), (q1, 30, caC c (.slice o c.li.ds.length k) (.slice p c.on.length m))] w48)
        refine ⟨_, .inr rfl, (h47.get 1 rfl), ?_⟩
        refine zp 8 (.pointer (some ⟨q4, 22, none⟩)) ?_
        refine wx_one 9 ky ?_
        refine ex_skipT rfl ky h47 fun w49 h50 => ⟨_, run_storev (q := q4) (i := 22) (v := .int .i64 c.ix) (fun w => Try.sizeOf3 w) ky ky ky (by rw [(h50.get 0 rfl).cell]; rfl) ((h50.get 0 rfl).free _ (by show 22 < 24; decide)), ?_⟩
        have h51 : HA (bs w) [(q4, 30, #[.int .i64 c.kd, iN .i64 0, iN .i64 0, iN .i64 0, iN .i64 0, .string ({ data := #[] }), .slice none 0 0, .string ({ data := #[] }), .int .i64 c.bu.u, .int .i64 c.bu.d, .string c.bu.sg, .string c.bu.dh, .int .i64 c.bu.pi, .string c.bu.pr, .string c.bu.ps, .int .i64 c.bu.oi, .string c.bu.on, .slice none 0 0, iN .i64 0, iN .u64 0, iN .u64 0, .string ({ data := #[] }), .int .i64 c.ix, .string ({ data := #[] })]), (q1, 30, caC c (.slice o c.li.ds.length k) (.slice p c.on.length m))] _ := h50.put 0 rfl 22 (.int .i64 c.ix)
        refine ⟨_, .inr rfl, (h51.get 1 rfl), ?_⟩
        refine zp 10 (.pointer (some ⟨q4, 17, none⟩)) ?_
        refine wx_one 11 ky ?_
        refine ex_skipT rfl ky h51 fun w52 h53 => ⟨_, run_storev (q := q4) (i := 17) (v := .slice p c.on.length m) (fun w => Try.sizeOf28 w) ky ky ky (by rw [(h53.get 0 rfl).cell]; rfl) ((h53.get 0 rfl).free _ (by show 17 < 24; decide)), ?_⟩
        have h54 : HA (bs w) [(q4, 30, #[.int .i64 c.kd, iN .i64 0, iN .i64 0, iN .i64 0, iN .i64 0, .string ({ data := #[] }), .slice none 0 0, .string ({ data := #[] }), .int .i64 c.bu.u, .int .i64 c.bu.d, .string c.bu.sg, .string c.bu.dh, .int .i64 c.bu.pi, .string c.bu.pr, .string c.bu.ps, .int .i64 c.bu.oi, .string c.bu.on, .slice p c.on.length m, iN .i64 0, iN .u64 0, iN .u64 0, .string ({ data := #[] }), .int .i64 c.ix, .string ({ data := #[] })]), (q1, 30, caC c (.slice o c.li.ds.length k) (.slice p c.on.length m))] _ := h53.put 0 rfl 17 (.slice p c.on.length m)
        refine ⟨_, .inr rfl, (h54.get 1 rfl), ?_⟩
        refine wx_end fun w55 hbx _ => ?_
        have h56 := HA.keep _ _ h54 hbx
        exact ⟨by kernel_rfl, h56⟩
      · rintro _ w57 ⟨rfl, h58⟩
        refine then_at rfl (wl_region ?_)
        refine zv (.pointer (some ⟨q1, 8, none⟩)) ?_
        refine zu (.agg #[.int .i64 c.bu.u, .int .i64 c.bu.d, .string c.bu.sg, .string c.bu.dh, .int .i64 c.bu.pi, .string c.bu.pr, .string c.bu.ps, .int .i64 c.bu.oi, .string c.bu.on]) (run_load_part (q := q1) (off := 8) (d := #[.int .i64 c.bu.u, .int .i64 c.bu.d, .string c.bu.sg, .string c.bu.dh, .int .i64 c.bu.pi, .string c.bu.pr, .string c.bu.ps, .int .i64 c.bu.oi, .string c.bu.on]) ky (h58.get 1 rfl) Try.underlying27 rfl ky (by intro j hj; match j, hj with | 0, _ => rfl | 1, _ => rfl | 2, _ => rfl | 3, _ => rfl | 4, _ => rfl | 5, _ => rfl | 6, _ => rfl | 7, _ => rfl | 8, _ => rfl)) ?_
        refine wl_call (v := .string ((encA c.bu).1)) h58 ky enter59 #[.agg #[.int .i64 c.bu.u, .int .i64 c.bu.d, .string c.bu.sg, .string c.bu.dh, .int .i64 c.bu.pi, .string c.bu.pr, .string c.bu.ps, .int .i64 c.bu.oi, .string c.bu.on]] ky (bb_any c.bu) ?_
        intro w59 h60
        rcases q61 : decide ((encA c.bu).1 = { data := #[] }) with _ | _
        · refine zu (.bool true) (run_nes (s := (encA c.bu).1) (t := { data := #[] }) ky ky true ((q61).trans rfl)) ?_
          refine zv (.bool true) ?_
          refine zv (.pointer (some ⟨q1, 8, none⟩)) ?_
          refine zv (.pointer (some ⟨q1, 15, none⟩)) ?_
          refine zu (.int .i64 c.bu.oi) (run_load1 (fun w => Try.isAgg3 w) ky (((h60.get 1 rfl).cell 15).trans rfl)) ?_
          rcases q62 : decide (c.bu.oi = 0) with _ | _
          · refine zu (.bool false) (run_eqZ (k := .i64) (a := c.bu.oi) (b := 0) ky ky false q62) ?_
            refine zv (.bool false) ?_
            refine zv (.bool false) ?_
            refine wl_skip ky ?_
            refine wl_skip ky ?_
            refine wl_skip ky ?_
            refine zv (.bool false) ?_
            refine zv (.bool false) ?_
            refine wl_skip ky ?_
            refine wl_skip ky ?_
            refine wl_skip ky ?_
            refine wl_skip ky ?_
            refine zv (.bool false) ?_
            refine zv (.bool false) ?_
            refine wl_skip ky ?_
            refine wl_skip ky ?_
            refine wl_skip ky ?_
            refine zv (.bool false) ?_
            refine zv (.bool false) ?_
            refine wl_nil (then_at rfl ?_)
            refine wp_exit ?_
            repeat first | refine then_exit ?_ | refine block_exit ?_ | refine block_exit_ne (by decide) ?_
            exact then_I ⟨⟨c.kd, 0, 0, ⟨0, 0, { data := #[] }, [], { data := #[] }⟩, c.bu, c.on, 0, 0, 0, { data := #[] }, c.ix, { data := #[] }⟩, false, none, 0, p, m, fun ii => (([(2, .bool false), (8, .pointer (some ⟨q1, 0, none⟩)), (9, .int .i64 c.kd), (10, .bool false), (11, .bool false), (12, .bool false), (13, .bool false), (14, .bool false), (15, .bool false), (16, .bool true), (17, .bool true), (49, .pointer (some ⟨q1, 8, none⟩)), (50, .agg #[.int .i64 c.bu.u, .int .i64 c.bu.d, .string c.bu.sg, .string c.bu.dh, .int .i64 c.bu.pi, .string c.bu.pr, .string c.bu.ps, .int .i64 c.bu.oi, .string c.bu.on]), (51, .pointer (some ⟨q1, 22, none⟩)), (52, .int .i64 c.ix), (53, .pointer (some ⟨q1, 17, none⟩)), (54, .slice p c.on.length m), (55, .pointer (some ⟨q4, 8, none⟩)), (56, .pointer (some ⟨q4, 22, none⟩)), (57, .pointer (some ⟨q4, 17, none⟩)), (58, .pointer (some ⟨q1, 8, none⟩)), (59, .agg #[.int .i64 c.bu.u, .int .i64 c.bu.d, .string c.bu.sg, .string c.bu.dh, .int .i64 c.bu.pi, .string c.bu.pr, .string c.bu.ps, .int .i64 c.bu.oi, .string c.bu.on]), (60, .string ((encA c.bu).1)), (61, .bool true), (62, .bool true), (63, .pointer (some ⟨q1, 8, none⟩)), (64, .pointer (some ⟨q1, 15, none⟩)), (65, .int .i64 c.bu.oi), (66, .bool false), (67, .bool false), (68, .bool false), (72, .bool false), (73, .bool false), (78, .bool false), (79, .bool false), (83, .bool false)] : List (Nat × Value)).find? (·.1 == ii)).elim undef (·.2), by kernel_rfl, (by unfold mayC; rw [q10, q27, q35, q43, q61, q62]; rfl), (At.nil _), hQ, h60⟩
          refine zu (.bool true) (run_eqZ (k := .i64) (a := c.bu.oi) (b := 0) ky ky true q62) ?_
          refine zv (.bool true) ?_
          refine zv (.bool true) ?_
          refine zv (.pointer (some ⟨q1, 22, none⟩)) ?_
          refine zu (.int .i64 c.ix) (run_load1 (fun w => Try.isAgg3 w) ky (((h60.get 1 rfl).cell 22).trans rfl)) ?_
          rcases q63 : wi c.ix 1 1073741824 with _ | _
          · refine wl_call (v := .bool false) h60 ky enter42 #[.int .i64 c.ix, iN .i64 1, iN .i64 1073741824] ky (((wi_any c.ix 1 1073741824).mono fun _ _ hh => ⟨by rw [hh.1, q63], hh.2⟩)) ?_
            intro w64 h65
            refine zv (.bool false) ?_
            refine zv (.bool false) ?_
            refine wl_skip ky ?_
            refine wl_skip ky ?_
            refine wl_skip ky ?_
            refine wl_skip ky ?_
            refine zv (.bool false) ?_
            refine zv (.bool false) ?_
            refine wl_skip ky ?_
            refine wl_skip ky ?_
            refine wl_skip ky ?_
            refine zv (.bool false) ?_
            refine zv (.bool false) ?_
            refine wl_nil (then_at rfl ?_)
            refine wp_exit ?_
            repeat first | refine then_exit ?_ | refine block_exit ?_ | refine block_exit_ne (by decide) ?_
            exact then_I ⟨⟨c.kd, 0, 0, ⟨0, 0, { data := #[] }, [], { data := #[] }⟩, c.bu, c.on, 0, 0, 0, { data := #[] }, c.ix, { data := #[] }⟩, false, none, 0, p, m, fun ii => (([(2, .bool false), (8, .pointer (some ⟨q1, 0, none⟩)), (9, .int .i64 c.kd), (10, .bool false), (11, .bool false), (12, .bool false), (13, .bool false), (14, .bool false), (15, .bool false), (16, .bool true), (17, .bool true), (49, .pointer (some ⟨q1, 8, none⟩)), (50, .agg #[.int .i64 c.bu.u, .int .i64 c.bu.d, .string c.bu.sg, .string c.bu.dh, .int .i64 c.bu.pi, .string c.bu.pr, .string c.bu.ps, .int .i64 c.bu.oi, .string c.bu.on]), (51, .pointer (some ⟨q1, 22, none⟩)), (52, .int .i64 c.ix), (53, .pointer (some ⟨q1, 17, none⟩)), (54, .slice p c.on.length m), (55, .pointer (some ⟨q4, 8, none⟩)), (56, .pointer (some ⟨q4, 22, none⟩)), (57, .pointer (some ⟨q4, 17, none⟩)), (58, .pointer (some ⟨q1, 8, none⟩)), (59, .agg #[.int .i64 c.bu.u, .int .i64 c.bu.d, .string c.bu.sg, .string c.bu.dh, .int .i64 c.bu.pi, .string c.bu.pr, .string c.bu.ps, .int .i64 c.bu.oi, .string c.bu.on]), (60, .string ((encA c.bu).1)), (61, .bool true), (62, .bool true), (63, .pointer (some ⟨q1, 8, none⟩)), (64, .pointer (some ⟨q1, 15, none⟩)), (65, .int .i64 c.bu.oi), (66, .bool true), (67, .bool true), (68, .bool true), (69, .pointer (some ⟨q1, 22, none⟩)), (70, .int .i64 c.ix), (71, .bool false), (72, .bool false), (73, .bool false), (78, .bool false), (79, .bool false), (83, .bool false)] : List (Nat × Value)).find? (·.1 == ii)).elim undef (·.2), by kernel_rfl, (by unfold mayC; rw [q10, q27, q35, q43, q61, q62, q63]; rfl), (At.nil _), hQ, h65⟩
          refine wl_call (v := .bool true) h60 ky enter42 #[.int .i64 c.ix, iN .i64 1, iN .i64 1073741824] ky (((wi_any c.ix 1 1073741824).mono fun _ _ hh => ⟨by rw [hh.1, q63], hh.2⟩)) ?_
          intro w66 h67
          refine zv (.bool true) ?_
          refine zv (.bool true) ?_
          refine zv (.pointer (some ⟨q1, 17, none⟩)) ?_
          refine zu (.slice p c.on.length m) (run_load1 (fun w => Try.isAgg28 w) ky (((h67.get 1 rfl).cell 17).trans rfl)) ?_
          refine zv (iN .i64 c.on.length) ?_
          rcases q68 : decide (c.on.length ≤ 20) with _ | _
          · refine zu (.bool false) (run_leq (k := .i64) (a := c.on.length) (b := 20) ky ky false q68) ?_
            refine zv (.bool false) ?_
            refine zv (.bool false) ?_
            refine wl_skip ky ?_
            refine wl_skip ky ?_
            refine wl_skip ky ?_
            refine zv (.bool false) ?_
            refine zv (.bool false) ?_
            refine wl_nil (then_at rfl ?_)
            refine wp_exit ?_
            repeat first | refine then_exit ?_ | refine block_exit ?_ | refine block_exit_ne (by decide) ?_
            exact then_I ⟨⟨c.kd, 0, 0, ⟨0, 0, { data := #[] }, [], { data := #[] }⟩, c.bu, c.on, 0, 0, 0, { data := #[] }, c.ix, { data := #[] }⟩, false, none, 0, p, m, fun ii => (([(2, .bool false), (8, .pointer (some ⟨q1, 0, none⟩)), (9, .int .i64 c.kd), (10, .bool false), (11, .bool false), (12, .bool false), (13, .bool false), (14, .bool false), (15, .bool false), (16, .bool true), (17, .bool true), (49, .pointer (some ⟨q1, 8, none⟩)), (50, .agg #[.int .i64 c.bu.u, .int .i64 c.bu.d, .string c.bu.sg, .string c.bu.dh, .int .i64 c.bu.pi, .string c.bu.pr, .string c.bu.ps, .int .i64 c.bu.oi, .string c.bu.on]), (51, .pointer (some ⟨q1, 22, none⟩)), (52, .int .i64 c.ix), (53, .pointer (some ⟨q1, 17, none⟩)), (54, .slice p c.on.length m), (55, .pointer (some ⟨q4, 8, none⟩)), (56, .pointer (some ⟨q4, 22, none⟩)), (57, .pointer (some ⟨q4, 17, none⟩)), (58, .pointer (some ⟨q1, 8, none⟩)), (59, .agg #[.int .i64 c.bu.u, .int .i64 c.bu.d, .string c.bu.sg, .string c.bu.dh, .int .i64 c.bu.pi, .string c.bu.pr, .string c.bu.ps, .int .i64 c.bu.oi, .string c.bu.on]), (60, .string ((encA c.bu).1)), (61, .bool true), (62, .bool true), (63, .pointer (some ⟨q1, 8, none⟩)), (64, .pointer (some ⟨q1, 15, none⟩)), (65, .int .i64 c.bu.oi), (66, .bool true), (67, .bool true), (68, .bool true), (69, .pointer (some ⟨q1, 22, none⟩)), (70, .int .i64 c.ix), (71, .bool true), (72, .bool true), (73, .bool true), (74, .pointer (some ⟨q1, 17, none⟩)), (75, .slice p c.on.length m), (76, iN .i64 c.on.length), (77, .bool false), (78, .bool false), (79, .bool false), (83, .bool false)] : List (Nat × Value)).find? (·.1 == ii)).elim undef (·.2), by kernel_rfl, (by unfold mayC; rw [q10, q27, q35, q43, q61, q62, q63, q68]; rfl), (At.nil _), hQ, h67⟩
          refine zu (.bool true) (run_leq (k := .i64) (a := c.on.length) (b := 20) ky ky true q68) ?_
          refine zv (.bool true) ?_
          refine zv (.bool true) ?_
          refine zv (.pointer (some ⟨q1, 17, none⟩)) ?_
          refine zu (.slice p c.on.length m) (run_load1 (fun w => Try.isAgg28 w) ky (((h67.get 1 rfl).cell 17).trans rfl)) ?_
          rcases q69 : c.on.all kk with _ | _
          · refine wl_call (v := .bool false) h67 ky enter43 #[.slice p c.on.length m] ky (((areK_any c.on (hQ.keep h67.old.old) hl2).mono fun _ _ hh => ⟨by rw [hh.1, q69], hh.2⟩)) ?_
            intro w70 h71
            refine zv (.bool false) ?_
            refine zv (.bool false) ?_
            refine wl_nil (then_at rfl ?_)
            refine wp_exit ?_
            repeat first | refine then_exit ?_ | refine block_exit ?_ | refine block_exit_ne (by decide) ?_
            exact then_I ⟨⟨c.kd, 0, 0, ⟨0, 0, { data := #[] }, [], { data := #[] }⟩, c.bu, c.on, 0, 0, 0, { data := #[] }, c.ix, { data := #[] }⟩, false, none, 0, p, m, fun ii => (([(2, .bool false), (8, .pointer (some ⟨q1, 0, none⟩)), (9, .int .i64 c.kd), (10, .bool false), (11, .bool false), (12, .bool false), (13, .bool false), (14, .bool false), (15, .bool false), (16, .bool true), (17, .bool true), (49, .pointer (some ⟨q1, 8, none⟩)), (50, .agg #[.int .i64 c.bu.u, .int .i64 c.bu.d, .string c.bu.sg, .string c.bu.dh, .int .i64 c.bu.pi, .string c.bu.pr, .string c.bu.ps, .int .i64 c.bu.oi, .string c.bu.on]), (51, .pointer (some ⟨q1, 22, none⟩)), (52, .int .i64 c.ix), (53, .pointer (some ⟨q1, 17, none⟩)), (54, .slice p c.on.length m), (55, .pointer (some ⟨q4, 8, none⟩)), (56, .pointer (some ⟨q4, 22, none⟩)), (57, .pointer (some ⟨q4, 17, none⟩)), (58, .pointer (some ⟨q1, 8, none⟩)), (59, .agg #[.int .i64 c.bu.u, .int .i64 c.bu.d, .string c.bu.sg, .string c.bu.dh, .int .i64 c.bu.pi, .string c.bu.pr, .string c.bu.ps, .int .i64 c.bu.oi, .string c.bu.on]), (60, .string ((encA c.bu).1)), (61, .bool true), (62, .bool true), (63, .pointer (some ⟨q1, 8, none⟩)), (64, .pointer (some ⟨q1, 15, none⟩)), (65, .int .i64 c.bu.oi), (66, .bool true), (67, .bool true), (68, .bool true), (69, .pointer (some ⟨q1, 22, none⟩)), (70, .int .i64 c.ix), (71, .bool true), (72, .bool true), (73, .bool true), (74, .pointer (some ⟨q1, 17, none⟩)), (75, .slice p c.on.length m), (76, iN .i64 c.on.length), (77, .bool true), (78, .bool true), (79, .bool true), (80, .pointer (some ⟨q1, 17, none⟩)), (81, .slice p c.on.length m), (82, .bool false), (83, .bool false)] : List (Nat × Value)).find? (·.1 == ii)).elim undef (·.2), by kernel_rfl, (by unfold mayC; rw [q10, q27, q35, q43, q61, q62, q63, q68, q69]; rfl), (At.nil _), hQ, h71⟩
          refine wl_call (v := .bool true) h67 ky enter43 #[.slice p c.on.length m] ky (((areK_any c.on (hQ.keep h67.old.old) hl2).mono fun _ _ hh => ⟨by rw [hh.1, q69], hh.2⟩)) ?_
          intro w72 h73
          refine zv (.bool true) ?_
          refine zv (.bool true) ?_
          refine wl_nil (then_at rfl ?_)
          refine wp_exit ?_
          repeat first | refine then_exit ?_ | refine block_exit ?_ | refine block_exit_ne (by decide) ?_
          exact then_I ⟨⟨c.kd, 0, 0, ⟨0, 0, { data := #[] }, [], { data := #[] }⟩, c.bu, c.on, 0, 0, 0, { data := #[] }, c.ix, { data := #[] }⟩, true, none, 0, p, m, fun ii => (([(2, .bool false), (8, .pointer (some ⟨q1, 0, none⟩)), (9, .int .i64 c.kd), (10, .bool false), (11, .bool false), (12, .bool false), (13, .bool false), (14, .bool false), (15, .bool false), (16, .bool true), (17, .bool true), (49, .pointer (some ⟨q1, 8, none⟩)), (50, .agg #[.int .i64 c.bu.u, .int .i64 c.bu.d, .string c.bu.sg, .string c.bu.dh, .int .i64 c.bu.pi, .string c.bu.pr, .string c.bu.ps, .int .i64 c.bu.oi, .string c.bu.on]), (51, .pointer (some ⟨q1, 22, none⟩)), (52, .int .i64 c.ix), (53, .pointer (some ⟨q1, 17, none⟩)), (54, .slice p c.on.length m), (55, .pointer (some ⟨q4, 8, none⟩)), (56, .pointer (some ⟨q4, 22, none⟩)), (57, .pointer (some ⟨q4, 17, none⟩)), (58, .pointer (some ⟨q1, 8, none⟩)), (59, .agg #[.int .i64 c.bu.u, .int .i64 c.bu.d, .string c.bu.sg, .string c.bu.dh, .int .i64 c.bu.pi, .string c.bu.pr, .string c.bu.ps, .int .i64 c.bu.oi, .string c.bu.on]), (60, .string ((encA c.bu).1)), (61, .bool true), (62, .bool true), (63, .pointer (some ⟨q1, 8, none⟩)), (64, .pointer (some ⟨q1, 15, none⟩)), (65, .int .i64 c.bu.oi), (66, .bool true), (67, .bool true), (68, .bool true), (69, .pointer (some ⟨q1, 22, none⟩)), (70, .int .i64 c.ix), (71, .bool true), (72, .bool true), (73, .bool true), (74, .pointer (some ⟨q1, 17, none⟩)), (75, .slice p c.on.length m), (76, iN .i64 c.on.length), (77, .bool true), (78, .bool true), (79, .bool true), (80, .pointer (some ⟨q1, 17, none⟩)), (81, .slice p c.on.length m), (82, .bool true), (83, .bool true)] : List (Nat × Value)).find? (·.1 == ii)).elim undef (·.2), by kernel_rfl, (by unfold mayC; rw [q10, q27, q35, q43, q61, q62, q63, q68, q69]; rfl), (At.nil _), hQ, h73⟩
        refine zu (.bool false) (run_nes (s := (encA c.bu).1) (t := { data := #[] }) ky ky false ((q61).trans rfl)) ?_
        refine zv (.bool false) ?_
        refine wl_skip ky ?_
        refine wl_skip ky ?_
        refine wl_skip ky ?_
        refine wl_skip ky ?_
        refine zv (.bool false) ?_
        refine zv (.bool false) ?_
        refine wl_skip ky ?_
        refine wl_skip ky ?_
        refine wl_skip ky ?_
        refine zv (.bool false) ?_
        refine zv (.bool false) ?_
        refine wl_skip ky ?_
        refine wl_skip ky ?_
        refine wl_skip ky ?_
        refine wl_skip ky ?_
        refine zv (.bool false) ?_
        refine zv (.bool false) ?_
        refine wl_skip ky ?_
        refine wl_skip ky ?_
        refine wl_skip ky ?_
        refine zv (.bool false) ?_
        refine zv (.bool false) ?_
        refine wl_nil (then_at rfl ?_)
        refine wp_exit ?_
        repeat first | refine then_exit ?_ | refine block_exit ?_ | refine block_exit_ne (by decide) ?_
        exact then_I ⟨⟨c.kd, 0, 0, ⟨0, 0, { data := #[] }, [], { data := #[] }⟩, c.bu, c.on, 0, 0, 0, { data := #[] }, c.ix, { data := #[] }⟩, false, none, 0, p, m, fun ii => (([(2, .bool false), (8, .pointer (some ⟨q1, 0, none⟩)), (9, .int .i64 c.kd), (10, .bool false), (11, .bool false), (12, .bool false), (13, .bool false), (14, .bool false), (15, .bool false), (16, .bool true), (17, .bool true), (49, .pointer (some ⟨q1, 8, none⟩)), (50, .agg #[.int .i64 c.bu.u, .int .i64 c.bu.d, .string c.bu.sg, .string c.bu.dh, .int .i64 c.bu.pi, .string c.bu.pr, .string c.bu.ps, .int .i64 c.bu.oi, .string c.bu.on]), (51, .pointer (some ⟨q1, 22, none⟩)), (52, .int .i64 c.ix), (53, .pointer (some ⟨q1, 17, none⟩)), (54, .slice p c.on.length m), (55, .pointer (some ⟨q4, 8, none⟩)), (56, .pointer (some ⟨q4, 22, none⟩)), (57, .pointer (some ⟨q4, 17, none⟩)), (58, .pointer (some ⟨q1, 8, none⟩)), (59, .agg #[.int .i64 c.bu.u, .int .i64 c.bu.d, .string c.bu.sg, .string c.bu.dh, .int .i64 c.bu.pi, .string c.bu.pr, .string c.bu.ps, .int .i64 c.bu.oi, .string c.bu.on]), (60, .string ((encA c.bu).1)), (61, .bool false), (62, .bool false), (67, .bool false), (68, .bool false), (72, .bool false), (73, .bool false), (78, .bool false), (79, .bool false), (83, .bool false)] : List (Nat × Value)).find? (·.1 == ii)).elim undef (·.2), by kernel_rfl, (by unfold mayC; rw [q10, q27, q35, q43, q61]; rfl), (At.nil _), hQ, h60⟩
    refine zu (.bool false) (run_eqZ (k := .i64) (a := c.kd) (b := 4) ky ky false q43) ?_
    refine zv (.bool false) ?_
    refine wl_nil (then_at rfl ?_)
    refine wp_cond_false ky ?_
    refine wp_skip (then_at rfl (wp_seq (wp_seq (wl_region ?_))))
    rcases q74 : decide (c.kd = 5) with _ | _; rotate_left
    · refine zu (.bool true) (run_eqZ (k := .i64) (a := c.kd) (b := 5) ky ky true q74) ?_
      refine zv (.bool true) ?_
      refine wl_nil (then_at rfl ?_)
      refine wp_cond_true ky ?_
      refine wp_exit ?_
      repeat first | refine then_exit ?_ | refine block_exit ?_ | refine block_exit_ne (by decide) ?_
      refine then_at rfl (wp_seq (wp_seq ?_))
      refine wp_region_wx (fun w' => Blk w' q1 30 (caC c (.slice o c.li.ds.length k) (.slice p c.on.length m))) (fun AQ w' => AQ = ⟨(.agg (caC c (.slice o c.li.ds.length k) (.slice p c.on.length m)) :: pt q1 :: .bool false :: pt q4 :: .bool true :: pt q1 :: .int .i64 c.kd :: .agg #[.int .i64 c.kd, iN .i64 0, iN .i64 0, iN .i64 0, iN .i64 0, .string ({ data := #[] }), .slice none 0 0, .string ({ data := #[] }), iN .i64 0, iN .i64 0, .string ({ data := #[] }), .string ({ data := #[] }), iN .i64 0, .string ({ data := #[] }), .string ({ data := #[] }), iN .i64 0, .string ({ data := #[] }), .slice none 0 0, iN .i64 0, iN .u64 0, iN .u64 0, .string ({ data := #[] }), iN .i64 0, .string ({ data := #[] })] :: pt q1 :: .int .i64 c.kd :: .bool false :: .bool false :: .bool false :: .bool false :: .bool false :: .bool false :: .bool false :: .bool false :: .bool true :: .bool true :: un :: un :: un :: un :: un :: un :: un :: un :: un :: un :: un :: un :: un :: un :: un :: un :: un :: un :: un :: un :: un :: un :: un :: un :: un :: un :: un :: un :: un :: un :: un :: un :: un :: un :: un :: un :: un :: un :: un :: un :: un :: un :: un :: un :: un :: un :: un :: un :: un :: un :: un :: un :: un :: un :: un :: un :: un :: un :: un :: un :: un :: un :: un :: un :: .pointer (some ⟨q1, 18, none⟩) :: .int .i64 c.tt :: .pointer (some ⟨q1, 19, none⟩) :: iN .u64 c.no :: .pointer (some ⟨q1, 23, none⟩) :: .string c.bt :: .pointer (some ⟨q4, 18, none⟩) :: .pointer (some ⟨q4, 19, none⟩) :: .pointer (some ⟨q4, 23, none⟩) :: List.replicate 51 un).toArray, []⟩ ∧ HA (bs w) [(q4, 30, #[.int .i64 c.kd, iN .i64 0, iN .i64 0, iN .i64 0, iN .i64 0, .string ({ data := #[] }), .slice none 0 0, .string ({ data := #[] }), iN .i64 0, iN .i64 0, .string ({ data := #[] }), .string ({ data := #[] }), iN .i64 0, .string ({ data := #[] }), .string ({ data := #[] }), iN .i64 0, .string ({ data := #[] }), .slice none 0 0, .int .i64 c.tt, iN .u64 c.no, iN .u64 0, .string ({ data := #[] }), iN .i64 0, .string c.bt]), (q1, 30, caC c (.slice o c.li.ds.length k) (.slice p c.on.length m))] w') 12 ky ky ky ky ky ((h8.drew).get 1 rfl) ?_ ?_
      · have h75 := h8.drew
        refine zp 0 (.pointer (some ⟨q1, 18, none⟩)) ?_
        refine wx_val (i := 1) (.int .i64 c.tt) rfl rfl ky ky (fun w' h' => run_load1 (fun w => Try.isAgg3 w) ky ((h'.cell 18).trans rfl)) ?_
        refine zp 2 (.pointer (some ⟨q1, 19, none⟩)) ?_
        refine wx_val (i := 3) (iN .u64 c.no) rfl rfl ky ky (fun w' h' => run_load1 (fun w => Try.isAgg22 w) ky ((h'.cell 19).trans rfl)) ?_
        refine zp 4 (.pointer (some ⟨q1, 23, none⟩)) ?_
        refine wx_val (i := 5) (.string c.bt) rfl rfl ky ky (fun w' h' => run_load1 (fun w => Try.isAgg9 w) ky ((h'.cell 23).trans rfl)) ?_
        refine zp 6 (.pointer (some ⟨q4, 18, none⟩)) ?_
        refine wx_one 7 ky ?_
        refine ex_skipT rfl ky h75 fun w76 h77 => ⟨_, run_storev (q := q4) (i := 18) (v := .int .i64 c.tt) (fun w => Try.sizeOf3 w) ky ky ky (by rw [(h77.get 0 rfl).cell]; rfl) ((h77.get 0 rfl).free _ (by show 18 < 24; decide)), ?_⟩
        have h78 : HA (bs w) [(q4, 30, #[.int .i64 c.kd, iN .i64 0, iN .i64 0, iN .i64 0, iN .i64 0, .string ({ data := #[] }), .slice none 0 0, .string ({ data := #[] }), iN .i64 0, iN .i64 0, .string ({ data := #[] }), .string ({ data := #[] }), iN .i64 0, .string ({ data := #[] }), .string ({ data := #[] }), iN .i64 0, .string ({ data := #[] }), .slice none 0 0, .int .i64 c.tt, iN .u64 0, iN .u64 0, .string ({ data := #[] }), iN .i64 0, .string ({ data := #[] })]), (q1, 30, caC c (.slice o c.li.ds.length k) (.slice p c.on.length m))] _ := h77.put 0 rfl 18 (.int .i64 c.tt)
        refine ⟨_, .inr rfl, (h78.get 1 rfl), ?_⟩
        refine zp 8 (.pointer (some ⟨q4, 19, none⟩)) ?_
        refine wx_one 9 ky ?_
        refine ex_skipT rfl ky h78 fun w79 h80 => ⟨_, run_storev (q := q4) (i := 19) (v := iN .u64 c.no) (fun w => Try.sizeOf22 w) ky ky ky (by rw [(h80.get 0 rfl).cell]; rfl) ((h80.get 0 rfl).free _ (by show 19 < 24; decide)), ?_⟩
        have h81 : HA (bs w) [(q4, 30, #[.int .i64 c.kd, iN .i64 0, iN .i64 0, iN .i64 0, iN .i64 0, .string ({ data := #[] }), .slice none 0 0, .string ({ data := #[] }), iN .i64 0, iN .i64 0, .string ({ data := #[] }), .string ({ data := #[] }), iN .i64 0, .string ({ data := #[] }), .string ({ data := #[] }), iN .i64 0, .string ({ data := #[] }), .slice none 0 0, .int .i64 c.tt, iN .u64 c.no, iN .u64 0, .string ({ data := #[] }), iN .i64 0, .string ({ data := #[] })]), (q1, 30, caC c (.slice o c.li.ds.length k) (.slice p c.on.length m))] _ := h80.put 0 rfl 19 (iN .u64 c.no)
        refine ⟨_, .inr rfl, (h81.get 1 rfl), ?_⟩
        refine zp 10 (.pointer (some ⟨q4, 23, none⟩)) ?_
        refine wx_one 11 ky ?_
        refine ex_skipT rfl ky h81 fun w82 h83 => ⟨_, run_storev (q := q4) (i := 23) (v := .string c.bt) (fun w => Try.sizeOf9 w) ky ky ky (by rw [(h83.get 0 rfl).cell]; rfl) ((h83.get 0 rfl).free _ (by show 23 < 24; decide)), ?_⟩
        have h84 : HA (bs w) [(q4, 30, #[.int .i64 c.kd, iN .i64 0, iN .i64 0, iN .i64 0, iN .i64 0, .string ({ data := #[] }), .slice none 0 0, .string ({ data := #[] }), iN .i64 0, iN .i64 0, .string ({ data := #[] }), .string ({ data := #[] }), iN .i64 0, .string ({ data := #[] }), .string ({ data := #[] }), iN .i64 0, .string ({ data := #[] }), .slice none 0 0, .int .i64 c.tt, iN .u64 c.no, iN .u64 0, .string ({ data := #[] }), iN .i64 0, .string c.bt]), (q1, 30, caC c (.slice o c.li.ds.length k) (.slice p c.on.length m))] _ := h83.put 0 rfl 23 (.string c.bt)
        refine ⟨_, .inr rfl, (h84.get 1 rfl), ?_⟩
        refine wx_end fun w85 hbx _ => ?_
        have h86 := HA.keep _ _ h84 hbx
        exact ⟨by kernel_rfl, h86⟩
      · rintro _ w87 ⟨rfl, h88⟩
        refine then_at rfl (wl_region ?_)
        refine zv (.pointer (some ⟨q1, 18, none⟩)) ?_
        refine zu (.int .i64 c.tt) (run_load1 (fun w => Try.isAgg3 w) ky (((h88.get 1 rfl).cell 18).trans rfl)) ?_
        rcases q89 : isD c.tt with _ | _
        · refine wl_call (v := .bool false) h88 ky enter60 #[.int .i64 c.tt] ky (((isD_any c.tt).mono fun _ _ hh => ⟨by rw [hh.1, q89], hh.2⟩)) ?_
          intro w90 h91
          refine zv (.bool false) ?_
          refine wl_skip ky ?_
          refine wl_skip ky ?_
          refine wl_skip ky ?_
          refine zv (.bool false) ?_
          refine zv (.bool false) ?_
          refine wl_skip ky ?_
          refine wl_skip ky ?_
          refine wl_skip ky ?_
          refine wl_skip ky ?_
          refine zv (.bool false) ?_
          refine zv (.bool false) ?_
          refine wl_nil (then_at rfl ?_)
          refine wp_exit ?_
          repeat first | refine then_exit ?_ | refine block_exit ?_ | refine block_exit_ne (by decide) ?_
          exact then_I ⟨⟨c.kd, 0, 0, ⟨0, 0, { data := #[] }, [], { data := #[] }⟩, ⟨0, 0, { data := #[] }, { data := #[] }, 0, { data := #[] }, { data := #[] }, 0, { data := #[] }⟩, [], c.tt, c.no, 0, { data := #[] }, 0, c.bt⟩, false, none, 0, none, 0, fun ii => (([(2, .bool false), (8, .pointer (some ⟨q1, 0, none⟩)), (9, .int .i64 c.kd), (10, .bool false), (11, .bool false), (12, .bool false), (13, .bool false), (14, .bool false), (15, .bool false), (16, .bool false), (17, .bool false), (18, .bool true), (19, .bool true), (84, .pointer (some ⟨q1, 18, none⟩)), (85, .int .i64 c.tt), (86, .pointer (some ⟨q1, 19, none⟩)), (87, iN .u64 c.no), (88, .pointer (some ⟨q1, 23, none⟩)), (89, .string c.bt), (90, .pointer (some ⟨q4, 18, none⟩)), (91, .pointer (some ⟨q4, 19, none⟩)), (92, .pointer (some ⟨q4, 23, none⟩)), (93, .pointer (some ⟨q1, 18, none⟩)), (94, .int .i64 c.tt), (95, .bool false), (96, .bool false), (100, .bool false), (101, .bool false), (106, .bool false)] : List (Nat × Value)).find? (·.1 == ii)).elim undef (·.2), by kernel_rfl, (by unfold mayC; rw [q10, q27, q35, q43, q74, q89]; rfl), (At.nil _), (At.nil _), h91⟩
        refine wl_call (v := .bool true) h88 ky enter60 #[.int .i64 c.tt] ky (((isD_any c.tt).mono fun _ _ hh => ⟨by rw [hh.1, q89], hh.2⟩)) ?_
        intro w92 h93
        refine zv (.bool true) ?_
        refine zv (.pointer (some ⟨q1, 19, none⟩)) ?_
        refine zu (iN .u64 c.no) (run_load1 (fun w => Try.isAgg22 w) ky (((h93.get 1 rfl).cell 19).trans rfl)) ?_
        rcases q94 : wn c.no 1 1099511627776 with _ | _
        · refine wl_call (v := .bool false) h93 ky enter61 #[iN .u64 c.no, iN .u64 1, iN .u64 1099511627776] ky (((wu_any c.no 1 1099511627776).mono fun _ _ hh => ⟨by rw [hh.1, q94], hh.2⟩)) ?_
          intro w95 h96
          refine zv (.bool false) ?_
          refine zv (.bool false) ?_
          refine wl_skip ky ?_
          refine wl_skip ky ?_
          refine wl_skip ky ?_
          refine wl_skip ky ?_
          refine zv (.bool false) ?_
          refine zv (.bool false) ?_
          refine wl_nil (then_at rfl ?_)
          refine wp_exit ?_
          repeat first | refine then_exit ?_ | refine block_exit ?_ | refine block_exit_ne (by decide) ?_
          exact then_I ⟨⟨c.kd, 0, 0, ⟨0, 0, { data := #[] }, [], { data := #[] }⟩, ⟨0, 0, { data := #[] }, { data := #[] }, 0, { data := #[] }, { data := #[] }, 0, { data := #[] }⟩, [], c.tt, c.no, 0, { data := #[] }, 0, c.bt⟩, false, none, 0, none, 0, fun ii => (([(2, .bool false), (8, .pointer (some ⟨q1, 0, none⟩)), (9, .int .i64 c.kd), (10, .bool false), (11, .bool false), (12, .bool false), (13, .bool false), (14, .bool false), (15, .bool false), (16, .bool false), (17, .bool false), (18, .bool true), (19, .bool true), (84, .pointer (some ⟨q1, 18, none⟩)), (85, .int .i64 c.tt), (86, .pointer (some ⟨q1, 19, none⟩)), (87, iN .u64 c.no), (88, .pointer (some ⟨q1, 23, none⟩)), (89, .string c.bt), (90, .pointer (some ⟨q4, 18, none⟩)), (91, .pointer (some ⟨q4, 19, none⟩)), (92, .pointer (some ⟨q4, 23, none⟩)), (93, .pointer (some ⟨q1, 18, none⟩)), (94, .int .i64 c.tt), (95, .bool true), (96, .bool true), (97, .pointer (some ⟨q1, 19, none⟩)), (98, iN .u64 c.no), (99, .bool false), (100, .bool false), (101, .bool false), (106, .bool false)] : List (Nat × Value)).find? (·.1 == ii)).elim undef (·.2), by kernel_rfl, (by unfold mayC; rw [q10, q27, q35, q43, q74, q89, q94]; rfl), (At.nil _), (At.nil _), h96⟩
        refine wl_call (v := .bool true) h93 ky enter61 #[iN .u64 c.no, iN .u64 1, iN .u64 1099511627776] ky (((wu_any c.no 1 1099511627776).mono fun _ _ hh => ⟨by rw [hh.1, q94], hh.2⟩)) ?_
        intro w97 h98
        refine zv (.bool true) ?_
        refine zv (.bool true) ?_
        refine zv (.pointer (some ⟨q1, 23, none⟩)) ?_
        refine zu (.string c.bt) (run_load1 (fun w => Try.isAgg9 w) ky (((h98.get 1 rfl).cell 23).trans rfl)) ?_
        refine zu (iN .i64 c.bt.size) (run_len (s := c.bt) ky) ?_
        rcases q99 : wi (((c.bt.size : Nat) : Int)) 1 4096 with _ | _
        · refine wl_call (v := .bool false) h98 ky enter42 #[iN .i64 c.bt.size, iN .i64 1, iN .i64 4096] ky (((wi_any (((c.bt.size : Nat) : Int)) 1 4096).mono fun _ _ hh => ⟨by rw [hh.1, q99], hh.2⟩)) ?_
          intro w100 h101
          refine zv (.bool false) ?_
          refine zv (.bool false) ?_
          refine wl_nil (then_at rfl ?_)
          refine wp_exit ?_
          repeat first | refine then_exit ?_ | refine block_exit ?_ | refine block_exit_ne (by decide) ?_
          exact then_I ⟨⟨c.kd, 0, 0, ⟨0, 0, { data := #[] }, [], { data := #[] }⟩, ⟨0, 0, { data := #[] }, { data := #[] }, 0, { data := #[] }, { data := #[] }, 0, { data := #[] }⟩, [], c.tt, c.no, 0, { data := #[] }, 0, c.bt⟩, false, none, 0, none, 0, fun ii => (([(2, .bool false), (8, .pointer (some ⟨q1, 0, none⟩)), (9, .int .i64 c.kd), (10, .bool false), (11, .bool false), (12, .bool false), (13, .bool false), (14, .bool false), (15, .bool false), (16, .bool false), (17, .bool false), (18, .bool true), (19, .bool true), (84, .pointer (some ⟨q1, 18, none⟩)), (85, .int .i64 c.tt), (86, .pointer (some ⟨q1, 19, none⟩)), (87, iN .u64 c.no), (88, .pointer (some ⟨q1, 23, none⟩)), (89, .string c.bt), (90, .pointer (some ⟨q4, 18, none⟩)), (91, .pointer (some ⟨q4, 19, none⟩)), (92, .pointer (some ⟨q4, 23, none⟩)), (93, .pointer (some ⟨q1, 18, none⟩)), (94, .int .i64 c.tt), (95, .bool true), (96, .bool true), (97, .pointer (some ⟨q1, 19, none⟩)), (98, iN .u64 c.no), (99, .bool true), (100, .bool true), (101, .bool true), (102, .pointer (some ⟨q1, 23, none⟩)), (103, .string c.bt), (104, iN .i64 c.bt.size), (105, .bool false), (106, .bool false)] : List (Nat × Value)).find? (·.1 == ii)).elim undef (·.2), by kernel_rfl, (by unfold mayC; rw [q10, q27, q35, q43, q74, q89, q94, q99]; rfl), (At.nil _), (At.nil _), h101⟩
        refine wl_call (v := .bool true) h98 ky enter42 #[iN .i64 c.bt.size, iN .i64 1, iN .i64 4096] ky (((wi_any (((c.bt.size : Nat) : Int)) 1 4096).mono fun _ _ hh => ⟨by rw [hh.1, q99], hh.2⟩)) ?_
        intro w102 h103
        refine zv (.bool true) ?_
        refine zv (.bool true) ?_
        refine wl_nil (then_at rfl ?_)
        refine wp_exit ?_
        repeat first | refine then_exit ?_ | refine block_exit ?_ | refine block_exit_ne (by decide) ?_
        exact then_I ⟨⟨c.kd, 0, 0, ⟨0, 0, { data := #[] }, [], { data := #[] }⟩, ⟨0, 0, { data := #[] }, { data := #[] }, 0, { data := #[] }, { data := #[] }, 0, { data := #[] }⟩, [], c.tt, c.no, 0, { data := #[] }, 0, c.bt⟩, true, none, 0, none, 0, fun ii => (([(2, .bool false), (8, .pointer (some ⟨q1, 0, none⟩)), (9, .int .i64 c.kd), (10, .bool false), (11, .bool false), (12, .bool false), (13, .bool false), (14, .bool false), (15, .bool false), (16, .bool false), (17, .bool false), (18, .bool true), (19, .bool true), (84, .pointer (some ⟨q1, 18, none⟩)), (85, .int .i64 c.tt), (86, .pointer (some ⟨q1, 19, none⟩)), (87, iN .u64 c.no), (88, .pointer (some ⟨q1, 23, none⟩)), (89, .string c.bt), (90, .pointer (some ⟨q4, 18, none⟩)), (91, .pointer (some ⟨q4, 19, none⟩)), (92, .pointer (some ⟨q4, 23, none⟩)), (93, .pointer (some ⟨q1, 18, none⟩)), (94, .int .i64 c.tt), (95, .bool true), (96, .bool true), (97, .pointer (some ⟨q1, 19, none⟩)), (98, iN .u64 c.no), (99, .bool true), (100, .bool true), (101, .bool true), (102, .pointer (some ⟨q1, 23, none⟩)), (103, .string c.bt), (104, iN .i64 c.bt.size), (105, .bool true), (106, .bool true)] : List (Nat × Value)).find? (·.1 == ii)).elim undef (·.2), by kernel_rfl, (by unfold mayC; rw [q10, q27, q35, q43, q74, q89, q94, q99]; rfl), (At.nil _), (At.nil _), h103⟩
    refine zu (.bool false) (run_eqZ (k := .i64) (a := c.kd) (b := 5) ky ky false q74) ?_
    refine zv (.bool false) ?_
    refine wl_nil (then_at rfl ?_)
    refine wp_cond_false ky ?_
    refine wp_skip (then_at rfl (wp_seq (wp_seq (wp_seq (wl_region ?_)))))
    rcases q104 : decide (c.kd = 6) with _ | _; rotate_left
    · refine zu (.bool true) (run_eqZ (k := .i64) (a := c.kd) (b := 6) ky ky true q104) ?_
      refine zv (.bool true) ?_
      refine wl_nil (then_at rfl ?_)
      refine wp_cond_true ky ?_
      refine wp_skip (then_at rfl ?_)
      refine wp_cond_true ky ?_
      refine wp_exit ?_
      repeat first | refine then_exit ?_ | refine block_exit ?_ | refine block_exit_ne (by decide) ?_
      refine then_at rfl (wp_seq (wp_seq (wl_region ?_)))
      refine zv (.pointer (some ⟨q1, 20, none⟩)) ?_
      refine zu (iN .u64 c.af) (run_load1 (fun w => Try.isAgg22 w) ky (((h8.get 1 rfl).cell 20).trans rfl)) ?_
      refine zv (.pointer (some ⟨q4, 20, none⟩)) ?_
      refine wl_putv (v := iN .u64 c.af) h8 0 rfl 20 (by show 20 < 24; decide) ky (fun w => Try.sizeOf22 w) ky ky ky ?_
      intro w105 (h106 : HA (bs w) [(q4, 30, #[.int .i64 c.kd, iN .i64 0, iN .i64 0, iN .i64 0, iN .i64 0, .string ({ data := #[] }), .slice none 0 0, .string ({ data := #[] }), iN .i64 0, iN .i64 0, .string ({ data := #[] }), .string ({ data := #[] }), iN .i64 0, .string ({ data := #[] }), .string ({ data := #[] }), iN .i64 0, .string ({ data := #[] }), .slice none 0 0, iN .i64 0, iN .u64 0, iN .u64 c.af, .string ({ data := #[] }), iN .i64 0, .string ({ data := #[] })]), (q1, 30, caC c (.slice o c.li.ds.length k) (.slice p c.on.length m))] w105)
      refine wl_nil (then_at rfl (wl_region ?_))
      refine zv (.pointer (some ⟨q1, 20, none⟩)) ?_
      refine zu (iN .u64 c.af) (run_load1 (fun w => Try.isAgg22 w) ky (((h106.get 1 rfl).cell 20).trans rfl)) ?_
      rcases q107 : wn c.af 0 1099511627776 with _ | _
      · refine wl_call (v := .bool false) h106 ky enter61 #[iN .u64 c.af, iN .u64 0, iN .u64 1099511627776] ky (((wu_any c.af 0 1099511627776).mono fun _ _ hh => ⟨by rw [hh.1, q107], hh.2⟩)) ?_
        intro w108 h109
        refine zv (.bool false) ?_
        refine wl_nil (then_at rfl ?_)
        refine wp_exit ?_
        repeat first | refine then_exit ?_ | refine block_exit ?_ | refine block_exit_ne (by decide) ?_
        exact then_I ⟨⟨c.kd, 0, 0, ⟨0, 0, { data := #[] }, [], { data := #[] }⟩, ⟨0, 0, { data := #[] }, { data := #[] }, 0, { data := #[] }, { data := #[] }, 0, { data := #[] }⟩, [], 0, 0, c.af, { data := #[] }, 0, { data := #[] }⟩, false, none, 0, none, 0, fun ii => (([(2, .bool false), (8, .pointer (some ⟨q1, 0, none⟩)), (9, .int .i64 c.kd), (10, .bool false), (11, .bool false), (12, .bool false), (13, .bool false), (14, .bool false), (15, .bool false), (16, .bool false), (17, .bool false), (18, .bool false), (19, .bool false), (20, .bool true), (21, .bool true), (107, .pointer (some ⟨q1, 20, none⟩)), (108, iN .u64 c.af), (109, .pointer (some ⟨q4, 20, none⟩)), (110, .pointer (some ⟨q1, 20, none⟩)), (111, iN .u64 c.af), (112, .bool false)] : List (Nat × Value)).find? (·.1 == ii)).elim undef (·.2), by kernel_rfl, (by unfold mayC; rw [q10, q27, q35, q43, q74, q104, q107]; rfl), (At.nil _), (At.nil _), h109⟩
      refine wl_call (v := .bool true) h106 ky enter61 #[iN .u64 c.af, iN .u64 0, iN .u64 1099511627776] ky (((wu_any c.af 0 1099511627776).mono fun _ _ hh => ⟨by rw [hh.1, q107], hh.2⟩)) ?_
      intro w110 h111
      refine zv (.bool true) ?_
      refine wl_nil (then_at rfl ?_)
      refine wp_exit ?_
      repeat first | refine then_exit ?_ | refine block_exit ?_ | refine block_exit_ne (by decide) ?_
      exact then_I ⟨⟨c.kd, 0, 0, ⟨0, 0, { data := #[] }, [], { data := #[] }⟩, ⟨0, 0, { data := #[] }, { data := #[] }, 0, { data := #[] }, { data := #[] }, 0, { data := #[] }⟩, [], 0, 0, c.af, { data := #[] }, 0, { data := #[] }⟩, true, none, 0, none, 0, fun ii => (([(2, .bool false), (8, .pointer (some ⟨q1, 0, none⟩)), (9, .int .i64 c.kd), (10, .bool false), (11, .bool false), (12, .bool false), (13, .bool false), (14, .bool false), (15, .bool false), (16, .bool false), (17, .bool false), (18, .bool false), (19, .bool false), (20, .bool true), (21, .bool true), (107, .pointer (some ⟨q1, 20, none⟩)), (108, iN .u64 c.af), (109, .pointer (some ⟨q4, 20, none⟩)), (110, .pointer (some ⟨q1, 20, none⟩)), (111, iN .u64 c.af), (112, .bool true)] : List (Nat × Value)).find? (·.1 == ii)).elim undef (·.2), by kernel_rfl, (by unfold mayC; rw [q10, q27, q35, q43, q74, q104, q107]; rfl), (At.nil _), (At.nil _), h111⟩
    refine zu (.bool false) (run_eqZ (k := .i64) (a := c.kd) (b := 6) ky ky false q104) ?_
    refine zv (.bool false) ?_
    refine wl_nil (then_at rfl ?_)
    refine wp_cond_false ky ?_
    refine wl_region ?_
    rcases q112 : decide (c.kd = 7) with _ | _; rotate_left
    · refine zu (.bool true) (run_eqZ (k := .i64) (a := c.kd) (b := 7) ky ky true q112) ?_
      refine zv (.bool true) ?_
      refine wl_nil (then_at rfl ?_)
      refine wp_cond_true ky ?_
      refine wp_exit ?_
      repeat first | refine then_exit ?_ | refine block_exit ?_ | refine block_exit_ne (by decide) ?_
      refine then_at rfl (wp_seq (wp_seq (wl_region ?_)))
      refine zv (.pointer (some ⟨q1, 20, none⟩)) ?_
      refine zu (iN .u64 c.af) (run_load1 (fun w => Try.isAgg22 w) ky (((h8.get 1 rfl).cell 20).trans rfl)) ?_
      refine zv (.pointer (some ⟨q4, 20, none⟩)) ?_
      refine wl_putv (v := iN .u64 c.af) h8 0 rfl 20 (by show 20 < 24; decide) ky (fun w => Try.sizeOf22 w) ky ky ky ?_
      intro w113 (h114 : HA (bs w) [(q4, 30, #[.int .i64 c.kd, iN .i64 0, iN .i64 0, iN .i64 0, iN .i64 0, .string ({ data := #[] }), .slice none 0 0, .string ({ data := #[] }), iN .i64 0, iN .i64 0, .string ({ data := #[] }), .string ({ data := #[] }), iN .i64 0, .string ({ data := #[] }), .string ({ data := #[] }), iN .i64 0, .string ({ data := #[] }), .slice none 0 0, iN .i64 0, iN .u64 0, iN .u64 c.af, .string ({ data := #[] }), iN .i64 0, .string ({ data := #[] })]), (q1, 30, caC c (.slice o c.li.ds.length k) (.slice p c.on.length m))] w113)
      refine wl_nil (then_at rfl (wl_region ?_))
      refine zv (.pointer (some ⟨q1, 20, none⟩)) ?_
      refine zu (iN .u64 c.af) (run_load1 (fun w => Try.isAgg22 w) ky (((h114.get 1 rfl).cell 20).trans rfl)) ?_
      rcases q115 : wn c.af 0 1099511627776 with _ | _
      · refine wl_call (v := .bool false) h114 ky enter61 #[iN .u64 c.af, iN .u64 0, iN .u64 1099511627776] ky (((wu_any c.af 0 1099511627776).mono fun _ _ hh => ⟨by rw [hh.1, q115], hh.2⟩)) ?_
        intro w116 h117
        refine zv (.bool false) ?_
        refine wl_nil (then_at rfl ?_)
        refine wp_exit ?_
        repeat first | refine then_exit ?_ | refine block_exit ?_ | refine block_exit_ne (by decide) ?_
        exact then_I ⟨⟨c.kd, 0, 0, ⟨0, 0, { data := #[] }, [], { data := #[] }⟩, ⟨0, 0, { data := #[] }, { data := #[] }, 0, { data := #[] }, { data := #[] }, 0, { data := #[] }⟩, [], 0, 0, c.af, { data := #[] }, 0, { data := #[] }⟩, false, none, 0, none, 0, fun ii => (([(2, .bool false), (8, .pointer (some ⟨q1, 0, none⟩)), (9, .int .i64 c.kd), (10, .bool false), (11, .bool false), (12, .bool false), (13, .bool false), (14, .bool false), (15, .bool false), (16, .bool false), (17, .bool false), (18, .bool false), (19, .bool false), (20, .bool true), (21, .bool false), (22, .bool true), (107, .pointer (some ⟨q1, 20, none⟩)), (108, iN .u64 c.af), (109, .pointer (some ⟨q4, 20, none⟩)), (110, .pointer (some ⟨q1, 20, none⟩)), (111, iN .u64 c.af), (112, .bool false)] : List (Nat × Value)).find? (·.1 == ii)).elim undef (·.2), by kernel_rfl, (by unfold mayC; rw [q10, q27, q35, q43, q74, q104, q112, q115]; rfl), (At.nil _), (At.nil _), h117⟩
      refine wl_call (v := .bool true) h114 ky enter61 #[iN .u64 c.af, iN .u64 0, iN .u64 1099511627776] ky (((wu_any c.af 0 1099511627776).mono fun _ _ hh => ⟨by rw [hh.1, q115], hh.2⟩)) ?_
      intro w118 h119
      refine zv (.bool true) ?_
      refine wl_nil (then_at rfl ?_)
      refine wp_exit ?_
      repeat first | refine then_exit ?_ | refine block_exit ?_ | refine block_exit_ne (by decide) ?_
      exact then_I ⟨⟨c.kd, 0, 0, ⟨0, 0, { data := #[] }, [], { data := #[] }⟩, ⟨0, 0, { data := #[] }, { data := #[] }, 0, { data := #[] }, { data := #[] }, 0, { data := #[] }⟩, [], 0, 0, c.af, { data := #[] }, 0, { data := #[] }⟩, true, none, 0, none, 0, fun ii => (([(2, .bool false), (8, .pointer (some ⟨q1, 0, none⟩)), (9, .int .i64 c.kd), (10, .bool false), (11, .bool false), (12, .bool false), (13, .bool false), (14, .bool false), (15, .bool false), (16, .bool false), (17, .bool false), (18, .bool false), (19, .bool false), (20, .bool true), (21, .bool false), (22, .bool true), (107, .pointer (some ⟨q1, 20, none⟩)), (108, iN .u64 c.af), (109, .pointer (some ⟨q4, 20, none⟩)), (110, .pointer (some ⟨q1, 20, none⟩)), (111, iN .u64 c.af), (112, .bool true)] : List (Nat × Value)).find? (·.1 == ii)).elim undef (·.2), by kernel_rfl, (by unfold mayC; rw [q10, q27, q35, q43, q74, q104, q112, q115]; rfl), (At.nil _), (At.nil _), h119⟩
    refine zu (.bool false) (run_eqZ (k := .i64) (a := c.kd) (b := 7) ky ky false q112) ?_
    refine zv (.bool false) ?_
    refine wl_nil (then_at rfl ?_)
    refine wp_cond_false ky ?_
    refine wp_skip (then_at rfl (wp_seq (wp_seq (wl_region ?_))))
    rcases q120 : decide (c.kd = 8) with _ | _; rotate_left
    · refine zu (.bool true) (run_eqZ (k := .i64) (a := c.kd) (b := 8) ky ky true q120) ?_
      refine zv (.bool true) ?_
      refine wl_nil (then_at rfl ?_)
      refine wp_cond_true ky ?_
      refine wp_exit ?_
      repeat first | refine then_exit ?_ | refine block_exit ?_ | refine block_exit_ne (by decide) ?_
      refine then_at rfl (wp_seq (wl_region ?_))
      refine zv (.pointer (some ⟨q1, 23, none⟩)) ?_
      refine zu (.string c.bt) (run_load1 (fun w => Try.isAgg9 w) ky (((h8.get 1 rfl).cell 23).trans rfl)) ?_
      refine zv (.pointer (some ⟨q4, 23, none⟩)) ?_
      refine wl_putv (v := .string c.bt) h8 0 rfl 23 (by show 23 < 24; decide) ky (fun w => Try.sizeOf9 w) ky ky ky ?_
      intro w121 (h122 : HA (bs w) [(q4, 30, #[.int .i64 c.kd, iN .i64 0, iN .i64 0, iN .i64 0, iN .i64 0, .string ({ data := #[] }), .slice none 0 0, .string ({ data := #[] }), iN .i64 0, iN .i64 0, .string ({ data := #[] }), .string ({ data := #[] }), iN .i64 0, .string ({ data := #[] }), .string ({ data := #[] }), iN .i64 0, .string ({ data := #[] }), .slice none 0 0, iN .i64 0, iN .u64 0, iN .u64 0, .string ({ data := #[] }), iN .i64 0, .string c.bt]), (q1, 30, caC c (.slice o c.li.ds.length k) (.slice p c.on.length m))] w121)
      refine wl_nil (then_at rfl (wl_region ?_))
      refine zv (.pointer (some ⟨q1, 23, none⟩)) ?_
      refine zu (.string c.bt) (run_load1 (fun w => Try.isAgg9 w) ky (((h122.get 1 rfl).cell 23).trans rfl)) ?_
      refine zu (iN .i64 c.bt.size) (run_len (s := c.bt) ky) ?_
      rcases q123 : wi (((c.bt.size : Nat) : Int)) 1 4096 with _ | _
      · refine wl_call (v := .bool false) h122 ky enter42 #[iN .i64 c.bt.size, iN .i64 1, iN .i64 4096] ky (((wi_any (((c.bt.size : Nat) : Int)) 1 4096).mono fun _ _ hh => ⟨by rw [hh.1, q123], hh.2⟩)) ?_
        intro w124 h125
        refine zv (.bool false) ?_
        refine wl_nil (block_normal (then_at rfl (wp_seq (wp_seq ?_))))
        refine wp_region_wx (fun w' => Blk w' q1 30 (caC c (.slice o c.li.ds.length k) (.slice p c.on.length m))) (fun AQ w' => AQ = ⟨(.agg (caC c (.slice o c.li.ds.length k) (.slice p c.on.length m)) :: pt q1 :: .bool false :: pt q4 :: .bool false :: pt q1 :: .int .i64 c.kd :: .agg #[.int .i64 c.kd, iN .i64 0, iN .i64 0, iN .i64 0, iN .i64 0, .string ({ data := #[] }), .slice none 0 0, .string ({ data := #[] }), iN .i64 0, iN .i64 0, .string ({ data := #[] }), .string ({ data := #[] }), iN .i64 0, .string ({ data := #[] }), .string ({ data := #[] }), iN .i64 0, .string ({ data := #[] }), .slice none 0 0, iN .i64 0, iN .u64 0, iN .u64 0, .string ({ data := #[] }), iN .i64 0, .string ({ data := #[] })] :: pt q1 :: .int .i64 c.kd :: .bool false :: .bool false :: .bool false :: .bool false :: .bool false :: .bool false :: .bool false :: .bool false :: .bool false :: .bool false :: .bool false :: .bool false :: .bool false :: .bool true :: .bool true :: un :: un :: un :: un :: un :: un :: un :: un :: un :: un :: un :: un :: un :: un :: un :: un :: un :: un :: un :: un :: un :: un :: un :: un :: un :: un :: un :: un :: un :: un :: un :: un :: un :: un :: un :: un :: un :: un :: un :: un :: un :: un :: un :: un :: un :: un :: un :: un :: un :: un :: un :: un :: un :: un :: un :: un :: un :: un :: un :: un :: un :: un :: un :: un :: un :: un :: un :: un :: un :: un :: un :: un :: un :: un :: un :: un :: un :: un :: un :: un :: un :: un :: un :: un :: un :: un :: un :: un :: .pointer (some ⟨q1, 23, none⟩) :: .string c.bt :: .pointer (some ⟨q4, 23, none⟩) :: .pointer (some ⟨q1, 23, none⟩) :: .string c.bt :: iN .i64 c.bt.size :: .bool false :: .pointer (some ⟨q1, 21, none⟩) :: .string c.nm :: .pointer (some ⟨q1, 22, none⟩) :: .int .i64 c.ix :: .pointer (some ⟨q4, 21, none⟩) :: .pointer (some ⟨q4, 22, none⟩) :: List.replicate 18 un).toArray, []⟩ ∧ HA (bs w) [(q4, 30, #[.int .i64 c.kd, iN .i64 0, iN .i64 0, iN .i64 0, iN .i64 0, .string ({ data := #[] }), .slice none 0 0, .string ({ data := #[] }), iN .i64 0, iN .i64 0, .string ({ data := #[] }), .string ({ data := #[] }), iN .i64 0, .string ({ data := #[] }), .string ({ data := #[] }), iN .i64 0, .string ({ data := #[] }), .slice none 0 0, iN .i64 0, iN .u64 0, iN .u64 0, .string c.nm, .int .i64 c.ix, .string c.bt]), (q1, 30, caC c (.slice o c.li.ds.length k) (.slice p c.on.length m))] w') 8 ky ky ky ky ky ((h125.drew).get 1 rfl) ?_ ?_
        · have h126 := h125.drew
          refine zp 0 (.pointer (some ⟨q1, 21, none⟩)) ?_
          refine wx_val (i := 1) (.string c.nm) rfl rfl ky ky (fun w' h' => run_load1 (fun w => Try.isAgg9 w) ky ((h'.cell 21).trans rfl)) ?_
          refine zp 2 (.pointer (some ⟨q1, 22, none⟩)) ?_
          refine wx_val (i := 3) (.int .i64 c.ix) rfl rfl ky ky (fun w' h' => run_load1 (fun w => Try.isAgg3 w) ky ((h'.cell 22).trans rfl)) ?_
          refine zp 4 (.pointer (some ⟨q4, 21, none⟩)) ?_
          refine wx_one 5 ky ?_
          refine ex_skipT rfl ky h126 fun w127 h128 => ⟨_, run_storev (q := q4) (i := 21) (v := .string c.nm) (fun w => Try.sizeOf9 w) ky ky ky (by rw [(h128.get 0 rfl).cell]; rfl) ((h128.get 0 rfl).free _ (by show 21 < 24; decide)), ?_⟩
          have h129 : HA (bs w) [(q4, 30, #[.int .i64 c.kd, iN .i64 0, iN .i64 0, iN .i64 0, iN .i64 0, .string ({ data := #[] }), .slice none 0 0, .string ({ data := #[] }), iN .i64 0, iN .i64 0, .string ({ data := #[] }), .string ({ data := #[] }), iN .i64 0, .string ({ data := #[] }), .string ({ data := #[] }), iN .i64 0, .string ({ data := #[] }), .slice none 0 0, iN .i64 0, iN .u64 0, iN .u64 0, .string c.nm, iN .i64 0, .string c.bt]), (q1, 30, caC c (.slice o c.li.ds.length k) (.slice p c.on.length m))] _ := h128.put 0 rfl 21 (.string c.nm)
          refine ⟨_, .inr rfl, (h129.get 1 rfl), ?_⟩
          refine zp 6 (.pointer (some ⟨q4, 22, none⟩)) ?_
          refine wx_one 7 ky ?_
          refine ex_skipT rfl ky h129 fun w130 h131 => ⟨_, run_storev (q := q4) (i := 22) (v := .int .i64 c.ix) (fun w => Try.sizeOf3 w) ky ky ky (by rw [(h131.get 0 rfl).cell]; rfl) ((h131.get 0 rfl).free _ (by show 22 < 24; decide)), ?_⟩
          have h132 : HA (bs w) [(q4, 30, #[.int .i64 c.kd, iN .i64 0, iN .i64 0, iN .i64 0, iN .i64 0, .string ({ data := #[] }), .slice none 0 0, .string ({ data := #[] }), iN .i64 0, iN .i64 0, .string ({ data := #[] }), .string ({ data := #[] }), iN .i64 0, .string ({ data := #[] }), .string ({ data := #[] }), iN .i64 0, .string ({ data := #[] }), .slice none 0 0, iN .i64 0, iN .u64 0, iN .u64 0, .string c.nm, .int .i64 c.ix, .string c.bt]), (q1, 30, caC c (.slice o c.li.ds.length k) (.slice p c.on.length m))] _ := h131.put 0 rfl 22 (.int .i64 c.ix)
          refine ⟨_, .inr rfl, (h132.get 1 rfl), ?_⟩
          refine wx_end fun w133 hbx _ => ?_
          have h134 := HA.keep _ _ h132 hbx
          exact ⟨by kernel_rfl, h134⟩
        · rintro _ w135 ⟨rfl, h136⟩
          refine then_at rfl (wl_region ?_)
          refine zv (.bool false) ?_
          refine zv (.bool false) ?_
          refine wl_skip ky ?_
          refine wl_skip ky ?_
          refine wl_skip ky ?_
          refine wl_skip ky ?_
          refine zv (.bool false) ?_
          refine zv (.bool false) ?_
          refine wl_skip ky ?_
          refine wl_skip ky ?_
          refine wl_skip ky ?_
          refine zv (.bool false) ?_
          refine zv (.bool false) ?_
          refine wl_nil (then_at rfl ?_)
          refine wp_exit ?_
          repeat first | refine then_exit ?_ | refine block_exit ?_ | refine block_exit_ne (by decide) ?_
          exact then_I ⟨⟨c.kd, 0, 0, ⟨0, 0, { data := #[] }, [], { data := #[] }⟩, ⟨0, 0, { data := #[] }, { data := #[] }, 0, { data := #[] }, { data := #[] }, 0, { data := #[] }⟩, [], 0, 0, 0, c.nm, c.ix, c.bt⟩, false, none, 0, none, 0, fun ii => (([(2, .bool false), (8, .pointer (some ⟨q1, 0, none⟩)), (9, .int .i64 c.kd), (10, .bool false), (11, .bool false), (12, .bool false), (13, .bool false), (14, .bool false), (15, .bool false), (16, .bool false), (17, .bool false), (18, .bool false), (19, .bool false), (20, .bool false), (21, .bool false), (22, .bool false), (23, .bool true), (24, .bool true), (113, .pointer (some ⟨q1, 23, none⟩)), (114, .string c.bt), (115, .pointer (some ⟨q4, 23, none⟩)), (116, .pointer (some ⟨q1, 23, none⟩)), (117, .string c.bt), (118, iN .i64 c.bt.size), (119, .bool false), (120, .pointer (some ⟨q1, 21, none⟩)), (121, .string c.nm), (122, .pointer (some ⟨q1, 22, none⟩)), (123, .int .i64 c.ix), (124, .pointer (some ⟨q4, 21, none⟩)), (125, .pointer (some ⟨q4, 22, none⟩)), (126, .bool false), (127, .bool false), (132, .bool false), (133, .bool false), (137, .bool false)] : List (Nat × Value)).find? (·.1 == ii)).elim undef (·.2), by kernel_rfl, (by unfold mayC; rw [q10, q27, q35, q43, q74, q104, q112, q120, q123]; rfl), (At.nil _), (At.nil _), h136⟩
      refine wl_call (v := .bool true) h122 ky enter42 #[iN .i64 c.bt.size, iN .i64 1, iN .i64 4096] ky (((wi_any (((c.bt.size : Nat) : Int)) 1 4096).mono fun _ _ hh => ⟨by rw [hh.1, q123], hh.2⟩)) ?_
      intro w137 h138
      refine zv (.bool true) ?_
      refine wl_nil (block_normal (then_at rfl (wp_seq (wp_seq ?_))))
      refine wp_region_wx (fun w' => Blk w' q1 30 (caC c (.slice o c.li.ds.length k) (.slice p c.on.length m))) (fun AQ w' => AQ = ⟨(.agg (caC c (.slice o c.li.ds.length k) (.slice p c.on.length m)) :: pt q1 :: .bool false :: pt q4 :: .bool true :: pt q1 :: .int .i64 c.kd :: .agg #[.int .i64 c.kd, iN .i64 0, iN .i64 0, iN .i64 0, iN .i64 0, .string ({ data := #[] }), .slice none 0 0, .string ({ data := #[] }), iN .i64 0, iN .i64 0, .string ({ data := #[] }), .string ({ data := #[] }), iN .i64 0, .string ({ data := #[] }), .string ({ data := #[] }), iN .i64 0, .string ({ data := #[] }), .slice none 0 0, iN .i64 0, iN .u64 0, iN .u64 0, .string ({ data := #[] }), iN .i64 0, .string ({ data := #[] })] :: pt q1 :: .int .i64 c.kd :: .bool false :: .bool false :: .bool false :: .bool false :: .bool false :: .bool false :: .bool false :: .bool false :: .bool false :: .bool false :: .bool false :: .bool false :: .bool false :: .bool true :: .bool true :: un :: un :: un :: un :: un :: un :: un :: un :: un :: un :: un :: un :: un :: un :: un :: un :: un :: un :: un :: un :: un :: un :: un :: un :: un :: un :: un :: un :: un :: un :: un :: un :: un :: un :: un :: un :: un :: un :: un :: un :: un :: un :: un :: un :: un :: un :: un :: un :: un :: un :: un :: un :: un :: un :: un :: un :: un :: un :: un :: un :: un :: un :: un :: un :: un :: un :: un :: un :: un :: un :: un :: un :: un :: un :: un :: un :: un :: un :: un :: un :: un :: un :: un :: un :: un :: un :: un :: un :: .pointer (some ⟨q1, 23, none⟩) :: .string c.bt :: .pointer (some ⟨q4, 23, none⟩) :: .pointer (some ⟨q1, 23, none⟩) :: .string c.bt :: iN .i64 c.bt.size :: .bool true :: .pointer (some ⟨q1, 21, none⟩) :: .string c.nm :: .pointer (some ⟨q1, 22, none⟩) :: .int .i64 c.ix :: .pointer (some ⟨q4, 21, none⟩) :: .pointer (some ⟨q4, 22, none⟩) :: List.replicate 18 un).toArray, []⟩ ∧ HA (bs w) [(q4, 30, #[.int .i64 c.kd, iN .i64 0, iN .i64 0, iN .i64 0, iN .i64 0, .string ({ data := #[] }), .slice none 0 0, .string ({ data := #[] }), iN .i64 0, iN .i64 0, .string ({ data := #[] }), .string ({ data := #[] }), iN .i64 0, .string ({ data := #[] }), .string ({ data := #[] }), iN .i64 0, .string ({ data := #[] }), .slice none 0 0, iN .i64 0, iN .u64 0, iN .u64 0, .string c.nm, .int .i64 c.ix, .string c.bt]), (q1, 30, caC c (.slice o c.li.ds.length k) (.slice p c.on.length m))] w') 8 ky ky ky ky ky ((h138.drew).get 1 rfl) ?_ ?_
      · have h139 := h138.drew
        refine zp 0 (.pointer (some ⟨q1, 21, none⟩)) ?_
        refine wx_val (i := 1) (.string c.nm) rfl rfl ky ky (fun w' h' => run_load1 (fun w => Try.isAgg9 w) ky ((h'.cell 21).trans rfl)) ?_
        refine zp 2 (.pointer (some ⟨q1, 22, none⟩)) ?_
        refine wx_val (i := 3) (.int .i64 c.ix) rfl rfl ky ky (fun w' h' => run_load1 (fun w => Try.isAgg3 w) ky ((h'.cell 22).trans rfl)) ?_
        refine zp 4 (.pointer (some ⟨q4, 21, none⟩)) ?_
        refine wx_one 5 ky ?_
        refine ex_skipT rfl ky h139 fun w140 h141 => ⟨_, run_storev (q := q4) (i := 21) (v := .string c.nm) (fun w => Try.sizeOf9 w) ky ky ky (by rw [(h141.get 0 rfl).cell]; rfl) ((h141.get 0 rfl).free _ (by show 21 < 24; decide)), ?_⟩
        have h142 : HA (bs w) [(q4, 30, #[.int .i64 c.kd, iN .i64 0, iN .i64 0, iN .i64 0, iN .i64 0, .string ({ data := #[] }), .slice none 0 0, .string ({ data := #[] }), iN .i64 0, iN .i64 0, .string ({ data := #[] }), .string ({ data := #[] }), iN .i64 0, .string ({ data := #[] }), .string ({ data := #[] }), iN .i64 0, .string ({ data := #[] }), .slice none 0 0, iN .i64 0, iN .u64 0, iN .u64 0, .string c.nm, iN .i64 0, .string c.bt]), (q1, 30, caC c (.slice o c.li.ds.length k) (.slice p c.on.length m))] _ := h141.put 0 rfl 21 (.string c.nm)
        refine ⟨_, .inr rfl, (h142.get 1 rfl), ?_⟩
        refine zp 6 (.pointer (some ⟨q4, 22, none⟩)) ?_
        refine wx_one 7 ky ?_
        refine ex_skipT rfl ky h142 fun w143 h144 => ⟨_, run_storev (q := q4) (i := 22) (v := .int .i64 c.ix) (fun w => Try.sizeOf3 w) ky ky ky (by rw [(h144.get 0 rfl).cell]; rfl) ((h144.get 0 rfl).free _ (by show 22 < 24; decide)), ?_⟩
        have h145 : HA (bs w) [(q4, 30, #[.int .i64 c.kd, iN .i64 0, iN .i64 0, iN .i64 0, iN .i64 0, .string ({ data := #[] }), .slice none 0 0, .string ({ data := #[] }), iN .i64 0, iN .i64 0, .string ({ data := #[] }), .string ({ data := #[] }), iN .i64 0, .string ({ data := #[] }), .string ({ data := #[] }), iN .i64 0, .string ({ data := #[] }), .slice none 0 0, iN .i64 0, iN .u64 0, iN .u64 0, .string c.nm, .int .i64 c.ix, .string c.bt]), (q1, 30, caC c (.slice o c.li.ds.length k) (.slice p c.on.length m))] _ := h144.put 0 rfl 22 (.int .i64 c.ix)
        refine ⟨_, .inr rfl, (h145.get 1 rfl), ?_⟩
        refine wx_end fun w146 hbx _ => ?_
        have h147 := HA.keep _ _ h145 hbx
        exact ⟨by kernel_rfl, h147⟩
      · rintro _ w148 ⟨rfl, h149⟩
        refine then_at rfl (wl_region ?_)
        refine zv (.bool true) ?_
        refine zv (.bool true) ?_
        refine zv (.pointer (some ⟨q1, 21, none⟩)) ?_
        refine zu (.string c.nm) (run_load1 (fun w => Try.isAgg9 w) ky (((h149.get 1 rfl).cell 21).trans rfl)) ?_
        refine zu (iN .i64 c.nm.size) (run_len (s := c.nm) ky) ?_
        rcases q150 : wi (((c.nm.size : Nat) : Int)) 1 40 with _ | _
        · refine wl_call (v := .bool false) h149 ky enter42 #[iN .i64 c.nm.size, iN .i64 1, iN .i64 40] ky (((wi_any (((c.nm.size : Nat) : Int)) 1 40).mono fun _ _ hh => ⟨by rw [hh.1, q150], hh.2⟩)) ?_
          intro w151 h152
          refine zv (.bool false) ?_
          refine zv (.bool false) ?_
          refine wl_skip ky ?_
          refine wl_skip ky ?_
          refine wl_skip ky ?_
          refine zv (.bool false) ?_
          refine zv (.bool false) ?_
          refine wl_nil (then_at rfl ?_)
          refine wp_exit ?_
          repeat first | refine then_exit ?_ | refine block_exit ?_ | refine block_exit_ne (by decide) ?_
          exact then_I ⟨⟨c.kd, 0, 0, ⟨0, 0, { data := #[] }, [], { data := #[] }⟩, ⟨0, 0, { data := #[] }, { data := #[] }, 0, { data := #[] }, { data := #[] }, 0, { data := #[] }⟩, [], 0, 0, 0, c.nm, c.ix, c.bt⟩, false, none, 0, none, 0, fun ii => (([(2, .bool false), (8, .pointer (some ⟨q1, 0, none⟩)), (9, .int .i64 c.kd), (10, .bool false), (11, .bool false), (12, .bool false), (13, .bool false), (14, .bool false), (15, .bool false), (16, .bool false), (17, .bool false), (18, .bool false), (19, .bool false), (20, .bool false), (21, .bool false), (22, .bool false), (23, .bool true), (24, .bool true), (113, .pointer (some ⟨q1, 23, none⟩)), (114, .string c.bt), (115, .pointer (some ⟨q4, 23, none⟩)), (116, .pointer (some ⟨q1, 23, none⟩)), (117, .string c.bt), (118, iN .i64 c.bt.size), (119, .bool true), (120, .pointer (some ⟨q1, 21, none⟩)), (121, .string c.nm), (122, .pointer (some ⟨q1, 22, none⟩)), (123, .int .i64 c.ix), (124, .pointer (some ⟨q4, 21, none⟩)), (125, .pointer (some ⟨q4, 22, none⟩)), (126, .bool true), (127, .bool true), (128, .pointer (some ⟨q1, 21, none⟩)), (129, .string c.nm), (130, iN .i64 c.nm.size), (131, .bool false), (132, .bool false), (133, .bool false), (137, .bool false)] : List (Nat × Value)).find? (·.1 == ii)).elim undef (·.2), by kernel_rfl, (by unfold mayC; rw [q10, q27, q35, q43, q74, q104, q112, q120, q123, q150]; rfl), (At.nil _), (At.nil _), h152⟩
        refine wl_call (v := .bool true) h149 ky enter42 #[iN .i64 c.nm.size, iN .i64 1, iN .i64 40] ky (((wi_any (((c.nm.size : Nat) : Int)) 1 40).mono fun _ _ hh => ⟨by rw [hh.1, q150], hh.2⟩)) ?_
        intro w153 h154
        refine zv (.bool true) ?_
        refine zv (.bool true) ?_
        refine zv (.pointer (some ⟨q1, 22, none⟩)) ?_
        refine zu (.int .i64 c.ix) (run_load1 (fun w => Try.isAgg3 w) ky (((h154.get 1 rfl).cell 22).trans rfl)) ?_
        rcases q155 : wi c.ix 0 63 with _ | _
        · refine wl_call (v := .bool false) h154 ky enter42 #[.int .i64 c.ix, iN .i64 0, iN .i64 63] ky (((wi_any c.ix 0 63).mono fun _ _ hh => ⟨by rw [hh.1, q155], hh.2⟩)) ?_
          intro w156 h157
          refine zv (.bool false) ?_
          refine zv (.bool false) ?_
          refine wl_nil (then_at rfl ?_)
          refine wp_exit ?_
          repeat first | refine then_exit ?_ | refine block_exit ?_ | refine block_exit_ne (by decide) ?_
          exact then_I ⟨⟨c.kd, 0, 0, ⟨0, 0, { data := #[] }, [], { data := #[] }⟩, ⟨0, 0, { data := #[] }, { data := #[] }, 0, { data := #[] }, { data := #[] }, 0, { data := #[] }⟩, [], 0, 0, 0, c.nm, c.ix, c.bt⟩, false, none, 0, none, 0, fun ii => (([(2, .bool false), (8, .pointer (some ⟨q1, 0, none⟩)), (9, .int .i64 c.kd), (10, .bool false), (11, .bool false), (12, .bool false), (13, .bool false), (14, .bool false), (15, .bool false), (16, .bool false), (17, .bool false), (18, .bool false), (19, .bool false), (20, .bool false), (21, .bool false), (22, .bool false), (23, .bool true), (24, .bool true), (113, .pointer (some ⟨q1, 23, none⟩)), (114, .string c.bt), (115, .pointer (some ⟨q4, 23, none⟩)), (116, .pointer (some ⟨q1, 23, none⟩)), (117, .string c.bt), (118, iN .i64 c.bt.size), (119, .bool true), (120, .pointer (some ⟨q1, 21, none⟩)), (121, .string c.nm), (122, .pointer (some ⟨q1, 22, none⟩)), (123, .int .i64 c.ix), (124, .pointer (some ⟨q4, 21, none⟩)), (125, .pointer (some ⟨q4, 22, none⟩)), (126, .bool true), (127, .bool true), (128, .pointer (some ⟨q1, 21, none⟩)), (129, .string c.nm), (130, iN .i64 c.nm.size), (131, .bool true), (132, .bool true), (133, .bool true), (134, .pointer (some ⟨q1, 22, none⟩)), (135, .int .i64 c.ix), (136, .bool false), (137, .bool false)] : List (Nat × Value)).find? (·.1 == ii)).elim undef (·.2), by kernel_rfl, (by unfold mayC; rw [q10, q27, q35, q43, q74, q104, q112, q120, q123, q150, q155]; rfl), (At.nil _), (At.nil _), h157⟩
        refine wl_call (v := .bool true) h154 ky enter42 #[.int .i64 c.ix, iN .i64 0, iN .i64 63] ky (((wi_any c.ix 0 63).mono fun _ _ hh => ⟨by rw [hh.1, q155], hh.2⟩)) ?_
        intro w158 h159
        refine zv (.bool true) ?_
        refine zv (.bool true) ?_
        refine wl_nil (then_at rfl ?_)
        refine wp_exit ?_
        repeat first | refine then_exit ?_ | refine block_exit ?_ | refine block_exit_ne (by decide) ?_
        exact then_I ⟨⟨c.kd, 0, 0, ⟨0, 0, { data := #[] }, [], { data := #[] }⟩, ⟨0, 0, { data := #[] }, { data := #[] }, 0, { data := #[] }, { data := #[] }, 0, { data := #[] }⟩, [], 0, 0, 0, c.nm, c.ix, c.bt⟩, true, none, 0, none, 0, fun ii => (([(2, .bool false), (8, .pointer (some ⟨q1, 0, none⟩)), (9, .int .i64 c.kd), (10, .bool false), (11, .bool false), (12, .bool false), (13, .bool false), (14, .bool false), (15, .bool false), (16, .bool false), (17, .bool false), (18, .bool false), (19, .bool false), (20, .bool false), (21, .bool false), (22, .bool false), (23, .bool true), (24, .bool true), (113, .pointer (some ⟨q1, 23, none⟩)), (114, .string c.bt), (115, .pointer (some ⟨q4, 23, none⟩)), (116, .pointer (some ⟨q1, 23, none⟩)), (117, .string c.bt), (118, iN .i64 c.bt.size), (119, .bool true), (120, .pointer (some ⟨q1, 21, none⟩)), (121, .string c.nm), (122, .pointer (some ⟨q1, 22, none⟩)), (123, .int .i64 c.ix), (124, .pointer (some ⟨q4, 21, none⟩)), (125, .pointer (some ⟨q4, 22, none⟩)), (126, .bool true), (127, .bool true), (128, .pointer (some ⟨q1, 21, none⟩)), (129, .string c.nm), (130, iN .i64 c.nm.size), (131, .bool true), (132, .bool true), (133, .bool true), (134, .pointer (some ⟨q1, 22, none⟩)), (135, .int .i64 c.ix), (136, .bool true), (137, .bool true)] : List (Nat × Value)).find? (·.1 == ii)).elim undef (·.2), by kernel_rfl, (by unfold mayC; rw [q10, q27, q35, q43, q74, q104, q112, q120, q123, q150, q155]; rfl), (At.nil _), (At.nil _), h159⟩
    refine zu (.bool false) (run_eqZ (k := .i64) (a := c.kd) (b := 8) ky ky false q120) ?_
    refine zv (.bool false) ?_
    refine wl_nil (then_at rfl ?_)
    refine wp_cond_false ky ?_
    refine wp_skip (then_at rfl (wp_seq (wl_region ?_)))
    rcases q160 : decide (c.kd = 9) with _ | _; rotate_left
    · refine zu (.bool true) (run_eqZ (k := .i64) (a := c.kd) (b := 9) ky ky true q160) ?_
      refine zv (.bool true) ?_
      refine wl_nil (then_at rfl ?_)
      refine wp_cond_true ky ?_
      refine wp_exit ?_
      repeat first | refine then_exit ?_ | refine block_exit ?_ | refine block_exit_ne (by decide) ?_
      refine then_at rfl (wp_seq (wp_seq ?_))
      refine wp_region_wx (fun w' => Blk w' q1 30 (caC c (.slice o c.li.ds.length k) (.slice p c.on.length m))) (fun AQ w' => AQ = ⟨(.agg (caC c (.slice o c.li.ds.length k) (.slice p c.on.length m)) :: pt q1 :: .bool false :: pt q4 :: .bool true :: pt q1 :: .int .i64 c.kd :: .agg #[.int .i64 c.kd, iN .i64 0, iN .i64 0, iN .i64 0, iN .i64 0, .string ({ data := #[] }), .slice none 0 0, .string ({ data := #[] }), iN .i64 0, iN .i64 0, .string ({ data := #[] }), .string ({ data := #[] }), iN .i64 0, .string ({ data := #[] }), .string ({ data := #[] }), iN .i64 0, .string ({ data := #[] }), .slice none 0 0, iN .i64 0, iN .u64 0, iN .u64 0, .string ({ data := #[] }), iN .i64 0, .string ({ data := #[] })] :: pt q1 :: .int .i64 c.kd :: .bool false :: .bool false :: .bool false :: .bool false :: .bool false :: .bool false :: .bool false :: .bool false :: .bool false :: .bool false :: .bool false :: .bool false :: .bool false :: .bool false :: .bool false :: .bool true :: .bool true :: un :: un :: un :: un :: un :: un :: un :: un :: un :: un :: un :: un :: un :: un :: un :: un :: un :: un :: un :: un :: un :: un :: un :: un :: un :: un :: un :: un :: un :: un :: un :: un :: un :: un :: un :: un :: un :: un :: un :: un :: un :: un :: un :: un :: un :: un :: un :: un :: un :: un :: un :: un :: un :: un :: un :: un :: un :: un :: un :: un :: un :: un :: un :: un :: un :: un :: un :: un :: un :: un :: un :: un :: un :: un :: un :: un :: un :: un :: un :: un :: un :: un :: un :: un :: un :: un :: un :: un :: un :: un :: un :: un :: un :: .pointer (some ⟨q1, 21, none⟩) :: .string c.nm :: .pointer (some ⟨q1, 22, none⟩) :: .int .i64 c.ix :: .pointer (some ⟨q4, 21, none⟩) :: .pointer (some ⟨q4, 22, none⟩) :: List.replicate 18 un).toArray, []⟩ ∧ HA (bs w) [(q4, 30, #[.int .i64 c.kd, iN .i64 0, iN .i64 0, iN .i64 0, iN .i64 0, .string ({ data := #[] }), .slice none 0 0, .string ({ data := #[] }), iN .i64 0, iN .i64 0, .string ({ data := #[] }), .string ({ data := #[] }), iN .i64 0, .string ({ data := #[] }), .string ({ data := #[] }), iN .i64 0, .string ({ data := #[] }), .slice none 0 0, iN .i64 0, iN .u64 0, iN .u64 0, .string c.nm, .int .i64 c.ix, .string ({ data := #[] })]), (q1, 30, caC c (.slice o c.li.ds.length k) (.slice p c.on.length m))] w') 8 ky ky ky ky ky ((h8.drew).get 1 rfl) ?_ ?_
      · have h161 := h8.drew
        refine zp 0 (.pointer (some ⟨q1, 21, none⟩)) ?_
        refine wx_val (i := 1) (.string c.nm) rfl rfl ky ky (fun w' h' => run_load1 (fun w => Try.isAgg9 w) ky ((h'.cell 21).trans rfl)) ?_
        refine zp 2 (.pointer (some ⟨q1, 22, none⟩)) ?_
        refine wx_val (i := 3) (.int .i64 c.ix) rfl rfl ky ky (fun w' h' => run_load1 (fun w => Try.isAgg3 w) ky ((h'.cell 22).trans rfl)) ?_
        refine zp 4 (.pointer (some ⟨q4, 21, none⟩)) ?_
        refine wx_one 5 ky ?_
        refine ex_skipT rfl ky h161 fun w162 h163 => ⟨_, run_storev (q := q4) (i := 21) (v := .string c.nm) (fun w => Try.sizeOf9 w) ky ky ky (by rw [(h163.get 0 rfl).cell]; rfl) ((h163.get 0 rfl).free _ (by show 21 < 24; decide)), ?_⟩
        have h164 : HA (bs w) [(q4, 30, #[.int .i64 c.kd, iN .i64 0, iN .i64 0, iN .i64 0, iN .i64 0, .string ({ data := #[] }), .slice none 0 0, .string ({ data := #[] }), iN .i64 0, iN .i64 0, .string ({ data := #[] }), .string ({ data := #[] }), iN .i64 0, .string ({ data := #[] }), .string ({ data := #[] }), iN .i64 0, .string ({ data := #[] }), .slice none 0 0, iN .i64 0, iN .u64 0, iN .u64 0, .string c.nm, iN .i64 0, .string ({ data := #[] })]), (q1, 30, caC c (.slice o c.li.ds.length k) (.slice p c.on.length m))] _ := h163.put 0 rfl 21 (.string c.nm)
        refine ⟨_, .inr rfl, (h164.get 1 rfl), ?_⟩
        refine zp 6 (.pointer (some ⟨q4, 22, none⟩)) ?_
        refine wx_one 7 ky ?_
        refine ex_skipT rfl ky h164 fun w165 h166 => ⟨_, run_storev (q := q4) (i := 22) (v := .int .i64 c.ix) (fun w => Try.sizeOf3 w) ky ky ky (by rw [(h166.get 0 rfl).cell]; rfl) ((h166.get 0 rfl).free _ (by show 22 < 24; decide)), ?_⟩
        have h167 : HA (bs w) [(q4, 30, #[.int .i64 c.kd, iN .i64 0, iN .i64 0, iN .i64 0, iN .i64 0, .string ({ data := #[] }), .slice none 0 0, .string ({ data := #[] }), iN .i64 0, iN .i64 0, .string ({ data := #[] }), .string ({ data := #[] }), iN .i64 0, .string ({ data := #[] }), .string ({ data := #[] }), iN .i64 0, .string ({ data := #[] }), .slice none 0 0, iN .i64 0, iN .u64 0, iN .u64 0, .string c.nm, .int .i64 c.ix, .string ({ data := #[] })]), (q1, 30, caC c (.slice o c.li.ds.length k) (.slice p c.on.length m))] _ := h166.put 0 rfl 22 (.int .i64 c.ix)
        refine ⟨_, .inr rfl, (h167.get 1 rfl), ?_⟩
        refine wx_end fun w168 hbx _ => ?_
        have h169 := HA.keep _ _ h167 hbx
        exact ⟨by kernel_rfl, h169⟩
      · rintro _ w170 ⟨rfl, h171⟩
        refine then_at rfl (wl_region ?_)
        refine zv (.bool true) ?_
        refine zv (.bool true) ?_
        refine zv (.pointer (some ⟨q1, 21, none⟩)) ?_
        refine zu (.string c.nm) (run_load1 (fun w => Try.isAgg9 w) ky (((h171.get 1 rfl).cell 21).trans rfl)) ?_
        refine zu (iN .i64 c.nm.size) (run_len (s := c.nm) ky) ?_
        rcases q172 : wi (((c.nm.size : Nat) : Int)) 1 40 with _ | _
        · refine wl_call (v := .bool false) h171 ky enter42 #[iN .i64 c.nm.size, iN .i64 1, iN .i64 40] ky (((wi_any (((c.nm.size : Nat) : Int)) 1 40).mono fun _ _ hh => ⟨by rw [hh.1, q172], hh.2⟩)) ?_
          intro w173 h174
          refine zv (.bool false) ?_
          refine zv (.bool false) ?_
          refine wl_skip ky ?_
          refine wl_skip ky ?_
          refine wl_skip ky ?_
          refine zv (.bool false) ?_
          refine zv (.bool false) ?_
          refine wl_nil (then_at rfl ?_)
          refine wp_exit ?_
          repeat first | refine then_exit ?_ | refine block_exit ?_ | refine block_exit_ne (by decide) ?_
          exact then_I ⟨⟨c.kd, 0, 0, ⟨0, 0, { data := #[] }, [], { data := #[] }⟩, ⟨0, 0, { data := #[] }, { data := #[] }, 0, { data := #[] }, { data := #[] }, 0, { data := #[] }⟩, [], 0, 0, 0, c.nm, c.ix, { data := #[] }⟩, false, none, 0, none, 0, fun ii => (([(2, .bool false), (8, .pointer (some ⟨q1, 0, none⟩)), (9, .int .i64 c.kd), (10, .bool false), (11, .bool false), (12, .bool false), (13, .bool false), (14, .bool false), (15, .bool false), (16, .bool false), (17, .bool false), (18, .bool false), (19, .bool false), (20, .bool false), (21, .bool false), (22, .bool false), (23, .bool false), (24, .bool false), (25, .bool true), (26, .bool true), (120, .pointer (some ⟨q1, 21, none⟩)), (121, .string c.nm), (122, .pointer (some ⟨q1, 22, none⟩)), (123, .int .i64 c.ix), (124, .pointer (some ⟨q4, 21, none⟩)), (125, .pointer (some ⟨q4, 22, none⟩)), (126, .bool true), (127, .bool true), (128, .pointer (some ⟨q1, 21, none⟩)), (129, .string c.nm), (130, iN .i64 c.nm.size), (131, .bool false), (132, .bool false), (133, .bool false), (137, .bool false)] : List (Nat × Value)).find? (·.1 == ii)).elim undef (·.2), by kernel_rfl, (by unfold mayC; rw [q10, q27, q35, q43, q74, q104, q112, q120, q160, q172]; rfl), (At.nil _), (At.nil _), h174⟩
        refine wl_call (v := .bool true) h171 ky enter42 #[iN .i64 c.nm.size, iN .i64 1, iN .i64 40] ky (((wi_any (((c.nm.size : Nat) : Int)) 1 40).mono fun _ _ hh => ⟨by rw [hh.1, q172], hh.2⟩)) ?_
        intro w175 h176
        refine zv (.bool true) ?_
        refine zv (.bool true) ?_
        refine zv (.pointer (some ⟨q1, 22, none⟩)) ?_
        refine zu (.int .i64 c.ix) (run_load1 (fun w => Try.isAgg3 w) ky (((h176.get 1 rfl).cell 22).trans rfl)) ?_
        rcases q177 : wi c.ix 0 63 with _ | _
        · refine wl_call (v := .bool false) h176 ky enter42 #[.int .i64 c.ix, iN .i64 0, iN .i64 63] ky (((wi_any c.ix 0 63).mono fun _ _ hh => ⟨by rw [hh.1, q177], hh.2⟩)) ?_
          intro w178 h179
          refine zv (.bool false) ?_
          refine zv (.bool false) ?_
          refine wl_nil (then_at rfl ?_)
          refine wp_exit ?_
          repeat first | refine then_exit ?_ | refine block_exit ?_ | refine block_exit_ne (by decide) ?_
          exact then_I ⟨⟨c.kd, 0, 0, ⟨0, 0, { data := #[] }, [], { data := #[] }⟩, ⟨0, 0, { data := #[] }, { data := #[] }, 0, { data := #[] }, { data := #[] }, 0, { data := #[] }⟩, [], 0, 0, 0, c.nm, c.ix, { data := #[] }⟩, false, none, 0, none, 0, fun ii => (([(2, .bool false), (8, .pointer (some ⟨q1, 0, none⟩)), (9, .int .i64 c.kd), (10, .bool false), (11, .bool false), (12, .bool false), (13, .bool false), (14, .bool false), (15, .bool false), (16, .bool false), (17, .bool false), (18, .bool false), (19, .bool false), (20, .bool false), (21, .bool false), (22, .bool false), (23, .bool false), (24, .bool false), (25, .bool true), (26, .bool true), (120, .pointer (some ⟨q1, 21, none⟩)), (121, .string c.nm), (122, .pointer (some ⟨q1, 22, none⟩)), (123, .int .i64 c.ix), (124, .pointer (some ⟨q4, 21, none⟩)), (125, .pointer (some ⟨q4, 22, none⟩)), (126, .bool true), (127, .bool true), (128, .pointer (some ⟨q1, 21, none⟩)), (129, .string c.nm), (130, iN .i64 c.nm.size), (131, .bool true), (132, .bool true), (133, .bool true), (134, .pointer (some ⟨q1, 22, none⟩)), (135, .int .i64 c.ix), (136, .bool false), (137, .bool false)] : List (Nat × Value)).find? (·.1 == ii)).elim undef (·.2), by kernel_rfl, (by unfold mayC; rw [q10, q27, q35, q43, q74, q104, q112, q120, q160, q172, q177]; rfl), (At.nil _), (At.nil _), h179⟩
        refine wl_call (v := .bool true) h176 ky enter42 #[.int .i64 c.ix, iN .i64 0, iN .i64 63] ky (((wi_any c.ix 0 63).mono fun _ _ hh => ⟨by rw [hh.1, q177], hh.2⟩)) ?_
        intro w180 h181
        refine zv (.bool true) ?_
        refine zv (.bool true) ?_
        refine wl_nil (then_at rfl ?_)
        refine wp_exit ?_
        repeat first | refine then_exit ?_ | refine block_exit ?_ | refine block_exit_ne (by decide) ?_
        exact then_I ⟨⟨c.kd, 0, 0, ⟨0, 0, { data := #[] }, [], { data := #[] }⟩, ⟨0, 0, { data := #[] }, { data := #[] }, 0, { data := #[] }, { data := #[] }, 0, { data := #[] }⟩, [], 0, 0, 0, c.nm, c.ix, { data := #[] }⟩, true, none, 0, none, 0, fun ii => (([(2, .bool false), (8, .pointer (some ⟨q1, 0, none⟩)), (9, .int .i64 c.kd), (10, .bool false), (11, .bool false), (12, .bool false), (13, .bool false), (14, .bool false), (15, .bool false), (16, .bool false), (17, .bool false), (18, .bool false), (19, .bool false), (20, .bool false), (21, .bool false), (22, .bool false), (23, .bool false), (24, .bool false), (25, .bool true), (26, .bool true), (120, .pointer (some ⟨q1, 21, none⟩)), (121, .string c.nm), (122, .pointer (some ⟨q1, 22, none⟩)), (123, .int .i64 c.ix), (124, .pointer (some ⟨q4, 21, none⟩)), (125, .pointer (some ⟨q4, 22, none⟩)), (126, .bool true), (127, .bool true), (128, .pointer (some ⟨q1, 21, none⟩)), (129, .string c.nm), (130, iN .i64 c.nm.size), (131, .bool true), (132, .bool true), (133, .bool true), (134, .pointer (some ⟨q1, 22, none⟩)), (135, .int .i64 c.ix), (136, .bool true), (137, .bool true)] : List (Nat × Value)).find? (·.1 == ii)).elim undef (·.2), by kernel_rfl, (by unfold mayC; rw [q10, q27, q35, q43, q74, q104, q112, q120, q160, q172, q177]; rfl), (At.nil _), (At.nil _), h181⟩
    refine zu (.bool false) (run_eqZ (k := .i64) (a := c.kd) (b := 9) ky ky false q160) ?_
    refine zv (.bool false) ?_
    refine wl_nil (then_at rfl ?_)
    refine wp_cond_false ky ?_
    refine wp_skip (then_at rfl ?_)
    refine wp_exit ?_
    repeat first | refine then_exit ?_ | refine block_exit ?_ | refine block_exit_ne (by decide) ?_
    refine then_at rfl (wp_seq (wp_seq (wl_region ?_)))
    refine zv (.bool false) ?_
    refine wl_nil (then_at rfl ?_)
    refine wp_ret ?_
    repeat first | refine then_ret ?_ | refine block_ret ?_
    exact bodyPost_ret (v := .bool false) ky rfl ⟨by rw [(show mayC c = false from by unfold mayC; rw [q10, q27, q35, q43, q74, q104, q112, q120, q160]; first | done | rfl)], h8.old.old⟩
  · rintro _ w182 ⟨hd, okb, o2, k2, p2, m2, u9, rfl, hmc, hP2, hQ2, h183⟩
    refine wp_seq ?_
    rcases okb with _ | _
    · refine wl_region ?_
      refine zv (.bool false) ?_
      refine zv (.bool false) ?_
      refine wl_skip ky ?_
      refine wl_skip ky ?_
      refine wl_skip ky ?_
      refine zv (.bool false) ?_
      refine zv (.bool false) ?_
      refine wl_nil (then_at rfl ?_)
      refine wp_ret ?_
      repeat first | refine then_ret ?_ | refine block_ret ?_
      exact bodyPost_ret (v := .bool false) ky rfl ⟨by rw [show mayC c = false from by rw [hmc]; rfl], h183.old.old⟩
    refine wl_region ?_
    refine zv (.bool true) ?_
    refine zv (.bool true) ?_
    refine wl_load h183 1 rfl ky ky Try.underlying30 rfl ky ?_
    refine wl_load h183 0 rfl ky ky Try.underlying30 rfl ky ?_
    rcases q184 : sameC c hd with _ | _
    · refine wl_call (v := .bool false) h183 ky enter12 #[.agg (caC c (.slice o c.li.ds.length k) (.slice p c.on.length m)), .agg (caC hd (.slice o2 hd.li.ds.length k2) (.slice p2 hd.on.length m2))] ky (((smc_any c hd (hP.keep h183.old.old) (hQ.keep h183.old.old) (hP2.keep h183.old.old) (hQ2.keep h183.old.old) hl1 hl2).mono fun _ _ hh => ⟨by rw [hh.1, q184], hh.2⟩)) ?_
      intro w185 h186
      refine zv (.bool false) ?_
      refine zv (.bool false) ?_
      refine wl_nil (then_at rfl ?_)
      refine wp_ret ?_
      repeat first | refine then_ret ?_ | refine block_ret ?_
      exact bodyPost_ret (v := .bool false) ky rfl ⟨by rw [show mayC c = false from by rw [hmc, q184]; rfl], h186.old.old⟩
    refine wl_call (v := .bool true) h183 ky enter12 #[.agg (caC c (.slice o c.li.ds.length k) (.slice p c.on.length m)), .agg (caC hd (.slice o2 hd.li.ds.length k2) (.slice p2 hd.on.length m2))] ky (((smc_any c hd (hP.keep h183.old.old) (hQ.keep h183.old.old) (hP2.keep h183.old.old) (hQ2.keep h183.old.old) hl1 hl2).mono fun _ _ hh => ⟨by rw [hh.1, q184], hh.2⟩)) ?_
    intro w187 h188
    refine zv (.bool true) ?_
    refine zv (.bool true) ?_
    refine wl_nil (then_at rfl ?_)
    refine wp_ret ?_
    repeat first | refine then_ret ?_ | refine block_ret ?_
    exact bodyPost_ret (v := .bool true) ky rfl ⟨by rw [show mayC c = true from by rw [hmc, q184]; rfl], h188.old.old⟩
def chkC (c : Ca) : Nat := bif mayC c then 0 else 2
set_option maxRecDepth 100000 in
set_option maxHeartbeats 2000000 in
theorem chkC_any {w : World} (c : Ca) {o p : Option Addr} {k m : Nat} (hP : At w o (mcl c.li.ds)) (hQ : At w p (scl c.on)) (hl1 : c.li.ds.length ≤ 1000000) (hl2 : c.on.length ≤ 1000000) :
    Calls Try.prog 10 #[.agg (caC c (.slice o c.li.ds.length k) (.slice p c.on.length m))] w fun e w' => e = .returned (iN .i64 (chkC c)) ∧ Below w.heap.size w w' := by
  have H0 := HA.start w
  go_enter Try.func10, Try.ntmps10
  refine wp_seq (wl_region ?_)
  refine wl_make (c := caC c (.slice o c.li.ds.length k) (.slice p c.on.length m)) H0 30 ky ky ?_
  intro q1 w2 (h3 : HA (bs w) [(q1, 30, caC c (.slice o c.li.ds.length k) (.slice p c.on.length m))] w2)
  refine zv (iN .i64 0) ?_
  refine wl_nil (then_at rfl (wp_seq (wp_seq (wl_region ?_))))
  refine wl_load h3 0 rfl ky ky Try.underlying30 rfl ky ?_
  rcases q4 : mayC c with _ | _
  · refine wl_call (v := .bool false) h3 ky enter33 #[.agg (caC c (.slice o c.li.ds.length k) (.slice p c.on.length m))] ky (((mayC_any c (hP.keep h3.old.old) (hQ.keep h3.old.old) hl1 hl2).mono fun _ _ hh => ⟨by rw [hh.1, q4], hh.2⟩)) ?_
    intro w5 h6
    refine zv (.bool true) ?_
    refine wl_nil (then_at rfl ?_)
    refine wp_cond_true ky ?_
    refine wp_seq (wl_region ?_)
    refine zv (iN .i64 2) ?_
    refine wl_nil (then_at rfl ?_)
    refine wp_ret ?_
    repeat first | refine then_ret ?_ | refine block_ret ?_
    exact bodyPost_ret (v := iN .i64 2) ky rfl ⟨by rw [(show chkC c = 2 from by unfold chkC; rw [q4]; first | done | rfl)], h6.old.old⟩
  refine wl_call (v := .bool true) h3 ky enter33 #[.agg (caC c (.slice o c.li.ds.length k) (.slice p c.on.length m))] ky (((mayC_any c (hP.keep h3.old.old) (hQ.keep h3.old.old) hl1 hl2).mono fun _ _ hh => ⟨by rw [hh.1, q4], hh.2⟩)) ?_
  intro w7 h8
  refine zv (.bool false) ?_
  refine wl_nil (then_at rfl ?_)
  refine wp_cond_false ky ?_
  refine wp_skip (then_at rfl (wp_seq (wl_region ?_)))
  refine zv (iN .i64 0) ?_
  refine wl_nil (then_at rfl ?_)
  refine wp_ret ?_
  repeat first | refine then_ret ?_ | refine block_ret ?_
  exact bodyPost_ret (v := iN .i64 0) ky rfl ⟨by rw [(show chkC c = 0 from by unfold chkC; rw [q4]; first | done | rfl)], h8.old.old⟩
end Go.Proofs.Ytiogegoepgkjlaa
