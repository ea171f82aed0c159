/-
  The reference's SameCall, bare, MayCall, Check.
-/
import Derived.Test.YtiogegoepgkjlaaJ1
import Derived.Test.YtiogegoepgkjlaaGF
set_option maxRecDepth 100000
set_option linter.unusedVariables false
set_option linter.unusedSimpArgs false
namespace Go.Proofs.Ytiogegoepgkjlaa
open Go.RowKit

set_option maxHeartbeats 8000000 in
theorem rsmc_any {w : World} (a b : Ca) {o p o2 p2 : Option Addr} {k m k2 m2 : Nat} (hP : At w o (mcl a.li.ds)) (hQ : At w p (scl a.on)) (hP2 : At w o2 (mcl b.li.ds)) (hQ2 : At w p2 (scl b.on)) (hl1 : a.li.ds.length ≤ 1000000) (hl2 : a.on.length ≤ 1000000) :
    Calls Try.prog 13 #[.agg (caC a (.slice o a.li.ds.length k) (.slice p a.on.length m)), .agg (caC b (.slice o2 b.li.ds.length k2) (.slice p2 b.on.length m2))] w fun e w' => e = .returned (.bool (sameC a b)) ∧ Below w.heap.size w w' := by
  have H0 := HA.start w
  go_enter Try.func13, Try.ntmps13
  refine wp_seq (wl_region (wl_make (c := caC a (.slice o a.li.ds.length k) (.slice p a.on.length m)) H0 30 ky ky ?_))
  intro q1 w2 (h3 : HA (bs w) [(q1, 30, caC a (.slice o a.li.ds.length k) (.slice p a.on.length m))] w2)
  refine wl_make (c := caC b (.slice o2 b.li.ds.length k2) (.slice p2 b.on.length m2)) h3 30 ky ky ?_
  intro q4 w5 (h6 : HA (bs w) [(q4, 30, caC b (.slice o2 b.li.ds.length k2) (.slice p2 b.on.length m2)), (q1, 30, caC a (.slice o a.li.ds.length k) (.slice p a.on.length m))] w5)
  refine zv (.bool false) (wl_nil (then_at rfl (wp_seq (wp_seq (wl_region (zv (.pointer (some ⟨q1, 0, none⟩)) (zu (.int .i64 a.kd) (run_load1 (fun w => Try.isAgg3 w) ky (((h6.get 1 rfl).cell 0).trans rfl)) (zv (.pointer (some ⟨q4, 0, none⟩)) (zu (.int .i64 b.kd) (run_load1 (fun w => Try.isAgg3 w) ky (((h6.get 0 rfl).cell 0).trans rfl)) ?_)))))))))
  rcases q7 : decide (a.kd = b.kd) with _ | _
  {refine zu (.bool true) (run_neZ (k := .i64) (a := a.kd) (b := b.kd) ky ky false q7) (zv (.bool true) (zk (zk (zk (zk (zk (zv (.bool true) (zv (.bool true) (zk (zk (zk (zk (zk (zv (.bool true) (zv (.bool true) (zk (zk (zk (zk (zk (zk (zv (.bool true) (zv (.bool true) ?_)))))))))))))))))))))))
   refine zk (zk (zk (zk (zk (zv (.bool true) (zv (.bool true) (zk (zk (zk (zk (zk (zk (zk (zv (.bool true) (zv (.bool true) (zk (zk (zk (zk (zk (zv (.bool true) (zv (.bool true) (zk ?_)))))))))))))))))))))))
   refine zk (zk (zk (zk (zv (.bool true) (zv (.bool true) (zk (zk (zk (zk (zk (zv (.bool true) (zv (.bool true) (zk (zk (zk (zk (zk (zv (.bool true) (zv (.bool true) (zk (zk (zk (zk ?_)))))))))))))))))))))))
   refine zk (zv (.bool true) (zv (.bool true) (zk (zk (zk (zk (zk (zv (.bool true) (wl_nil (then_at rfl (wp_cond_true ky (wp_seq (wl_region (zv (.bool false) (wl_nil (then_at rfl (wp_ret ?_)))))))))))))))))
   repeat first|refine tr ?_|refine block_ret ?_
   exact bodyPost_ret (v := .bool false) ky rfl ⟨by rw [show sameC a b = false from by unfold sameC; simp only [q7, Bool.and_false, Bool.false_and, Bool.and_true, Bool.true_and, Bool.and_self]], h6.old.old⟩}
  refine zu (.bool false) (run_neZ (k := .i64) (a := a.kd) (b := b.kd) ky ky true q7) (zv (.bool false) (zv (.pointer (some ⟨q1, 1, none⟩)) (zu (.int .i64 a.us) (run_load1 (fun w => Try.isAgg3 w) ky (((h6.get 1 rfl).cell 1).trans rfl)) (zv (.pointer (some ⟨q4, 1, none⟩)) (zu (.int .i64 b.us) (run_load1 (fun w => Try.isAgg3 w) ky (((h6.get 0 rfl).cell 1).trans rfl)) ?_)))))
  rcases q8 : decide (a.us = b.us) with _ | _
  {refine zu (.bool true) (run_neZ (k := .i64) (a := a.us) (b := b.us) ky ky false q8) (zv (.bool true) (zv (.bool true) (zk (zk (zk (zk (zk (zv (.bool true) (zv (.bool true) (zk (zk (zk (zk (zk (zk (zv (.bool true) (zv (.bool true) (zk (zk (zk (zk (zk (zv (.bool true) ?_)))))))))))))))))))))))
   refine zv (.bool true) (zk (zk (zk (zk (zk (zk (zk (zv (.bool true) (zv (.bool true) (zk (zk (zk (zk (zk (zv (.bool true) (zv (.bool true) (zk (zk (zk (zk (zk (zv (.bool true) (zv (.bool true) ?_)))))))))))))))))))))))
   refine zk (zk (zk (zk (zk (zv (.bool true) (zv (.bool true) (zk (zk (zk (zk (zk (zv (.bool true) (zv (.bool true) (zk (zk (zk (zk (zk (zv (.bool true) (zv (.bool true) (zk (zk (zk ?_)))))))))))))))))))))))
   refine zk (zk (zv (.bool true) (wl_nil (then_at rfl (wp_cond_true ky (wp_seq (wl_region (zv (.bool false) (wl_nil (then_at rfl (wp_ret ?_)))))))))))
   repeat first|refine tr ?_|refine block_ret ?_
   exact bodyPost_ret (v := .bool false) ky rfl ⟨by rw [show sameC a b = false from by unfold sameC; simp only [q7, q8, Bool.and_false, Bool.false_and, Bool.and_true, Bool.true_and, Bool.and_self]], h6.old.old⟩}
  refine zu (.bool false) (run_neZ (k := .i64) (a := a.us) (b := b.us) ky ky true q8) (zv (.bool false) (zv (.bool false) (zv (.pointer (some ⟨q1, 2, none⟩)) (zu (.int .i64 a.dv) (run_load1 (fun w => Try.isAgg3 w) ky (((h6.get 1 rfl).cell 2).trans rfl)) (zv (.pointer (some ⟨q4, 2, none⟩)) (zu (.int .i64 b.dv) (run_load1 (fun w => Try.isAgg3 w) ky (((h6.get 0 rfl).cell 2).trans rfl)) ?_))))))
  rcases q9 : decide (a.dv = b.dv) with _ | _
  {refine zu (.bool true) (run_neZ (k := .i64) (a := a.dv) (b := b.dv) ky ky false q9) (zv (.bool true) (zv (.bool true) (zk (zk (zk (zk (zk (zk (zv (.bool true) (zv (.bool true) (zk (zk (zk (zk (zk (zv (.bool true) (zv (.bool true) (zk (zk (zk (zk (zk (zk ?_)))))))))))))))))))))))
   refine zk (zv (.bool true) (zv (.bool true) (zk (zk (zk (zk (zk (zv (.bool true) (zv (.bool true) (zk (zk (zk (zk (zk (zv (.bool true) (zv (.bool true) (zk (zk (zk (zk (zk (zv (.bool true) (zv (.bool true) ?_)))))))))))))))))))))))
   refine zk (zk (zk (zk (zk (zv (.bool true) (zv (.bool true) (zk (zk (zk (zk (zk (zv (.bool true) (zv (.bool true) (zk (zk (zk (zk (zk (zv (.bool true) (wl_nil (then_at rfl (wp_cond_true ky (wp_seq (wl_region (zv (.bool false) ?_)))))))))))))))))))))))))
   refine wl_nil (then_at rfl (wp_ret ?_))
   repeat first|refine tr ?_|refine block_ret ?_
   exact bodyPost_ret (v := .bool false) ky rfl ⟨by rw [show sameC a b = false from by unfold sameC; simp only [q7, q8, q9, Bool.and_false, Bool.false_and, Bool.and_true, Bool.true_and, Bool.and_self]], h6.old.old⟩}
  refine zu (.bool false) (run_neZ (k := .i64) (a := a.dv) (b := b.dv) ky ky true q9) (zv (.bool false) (zv (.bool false) (zv (.pointer (some ⟨q1, 3, none⟩)) (zu (.agg #[.int .i64 a.li.u, .int .i64 a.li.v, .string a.li.ac, .slice o a.li.ds.length k, .string a.li.sg]) (run_load_part (q := q1) (off := 3) (d := #[.int .i64 a.li.u, .int .i64 a.li.v, .string a.li.ac, .slice o a.li.ds.length k, .string a.li.sg]) ky (h6.get 1 rfl) Try.underlying25 rfl ky (by intro j hj; match j, hj with | 0, _ => rfl | 1, _ => rfl | 2, _ => rfl | 3, _ => rfl | 4, _ => rfl)) (zv (.pointer (some ⟨q4, 3, none⟩)) (zu (.agg #[.int .i64 b.li.u, .int .i64 b.li.v, .string b.li.ac, .slice o2 b.li.ds.length k2, .string b.li.sg]) (run_load_part (q := q4) (off := 3) (d := #[.int .i64 b.li.u, .int .i64 b.li.v, .string b.li.ac, .slice o2 b.li.ds.length k2, .string b.li.sg]) ky (h6.get 0 rfl) Try.underlying25 rfl ky (by intro j hj; match j, hj with | 0, _ => rfl | 1, _ => rfl | 2, _ => rfl | 3, _ => rfl | 4, _ => rfl)) ?_))))))
  rcases q10 : sameL a.li b.li with _ | _
  {refine zl (.bool false) h6 enter17 #[.agg #[.int .i64 a.li.u, .int .i64 a.li.v, .string a.li.ac, .slice o a.li.ds.length k, .string a.li.sg], .agg #[.int .i64 b.li.u, .int .i64 b.li.v, .string b.li.ac, .slice o2 b.li.ds.length k2, .string b.li.sg]] (((rsml_any a.li b.li (hP.keep h6.old.old) (hP2.keep h6.old.old) hl1).mono fun _ _ hh => ⟨by rw [hh.1, q10], hh.2⟩)) (fun w11 h12 => (zv (.bool true) (zv (.bool true) (zv (.bool true) (zk (zk (zk (zk (zk (zv (.bool true) (zv (.bool true) (zk (zk (zk (zk (zk (zk (zk (zv (.bool true) (zv (.bool true) (zk (zk (zk ?_)))))))))))))))))))))))
   refine zk (zk (zv (.bool true) (zv (.bool true) (zk (zk (zk (zk (zk (zv (.bool true) (zv (.bool true) (zk (zk (zk (zk (zk (zv (.bool true) (zv (.bool true) (zk (zk (zk (zk (zk (zv (.bool true) ?_)))))))))))))))))))))))
   refine zv (.bool true) (zk (zk (zk (zk (zk (zv (.bool true) (zv (.bool true) (zk (zk (zk (zk (zk (zv (.bool true) (wl_nil (then_at rfl (wp_cond_true ky (wp_seq (wl_region (zv (.bool false) (wl_nil (then_at rfl (wp_ret ?_))))))))))))))))))))))
   repeat first|refine tr ?_|refine block_ret ?_
   exact bodyPost_ret (v := .bool false) ky rfl ⟨by rw [show sameC a b = false from by unfold sameC; simp only [q7, q8, q9, q10, Bool.and_false, Bool.false_and, Bool.and_true, Bool.true_and, Bool.and_self]], h12.old.old⟩}
  refine zl (.bool true) h6 enter17 #[.agg #[.int .i64 a.li.u, .int .i64 a.li.v, .string a.li.ac, .slice o a.li.ds.length k, .string a.li.sg], .agg #[.int .i64 b.li.u, .int .i64 b.li.v, .string b.li.ac, .slice o2 b.li.ds.length k2, .string b.li.sg]] (((rsml_any a.li b.li (hP.keep h6.old.old) (hP2.keep h6.old.old) hl1).mono fun _ _ hh => ⟨by rw [hh.1, q10], hh.2⟩)) (fun w13 h14 => (zv (.bool false) (zv (.bool false) (zv (.bool false) (zv (.pointer (some ⟨q1, 8, none⟩)) (zu (.agg #[.int .i64 a.bu.u, .int .i64 a.bu.d, .string a.bu.sg, .string a.bu.dh, .int .i64 a.bu.pi, .string a.bu.pr, .string a.bu.ps, .int .i64 a.bu.oi, .string a.bu.on]) (run_load_part (q := q1) (off := 8) (d := #[.int .i64 a.bu.u, .int .i64 a.bu.d, .string a.bu.sg, .string a.bu.dh, .int .i64 a.bu.pi, .string a.bu.pr, .string a.bu.ps, .int .i64 a.bu.oi, .string a.bu.on]) ky (h14.get 1 rfl) Try.underlying27 rfl ky (by intro j hj; match j, hj with | 0, _ => rfl | 1, _ => rfl | 2, _ => rfl | 3, _ => rfl | 4, _ => rfl | 5, _ => rfl | 6, _ => rfl | 7, _ => rfl | 8, _ => rfl)) (zv (.pointer (some ⟨q4, 8, none⟩)) (zu (.agg #[.int .i64 b.bu.u, .int .i64 b.bu.d, .string b.bu.sg, .string b.bu.dh, .int .i64 b.bu.pi, .string b.bu.pr, .string b.bu.ps, .int .i64 b.bu.oi, .string b.bu.on]) (run_load_part (q := q4) (off := 8) (d := #[.int .i64 b.bu.u, .int .i64 b.bu.d, .string b.bu.sg, .string b.bu.dh, .int .i64 b.bu.pi, .string b.bu.pr, .string b.bu.ps, .int .i64 b.bu.oi, .string b.bu.on]) ky (h14.get 0 rfl) Try.underlying27 rfl ky (by intro j hj; match j, hj with | 0, _ => rfl | 1, _ => rfl | 2, _ => rfl | 3, _ => rfl | 4, _ => rfl | 5, _ => rfl | 6, _ => rfl | 7, _ => rfl | 8, _ => rfl)) ?_))))))))
  rcases q15 : decide ((a.bu : Bu) = b.bu) with _ | _
  {refine zu (.bool true) (run_neB (a := a.bu) (b := b.bu) ky ky false q15) (zv (.bool true) (zv (.bool true) (zk (zk (zk (zk (zk (zk (zk (zv (.bool true) (zv (.bool true) (zk (zk (zk (zk (zk (zv (.bool true) (zv (.bool true) (zk (zk (zk (zk (zk ?_)))))))))))))))))))))))
   refine zv (.bool true) (zv (.bool true) (zk (zk (zk (zk (zk (zv (.bool true) (zv (.bool true) (zk (zk (zk (zk (zk (zv (.bool true) (zv (.bool true) (zk (zk (zk (zk (zk (zv (.bool true) (zv (.bool true) (zk ?_)))))))))))))))))))))))
   refine zk (zk (zk (zk (zv (.bool true) (wl_nil (then_at rfl (wp_cond_true ky (wp_seq (wl_region (zv (.bool false) (wl_nil (then_at rfl (wp_ret ?_)))))))))))))
   repeat first|refine tr ?_|refine block_ret ?_
   exact bodyPost_ret (v := .bool false) ky rfl ⟨by rw [show sameC a b = false from by unfold sameC; simp only [q7, q8, q9, q10, q15, Bool.and_false, Bool.false_and, Bool.and_true, Bool.true_and, Bool.and_self]], h14.old.old⟩}
  refine zu (.bool false) (run_neB (a := a.bu) (b := b.bu) ky ky true q15) (zv (.bool false) (zv (.bool false) (zv (.pointer (some ⟨q1, 17, none⟩)) (zu (.slice p a.on.length m) (run_load1 (fun w => Try.isAgg28 w) ky (((h14.get 1 rfl).cell 17).trans rfl)) (zv (iN .i64 a.on.length) (zv (.pointer (some ⟨q4, 17, none⟩)) (zu (.slice p2 b.on.length m2) (run_load1 (fun w => Try.isAgg28 w) ky (((h14.get 0 rfl).cell 17).trans rfl)) (zv (iN .i64 b.on.length) ?_))))))))
  rcases q16 : decide (a.on.length = b.on.length) with _ | _
  {refine zu (.bool true) (run_neN (k := .i64) (a := a.on.length) (b := b.on.length) ky ky false q16) (zv (.bool true) (zv (.bool true) (zk (zk (zk (zk (zk (zv (.bool true) (zv (.bool true) (zk (zk (zk (zk (zk (zv (.bool true) (zv (.bool true) (zk (zk (zk (zk (zk (zv (.bool true) (zv (.bool true) ?_)))))))))))))))))))))))
   refine zk (zk (zk (zk (zk (zv (.bool true) (zv (.bool true) (zk (zk (zk (zk (zk (zv (.bool true) (zv (.bool true) (zk (zk (zk (zk (zk (zv (.bool true) (wl_nil (then_at rfl (wp_cond_true ky (wp_seq (wl_region (zv (.bool false) ?_)))))))))))))))))))))))))
   refine wl_nil (then_at rfl (wp_ret ?_))
   repeat first|refine tr ?_|refine block_ret ?_
   exact bodyPost_ret (v := .bool false) ky rfl ⟨by rw [show sameC a b = false from by unfold sameC; simp only [q7, q8, q9, q10, q15, eq_nol q16, Bool.and_false, Bool.false_and, Bool.and_true, Bool.true_and, Bool.and_self]], h14.old.old⟩}
  refine zu (.bool false) (run_neN (k := .i64) (a := a.on.length) (b := b.on.length) ky ky true q16) (zv (.bool false) (zv (.bool false) (zv (.pointer (some ⟨q1, 18, none⟩)) (zu (.int .i64 a.tt) (run_load1 (fun w => Try.isAgg3 w) ky (((h14.get 1 rfl).cell 18).trans rfl)) (zv (.pointer (some ⟨q4, 18, none⟩)) (zu (.int .i64 b.tt) (run_load1 (fun w => Try.isAgg3 w) ky (((h14.get 0 rfl).cell 18).trans rfl)) ?_))))))
  rcases q17 : decide (a.tt = b.tt) with _ | _
  {refine zu (.bool true) (run_neZ (k := .i64) (a := a.tt) (b := b.tt) ky ky false q17) (zv (.bool true) (zv (.bool true) (zk (zk (zk (zk (zk (zv (.bool true) (zv (.bool true) (zk (zk (zk (zk (zk (zv (.bool true) (zv (.bool true) (zk (zk (zk (zk (zk (zv (.bool true) (zv (.bool true) ?_)))))))))))))))))))))))
   refine zk (zk (zk (zk (zk (zv (.bool true) (zv (.bool true) (zk (zk (zk (zk (zk (zv (.bool true) (wl_nil (then_at rfl (wp_cond_true ky (wp_seq (wl_region (zv (.bool false) (wl_nil (then_at rfl (wp_ret ?_)))))))))))))))))))))
   repeat first|refine tr ?_|refine block_ret ?_
   exact bodyPost_ret (v := .bool false) ky rfl ⟨by rw [show sameC a b = false from by unfold sameC; simp only [q7, q8, q9, q10, q15, q17, Bool.and_false, Bool.false_and, Bool.and_true, Bool.true_and, Bool.and_self]], h14.old.old⟩}
  refine zu (.bool false) (run_neZ (k := .i64) (a := a.tt) (b := b.tt) ky ky true q17) (zv (.bool false) (zv (.bool false) (zv (.pointer (some ⟨q1, 19, none⟩)) (zu (iN .u64 a.no) (run_load1 (fun w => Try.isAgg22 w) ky (((h14.get 1 rfl).cell 19).trans rfl)) (zv (.pointer (some ⟨q4, 19, none⟩)) (zu (iN .u64 b.no) (run_load1 (fun w => Try.isAgg22 w) ky (((h14.get 0 rfl).cell 19).trans rfl)) ?_))))))
  rcases q18 : decide (a.no = b.no) with _ | _
  {refine zu (.bool true) (run_neN (k := .u64) (a := a.no) (b := b.no) ky ky false q18) (zv (.bool true) (zv (.bool true) (zk (zk (zk (zk (zk (zv (.bool true) (zv (.bool true) (zk (zk (zk (zk (zk (zv (.bool true) (zv (.bool true) (zk (zk (zk (zk (zk (zv (.bool true) (zv (.bool true) ?_)))))))))))))))))))))))
   refine zk (zk (zk (zk (zk (zv (.bool true) (wl_nil (then_at rfl (wp_cond_true ky (wp_seq (wl_region (zv (.bool false) (wl_nil (then_at rfl (wp_ret ?_))))))))))))))
   repeat first|refine tr ?_|refine block_ret ?_
   exact bodyPost_ret (v := .bool false) ky rfl ⟨by rw [show sameC a b = false from by unfold sameC; simp only [q7, q8, q9, q10, q15, q17, q18, Bool.and_false, Bool.false_and, Bool.and_true, Bool.true_and, Bool.and_self]], h14.old.old⟩}
  refine zu (.bool false) (run_neN (k := .u64) (a := a.no) (b := b.no) ky ky true q18) (zv (.bool false) (zv (.bool false) (zv (.pointer (some ⟨q1, 20, none⟩)) (zu (iN .u64 a.af) (run_load1 (fun w => Try.isAgg22 w) ky (((h14.get 1 rfl).cell 20).trans rfl)) (zv (.pointer (some ⟨q4, 20, none⟩)) (zu (iN .u64 b.af) (run_load1 (fun w => Try.isAgg22 w) ky (((h14.get 0 rfl).cell 20).trans rfl)) ?_))))))
  rcases q19 : decide (a.af = b.af) with _ | _
  {refine zu (.bool true) (run_neN (k := .u64) (a := a.af) (b := b.af) ky ky false q19) (zv (.bool true) (zv (.bool true) (zk (zk (zk (zk (zk (zv (.bool true) (zv (.bool true) (zk (zk (zk (zk (zk (zv (.bool true) (zv (.bool true) (zk (zk (zk (zk (zk (zv (.bool true) (wl_nil (then_at rfl ?_))))))))))))))))))))))))
   refine wp_cond_true ky (wp_seq (wl_region (zv (.bool false) (wl_nil (then_at rfl (wp_ret ?_))))))
   repeat first|refine tr ?_|refine block_ret ?_
   exact bodyPost_ret (v := .bool false) ky rfl ⟨by rw [show sameC a b = false from by unfold sameC; simp only [q7, q8, q9, q10, q15, q17, q18, q19, Bool.and_false, Bool.false_and, Bool.and_true, Bool.true_and, Bool.and_self]], h14.old.old⟩}
  refine zu (.bool false) (run_neN (k := .u64) (a := a.af) (b := b.af) ky ky true q19) (zv (.bool false) (zv (.bool false) (zv (.pointer (some ⟨q1, 21, none⟩)) (zu (.string a.nm) (run_load1 (fun w => Try.isAgg9 w) ky (((h14.get 1 rfl).cell 21).trans rfl)) (zv (.pointer (some ⟨q4, 21, none⟩)) (zu (.string b.nm) (run_load1 (fun w => Try.isAgg9 w) ky (((h14.get 0 rfl).cell 21).trans rfl)) ?_))))))
  rcases q20 : decide (a.nm = b.nm) with _ | _
  {refine zu (.bool true) (run_nes (s := a.nm) (t := b.nm) ky ky true ((q20).trans rfl)) (zv (.bool true) (zv (.bool true) (zk (zk (zk (zk (zk (zv (.bool true) (zv (.bool true) (zk (zk (zk (zk (zk (zv (.bool true) (wl_nil (then_at rfl (wp_cond_true ky (wp_seq (wl_region (zv (.bool false) (wl_nil (then_at rfl (wp_ret ?_))))))))))))))))))))))))
   repeat first|refine tr ?_|refine block_ret ?_
   exact bodyPost_ret (v := .bool false) ky rfl ⟨by rw [show sameC a b = false from by unfold sameC; simp only [q7, q8, q9, q10, q15, q17, q18, q19, q20, Bool.and_false, Bool.false_and, Bool.and_true, Bool.true_and, Bool.and_self]], h14.old.old⟩}
  refine zu (.bool false) (run_nes (s := a.nm) (t := b.nm) ky ky false ((q20).trans rfl)) (zv (.bool false) (zv (.bool false) (zv (.pointer (some ⟨q1, 22, none⟩)) (zu (.int .i64 a.ix) (run_load1 (fun w => Try.isAgg3 w) ky (((h14.get 1 rfl).cell 22).trans rfl)) (zv (.pointer (some ⟨q4, 22, none⟩)) (zu (.int .i64 b.ix) (run_load1 (fun w => Try.isAgg3 w) ky (((h14.get 0 rfl).cell 22).trans rfl)) ?_))))))
  rcases q21 : decide (a.ix = b.ix) with _ | _
  {refine zu (.bool true) (run_neZ (k := .i64) (a := a.ix) (b := b.ix) ky ky false q21) (zv (.bool true) (zv (.bool true) (zk (zk (zk (zk (zk (zv (.bool true) (wl_nil (then_at rfl (wp_cond_true ky (wp_seq (wl_region (zv (.bool false) (wl_nil (then_at rfl (wp_ret ?_)))))))))))))))))
   repeat first|refine tr ?_|refine block_ret ?_
   exact bodyPost_ret (v := .bool false) ky rfl ⟨by rw [show sameC a b = false from by unfold sameC; simp only [q7, q8, q9, q10, q15, q17, q18, q19, q20, q21, Bool.and_false, Bool.false_and, Bool.and_true, Bool.true_and, Bool.and_self]], h14.old.old⟩}
  refine zu (.bool false) (run_neZ (k := .i64) (a := a.ix) (b := b.ix) ky ky true q21) (zv (.bool false) (zv (.bool false) (zv (.pointer (some ⟨q1, 23, none⟩)) (zu (.string a.bt) (run_load1 (fun w => Try.isAgg9 w) ky (((h14.get 1 rfl).cell 23).trans rfl)) (zv (.pointer (some ⟨q4, 23, none⟩)) (zu (.string b.bt) (run_load1 (fun w => Try.isAgg9 w) ky (((h14.get 0 rfl).cell 23).trans rfl)) ?_))))))
  rcases q22 : decide (a.bt = b.bt) with _ | _
  {refine zu (.bool true) (run_nes (s := a.bt) (t := b.bt) ky ky true ((q22).trans rfl)) (zv (.bool true) (wl_nil (then_at rfl (wp_cond_true ky (wp_seq (wl_region (zv (.bool false) (wl_nil (then_at rfl (wp_ret ?_))))))))))
   repeat first|refine tr ?_|refine block_ret ?_
   exact bodyPost_ret (v := .bool false) ky rfl ⟨by rw [show sameC a b = false from by unfold sameC; simp only [q7, q8, q9, q10, q15, q17, q18, q19, q20, q21, q22, Bool.and_false, Bool.false_and, Bool.and_true, Bool.true_and, Bool.and_self]], h14.old.old⟩}
  refine zu (.bool false) (run_nes (s := a.bt) (t := b.bt) ky ky false ((q22).trans rfl)) (zv (.bool false) (wl_nil (then_at rfl (wp_cond_false ky (wp_skip (then_at rfl (wp_seq (wp_seq (wl_region (zv (iN .i64 0) (wl_nil (then_at rfl (wp_block ?_)))))))))))))
  refine wp_count (fun i A w' => ∃ u23 : Nat → Value, A = ⟨(.agg (caC a (.slice o a.li.ds.length k) (.slice p a.on.length m)) :: .agg (caC b (.slice o2 b.li.ds.length k2) (.slice p2 b.on.length m2)) :: pt q1 :: pt q4 :: u23 4 :: iN .i64 i :: pt q1 :: .int .i64 a.kd :: pt q4 :: .int .i64 b.kd :: .bool false :: .bool false :: .pointer (some ⟨q1, 1, none⟩) :: .int .i64 a.us :: .pointer (some ⟨q4, 1, none⟩) :: .int .i64 b.us :: .bool false :: .bool false :: .bool false :: .pointer (some ⟨q1, 2, none⟩) :: .int .i64 a.dv :: .pointer (some ⟨q4, 2, none⟩) :: .int .i64 b.dv :: .bool false :: .bool false :: .bool false :: .pointer (some ⟨q1, 3, none⟩) :: .agg #[.int .i64 a.li.u, .int .i64 a.li.v, .string a.li.ac, .slice o a.li.ds.length k, .string a.li.sg] :: .pointer (some ⟨q4, 3, none⟩) :: .agg #[.int .i64 b.li.u, .int .i64 b.li.v, .string b.li.ac, .slice o2 b.li.ds.length k2, .string b.li.sg] :: .bool true :: .bool false :: .bool false :: .bool false :: .pointer (some ⟨q1, 8, none⟩) :: .agg #[.int .i64 a.bu.u, .int .i64 a.bu.d, .string a.bu.sg, .string a.bu.dh, .int .i64 a.bu.pi, .string a.bu.pr, .string a.bu.ps, .int .i64 a.bu.oi, .string a.bu.on] :: .pointer (some ⟨q4, 8, none⟩) :: .agg #[.int .i64 b.bu.u, .int .i64 b.bu.d, .string b.bu.sg, .string b.bu.dh, .int .i64 b.bu.pi, .string b.bu.pr, .string b.bu.ps, .int .i64 b.bu.oi, .string b.bu.on] :: .bool false :: .bool false :: .bool false :: .pointer (some ⟨q1, 17, none⟩) :: .slice p a.on.length m :: iN .i64 a.on.length :: .pointer (some ⟨q4, 17, none⟩) :: .slice p2 b.on.length m2 :: iN .i64 b.on.length :: .bool false :: .bool false :: .bool false :: .pointer (some ⟨q1, 18, none⟩) :: .int .i64 a.tt :: .pointer (some ⟨q4, 18, none⟩) :: .int .i64 b.tt :: .bool false :: .bool false :: .bool false :: .pointer (some ⟨q1, 19, none⟩) :: iN .u64 a.no :: .pointer (some ⟨q4, 19, none⟩) :: iN .u64 b.no :: .bool false :: .bool false :: .bool false :: .pointer (some ⟨q1, 20, none⟩) :: iN .u64 a.af :: .pointer (some ⟨q4, 20, none⟩) :: iN .u64 b.af :: .bool false :: .bool false :: .bool false :: .pointer (some ⟨q1, 21, none⟩) :: .string a.nm :: .pointer (some ⟨q4, 21, none⟩) :: .string b.nm :: .bool false :: .bool false :: .bool false :: .pointer (some ⟨q1, 22, none⟩) :: .int .i64 a.ix :: .pointer (some ⟨q4, 22, none⟩) :: .int .i64 b.ix :: .bool false :: .bool false :: .bool false :: .pointer (some ⟨q1, 23, none⟩) :: .string a.bt :: .pointer (some ⟨q4, 23, none⟩) :: .string b.bt :: .bool false :: .bool false :: u23 91 :: u23 92 :: u23 93 :: u23 94 :: u23 95 :: u23 96 :: u23 97 :: u23 98 :: u23 99 :: u23 100 :: u23 101 :: u23 102 :: u23 103 :: u23 104 :: u23 105 :: u23 106 :: u23 107 :: u23 108 :: List.replicate 0 un).toArray, []⟩ ∧ HA (bs w) [(q4, 30, caC b (.slice o2 b.li.ds.length k2) (.slice p2 b.on.length m2)), (q1, 30, caC a (.slice o a.li.ds.length k) (.slice p a.on.length m))] w' ∧ (∀ j, j < i → a.on.getD j ByteArray.empty = b.on.getD j ByteArray.empty)) a.on.length ?_ ?_ ?_
  {exact exu ky ⟨h14, fun j h => absurd h (Nat.not_lt_zero j)⟩}
  {rintro i hk _ w24 ⟨u23, rfl, h25, hall⟩
   have hk2 : i < b.on.length := by have := of_decide_eq_true q16; omega
   obtain ⟨mas, hmas, hAas⟩ := hQ.ex (by rw [scl_len]; omega)
   obtain ⟨mbs, hmbs, hAbs⟩ := hQ2.ex (by rw [scl_len]; omega)
   refine wp_seq (wp_seq (wl_region (zv (iN .i64 i) (zv (.pointer (some ⟨q1, 17, none⟩)) (zu (.slice p a.on.length m) (run_load1 (fun w => Try.isAgg28 w) ky (((h25.get 1 rfl).cell 17).trans rfl)) (zv (iN .i64 a.on.length) (zu (.bool true) (run_lss (k := .i64) (a := i) (b := a.on.length) ky ky true (decide_eq_true (by omega))) (wl_nil (then_at rfl (wp_cond_true ky (wp_skip (then_at rfl (wp_seq (wp_block (wp_seq ?_)))))))))))))))
   rcases q26 : decide (a.on.getD i ByteArray.empty = b.on.getD i ByteArray.empty) with _ | _
   {refine wp_region_wx (HA (bs w) [(q4, 30, caC b (.slice o2 b.li.ds.length k2) (.slice p2 b.on.length m2)), (q1, 30, caC a (.slice o a.li.ds.length k) (.slice p a.on.length m))]) (fun AQ w' => AQ = ⟨(.agg (caC a (.slice o a.li.ds.length k) (.slice p a.on.length m)) :: .agg (caC b (.slice o2 b.li.ds.length k2) (.slice p2 b.on.length m2)) :: pt q1 :: pt q4 :: u23 4 :: iN .i64 i :: pt q1 :: .int .i64 a.kd :: pt q4 :: .int .i64 b.kd :: .bool false :: .bool false :: .pointer (some ⟨q1, 1, none⟩) :: .int .i64 a.us :: .pointer (some ⟨q4, 1, none⟩) :: .int .i64 b.us :: .bool false :: .bool false :: .bool false :: .pointer (some ⟨q1, 2, none⟩) :: .int .i64 a.dv :: .pointer (some ⟨q4, 2, none⟩) :: .int .i64 b.dv :: .bool false :: .bool false :: .bool false :: .pointer (some ⟨q1, 3, none⟩) :: .agg #[.int .i64 a.li.u, .int .i64 a.li.v, .string a.li.ac, .slice o a.li.ds.length k, .string a.li.sg] :: .pointer (some ⟨q4, 3, none⟩) :: .agg #[.int .i64 b.li.u, .int .i64 b.li.v, .string b.li.ac, .slice o2 b.li.ds.length k2, .string b.li.sg] :: .bool true :: .bool false :: .bool false :: .bool false :: .pointer (some ⟨q1, 8, none⟩) :: .agg #[.int .i64 a.bu.u, .int .i64 a.bu.d, .string a.bu.sg, .string a.bu.dh, .int .i64 a.bu.pi, .string a.bu.pr, .string a.bu.ps, .int .i64 a.bu.oi, .string a.bu.on] :: .pointer (some ⟨q4, 8, none⟩) :: .agg #[.int .i64 b.bu.u, .int .i64 b.bu.d, .string b.bu.sg, .string b.bu.dh, .int .i64 b.bu.pi, .string b.bu.pr, .string b.bu.ps, .int .i64 b.bu.oi, .string b.bu.on] :: .bool false :: .bool false :: .bool false :: .pointer (some ⟨q1, 17, none⟩) :: .slice p a.on.length m :: iN .i64 a.on.length :: .pointer (some ⟨q4, 17, none⟩) :: .slice p2 b.on.length m2 :: iN .i64 b.on.length :: .bool false :: .bool false :: .bool false :: .pointer (some ⟨q1, 18, none⟩) :: .int .i64 a.tt :: .pointer (some ⟨q4, 18, none⟩) :: .int .i64 b.tt :: .bool false :: .bool false :: .bool false :: .pointer (some ⟨q1, 19, none⟩) :: iN .u64 a.no :: .pointer (some ⟨q4, 19, none⟩) :: iN .u64 b.no :: .bool false :: .bool false :: .bool false :: .pointer (some ⟨q1, 20, none⟩) :: iN .u64 a.af :: .pointer (some ⟨q4, 20, none⟩) :: iN .u64 b.af :: .bool false :: .bool false :: .bool false :: .pointer (some ⟨q1, 21, none⟩) :: .string a.nm :: .pointer (some ⟨q4, 21, none⟩) :: .string b.nm :: .bool false :: .bool false :: .bool false :: .pointer (some ⟨q1, 22, none⟩) :: .int .i64 a.ix :: .pointer (some ⟨q4, 22, none⟩) :: .int .i64 b.ix :: .bool false :: .bool false :: .bool false :: .pointer (some ⟨q1, 23, none⟩) :: .string a.bt :: .pointer (some ⟨q4, 23, none⟩) :: .string b.bt :: .bool false :: .bool false :: iN .i64 i :: .pointer (some ⟨q1, 17, none⟩) :: .slice p a.on.length m :: iN .i64 a.on.length :: .bool true :: u23 96 :: u23 97 :: .pointer (some ⟨q1, 17, none⟩) :: .slice p a.on.length m :: iN .i64 i :: .pointer (some (mas.add (i * 1))) :: .string (a.on.getD i ByteArray.empty) :: .pointer (some ⟨q4, 17, none⟩) :: .slice p2 b.on.length m2 :: iN .i64 i :: .pointer (some (mbs.add (i * 1))) :: .string (b.on.getD i ByteArray.empty) :: .bool true :: List.replicate 0 un).toArray, []⟩ ∧ HA (bs w) [(q4, 30, caC b (.slice o2 b.li.ds.length k2) (.slice p2 b.on.length m2)), (q1, 30, caC a (.slice o a.li.ds.length k) (.slice p a.on.length m))] w') 11 ky ky ky ky ky (h25.drew) ?_ ?_
    {have h27 := h25.drew
     refine zp 0 (.pointer (some ⟨q1, 17, none⟩)) (zx 1 (.slice p a.on.length m) rfl (fun w' h' => run_load1 (fun w => Try.isAgg28 w) ky (((h'.get 1 rfl).cell 17).trans rfl)) (zp 2 (iN .i64 i) (zq 3 (.pointer (some (mas.add (i * 1)))) rfl (fun _ => (run_addr28 (a := mas) (n := a.on.length) (m := m) (i := i) hmas ky ky hk)) (zx 4 (.string (a.on.getD i ByteArray.empty)) rfl (fun w' h' => (run_ld28 (hAas.keep h'.old.old) hk ky)) (zp 5 (.pointer (some ⟨q4, 17, none⟩)) (zx 6 (.slice p2 b.on.length m2) rfl (fun w' h' => run_load1 (fun w => Try.isAgg28 w) ky (((h'.get 0 rfl).cell 17).trans rfl)) (zp 7 (iN .i64 i) (zq 8 (.pointer (some (mbs.add (i * 1)))) rfl (fun _ => (run_addr28 (a := mbs) (n := b.on.length) (m := m2) (i := i) hmbs ky ky hk2)) (zx 9 (.string (b.on.getD i ByteArray.empty)) rfl (fun w' h' => (run_ld28 (hAbs.keep h'.old.old) hk2 ky)) (zq 10 (.bool true) rfl (fun _ => (run_nes (s := a.on.getD i ByteArray.empty) (t := b.on.getD i ByteArray.empty) ky ky true ((q26).trans rfl))) ?_))))))))))
     refine wx_end fun w28 hbx _ => ?_
     have h29 := HA.keep _ _ h27 hbx
     exact ⟨by kernel_rfl, h29⟩}
    {rintro _ w30 ⟨rfl, h31⟩
     refine then_at rfl ?_
     refine wp_cond_true ky (wp_seq (wl_region (zv (.bool false) (wl_nil (then_at rfl (wp_ret ?_))))))
     repeat first|refine tr ?_|refine block_ret ?_
     exact bodyPost_ret (v := .bool false) ky rfl ⟨by rw [show sameC a b = false from by unfold sameC; simp only [q7, q8, q9, q10, q15, q17, q18, q19, q20, q21, q22, eq_noa (d := ByteArray.empty) q26, Bool.and_false, Bool.false_and, Bool.and_true, Bool.true_and, Bool.and_self]], h31.old.old⟩}}
   refine wp_region_wxh h25 (fun AQ w' => AQ = ⟨(.agg (caC a (.slice o a.li.ds.length k) (.slice p a.on.length m)) :: .agg (caC b (.slice o2 b.li.ds.length k2) (.slice p2 b.on.length m2)) :: pt q1 :: pt q4 :: u23 4 :: iN .i64 i :: pt q1 :: .int .i64 a.kd :: pt q4 :: .int .i64 b.kd :: .bool false :: .bool false :: .pointer (some ⟨q1, 1, none⟩) :: .int .i64 a.us :: .pointer (some ⟨q4, 1, none⟩) :: .int .i64 b.us :: .bool false :: .bool false :: .bool false :: .pointer (some ⟨q1, 2, none⟩) :: .int .i64 a.dv :: .pointer (some ⟨q4, 2, none⟩) :: .int .i64 b.dv :: .bool false :: .bool false :: .bool false :: .pointer (some ⟨q1, 3, none⟩) :: .agg #[.int .i64 a.li.u, .int .i64 a.li.v, .string a.li.ac, .slice o a.li.ds.length k, .string a.li.sg] :: .pointer (some ⟨q4, 3, none⟩) :: .agg #[.int .i64 b.li.u, .int .i64 b.li.v, .string b.li.ac, .slice o2 b.li.ds.length k2, .string b.li.sg] :: .bool true :: .bool false :: .bool false :: .bool false :: .pointer (some ⟨q1, 8, none⟩) :: .agg #[.int .i64 a.bu.u, .int .i64 a.bu.d, .string a.bu.sg, .string a.bu.dh, .int .i64 a.bu.pi, .string a.bu.pr, .string a.bu.ps, .int .i64 a.bu.oi, .string a.bu.on] :: .pointer (some ⟨q4, 8, none⟩) :: .agg #[.int .i64 b.bu.u, .int .i64 b.bu.d, .string b.bu.sg, .string b.bu.dh, .int .i64 b.bu.pi, .string b.bu.pr, .string b.bu.ps, .int .i64 b.bu.oi, .string b.bu.on] :: .bool false :: .bool false :: .bool false :: .pointer (some ⟨q1, 17, none⟩) :: .slice p a.on.length m :: iN .i64 a.on.length :: .pointer (some ⟨q4, 17, none⟩) :: .slice p2 b.on.length m2 :: iN .i64 b.on.length :: .bool false :: .bool false :: .bool false :: .pointer (some ⟨q1, 18, none⟩) :: .int .i64 a.tt :: .pointer (some ⟨q4, 18, none⟩) :: .int .i64 b.tt :: .bool false :: .bool false :: .bool false :: .pointer (some ⟨q1, 19, none⟩) :: iN .u64 a.no :: .pointer (some ⟨q4, 19, none⟩) :: iN .u64 b.no :: .bool false :: .bool false :: .bool false :: .pointer (some ⟨q1, 20, none⟩) :: iN .u64 a.af :: .pointer (some ⟨q4, 20, none⟩) :: iN .u64 b.af :: .bool false :: .bool false :: .bool false :: .pointer (some ⟨q1, 21, none⟩) :: .string a.nm :: .pointer (some ⟨q4, 21, none⟩) :: .string b.nm :: .bool false :: .bool false :: .bool false :: .pointer (some ⟨q1, 22, none⟩) :: .int .i64 a.ix :: .pointer (some ⟨q4, 22, none⟩) :: .int .i64 b.ix :: .bool false :: .bool false :: .bool false :: .pointer (some ⟨q1, 23, none⟩) :: .string a.bt :: .pointer (some ⟨q4, 23, none⟩) :: .string b.bt :: .bool false :: .bool false :: iN .i64 i :: .pointer (some ⟨q1, 17, none⟩) :: .slice p a.on.length m :: iN .i64 a.on.length :: .bool true :: u23 96 :: u23 97 :: .pointer (some ⟨q1, 17, none⟩) :: .slice p a.on.length m :: iN .i64 i :: .pointer (some (mas.add (i * 1))) :: .string (a.on.getD i ByteArray.empty) :: .pointer (some ⟨q4, 17, none⟩) :: .slice p2 b.on.length m2 :: iN .i64 i :: .pointer (some (mbs.add (i * 1))) :: .string (b.on.getD i ByteArray.empty) :: .bool false :: List.replicate 0 un).toArray, []⟩ ∧ HA (bs w) [(q4, 30, caC b (.slice o2 b.li.ds.length k2) (.slice p2 b.on.length m2)), (q1, 30, caC a (.slice o a.li.ds.length k) (.slice p a.on.length m))] w') 11 ky ky ky ky ky ?_ ?_
   {have h32 := h25.drew
    refine zp 0 (.pointer (some ⟨q1, 17, none⟩)) (zx 1 (.slice p a.on.length m) rfl (fun w' h' => run_load1 (fun w => Try.isAgg28 w) ky (((h'.get 1 rfl).cell 17).trans rfl)) (zp 2 (iN .i64 i) (zq 3 (.pointer (some (mas.add (i * 1)))) rfl (fun _ => (run_addr28 (a := mas) (n := a.on.length) (m := m) (i := i) hmas ky ky hk)) (zx 4 (.string (a.on.getD i ByteArray.empty)) rfl (fun w' h' => (run_ld28 (hAas.keep h'.old.old) hk ky)) (zp 5 (.pointer (some ⟨q4, 17, none⟩)) (zx 6 (.slice p2 b.on.length m2) rfl (fun w' h' => run_load1 (fun w => Try.isAgg28 w) ky (((h'.get 0 rfl).cell 17).trans rfl)) (zp 7 (iN .i64 i) (zq 8 (.pointer (some (mbs.add (i * 1)))) rfl (fun _ => (run_addr28 (a := mbs) (n := b.on.length) (m := m2) (i := i) hmbs ky ky hk2)) (zx 9 (.string (b.on.getD i ByteArray.empty)) rfl (fun w' h' => (run_ld28 (hAbs.keep h'.old.old) hk2 ky)) (zq 10 (.bool false) rfl (fun _ => (run_nes (s := a.on.getD i ByteArray.empty) (t := b.on.getD i ByteArray.empty) ky ky false ((q26).trans rfl))) ?_))))))))))
    refine wx_end fun w33 hbx _ => ?_
    have h34 := HA.keep _ _ h32 hbx
    exact ⟨by kernel_rfl, h34⟩}
   {rintro _ w35 ⟨rfl, h36⟩
    refine then_at rfl ?_
    refine wp_cond_false ky (wp_skip (block_normal (then_at rfl (wl_region (zv (iN .i64 i) (zu (iN .i64 (i + 1)) (run_add (k := .i64) (a := i) (b := 1) ky ky (by first | omega | (simp only [top]; omega))) (zv (iN .i64 (i + 1)) (wl_nil ?_))))))))
    exact then_I (exu ky ⟨h36, fun j hj => (Nat.lt_succ_iff_lt_or_eq.1 hj).elim (hall j) (fun e => by rw [e]; exact of_decide_eq_true q26)⟩)}}
  {rintro _ w37 ⟨u23, rfl, h38, hall⟩
   refine wp_seq (wp_seq (wl_region (zv (iN .i64 a.on.length) (zv (.pointer (some ⟨q1, 17, none⟩)) (zu (.slice p a.on.length m) (run_load1 (fun w => Try.isAgg28 w) ky (((h38.get 1 rfl).cell 17).trans rfl)) (zv (iN .i64 a.on.length) (zu (.bool false) (run_lss (k := .i64) (a := a.on.length) (b := a.on.length) ky ky false (decide_eq_false (by omega))) (wl_nil (then_at rfl (wp_cond_false ky ?_))))))))))
   refine wp_exit ?_
   repeat first | refine then_exit ?_ | refine block_exit ?_ | refine block_exit_ne (by decide) ?_
   refine then_at rfl (wp_seq (wl_region ?_))
   refine zv (.bool true) (wl_nil (then_at rfl (wp_ret ?_)))
   repeat first|refine tr ?_|refine block_ret ?_
   exact bodyPost_ret (v := .bool true) ky rfl ⟨by rw [show sameC a b = true from by unfold sameC; simp only [q7, q8, q9, q10, q15, q17, q18, q19, q20, q21, q22, eq_all ByteArray.empty q16 hall, Bool.and_false, Bool.false_and, Bool.and_true, Bool.true_and, Bool.and_self]], h38.old.old⟩}
def barC (c : Ca) : Ca := bif decide (c.kd = 1) then ⟨c.kd, c.us, 0, ⟨0, 0, { data := #[] }, [], { data := #[] }⟩, ⟨0, 0, { data := #[] }, { data := #[] }, 0, { data := #[] }, { data := #[] }, 0, { data := #[] }⟩, [], 0, 0, 0, { data := #[] }, 0, { data := #[] }⟩ else bif decide (c.kd = 2) then ⟨c.kd, c.us, c.dv, ⟨0, 0, { data := #[] }, [], { data := #[] }⟩, ⟨0, 0, { data := #[] }, { data := #[] }, 0, { data := #[] }, { data := #[] }, 0, { data := #[] }⟩, [], 0, 0, 0, { data := #[] }, 0, { data := #[] }⟩ else bif decide (c.kd = 3) then ⟨c.kd, 0, 0, c.li, ⟨0, 0, { data := #[] }, { data := #[] }, 0, { data := #[] }, { data := #[] }, 0, { data := #[] }⟩, [], 0, 0, 0, { data := #[] }, 0, { data := #[] }⟩ else bif decide (c.kd = 4) then ⟨c.kd, 0, 0, ⟨0, 0, { data := #[] }, [], { data := #[] }⟩, c.bu, c.on, 0, 0, 0, { data := #[] }, c.ix, { data := #[] }⟩ else bif decide (c.kd = 5) then ⟨c.kd, 0, 0, ⟨0, 0, { data := #[] }, [], { data := #[] }⟩, ⟨0, 0, { data := #[] }, { data := #[] }, 0, { data := #[] }, { data := #[] }, 0, { data := #[] }⟩, [], c.tt, c.no, 0, { data := #[] }, 0, c.bt⟩ else bif decide (c.kd = 6) then ⟨c.kd, 0, 0, ⟨0, 0, { data := #[] }, [], { data := #[] }⟩, ⟨0, 0, { data := #[] }, { data := #[] }, 0, { data := #[] }, { data := #[] }, 0, { data := #[] }⟩, [], 0, 0, c.af, { data := #[] }, 0, { data := #[] }⟩ else bif decide (c.kd = 7) then ⟨c.kd, 0, 0, ⟨0, 0, { data := #[] }, [], { data := #[] }⟩, ⟨0, 0, { data := #[] }, { data := #[] }, 0, { data := #[] }, { data := #[] }, 0, { data := #[] }⟩, [], 0, 0, c.af, { data := #[] }, 0, { data := #[] }⟩ else bif decide (c.kd = 8) then ⟨c.kd, 0, 0, ⟨0, 0, { data := #[] }, [], { data := #[] }⟩, ⟨0, 0, { data := #[] }, { data := #[] }, 0, { data := #[] }, { data := #[] }, 0, { data := #[] }⟩, [], 0, 0, 0, c.nm, c.ix, c.bt⟩ else bif decide (c.kd = 9) then ⟨c.kd, 0, 0, ⟨0, 0, { data := #[] }, [], { data := #[] }⟩, ⟨0, 0, { data := #[] }, { data := #[] }, 0, { data := #[] }, { data := #[] }, 0, { data := #[] }⟩, [], 0, 0, 0, c.nm, c.ix, { data := #[] }⟩ else ⟨c.kd, 0, 0, ⟨0, 0, { data := #[] }, [], { data := #[] }⟩, ⟨0, 0, { data := #[] }, { data := #[] }, 0, { data := #[] }, { data := #[] }, 0, { data := #[] }⟩, [], 0, 0, 0, { data := #[] }, 0, { data := #[] }⟩
def sO (c : Ca) (o : Option Addr) : Option Addr := bif decide (c.kd = 3) then o else none
def sK (c : Ca) (k : Nat) : Nat := bif decide (c.kd = 3) then k else 0
def sP (c : Ca) (o : Option Addr) : Option Addr := bif decide (c.kd = 4) then o else none
def sM (c : Ca) (k : Nat) : Nat := bif decide (c.kd = 4) then k else 0
theorem barC_1 {c : Ca} (k1 : decide (c.kd = 1) = true) : barC c = ⟨c.kd, c.us, 0, ⟨0, 0, { data := #[] }, [], { data := #[] }⟩, ⟨0, 0, { data := #[] }, { data := #[] }, 0, { data := #[] }, { data := #[] }, 0, { data := #[] }⟩, [], 0, 0, 0, { data := #[] }, 0, { data := #[] }⟩ ∧ (∀ o, sO c o = none) ∧ (∀ j, sK c j = 0) ∧ (∀ o, sP c o = none) ∧ (∀ j, sM c j = 0) := by
  have e := of_decide_eq_true k1
  refine ⟨?_, fun o => ?_, fun o => ?_, fun o => ?_, fun o => ?_⟩
  · unfold barC; rw [k1]; rfl
  · unfold sO; rw [show decide (c.kd = 3) = false from decide_eq_false (by omega)]; rfl
  · unfold sK; rw [show decide (c.kd = 3) = false from decide_eq_false (by omega)]; rfl
  · unfold sP; rw [show decide (c.kd = 4) = false from decide_eq_false (by omega)]; rfl
  · unfold sM; rw [show decide (c.kd = 4) = false from decide_eq_false (by omega)]; rfl
theorem barC_2 {c : Ca} (k1 : decide (c.kd = 1) = false) (k2 : decide (c.kd = 2) = true) : barC c = ⟨c.kd, c.us, c.dv, ⟨0, 0, { data := #[] }, [], { data := #[] }⟩, ⟨0, 0, { data := #[] }, { data := #[] }, 0, { data := #[] }, { data := #[] }, 0, { data := #[] }⟩, [], 0, 0, 0, { data := #[] }, 0, { data := #[] }⟩ ∧ (∀ o, sO c o = none) ∧ (∀ j, sK c j = 0) ∧ (∀ o, sP c o = none) ∧ (∀ j, sM c j = 0) := by
  have e := of_decide_eq_true k2
  refine ⟨?_, fun o => ?_, fun o => ?_, fun o => ?_, fun o => ?_⟩
  · unfold barC; rw [k1, k2]; rfl
  · unfold sO; rw [show decide (c.kd = 3) = false from decide_eq_false (by omega)]; rfl
  · unfold sK; rw [show decide (c.kd = 3) = false from decide_eq_false (by omega)]; rfl
  · unfold sP; rw [show decide (c.kd = 4) = false from decide_eq_false (by omega)]; rfl
  · unfold sM; rw [show decide (c.kd = 4) = false from decide_eq_false (by omega)]; rfl
theorem barC_3 {c : Ca} (k1 : decide (c.kd = 1) = false) (k2 : decide (c.kd = 2) = false) (k3 : decide (c.kd = 3) = true) : barC c = ⟨c.kd, 0, 0, c.li, ⟨0, 0, { data := #[] }, { data := #[] }, 0, { data := #[] }, { data := #[] }, 0, { data := #[] }⟩, [], 0, 0, 0, { data := #[] }, 0, { data := #[] }⟩ ∧ (∀ o, sO c o = o) ∧ (∀ j, sK c j = j) ∧ (∀ o, sP c o = none) ∧ (∀ j, sM c j = 0) := by
  have e := of_decide_eq_true k3
  refine ⟨?_, fun o => ?_, fun o => ?_, fun o => ?_, fun o => ?_⟩
  · unfold barC; rw [k1, k2, k3]; rfl
  · unfold sO; rw [k3]; rfl
  · unfold sK; rw [k3]; rfl
  · unfold sP; rw [show decide (c.kd = 4) = false from decide_eq_false (by omega)]; rfl
  · unfold sM; rw [show decide (c.kd = 4) = false from decide_eq_false (by omega)]; rfl
theorem barC_4 {c : Ca} (k1 : decide (c.kd = 1) = false) (k2 : decide (c.kd = 2) = false) (k3 : decide (c.kd = 3) = false) (k4 : decide (c.kd = 4) = true) : barC c = ⟨c.kd, 0, 0, ⟨0, 0, { data := #[] }, [], { data := #[] }⟩, c.bu, c.on, 0, 0, 0, { data := #[] }, c.ix, { data := #[] }⟩ ∧ (∀ o, sO c o = none) ∧ (∀ j, sK c j = 0) ∧ (∀ o, sP c o = o) ∧ (∀ j, sM c j = j) := by
  have e := of_decide_eq_true k4
  refine ⟨?_, fun o => ?_, fun o => ?_, fun o => ?_, fun o => ?_⟩
  · unfold barC; rw [k1, k2, k3, k4]; rfl
  · unfold sO; rw [k3]; rfl
  · unfold sK; rw [k3]; rfl
  · unfold sP; rw [k4]; rfl
  · unfold sM; rw [k4]; rfl
theorem barC_5 {c : Ca} (k1 : decide (c.kd = 1) = false) (k2 : decide (c.kd = 2) = false) (k3 : decide (c.kd = 3) = false) (k4 : decide (c.kd = 4) = false) (k5 : decide (c.kd = 5) = true) : barC c = ⟨c.kd, 0, 0, ⟨0, 0, { data := #[] }, [], { data := #[] }⟩, ⟨0, 0, { data := #[] }, { data := #[] }, 0, { data := #[] }, { data := #[] }, 0, { data := #[] }⟩, [], c.tt, c.no, 0, { data := #[] }, 0, c.bt⟩ ∧ (∀ o, sO c o = none) ∧ (∀ j, sK c j = 0) ∧ (∀ o, sP c o = none) ∧ (∀ j, sM c j = 0) := by
  have e := of_decide_eq_true k5
  refine ⟨?_, fun o => ?_, fun o => ?_, fun o => ?_, fun o => ?_⟩
  · unfold barC; rw [k1, k2, k3, k4, k5]; rfl
  · unfold sO; rw [k3]; rfl
  · unfold sK; rw [k3]; rfl
  · unfold sP; rw [k4]; rfl
  · unfold sM; rw [k4]; rfl
theorem barC_6 {c : Ca} (k1 : decide (c.kd = 1) = false) (k2 : decide (c.kd = 2) = false) (k3 : decide (c.kd = 3) = false) (k4 : decide (c.kd = 4) = false) (k5 : decide (c.kd = 5) = false) (k6 : decide (c.kd = 6) = true) : barC c = ⟨c.kd, 0, 0, ⟨0, 0, { data := #[] }, [], { data := #[] }⟩, ⟨0, 0, { data := #[] }, { data := #[] }, 0, { data := #[] }, { data := #[] }, 0, { data := #[] }⟩, [], 0, 0, c.af, { data := #[] }, 0, { data := #[] }⟩ ∧ (∀ o, sO c o = none) ∧ (∀ j, sK c j = 0) ∧ (∀ o, sP c o = none) ∧ (∀ j, sM c j = 0) := by
  have e := of_decide_eq_true k6
  refine ⟨?_, fun o => ?_, fun o => ?_, fun o => ?_, fun o => ?_⟩
  · unfold barC; rw [k1, k2, k3, k4, k5, k6]; rfl
  · unfold sO; rw [k3]; rfl
  · unfold sK; rw [k3]; rfl
  · unfold sP; rw [k4]; rfl
  · unfold sM; rw [k4]; rfl
theorem barC_7 {c : Ca} (k1 : decide (c.kd = 1) = false) (k2 : decide (c.kd = 2) = false) (k3 : decide (c.kd = 3) = false) (k4 : decide (c.kd = 4) = false) (k5 : decide (c.kd = 5) = false) (k6 : decide (c.kd = 6) = false) (k7 : decide (c.kd = 7) = true) : barC c = ⟨c.kd, 0, 0, ⟨0, 0, { data := #[] }, [], { data := #[] }⟩, ⟨0, 0, { data := #[] }, { data := #[] }, 0, { data := #[] }, { data := #[] }, 0, { data := #[] }⟩, [], 0, 0, c.af, { data := #[] }, 0, { data := #[] }⟩ ∧ (∀ o, sO c o = none) ∧ (∀ j, sK c j = 0) ∧ (∀ o, sP c o = none) ∧ (∀ j, sM c j = 0) := by
  have e := of_decide_eq_true k7
  refine ⟨?_, fun o => ?_, fun o => ?_, fun o => ?_, fun o => ?_⟩
  · unfold barC; rw [k1, k2, k3, k4, k5, k6, k7]; rfl
  · unfold sO; rw [k3]; rfl
  · unfold sK; rw [k3]; rfl
  · unfold sP; rw [k4]; rfl
  · unfold sM; rw [k4]; rfl
theorem barC_8 {c : Ca} (k1 : decide (c.kd = 1) = false) (k2 : decide (c.kd = 2) = false) (k3 : decide (c.kd = 3) = false) (k4 : decide (c.kd = 4) = false) (k5 : decide (c.kd = 5) = false) (k6 : decide (c.kd = 6) = false) (k7 : decide (c.kd = 7) = false) (k8 : decide (c.kd = 8) = true) : barC c = ⟨c.kd, 0, 0, ⟨0, 0, { data := #[] }, [], { data := #[] }⟩, ⟨0, 0, { data := #[] }, { data := #[] }, 0, { data := #[] }, { data := #[] }, 0, { data := #[] }⟩, [], 0, 0, 0, c.nm, c.ix, c.bt⟩ ∧ (∀ o, sO c o = none) ∧ (∀ j, sK c j = 0) ∧ (∀ o, sP c o = none) ∧ (∀ j, sM c j = 0) := by
  have e := of_decide_eq_true k8
  refine ⟨?_, fun o => ?_, fun o => ?_, fun o => ?_, fun o => ?_⟩
  · unfold barC; rw [k1, k2, k3, k4, k5, k6, k7, k8]; rfl
  · unfold sO; rw [k3]; rfl
  · unfold sK; rw [k3]; rfl
  · unfold sP; rw [k4]; rfl
  · unfold sM; rw [k4]; rfl
theorem barC_9 {c : Ca} (k1 : decide (c.kd = 1) = false) (k2 : decide (c.kd = 2) = false) (k3 : decide (c.kd = 3) = false) (k4 : decide (c.kd = 4) = false) (k5 : decide (c.kd = 5) = false) (k6 : decide (c.kd = 6) = false) (k7 : decide (c.kd = 7) = false) (k8 : decide (c.kd = 8) = false) (k9 : decide (c.kd = 9) = true) : barC c = ⟨c.kd, 0, 0, ⟨0, 0, { data := #[] }, [], { data := #[] }⟩, ⟨0, 0, { data := #[] }, { data := #[] }, 0, { data := #[] }, { data := #[] }, 0, { data := #[] }⟩, [], 0, 0, 0, c.nm, c.ix, { data := #[] }⟩ ∧ (∀ o, sO c o = none) ∧ (∀ j, sK c j = 0) ∧ (∀ o, sP c o = none) ∧ (∀ j, sM c j = 0) := by
  have e := of_decide_eq_true k9
  refine ⟨?_, fun o => ?_, fun o => ?_, fun o => ?_, fun o => ?_⟩
  · unfold barC; rw [k1, k2, k3, k4, k5, k6, k7, k8, k9]; rfl
  · unfold sO; rw [k3]; rfl
  · unfold sK; rw [k3]; rfl
  · unfold sP; rw [k4]; rfl
  · unfold sM; rw [k4]; rfl
theorem barC_0 {c : Ca} (k1 : decide (c.kd = 1) = false) (k2 : decide (c.kd = 2) = false) (k3 : decide (c.kd = 3) = false) (k4 : decide (c.kd = 4) = false) (k5 : decide (c.kd = 5) = false) (k6 : decide (c.kd = 6) = false) (k7 : decide (c.kd = 7) = false) (k8 : decide (c.kd = 8) = false) (k9 : decide (c.kd = 9) = false) : barC c = ⟨c.kd, 0, 0, ⟨0, 0, { data := #[] }, [], { data := #[] }⟩, ⟨0, 0, { data := #[] }, { data := #[] }, 0, { data := #[] }, { data := #[] }, 0, { data := #[] }⟩, [], 0, 0, 0, { data := #[] }, 0, { data := #[] }⟩ ∧ (∀ o, sO c o = none) ∧ (∀ j, sK c j = 0) ∧ (∀ o, sP c o = none) ∧ (∀ j, sM c j = 0) := by
  refine ⟨?_, fun o => ?_, fun o => ?_, fun o => ?_, fun o => ?_⟩
  · unfold barC; rw [k1, k2, k3, k4, k5, k6, k7, k8, k9]; rfl
  · unfold sO; rw [k3]; rfl
  · unfold sK; rw [k3]; rfl
  · unfold sP; rw [k4]; rfl
  · unfold sM; rw [k4]; rfl
set_option maxHeartbeats 2000000 in
theorem bar_any {w : World} (c : Ca) {o p : Option Addr} {k m : Nat} (hP : At w o (mcl c.li.ds)) (hQ : At w p (scl c.on)) (hl1 : c.li.ds.length ≤ 1000000) (hl2 : c.on.length ≤ 1000000) :
    Calls Try.prog 76 #[.agg (caC c (.slice o c.li.ds.length k) (.slice p c.on.length m))] w fun e w' => e = .returned (.agg (caC (barC c) (.slice (sO c o) (barC c).li.ds.length (sK c k)) (.slice (sP c p) (barC c).on.length (sM c m)))) ∧ Below w.heap.size w w' := by
  have H0 := HA.start w
  go_enter Try.func76, Try.ntmps76
  refine wp_seq (wl_region (wl_make (c := caC c (.slice o c.li.ds.length k) (.slice p c.on.length m)) H0 30 ky ky ?_))
  intro q1 w2 (h3 : HA (bs w) [(q1, 30, caC c (.slice o c.li.ds.length k) (.slice p c.on.length m))] w2)
  refine wl_make (c := #[iN .i64 0, iN .i64 0, iN .i64 0, iN .i64 0, iN .i64 0, .string ({ data := #[] }), .slice none 0 0, .string ({ data := #[] }), iN .i64 0, iN .i64 0, .string ({ data := #[] }), .string ({ data := #[] }), iN .i64 0, .string ({ data := #[] }), .string ({ data := #[] }), iN .i64 0, .string ({ data := #[] }), .slice none 0 0, iN .i64 0, iN .u64 0, iN .u64 0, .string ({ data := #[] }), iN .i64 0, .string ({ data := #[] })]) h3 30 ky ky ?_
  intro q4 w5 (h6 : HA (bs w) [(q4, 30, #[iN .i64 0, iN .i64 0, iN .i64 0, iN .i64 0, iN .i64 0, .string ({ data := #[] }), .slice none 0 0, .string ({ data := #[] }), iN .i64 0, iN .i64 0, .string ({ data := #[] }), .string ({ data := #[] }), iN .i64 0, .string ({ data := #[] }), .string ({ data := #[] }), iN .i64 0, .string ({ data := #[] }), .slice none 0 0, iN .i64 0, iN .u64 0, iN .u64 0, .string ({ data := #[] }), iN .i64 0, .string ({ data := #[] })]), (q1, 30, caC c (.slice o c.li.ds.length k) (.slice p c.on.length m))] w5)
  refine wl_nil (then_at rfl (wp_seq (wl_region (zv (.pointer (some ⟨q1, 0, none⟩)) (zu (.int .i64 c.kd) (run_load1 (fun w => Try.isAgg3 w) ky (((h6.get 1 rfl).cell 0).trans rfl)) (zv (.agg #[.int .i64 c.kd, iN .i64 0, iN .i64 0, iN .i64 0, iN .i64 0, .string ({ data := #[] }), .slice none 0 0, .string ({ data := #[] }), iN .i64 0, iN .i64 0, .string ({ data := #[] }), .string ({ data := #[] }), iN .i64 0, .string ({ data := #[] }), .string ({ data := #[] }), iN .i64 0, .string ({ data := #[] }), .slice none 0 0, iN .i64 0, iN .u64 0, iN .u64 0, .string ({ data := #[] }), iN .i64 0, .string ({ data := #[] })]) (wl_make (c := #[iN .i64 0, iN .i64 0, iN .i64 0, iN .i64 0, iN .i64 0, .string ({ data := #[] }), .slice none 0 0, .string ({ data := #[] }), iN .i64 0, iN .i64 0, .string ({ data := #[] }), .string ({ data := #[] }), iN .i64 0, .string ({ data := #[] }), .string ({ data := #[] }), iN .i64 0, .string ({ data := #[] }), .slice none 0 0, iN .i64 0, iN .u64 0, iN .u64 0, .string ({ data := #[] }), iN .i64 0, .string ({ data := #[] })]) h6 30 ky ky ?_)))))))
  intro q7 w8 (h9 : HA (bs w) [(q7, 30, #[iN .i64 0, iN .i64 0, iN .i64 0, iN .i64 0, iN .i64 0, .string ({ data := #[] }), .slice none 0 0, .string ({ data := #[] }), iN .i64 0, iN .i64 0, .string ({ data := #[] }), .string ({ data := #[] }), iN .i64 0, .string ({ data := #[] }), .string ({ data := #[] }), iN .i64 0, .string ({ data := #[] }), .slice none 0 0, iN .i64 0, iN .u64 0, iN .u64 0, .string ({ data := #[] }), iN .i64 0, .string ({ data := #[] })]), (q4, 30, #[iN .i64 0, iN .i64 0, iN .i64 0, iN .i64 0, iN .i64 0, .string ({ data := #[] }), .slice none 0 0, .string ({ data := #[] }), iN .i64 0, iN .i64 0, .string ({ data := #[] }), .string ({ data := #[] }), iN .i64 0, .string ({ data := #[] }), .string ({ data := #[] }), iN .i64 0, .string ({ data := #[] }), .slice none 0 0, iN .i64 0, iN .u64 0, iN .u64 0, .string ({ data := #[] }), iN .i64 0, .string ({ data := #[] })]), (q1, 30, caC c (.slice o c.li.ds.length k) (.slice p c.on.length m))] w8)
  refine wl_fill (c' := #[.int .i64 c.kd, iN .i64 0, iN .i64 0, iN .i64 0, iN .i64 0, .string ({ data := #[] }), .slice none 0 0, .string ({ data := #[] }), iN .i64 0, iN .i64 0, .string ({ data := #[] }), .string ({ data := #[] }), iN .i64 0, .string ({ data := #[] }), .string ({ data := #[] }), iN .i64 0, .string ({ data := #[] }), .slice none 0 0, iN .i64 0, iN .u64 0, iN .u64 0, .string ({ data := #[] }), iN .i64 0, .string ({ data := #[] })]) h9 0 rfl ky ky ky rfl ky ky (fun w10 h11 => (wl_nil (then_at rfl (wp_seq (wp_seq (wl_region (zv (.pointer (some ⟨q1, 0, none⟩)) (zu (.int .i64 c.kd) (run_load1 (fun w => Try.isAgg3 w) ky (((h11.get 2 rfl).cell 0).trans rfl)) (wl_nil (then_at rfl (wp_block (wp_seq (wl_region ?_)))))))))))))
  rcases q12 : decide (c.kd = 1) with _ | _; rotate_left
  {refine zu (.bool true) (run_eqZ (k := .i64) (a := c.kd) (b := 1) ky ky true q12) (zv (.bool true) (wl_nil (then_at rfl (wp_cond_true ky (wl_region (zv (.pointer (some ⟨q1, 1, none⟩)) (zu (.int .i64 c.us) (run_load1 (fun w => Try.isAgg3 w) ky (((h11.get 2 rfl).cell 1).trans rfl)) (zv (.pointer (some ⟨q7, 1, none⟩)) (wl_putv (v := .int .i64 c.us) h11 0 rfl 1 (by show 1 < 24; decide) ky (fun w => Try.sizeOf3 w) ky ky ky (fun w13 h14 => (wl_nil (block_normal (then_at rfl (wp_seq (wl_region (wl_load h14 0 rfl ky ky Try.underlying30 rfl ky (wl_fill (c' := #[.int .i64 c.kd, .int .i64 c.us, iN .i64 0, iN .i64 0, iN .i64 0, .string ({ data := #[] }), .slice none 0 0, .string ({ data := #[] }), iN .i64 0, iN .i64 0, .string ({ data := #[] }), .string ({ data := #[] }), iN .i64 0, .string ({ data := #[] }), .string ({ data := #[] }), iN .i64 0, .string ({ data := #[] }), .slice none 0 0, iN .i64 0, iN .u64 0, iN .u64 0, .string ({ data := #[] }), iN .i64 0, .string ({ data := #[] })]) h14 1 rfl ky ky ky rfl ky ky (fun w15 h16 => (wl_nil (then_at rfl (wp_ret ?_)))))))))))))))))))))
   repeat first|refine tr ?_|refine block_ret ?_
   obtain ⟨hb1, hb2, hb3, hb4, hb5⟩ := barC_1 q12
   exact bodyPost_ret (v := .agg (caC ⟨c.kd, c.us, 0, ⟨0, 0, { data := #[] }, [], { data := #[] }⟩, ⟨0, 0, { data := #[] }, { data := #[] }, 0, { data := #[] }, { data := #[] }, 0, { data := #[] }⟩, [], 0, 0, 0, { data := #[] }, 0, { data := #[] }⟩ (.slice none 0 0) (.slice none 0 0))) (res_cell (p := 2) ky ky (h16.get 1 rfl) Try.underlying30 rfl ky) rfl ⟨by rw [hb1, hb2, hb3, hb4, hb5]; rfl, h16.old.old⟩}
  refine zu (.bool false) (run_eqZ (k := .i64) (a := c.kd) (b := 1) ky ky false q12) (zv (.bool false) (wl_nil (then_at rfl (wp_cond_false ky (wp_seq (wl_region ?_))))))
  rcases q17 : decide (c.kd = 2) with _ | _; rotate_left
  {refine zu (.bool true) (run_eqZ (k := .i64) (a := c.kd) (b := 2) ky ky true q17) (zv (.bool true) (wl_nil (then_at rfl (wp_cond_true ky (wp_seq (wl_region (zv (.pointer (some ⟨q1, 1, none⟩)) (zu (.int .i64 c.us) (run_load1 (fun w => Try.isAgg3 w) ky (((h11.get 2 rfl).cell 1).trans rfl)) (zv (.pointer (some ⟨q7, 1, none⟩)) (wl_putv (v := .int .i64 c.us) h11 0 rfl 1 (by show 1 < 24; decide) ky (fun w => Try.sizeOf3 w) ky ky ky (fun w18 h19 => (wl_nil (then_at rfl (wl_region (zv (.pointer (some ⟨q1, 2, none⟩)) (zu (.int .i64 c.dv) (run_load1 (fun w => Try.isAgg3 w) ky (((h19.get 2 rfl).cell 2).trans rfl)) (zv (.pointer (some ⟨q7, 2, none⟩)) (wl_putv (v := .int .i64 c.dv) h19 0 rfl 2 (by show 2 < 24; decide) ky (fun w => Try.sizeOf3 w) ky ky ky (fun w20 h21 => (wl_nil (block_normal (then_at rfl (wp_seq (wl_region (wl_load h21 0 rfl ky ky Try.underlying30 rfl ky (wl_fill (c' := #[.int .i64 c.kd, .int .i64 c.us, .int .i64 c.dv, iN .i64 0, iN .i64 0, .string ({ data := #[] }), .slice none 0 0, .string ({ data := #[] }), iN .i64 0, iN .i64 0, .string ({ data := #[] }), .string ({ data := #[] }), iN .i64 0, .string ({ data := #[] }), .string ({ data := #[] }), iN .i64 0, .string ({ data := #[] }), .slice none 0 0, iN .i64 0, iN .u64 0, iN .u64 0, .string ({ data := #[] }), iN .i64 0, .string ({ data := #[] })]) h21 1 rfl ky ky ky rfl ky ky (fun w22 h23 => (wl_nil (then_at rfl (wp_ret ?_))))))))))))))))))))))))))))))
   repeat first|refine tr ?_|refine block_ret ?_
   obtain ⟨hb1, hb2, hb3, hb4, hb5⟩ := barC_2 q12 q17
   exact bodyPost_ret (v := .agg (caC ⟨c.kd, c.us, c.dv, ⟨0, 0, { data := #[] }, [], { data := #[] }⟩, ⟨0, 0, { data := #[] }, { data := #[] }, 0, { data := #[] }, { data := #[] }, 0, { data := #[] }⟩, [], 0, 0, 0, { data := #[] }, 0, { data := #[] }⟩ (.slice none 0 0) (.slice none 0 0))) (res_cell (p := 2) ky ky (h23.get 1 rfl) Try.underlying30 rfl ky) rfl ⟨by rw [hb1, hb2, hb3, hb4, hb5]; rfl, h23.old.old⟩}
  refine zu (.bool false) (run_eqZ (k := .i64) (a := c.kd) (b := 2) ky ky false q17) (zv (.bool false) (wl_nil (then_at rfl (wp_cond_false ky (wp_seq (wl_region ?_))))))
  rcases q24 : decide (c.kd = 3) with _ | _; rotate_left
  {refine zu (.bool true) (run_eqZ (k := .i64) (a := c.kd) (b := 3) ky ky true q24) (zv (.bool true) (wl_nil (then_at rfl (wp_cond_true ky (wl_region (zv (.pointer (some ⟨q1, 3, none⟩)) (zu (.agg #[.int .i64 c.li.u, .int .i64 c.li.v, .string c.li.ac, .slice o c.li.ds.length k, .string c.li.sg]) (run_load_part (q := q1) (off := 3) (d := #[.int .i64 c.li.u, .int .i64 c.li.v, .string c.li.ac, .slice o c.li.ds.length k, .string c.li.sg]) ky (h11.get 2 rfl) Try.underlying25 rfl ky (by intro j hj; match j, hj with | 0, _ => rfl | 1, _ => rfl | 2, _ => rfl | 3, _ => rfl | 4, _ => rfl)) (zv (.pointer (some ⟨q7, 3, none⟩)) (wl_puts (d := #[.int .i64 c.li.u, .int .i64 c.li.v, .string c.li.ac, .slice o c.li.ds.length k, .string c.li.sg]) (c' := #[.int .i64 c.kd, iN .i64 0, iN .i64 0, .int .i64 c.li.u, .int .i64 c.li.v, .string c.li.ac, .slice o c.li.ds.length k, .string c.li.sg, iN .i64 0, iN .i64 0, .string ({ data := #[] }), .string ({ data := #[] }), iN .i64 0, .string ({ data := #[] }), .string ({ data := #[] }), iN .i64 0, .string ({ data := #[] }), .slice none 0 0, iN .i64 0, iN .u64 0, iN .u64 0, .string ({ data := #[] }), iN .i64 0, .string ({ data := #[] })]) h11 0 rfl (off := 3) ky ky ky ky ky ky ky (fun w25 h26 => (wl_nil (block_normal (then_at rfl (wp_seq (wl_region (wl_load h26 0 rfl ky ky Try.underlying30 rfl ky (wl_fill (c' := #[.int .i64 c.kd, iN .i64 0, iN .i64 0, .int .i64 c.li.u, .int .i64 c.li.v, .string c.li.ac, .slice o c.li.ds.length k, .string c.li.sg, iN .i64 0, iN .i64 0, .string ({ data := #[] }), .string ({ data := #[] }), iN .i64 0, .string ({ data := #[] }), .string ({ data := #[] }), iN .i64 0, .string ({ data := #[] }), .slice none 0 0, iN .i64 0, iN .u64 0, iN .u64 0, .string ({ data := #[] }), iN .i64 0, .string ({ data := #[] })]) h26 1 rfl ky ky ky rfl ky ky (fun w27 h28 => (wl_nil (then_at rfl (wp_ret ?_)))))))))))))))))))))
   repeat first|refine tr ?_|refine block_ret ?_
   obtain ⟨hb1, hb2, hb3, hb4, hb5⟩ := barC_3 q12 q17 q24
   exact bodyPost_ret (v := .agg (caC ⟨c.kd, 0, 0, c.li, ⟨0, 0, { data := #[] }, { data := #[] }, 0, { data := #[] }, { data := #[] }, 0, { data := #[] }⟩, [], 0, 0, 0, { data := #[] }, 0, { data := #[] }⟩ (.slice o c.li.ds.length k) (.slice none 0 0))) (res_cell (p := 2) ky ky (h28.get 1 rfl) Try.underlying30 rfl ky) rfl ⟨by rw [hb1, hb2, hb3, hb4, hb5]; rfl, h28.old.old⟩}
  refine zu (.bool false) (run_eqZ (k := .i64) (a := c.kd) (b := 3) ky ky false q24) (zv (.bool false) (wl_nil (then_at rfl (wp_cond_false ky (wp_seq (wl_region ?_))))))
  rcases q29 : decide (c.kd = 4) with _ | _; rotate_left
  {refine zu (.bool true) (run_eqZ (k := .i64) (a := c.kd) (b := 4) ky ky true q29) (zv (.bool true) (wl_nil (then_at rfl (wp_cond_true ky (wp_seq (wl_region (zv (.pointer (some ⟨q1, 8, none⟩)) (zu (.agg #[.int .i64 c.bu.u, .int .i64 c.bu.d, .string c.bu.sg, .string c.bu.dh, .int .i64 c.bu.pi, .string c.bu.pr, .string c.bu.ps, .int .i64 c.bu.oi, .string c.bu.on]) (run_load_part (q := q1) (off := 8) (d := #[.int .i64 c.bu.u, .int .i64 c.bu.d, .string c.bu.sg, .string c.bu.dh, .int .i64 c.bu.pi, .string c.bu.pr, .string c.bu.ps, .int .i64 c.bu.oi, .string c.bu.on]) ky (h11.get 2 rfl) Try.underlying27 rfl ky (by intro j hj; match j, hj with | 0, _ => rfl | 1, _ => rfl | 2, _ => rfl | 3, _ => rfl | 4, _ => rfl | 5, _ => rfl | 6, _ => rfl | 7, _ => rfl | 8, _ => rfl)) (zv (.pointer (some ⟨q7, 8, none⟩)) (wl_puts (d := #[.int .i64 c.bu.u, .int .i64 c.bu.d, .string c.bu.sg, .string c.bu.dh, .int .i64 c.bu.pi, .string c.bu.pr, .string c.bu.ps, .int .i64 c.bu.oi, .string c.bu.on]) (c' := #[.int .i64 c.kd, iN .i64 0, iN .i64 0, iN .i64 0, iN .i64 0, .string ({ data := #[] }), .slice none 0 0, .string ({ data := #[] }), .int .i64 c.bu.u, .int .i64 c.bu.d, .string c.bu.sg, .string c.bu.dh, .int .i64 c.bu.pi, .string c.bu.pr, .string c.bu.ps, .int .i64 c.bu.oi, .string c.bu.on, .slice none 0 0, iN .i64 0, iN .u64 0, iN .u64 0, .string ({ data := #[] }), iN .i64 0, .string ({ data := #[] })]) h11 0 rfl (off := 8) ky ky ky ky ky ky ky (fun w30 h31 => (wl_nil (then_at rfl (wp_seq (wl_region (zv (.pointer (some ⟨q1, 17, none⟩)) (zu (.slice p c.on.length m) (run_load1 (fun w => Try.isAgg28 w) ky (((h31.get 2 rfl).cell 17).trans rfl)) (zv (.pointer (some ⟨q7, 17, none⟩)) (wl_putv (v := .slice p c.on.length m) h31 0 rfl 17 (by show 17 < 24; decide) ky (fun w => Try.sizeOf28 w) ky ky ky (fun w32 h33 => (wl_nil (then_at rfl (wl_region (zv (.pointer (some ⟨q1, 22, none⟩)) (zu (.int .i64 c.ix) (run_load1 (fun w => Try.isAgg3 w) ky (((h33.get 2 rfl).cell 22).trans rfl)) (zv (.pointer (some ⟨q7, 22, none⟩)) (wl_putv (v := .int .i64 c.ix) h33 0 rfl 22 (by show 22 < 24; decide) ky (fun w => Try.sizeOf3 w) ky ky ky (fun w34 h35 => (wl_nil (block_normal (then_at rfl (wp_seq (wl_region (wl_load h35 0 rfl ky ky Try.underlying30 rfl ky ?_))))))))))))))))))))))))))))))))))
   refine wl_fill (c' := #[.int .i64 c.kd, iN .i64 0, iN .i64 0, iN .i64 0, iN .i64 0, .string ({ data := #[] }), .slice none 0 0, .string ({ data := #[] }), .int .i64 c.bu.u, .int .i64 c.bu.d, .string c.bu.sg, .string c.bu.dh, .int .i64 c.bu.pi, .string c.bu.pr, .string c.bu.ps, .int .i64 c.bu.oi, .string c.bu.on, .slice p c.on.length m, iN .i64 0, iN .u64 0, iN .u64 0, .string ({ data := #[] }), .int .i64 c.ix, .string ({ data := #[] })]) h35 1 rfl ky ky ky rfl ky ky (fun w36 h37 => (wl_nil (then_at rfl (wp_ret ?_))))
   repeat first|refine tr ?_|refine block_ret ?_
   obtain ⟨hb1, hb2, hb3, hb4, hb5⟩ := barC_4 q12 q17 q24 q29
   exact bodyPost_ret (v := .agg (caC ⟨c.kd, 0, 0, ⟨0, 0, { data := #[] }, [], { data := #[] }⟩, c.bu, c.on, 0, 0, 0, { data := #[] }, c.ix, { data := #[] }⟩ (.slice none 0 0) (.slice p c.on.length m))) (res_cell (p := 2) ky ky (h37.get 1 rfl) Try.underlying30 rfl ky) rfl ⟨by rw [hb1, hb2, hb3, hb4, hb5]; rfl, h37.old.old⟩}
  refine zu (.bool false) (run_eqZ (k := .i64) (a := c.kd) (b := 4) ky ky false q29) (zv (.bool false) (wl_nil (then_at rfl (wp_cond_false ky (wp_seq (wl_region ?_))))))
  rcases q38 : decide (c.kd = 5) with _ | _; rotate_left
  {refine zu (.bool true) (run_eqZ (k := .i64) (a := c.kd) (b := 5) ky ky true q38) (zv (.bool true) (wl_nil (then_at rfl (wp_cond_true ky (wp_seq (wl_region (zv (.pointer (some ⟨q1, 18, none⟩)) (zu (.int .i64 c.tt) (run_load1 (fun w => Try.isAgg3 w) ky (((h11.get 2 rfl).cell 18).trans rfl)) (zv (.pointer (some ⟨q7, 18, none⟩)) (wl_putv (v := .int .i64 c.tt) h11 0 rfl 18 (by show 18 < 24; decide) ky (fun w => Try.sizeOf3 w) ky ky ky (fun w39 h40 => (wl_nil (then_at rfl (wp_seq (wl_region (zv (.pointer (some ⟨q1, 19, none⟩)) (zu (iN .u64 c.no) (run_load1 (fun w => Try.isAgg22 w) ky (((h40.get 2 rfl).cell 19).trans rfl)) (zv (.pointer (some ⟨q7, 19, none⟩)) (wl_putv (v := iN .u64 c.no) h40 0 rfl 19 (by show 19 < 24; decide) ky (fun w => Try.sizeOf22 w) ky ky ky (fun w41 h42 => (wl_nil (then_at rfl (wl_region (zv (.pointer (some ⟨q1, 23, none⟩)) (zu (.string c.bt) (run_load1 (fun w => Try.isAgg9 w) ky (((h42.get 2 rfl).cell 23).trans rfl)) (zv (.pointer (some ⟨q7, 23, none⟩)) (wl_putv (v := .string c.bt) h42 0 rfl 23 (by show 23 < 24; decide) ky (fun w => Try.sizeOf9 w) ky ky ky (fun w43 h44 => (wl_nil (block_normal (then_at rfl (wp_seq (wl_region (wl_load h44 0 rfl ky ky Try.underlying30 rfl ky ?_))))))))))))))))))))))))))))))))))
   refine wl_fill (c' := #[.int .i64 c.kd, iN .i64 0, iN .i64 0, iN .i64 0, iN .i64 0, .string ({ data := #[] }), .slice none 0 0, .string ({ data := #[] }), iN .i64 0, iN .i64 0, .string ({ data := #[] }), .string ({ data := #[] }), iN .i64 0, .string ({ data := #[] }), .string ({ data := #[] }), iN .i64 0, .string ({ data := #[] }), .slice none 0 0, .int .i64 c.tt, iN .u64 c.no, iN .u64 0, .string ({ data := #[] }), iN .i64 0, .string c.bt]) h44 1 rfl ky ky ky rfl ky ky (fun w45 h46 => (wl_nil (then_at rfl (wp_ret ?_))))
   repeat first|refine tr ?_|refine block_ret ?_
   obtain ⟨hb1, hb2, hb3, hb4, hb5⟩ := barC_5 q12 q17 q24 q29 q38
   exact bodyPost_ret (v := .agg (caC ⟨c.kd, 0, 0, ⟨0, 0, { data := #[] }, [], { data := #[] }⟩, ⟨0, 0, { data := #[] }, { data := #[] }, 0, { data := #[] }, { data := #[] }, 0, { data := #[] }⟩, [], c.tt, c.no, 0, { data := #[] }, 0, c.bt⟩ (.slice none 0 0) (.slice none 0 0))) (res_cell (p := 2) ky ky (h46.get 1 rfl) Try.underlying30 rfl ky) rfl ⟨by rw [hb1, hb2, hb3, hb4, hb5]; rfl, h46.old.old⟩}
  refine zu (.bool false) (run_eqZ (k := .i64) (a := c.kd) (b := 5) ky ky false q38) (zv (.bool false) (wl_nil (then_at rfl (wp_cond_false ky (wp_seq (wp_seq (wl_region ?_)))))))
  rcases q47 : decide (c.kd = 6) with _ | _; rotate_left
  {refine zu (.bool true) (run_eqZ (k := .i64) (a := c.kd) (b := 6) ky ky true q47) (zv (.bool true) (wl_nil (then_at rfl (wp_cond_true ky (wp_skip (then_at rfl (wp_cond_true ky (wl_region (zv (.pointer (some ⟨q1, 20, none⟩)) (zu (iN .u64 c.af) (run_load1 (fun w => Try.isAgg22 w) ky (((h11.get 2 rfl).cell 20).trans rfl)) (zv (.pointer (some ⟨q7, 20, none⟩)) (wl_putv (v := iN .u64 c.af) h11 0 rfl 20 (by show 20 < 24; decide) ky (fun w => Try.sizeOf22 w) ky ky ky (fun w48 h49 => (wl_nil (block_normal (then_at rfl (wp_seq (wl_region (wl_load h49 0 rfl ky ky Try.underlying30 rfl ky (wl_fill (c' := #[.int .i64 c.kd, iN .i64 0, iN .i64 0, iN .i64 0, iN .i64 0, .string ({ data := #[] }), .slice none 0 0, .string ({ data := #[] }), iN .i64 0, iN .i64 0, .string ({ data := #[] }), .string ({ data := #[] }), iN .i64 0, .string ({ data := #[] }), .string ({ data := #[] }), iN .i64 0, .string ({ data := #[] }), .slice none 0 0, iN .i64 0, iN .u64 0, iN .u64 c.af, .string ({ data := #[] }), iN .i64 0, .string ({ data := #[] })]) h49 1 rfl ky ky ky rfl ky ky (fun w50 h51 => (wl_nil (then_at rfl (wp_ret ?_))))))))))))))))))))))))
   repeat first|refine tr ?_|refine block_ret ?_
   obtain ⟨hb1, hb2, hb3, hb4, hb5⟩ := barC_6 q12 q17 q24 q29 q38 q47
   exact bodyPost_ret (v := .agg (caC ⟨c.kd, 0, 0, ⟨0, 0, { data := #[] }, [], { data := #[] }⟩, ⟨0, 0, { data := #[] }, { data := #[] }, 0, { data := #[] }, { data := #[] }, 0, { data := #[] }⟩, [], 0, 0, c.af, { data := #[] }, 0, { data := #[] }⟩ (.slice none 0 0) (.slice none 0 0))) (res_cell (p := 2) ky ky (h51.get 1 rfl) Try.underlying30 rfl ky) rfl ⟨by rw [hb1, hb2, hb3, hb4, hb5]; rfl, h51.old.old⟩}
  refine zu (.bool false) (run_eqZ (k := .i64) (a := c.kd) (b := 6) ky ky false q47) (zv (.bool false) (wl_nil (then_at rfl (wp_cond_false ky (wl_region ?_)))))
  rcases q52 : decide (c.kd = 7) with _ | _; rotate_left
  {refine zu (.bool true) (run_eqZ (k := .i64) (a := c.kd) (b := 7) ky ky true q52) (zv (.bool true) (wl_nil (then_at rfl (wp_cond_true ky (wl_region (zv (.pointer (some ⟨q1, 20, none⟩)) (zu (iN .u64 c.af) (run_load1 (fun w => Try.isAgg22 w) ky (((h11.get 2 rfl).cell 20).trans rfl)) (zv (.pointer (some ⟨q7, 20, none⟩)) (wl_putv (v := iN .u64 c.af) h11 0 rfl 20 (by show 20 < 24; decide) ky (fun w => Try.sizeOf22 w) ky ky ky (fun w53 h54 => (wl_nil (block_normal (then_at rfl (wp_seq (wl_region (wl_load h54 0 rfl ky ky Try.underlying30 rfl ky (wl_fill (c' := #[.int .i64 c.kd, iN .i64 0, iN .i64 0, iN .i64 0, iN .i64 0, .string ({ data := #[] }), .slice none 0 0, .string ({ data := #[] }), iN .i64 0, iN .i64 0, .string ({ data := #[] }), .string ({ data := #[] }), iN .i64 0, .string ({ data := #[] }), .string ({ data := #[] }), iN .i64 0, .string ({ data := #[] }), .slice none 0 0, iN .i64 0, iN .u64 0, iN .u64 c.af, .string ({ data := #[] }), iN .i64 0, .string ({ data := #[] })]) h54 1 rfl ky ky ky rfl ky ky (fun w55 h56 => (wl_nil (then_at rfl (wp_ret ?_)))))))))))))))))))))
   repeat first|refine tr ?_|refine block_ret ?_
   obtain ⟨hb1, hb2, hb3, hb4, hb5⟩ := barC_7 q12 q17 q24 q29 q38 q47 q52
   exact bodyPost_ret (v := .agg (caC ⟨c.kd, 0, 0, ⟨0, 0, { data := #[] }, [], { data := #[] }⟩, ⟨0, 0, { data := #[] }, { data := #[] }, 0, { data := #[] }, { data := #[] }, 0, { data := #[] }⟩, [], 0, 0, c.af, { data := #[] }, 0, { data := #[] }⟩ (.slice none 0 0) (.slice none 0 0))) (res_cell (p := 2) ky ky (h56.get 1 rfl) Try.underlying30 rfl ky) rfl ⟨by rw [hb1, hb2, hb3, hb4, hb5]; rfl, h56.old.old⟩}
  refine zu (.bool false) (run_eqZ (k := .i64) (a := c.kd) (b := 7) ky ky false q52) (zv (.bool false) (wl_nil (then_at rfl (wp_cond_false ky (wp_seq (wl_region ?_))))))
  rcases q57 : decide (c.kd = 8) with _ | _; rotate_left
  {refine zu (.bool true) (run_eqZ (k := .i64) (a := c.kd) (b := 8) ky ky true q57) (zv (.bool true) (wl_nil (then_at rfl (wp_cond_true ky (wp_seq (wl_region (zv (.pointer (some ⟨q1, 21, none⟩)) (zu (.string c.nm) (run_load1 (fun w => Try.isAgg9 w) ky (((h11.get 2 rfl).cell 21).trans rfl)) (zv (.pointer (some ⟨q7, 21, none⟩)) (wl_putv (v := .string c.nm) h11 0 rfl 21 (by show 21 < 24; decide) ky (fun w => Try.sizeOf9 w) ky ky ky (fun w58 h59 => (wl_nil (then_at rfl (wp_seq (wl_region (zv (.pointer (some ⟨q1, 22, none⟩)) (zu (.int .i64 c.ix) (run_load1 (fun w => Try.isAgg3 w) ky (((h59.get 2 rfl).cell 22).trans rfl)) (zv (.pointer (some ⟨q7, 22, none⟩)) (wl_putv (v := .int .i64 c.ix) h59 0 rfl 22 (by show 22 < 24; decide) ky (fun w => Try.sizeOf3 w) ky ky ky (fun w60 h61 => (wl_nil (then_at rfl (wl_region (zv (.pointer (some ⟨q1, 23, none⟩)) (zu (.string c.bt) (run_load1 (fun w => Try.isAgg9 w) ky (((h61.get 2 rfl).cell 23).trans rfl)) (zv (.pointer (some ⟨q7, 23, none⟩)) (wl_putv (v := .string c.bt) h61 0 rfl 23 (by show 23 < 24; decide) ky (fun w => Try.sizeOf9 w) ky ky ky (fun w62 h63 => (wl_nil (block_normal (then_at rfl (wp_seq (wl_region (wl_load h63 0 rfl ky ky Try.underlying30 rfl ky ?_))))))))))))))))))))))))))))))))))
   refine wl_fill (c' := #[.int .i64 c.kd, iN .i64 0, iN .i64 0, iN .i64 0, iN .i64 0, .string ({ data := #[] }), .slice none 0 0, .string ({ data := #[] }), iN .i64 0, iN .i64 0, .string ({ data := #[] }), .string ({ data := #[] }), iN .i64 0, .string ({ data := #[] }), .string ({ data := #[] }), iN .i64 0, .string ({ data := #[] }), .slice none 0 0, iN .i64 0, iN .u64 0, iN .u64 0, .string c.nm, .int .i64 c.ix, .string c.bt]) h63 1 rfl ky ky ky rfl ky ky (fun w64 h65 => (wl_nil (then_at rfl (wp_ret ?_))))
   repeat first|refine tr ?_|refine block_ret ?_
   obtain ⟨hb1, hb2, hb3, hb4, hb5⟩ := barC_8 q12 q17 q24 q29 q38 q47 q52 q57
   exact bodyPost_ret (v := .agg (caC ⟨c.kd, 0, 0, ⟨0, 0, { data := #[] }, [], { data := #[] }⟩, ⟨0, 0, { data := #[] }, { data := #[] }, 0, { data := #[] }, { data := #[] }, 0, { data := #[] }⟩, [], 0, 0, 0, c.nm, c.ix, c.bt⟩ (.slice none 0 0) (.slice none 0 0))) (res_cell (p := 2) ky ky (h65.get 1 rfl) Try.underlying30 rfl ky) rfl ⟨by rw [hb1, hb2, hb3, hb4, hb5]; rfl, h65.old.old⟩}
  refine zu (.bool false) (run_eqZ (k := .i64) (a := c.kd) (b := 8) ky ky false q57) (zv (.bool false) (wl_nil (then_at rfl (wp_cond_false ky (wp_seq (wl_region ?_))))))
  rcases q66 : decide (c.kd = 9) with _ | _; rotate_left
  {refine zu (.bool true) (run_eqZ (k := .i64) (a := c.kd) (b := 9) ky ky true q66) (zv (.bool true) (wl_nil (then_at rfl (wp_cond_true ky (wp_seq (wl_region (zv (.pointer (some ⟨q1, 21, none⟩)) (zu (.string c.nm) (run_load1 (fun w => Try.isAgg9 w) ky (((h11.get 2 rfl).cell 21).trans rfl)) (zv (.pointer (some ⟨q7, 21, none⟩)) (wl_putv (v := .string c.nm) h11 0 rfl 21 (by show 21 < 24; decide) ky (fun w => Try.sizeOf9 w) ky ky ky (fun w67 h68 => (wl_nil (then_at rfl (wl_region (zv (.pointer (some ⟨q1, 22, none⟩)) (zu (.int .i64 c.ix) (run_load1 (fun w => Try.isAgg3 w) ky (((h68.get 2 rfl).cell 22).trans rfl)) (zv (.pointer (some ⟨q7, 22, none⟩)) (wl_putv (v := .int .i64 c.ix) h68 0 rfl 22 (by show 22 < 24; decide) ky (fun w => Try.sizeOf3 w) ky ky ky (fun w69 h70 => (wl_nil (block_normal (then_at rfl (wp_seq (wl_region (wl_load h70 0 rfl ky ky Try.underlying30 rfl ky (wl_fill (c' := #[.int .i64 c.kd, iN .i64 0, iN .i64 0, iN .i64 0, iN .i64 0, .string ({ data := #[] }), .slice none 0 0, .string ({ data := #[] }), iN .i64 0, iN .i64 0, .string ({ data := #[] }), .string ({ data := #[] }), iN .i64 0, .string ({ data := #[] }), .string ({ data := #[] }), iN .i64 0, .string ({ data := #[] }), .slice none 0 0, iN .i64 0, iN .u64 0, iN .u64 0, .string c.nm, .int .i64 c.ix, .string ({ data := #[] })]) h70 1 rfl ky ky ky rfl ky ky (fun w71 h72 => (wl_nil (then_at rfl (wp_ret ?_))))))))))))))))))))))))))))))
   repeat first|refine tr ?_|refine block_ret ?_
   obtain ⟨hb1, hb2, hb3, hb4, hb5⟩ := barC_9 q12 q17 q24 q29 q38 q47 q52 q57 q66
   exact bodyPost_ret (v := .agg (caC ⟨c.kd, 0, 0, ⟨0, 0, { data := #[] }, [], { data := #[] }⟩, ⟨0, 0, { data := #[] }, { data := #[] }, 0, { data := #[] }, { data := #[] }, 0, { data := #[] }⟩, [], 0, 0, 0, c.nm, c.ix, { data := #[] }⟩ (.slice none 0 0) (.slice none 0 0))) (res_cell (p := 2) ky ky (h72.get 1 rfl) Try.underlying30 rfl ky) rfl ⟨by rw [hb1, hb2, hb3, hb4, hb5]; rfl, h72.old.old⟩}
  refine zu (.bool false) (run_eqZ (k := .i64) (a := c.kd) (b := 9) ky ky false q66) (zv (.bool false) (wl_nil (then_at rfl (wp_cond_false ky (wp_skip (block_normal (then_at rfl (wp_seq (wl_region (wl_load h11 0 rfl ky ky Try.underlying30 rfl ky (wl_fill (c' := #[.int .i64 c.kd, iN .i64 0, iN .i64 0, iN .i64 0, iN .i64 0, .string ({ data := #[] }), .slice none 0 0, .string ({ data := #[] }), iN .i64 0, iN .i64 0, .string ({ data := #[] }), .string ({ data := #[] }), iN .i64 0, .string ({ data := #[] }), .string ({ data := #[] }), iN .i64 0, .string ({ data := #[] }), .slice none 0 0, iN .i64 0, iN .u64 0, iN .u64 0, .string ({ data := #[] }), iN .i64 0, .string ({ data := #[] })]) h11 1 rfl ky ky ky rfl ky ky (fun w73 h74 => (wl_nil (then_at rfl (wp_ret ?_)))))))))))))))
  repeat first|refine tr ?_|refine block_ret ?_
  obtain ⟨hb1, hb2, hb3, hb4, hb5⟩ := barC_0 q12 q17 q24 q29 q38 q47 q52 q57 q66
  exact bodyPost_ret (v := .agg (caC ⟨c.kd, 0, 0, ⟨0, 0, { data := #[] }, [], { data := #[] }⟩, ⟨0, 0, { data := #[] }, { data := #[] }, 0, { data := #[] }, { data := #[] }, 0, { data := #[] }⟩, [], 0, 0, 0, { data := #[] }, 0, { data := #[] }⟩ (.slice none 0 0) (.slice none 0 0))) (res_cell (p := 2) ky ky (h74.get 1 rfl) Try.underlying30 rfl ky) rfl ⟨by rw [hb1, hb2, hb3, hb4, hb5]; rfl, h74.old.old⟩
theorem bar_cases (c : Ca) : ((barC c).li.ds = [] ∧ (barC c).on = []) ∨ ((barC c).li = c.li ∧ (barC c).on = [] ∧ ∀ o, sO c o = o) ∨ ((barC c).li.ds = [] ∧ (barC c).on = c.on ∧ ∀ o, sP c o = o) := by
  rcases k1 : decide (c.kd = 1) with _ | _; rotate_left
  · obtain ⟨h1, h2, h3, h4, h5⟩ := barC_1 k1
    rw [h1]
    exact .inl ⟨rfl, rfl⟩
  rcases k2 : decide (c.kd = 2) with _ | _; rotate_left
  · obtain ⟨h1, h2, h3, h4, h5⟩ := barC_2 k1 k2
    rw [h1]
    exact .inl ⟨rfl, rfl⟩
  rcases k3 : decide (c.kd = 3) with _ | _; rotate_left
  · obtain ⟨h1, h2, h3, h4, h5⟩ := barC_3 k1 k2 k3
    rw [h1]
    exact .inr (.inl ⟨rfl, rfl, h2⟩)
  rcases k4 : decide (c.kd = 4) with _ | _; rotate_left
  · obtain ⟨h1, h2, h3, h4, h5⟩ := barC_4 k1 k2 k3 k4
    rw [h1]
    exact .inr (.inr ⟨rfl, rfl, h4⟩)
  rcases k5 : decide (c.kd = 5) with _ | _; rotate_left
  · obtain ⟨h1, h2, h3, h4, h5⟩ := barC_5 k1 k2 k3 k4 k5
    rw [h1]
    exact .inl ⟨rfl, rfl⟩
  rcases k6 : decide (c.kd = 6) with _ | _; rotate_left
  · obtain ⟨h1, h2, h3, h4, h5⟩ := barC_6 k1 k2 k3 k4 k5 k6
    rw [h1]
    exact .inl ⟨rfl, rfl⟩
  rcases k7 : decide (c.kd = 7) with _ | _; rotate_left
  · obtain ⟨h1, h2, h3, h4, h5⟩ := barC_7 k1 k2 k3 k4 k5 k6 k7
    rw [h1]
    exact .inl ⟨rfl, rfl⟩
  rcases k8 : decide (c.kd = 8) with _ | _; rotate_left
  · obtain ⟨h1, h2, h3, h4, h5⟩ := barC_8 k1 k2 k3 k4 k5 k6 k7 k8
    rw [h1]
    exact .inl ⟨rfl, rfl⟩
  rcases k9 : decide (c.kd = 9) with _ | _; rotate_left
  · obtain ⟨h1, h2, h3, h4, h5⟩ := barC_9 k1 k2 k3 k4 k5 k6 k7 k8 k9
    rw [h1]
    exact .inl ⟨rfl, rfl⟩
  · obtain ⟨h1, h2, h3, h4, h5⟩ := barC_0 k1 k2 k3 k4 k5 k6 k7 k8 k9
    rw [h1]
    exact .inl ⟨rfl, rfl⟩
theorem bar_at1 {w : World} {c : Ca} {o : Option Addr} (hP : At w o (mcl c.li.ds)) : At w (sO c o) (mcl (barC c).li.ds) := by
  rcases bar_cases c with ⟨h, _⟩ | ⟨h, _, h2⟩ | ⟨h, _⟩
  · rw [h]; exact At.nil w
  · rw [h, h2]; exact hP
  · rw [h]; exact At.nil w
theorem bar_at2 {w : World} {c : Ca} {o : Option Addr} (hP : At w o (scl c.on)) : At w (sP c o) (scl (barC c).on) := by
  rcases bar_cases c with ⟨_, h⟩ | ⟨_, h, _⟩ | ⟨_, h, h2⟩
  · rw [h]; exact At.nil w
  · rw [h]; exact At.nil w
  · rw [h, h2]; exact hP
theorem encA_b (b : Bu) : (!decide ((encA b).1 = { data := #[] })) = decide ((encA b).2 = 0) := by
  rcases h : mayX b with _ | _
  · have e : encA b = ({ data := #[] }, 2) := by unfold encA; rw [h]; rfl
    rw [e]; rfl
  · have h2 : (encA b).2 = 0 := by unfold encA; rw [h]; rfl
    rw [h2]
    have h1 : (encA b).1 ≠ { data := #[] } := by
      intro e
      have h3 := decA_enc h
      rw [e] at h3
      have h4 := congrArg Prod.snd h3
      exact absurd (show (4 : Nat) = 0 from (show (4 : Nat) = (decA { data := #[] }).2 from by kernel_rfl).trans h4) (by decide)
    rw [decide_eq_false h1]; rfl
theorem mayC_k1 {c : Ca} (k1 : decide (c.kd = 1) = true) : mayC c = (wi c.us 0 2 && sameC c (barC c)) := by
  have e := of_decide_eq_true k1
  rw [(barC_1 k1).1]
  unfold mayC
  rw [show decide (c.kd = 2) = false from decide_eq_false (by omega), k1]
  rfl
theorem mayC_k2 {c : Ca} (k1 : decide (c.kd = 1) = false) (k2 : decide (c.kd = 2) = true) : mayC c = ((wi c.dv 0 1 && wi c.us 0 2) && sameC c (barC c)) := by
  have e := of_decide_eq_true k2
  rw [(barC_2 k1 k2).1]
  unfold mayC
  rw [k2]
  rfl
theorem mayC_k3 {c : Ca} (k1 : decide (c.kd = 1) = false) (k2 : decide (c.kd = 2) = false) (k3 : decide (c.kd = 3) = true) : mayC c = (mayL c.li && sameC c (barC c)) := by
  have e := of_decide_eq_true k3
  rw [(barC_3 k1 k2 k3).1]
  unfold mayC
  rw [show decide (c.kd = 2) = false from decide_eq_false (by omega), show decide (c.kd = 1) = false from decide_eq_false (by omega), k3]
  rfl
theorem mayC_k4 {c : Ca} (k1 : decide (c.kd = 1) = false) (k2 : decide (c.kd = 2) = false) (k3 : decide (c.kd = 3) = false) (k4 : decide (c.kd = 4) = true) : mayC c = ((!decide ((encA c.bu).1 = { data := #[] }) && decide (c.bu.oi = 0) && wi c.ix 1 1073741824 && decide (c.on.length ≤ 20) && c.on.all kk) && sameC c (barC c)) := by
  have e := of_decide_eq_true k4
  rw [(barC_4 k1 k2 k3 k4).1]
  unfold mayC
  rw [show decide (c.kd = 2) = false from decide_eq_false (by omega), show decide (c.kd = 1) = false from decide_eq_false (by omega), show decide (c.kd = 3) = false from decide_eq_false (by omega), k4]
  rfl
theorem mayC_k5 {c : Ca} (k1 : decide (c.kd = 1) = false) (k2 : decide (c.kd = 2) = false) (k3 : decide (c.kd = 3) = false) (k4 : decide (c.kd = 4) = false) (k5 : decide (c.kd = 5) = true) : mayC c = ((isD c.tt && wn c.no 1 1099511627776 && wi ((c.bt.size : Nat) : Int) 1 4096) && sameC c (barC c)) := by
  have e := of_decide_eq_true k5
  rw [(barC_5 k1 k2 k3 k4 k5).1]
  unfold mayC
  rw [show decide (c.kd = 2) = false from decide_eq_false (by omega), show decide (c.kd = 1) = false from decide_eq_false (by omega), show decide (c.kd = 3) = false from decide_eq_false (by omega), show decide (c.kd = 4) = false from decide_eq_false (by omega), k5]
  rfl
theorem mayC_k6 {c : Ca} (k1 : decide (c.kd = 1) = false) (k2 : decide (c.kd = 2) = false) (k3 : decide (c.kd = 3) = false) (k4 : decide (c.kd = 4) = false) (k5 : decide (c.kd = 5) = false) (k6 : decide (c.kd = 6) = true) : mayC c = (wn c.af 0 1099511627776 && sameC c (barC c)) := by
  have e := of_decide_eq_true k6
  rw [(barC_6 k1 k2 k3 k4 k5 k6).1]
  unfold mayC
  rw [show decide (c.kd = 2) = false from decide_eq_false (by omega), show decide (c.kd = 1) = false from decide_eq_false (by omega), show decide (c.kd = 3) = false from decide_eq_false (by omega), show decide (c.kd = 4) = false from decide_eq_false (by omega), show decide (c.kd = 5) = false from decide_eq_false (by omega), show (decide (c.kd = 6) || decide (c.kd = 7)) = true from by rw [k6]; rfl]
  rfl
theorem mayC_k7 {c : Ca} (k1 : decide (c.kd = 1) = false) (k2 : decide (c.kd = 2) = false) (k3 : decide (c.kd = 3) = false) (k4 : decide (c.kd = 4) = false) (k5 : decide (c.kd = 5) = false) (k6 : decide (c.kd = 6) = false) (k7 : decide (c.kd = 7) = true) : mayC c = (wn c.af 0 1099511627776 && sameC c (barC c)) := by
  have e := of_decide_eq_true k7
  rw [(barC_7 k1 k2 k3 k4 k5 k6 k7).1]
  unfold mayC
  rw [show decide (c.kd = 2) = false from decide_eq_false (by omega), show decide (c.kd = 1) = false from decide_eq_false (by omega), show decide (c.kd = 3) = false from decide_eq_false (by omega), show decide (c.kd = 4) = false from decide_eq_false (by omega), show decide (c.kd = 5) = false from decide_eq_false (by omega), show (decide (c.kd = 6) || decide (c.kd = 7)) = true from by rw [k6, k7]; rfl]
  rfl
theorem mayC_k8 {c : Ca} (k1 : decide (c.kd = 1) = false) (k2 : decide (c.kd = 2) = false) (k3 : decide (c.kd = 3) = false) (k4 : decide (c.kd = 4) = false) (k5 : decide (c.kd = 5) = false) (k6 : decide (c.kd = 6) = false) (k7 : decide (c.kd = 7) = false) (k8 : decide (c.kd = 8) = true) : mayC c = ((wi ((c.bt.size : Nat) : Int) 1 4096 && wi ((c.nm.size : Nat) : Int) 1 40 && wi c.ix 0 63) && sameC c (barC c)) := by
  have e := of_decide_eq_true k8
  rw [(barC_8 k1 k2 k3 k4 k5 k6 k7 k8).1]
  unfold mayC
  rw [show decide (c.kd = 2) = false from decide_eq_false (by omega), show decide (c.kd = 1) = false from decide_eq_false (by omega), show decide (c.kd = 3) = false from decide_eq_false (by omega), show decide (c.kd = 4) = false from decide_eq_false (by omega), show decide (c.kd = 5) = false from decide_eq_false (by omega), show (decide (c.kd = 6) || decide (c.kd = 7)) = false from by rw [decide_eq_false (show ¬ c.kd = 6 by omega), decide_eq_false (show ¬ c.kd = 7 by omega)]; rfl, k8]
  rfl
theorem mayC_k9 {c : Ca} (k1 : decide (c.kd = 1) = false) (k2 : decide (c.kd = 2) = false) (k3 : decide (c.kd = 3) = false) (k4 : decide (c.kd = 4) = false) (k5 : decide (c.kd = 5) = false) (k6 : decide (c.kd = 6) = false) (k7 : decide (c.kd = 7) = false) (k8 : decide (c.kd = 8) = false) (k9 : decide (c.kd = 9) = true) : mayC c = ((wi ((c.nm.size : Nat) : Int) 1 40 && wi c.ix 0 63) && sameC c (barC c)) := by
  have e := of_decide_eq_true k9
  rw [(barC_9 k1 k2 k3 k4 k5 k6 k7 k8 k9).1]
  unfold mayC
  rw [show decide (c.kd = 2) = false from decide_eq_false (by omega), show decide (c.kd = 1) = false from decide_eq_false (by omega), show decide (c.kd = 3) = false from decide_eq_false (by omega), show decide (c.kd = 4) = false from decide_eq_false (by omega), show decide (c.kd = 5) = false from decide_eq_false (by omega), show (decide (c.kd = 6) || decide (c.kd = 7)) = false from by rw [decide_eq_false (show ¬ c.kd = 6 by omega), decide_eq_false (show ¬ c.kd = 7 by omega)]; rfl, show decide (c.kd = 8) = false from decide_eq_false (by omega), k9]
  rfl
theorem mayC_k0 {c : Ca} (k1 : decide (c.kd = 1) = false) (k2 : decide (c.kd = 2) = false) (k3 : decide (c.kd = 3) = false) (k4 : decide (c.kd = 4) = false) (k5 : decide (c.kd = 5) = false) (k6 : decide (c.kd = 6) = false) (k7 : decide (c.kd = 7) = false) (k8 : decide (c.kd = 8) = false) (k9 : decide (c.kd = 9) = false) : mayC c = false := by
  unfold mayC
  rw [k1, k2, k3, k4, k5, k6, k7, k8, k9]
  rfl
theorem mayC_no {c : Ca} (h : sameC c (barC c) = false) : mayC c = false := by
  rcases k1 : decide (c.kd = 1) with _ | _; rotate_left
  · rw [mayC_k1 k1, h, Bool.and_false]
  rcases k2 : decide (c.kd = 2) with _ | _; rotate_left
  · rw [mayC_k2 k1 k2, h, Bool.and_false]
  rcases k3 : decide (c.kd = 3) with _ | _; rotate_left
  · rw [mayC_k3 k1 k2 k3, h, Bool.and_false]
  rcases k4 : decide (c.kd = 4) with _ | _; rotate_left
  · rw [mayC_k4 k1 k2 k3 k4, h, Bool.and_false]
  rcases k5 : decide (c.kd = 5) with _ | _; rotate_left
  · rw [mayC_k5 k1 k2 k3 k4 k5, h, Bool.and_false]
  rcases k6 : decide (c.kd = 6) with _ | _; rotate_left
  · rw [mayC_k6 k1 k2 k3 k4 k5 k6, h, Bool.and_false]
  rcases k7 : decide (c.kd = 7) with _ | _; rotate_left
  · rw [mayC_k7 k1 k2 k3 k4 k5 k6 k7, h, Bool.and_false]
  rcases k8 : decide (c.kd = 8) with _ | _; rotate_left
  · rw [mayC_k8 k1 k2 k3 k4 k5 k6 k7 k8, h, Bool.and_false]
  rcases k9 : decide (c.kd = 9) with _ | _; rotate_left
  · rw [mayC_k9 k1 k2 k3 k4 k5 k6 k7 k8 k9, h, Bool.and_false]
  · exact mayC_k0 k1 k2 k3 k4 k5 k6 k7 k8 k9
set_option maxHeartbeats 8000000 in
theorem rmayC_any {w : World} (c : Ca) {o p : Option Addr} {k m : Nat} (hP : At w o (mcl c.li.ds)) (hQ : At w p (scl c.on)) (hl1 : c.li.ds.length ≤ 1000000) (hl2 : c.on.length ≤ 1000000) :
    Calls Try.prog 36 #[.agg (caC c (.slice o c.li.ds.length k) (.slice p c.on.length m))] w fun e w' => e = .returned (.bool (mayC c)) ∧ Below w.heap.size w w' := by
  have H0 := HA.start w
  go_enter Try.func36, Try.ntmps36
  refine wp_seq (wl_region (wl_make (c := caC c (.slice o c.li.ds.length k) (.slice p c.on.length m)) H0 30 ky ky ?_))
  intro q1 w2 (h3 : HA (bs w) [(q1, 30, caC c (.slice o c.li.ds.length k) (.slice p c.on.length m))] w2)
  refine zv (.bool false) (wl_nil (then_at rfl (wp_seq (wp_seq ?_))))
  rcases q4 : sameC c (barC c) with _ | _
  {refine wp_region_wx (HA (bs w) [(q1, 30, caC c (.slice o c.li.ds.length k) (.slice p c.on.length m))]) (fun AQ w' => AQ = ⟨(.agg (caC c (.slice o c.li.ds.length k) (.slice p c.on.length m)) :: pt q1 :: .bool false :: un :: un :: un :: un :: .agg (caC c (.slice o c.li.ds.length k) (.slice p c.on.length m)) :: .agg (caC c (.slice o c.li.ds.length k) (.slice p c.on.length m)) :: .agg (caC (barC c) (.slice (sO c o) (barC c).li.ds.length (sK c k)) (.slice (sP c p) (barC c).on.length (sM c m))) :: .bool false :: .bool true :: List.replicate 116 un).toArray, []⟩ ∧ HA (bs w) [(q1, 30, caC c (.slice o c.li.ds.length k) (.slice p c.on.length m))] w') 5 ky ky ky ky ky (h3.drew) ?_ ?_
   {have h5 := h3.drew
    refine zx 0 (.agg (caC c (.slice o c.li.ds.length k) (.slice p c.on.length m))) rfl (fun w' h' => run_load_blk ky (h'.get 0 rfl) Try.underlying30 rfl ky) (zx 1 (.agg (caC c (.slice o c.li.ds.length k) (.slice p c.on.length m))) rfl (fun w' h' => run_load_blk ky (h'.get 0 rfl) Try.underlying30 rfl ky) (zc 2 (.agg (caC (barC c) (.slice (sO c o) (barC c).li.ds.length (sK c k)) (.slice (sP c p) (barC c).on.length (sM c m)))) rfl enter76 #[.agg (caC c (.slice o c.li.ds.length k) (.slice p c.on.length m))] (fun w' h' => bar_any c (hP.keep h'.old.old) (hQ.keep h'.old.old) hl1 hl2) (zc 3 (.bool false) rfl enter13 #[.agg (caC c (.slice o c.li.ds.length k) (.slice p c.on.length m)), .agg (caC (barC c) (.slice (sO c o) (barC c).li.ds.length (sK c k)) (.slice (sP c p) (barC c).on.length (sM c m)))] (fun w' h' => ((rsmc_any c (barC c) (hP.keep h'.old.old) (hQ.keep h'.old.old) ((bar_at1 hP).keep h'.old.old) ((bar_at2 hQ).keep h'.old.old) hl1 hl2).mono fun _ _ hh => ⟨by rw [hh.1, q4], hh.2⟩)) (zp 4 (.bool true) ?_))))
    refine wx_end fun w6 hbx _ => ?_
    have h7 := HA.keep _ _ h5 hbx
    exact ⟨by kernel_rfl, h7⟩}
   {rintro _ w8 ⟨rfl, h9⟩
    refine then_at rfl ?_
    refine wp_cond_true ky (wp_seq (wl_region (zv (.bool false) (wl_nil (then_at rfl (wp_ret ?_))))))
    repeat first|refine tr ?_|refine block_ret ?_
    exact bodyPost_ret (v := .bool false) ky rfl ⟨by rw [mayC_no q4], h9.old.old⟩}}
  refine wp_region_wxh h3 (fun AQ w' => AQ = ⟨(.agg (caC c (.slice o c.li.ds.length k) (.slice p c.on.length m)) :: pt q1 :: .bool false :: un :: un :: un :: un :: .agg (caC c (.slice o c.li.ds.length k) (.slice p c.on.length m)) :: .agg (caC c (.slice o c.li.ds.length k) (.slice p c.on.length m)) :: .agg (caC (barC c) (.slice (sO c o) (barC c).li.ds.length (sK c k)) (.slice (sP c p) (barC c).on.length (sM c m))) :: .bool true :: .bool false :: List.replicate 116 un).toArray, []⟩ ∧ HA (bs w) [(q1, 30, caC c (.slice o c.li.ds.length k) (.slice p c.on.length m))] w') 5 ky ky ky ky ky ?_ ?_
  {have h10 := h3.drew
   refine zx 0 (.agg (caC c (.slice o c.li.ds.length k) (.slice p c.on.length m))) rfl (fun w' h' => run_load_blk ky (h'.get 0 rfl) Try.underlying30 rfl ky) (zx 1 (.agg (caC c (.slice o c.li.ds.length k) (.slice p c.on.length m))) rfl (fun w' h' => run_load_blk ky (h'.get 0 rfl) Try.underlying30 rfl ky) (zc 2 (.agg (caC (barC c) (.slice (sO c o) (barC c).li.ds.length (sK c k)) (.slice (sP c p) (barC c).on.length (sM c m)))) rfl enter76 #[.agg (caC c (.slice o c.li.ds.length k) (.slice p c.on.length m))] (fun w' h' => bar_any c (hP.keep h'.old.old) (hQ.keep h'.old.old) hl1 hl2) (zc 3 (.bool true) rfl enter13 #[.agg (caC c (.slice o c.li.ds.length k) (.slice p c.on.length m)), .agg (caC (barC c) (.slice (sO c o) (barC c).li.ds.length (sK c k)) (.slice (sP c p) (barC c).on.length (sM c m)))] (fun w' h' => ((rsmc_any c (barC c) (hP.keep h'.old.old) (hQ.keep h'.old.old) ((bar_at1 hP).keep h'.old.old) ((bar_at2 hQ).keep h'.old.old) hl1 hl2).mono fun _ _ hh => ⟨by rw [hh.1, q4], hh.2⟩)) (zp 4 (.bool false) ?_))))
   refine wx_end fun w11 hbx _ => ?_
   have h12 := HA.keep _ _ h10 hbx
   exact ⟨by kernel_rfl, h12⟩}
  {rintro _ w13 ⟨rfl, h14⟩
   refine then_at rfl ?_
   refine wp_cond_false ky (wp_skip (then_at rfl (wp_seq ?_)))
   refine wp_meet (fun AQ w' => ∃ (ub : Bool) (u15 : Nat → Value), AQ = ⟨(.agg (caC c (.slice o c.li.ds.length k) (.slice p c.on.length m)) :: pt q1 :: .bool false :: .bool ub :: un :: un :: un :: .agg (caC c (.slice o c.li.ds.length k) (.slice p c.on.length m)) :: .agg (caC c (.slice o c.li.ds.length k) (.slice p c.on.length m)) :: .agg (caC (barC c) (.slice (sO c o) (barC c).li.ds.length (sK c k)) (.slice (sP c p) (barC c).on.length (sM c m))) :: .bool true :: .bool false :: u15 12 :: u15 13 :: u15 14 :: u15 15 :: u15 16 :: u15 17 :: u15 18 :: u15 19 :: List.replicate 108 un).toArray, []⟩ ∧ wi c.us 0 2 = ub ∧ HA (bs w) [(q1, 30, caC c (.slice o c.li.ds.length k) (.slice p c.on.length m))] w') ?_ ?_
   {refine wl_region (zv (.pointer (some ⟨q1, 1, none⟩)) (zu (.int .i64 c.us) (run_load1 (fun w => Try.isAgg3 w) ky (((h14.get 0 rfl).cell 1).trans rfl)) ?_))
    rcases q16 : decide (0 ≤ c.us) with _ | _
    {refine zu (.bool false) (run_geZ (k := .i64) (a := c.us) (b := 0) ky ky false q16) (zv (.bool false) (zk (zk (zk (zv (.bool false) (zv (.bool false) (wl_nil ?_)))))))
     have p17 := of_decide_eq_false q16
     exact then_I ⟨false, exu ky ⟨(by rw [wi_dec]; exact decide_eq_false (by omega)), (h14.sub (List.Sublist.cons_cons _ (List.Sublist.slnil)))⟩⟩}
    refine zu (.bool true) (run_geZ (k := .i64) (a := c.us) (b := 0) ky ky true q16) (zv (.bool true) (zv (.pointer (some ⟨q1, 1, none⟩)) (zu (.int .i64 c.us) (run_load1 (fun w => Try.isAgg3 w) ky (((h14.get 0 rfl).cell 1).trans rfl)) ?_)))
    rcases q18 : decide (c.us < 3) with _ | _
    {refine zu (.bool false) (run_ltZ (k := .i64) (a := c.us) (b := 3) ky ky false q18) (zv (.bool false) (zv (.bool false) (wl_nil ?_)))
     have p19 := of_decide_eq_true q16
     have p20 := of_decide_eq_false q18
     exact then_I ⟨false, exu ky ⟨(by rw [wi_dec]; exact decide_eq_false (by omega)), (h14.sub (List.Sublist.cons_cons _ (List.Sublist.slnil)))⟩⟩}
    refine zu (.bool true) (run_ltZ (k := .i64) (a := c.us) (b := 3) ky ky true q18) (zv (.bool true) (zv (.bool true) (wl_nil ?_)))
    have p21 := of_decide_eq_true q16
    have p22 := of_decide_eq_true q18
    exact then_I ⟨true, exu ky ⟨(by rw [wi_dec]; exact decide_eq_true (by omega)), (h14.sub (List.Sublist.cons_cons _ (List.Sublist.slnil)))⟩⟩}
   {rintro _ w23 ⟨ub, u15, rfl, hub, h24⟩
    refine wp_seq (wp_seq (wl_region (zv (.pointer (some ⟨q1, 0, none⟩)) (zu (.int .i64 c.kd) (run_load1 (fun w => Try.isAgg3 w) ky (((h24.get 0 rfl).cell 0).trans rfl)) (wl_nil (then_at rfl (wp_block (wp_seq (wl_region ?_)))))))))
    rcases q25 : decide (c.kd = 1) with _ | _; rotate_left
    {refine zu (.bool true) (run_eqZ (k := .i64) (a := c.kd) (b := 1) ky ky true q25) (zv (.bool true) (wl_nil (then_at rfl (wp_cond_true ky (wp_seq ?_)))))
     rcases ub with _ | _
     {refine wl_region (zv (.bool false) (zv (.bool false) (wl_nil (then_at rfl (wp_ret ?_)))))
      repeat first|refine tr ?_|refine block_ret ?_
      have hM := mayC_k1 q25
      have p26 := of_decide_eq_true q25
      have p27 := of_decide_eq_false ((wi_dec _ _ _).symm.trans hub)
      have hO : wi c.us 0 2 = false := by simp only [wi_dec, wn_dec, isD_dec, ← Bool.decide_and]; exact decide_eq_false (by omega)
      have hno : mayC c = false := by rw [hM, hO, q4]; rfl
      exact bodyPost_ret (v := .bool false) ky rfl ⟨by rw [hno], h24.old.old⟩}
     refine wl_region (zv (.bool true) (zv (.bool true) (wl_nil (then_at rfl (wp_ret ?_)))))
     repeat first|refine tr ?_|refine block_ret ?_
     have hM := mayC_k1 q25
     have p28 := of_decide_eq_true q25
     have p29 := of_decide_eq_true ((wi_dec _ _ _).symm.trans hub)
     have hO : wi c.us 0 2 = true := by simp only [wi_dec, wn_dec, isD_dec, ← Bool.decide_and]; exact decide_eq_true (by omega)
     have hno : mayC c = true := by rw [hM, hO, q4]; rfl
     exact bodyPost_ret (v := .bool true) ky rfl ⟨by rw [hno], h24.old.old⟩}
    refine zu (.bool false) (run_eqZ (k := .i64) (a := c.kd) (b := 1) ky ky false q25) (zv (.bool false) (wl_nil (then_at rfl (wp_cond_false ky (wp_seq (wl_region ?_))))))
    rcases q30 : decide (c.kd = 2) with _ | _; rotate_left
    {refine zu (.bool true) (run_eqZ (k := .i64) (a := c.kd) (b := 2) ky ky true q30) (zv (.bool true) (wl_nil (then_at rfl (wp_cond_true ky (wp_seq ?_)))))
     rcases ub with _ | _
     {refine wl_region (zv (.bool false) (zv (.bool false) (zk (zk (zk (zv (.bool false) (zv (.bool false) (zk (zk (zk (zv (.bool false) (zv (.bool false) (wl_nil (then_at rfl (wp_ret ?_)))))))))))))))
      repeat first|refine tr ?_|refine block_ret ?_
      have hM := mayC_k2 q25 q30
      have p31 := of_decide_eq_false q25
      have p32 := of_decide_eq_true q30
      have p33 := of_decide_eq_false ((wi_dec _ _ _).symm.trans hub)
      have hO : (wi c.dv 0 1 && wi c.us 0 2) = false := by simp only [wi_dec, wn_dec, isD_dec, ← Bool.decide_and]; exact decide_eq_false (by omega)
      have hno : mayC c = false := by rw [hM, hO, q4]; rfl
      exact bodyPost_ret (v := .bool false) ky rfl ⟨by rw [hno], h24.old.old⟩}
     refine wl_region (zv (.bool true) (zv (.bool true) (zv (.pointer (some ⟨q1, 2, none⟩)) (zu (.int .i64 c.dv) (run_load1 (fun w => Try.isAgg3 w) ky (((h24.get 0 rfl).cell 2).trans rfl)) ?_))))
     rcases q34 : decide (0 ≤ c.dv) with _ | _
     {refine zu (.bool false) (run_geZ (k := .i64) (a := c.dv) (b := 0) ky ky false q34) (zv (.bool false) (zv (.bool false) (zk (zk (zk (zv (.bool false) (zv (.bool false) (wl_nil (then_at rfl (wp_ret ?_))))))))))
      repeat first|refine tr ?_|refine block_ret ?_
      have hM := mayC_k2 q25 q30
      have p35 := of_decide_eq_false q25
      have p36 := of_decide_eq_true q30
      have p37 := of_decide_eq_true ((wi_dec _ _ _).symm.trans hub)
      have p38 := of_decide_eq_false q34
      have hO : (wi c.dv 0 1 && wi c.us 0 2) = false := by simp only [wi_dec, wn_dec, isD_dec, ← Bool.decide_and]; exact decide_eq_false (by omega)
      have hno : mayC c = false := by rw [hM, hO, q4]; rfl
      exact bodyPost_ret (v := .bool false) ky rfl ⟨by rw [hno], h24.old.old⟩}
     refine zu (.bool true) (run_geZ (k := .i64) (a := c.dv) (b := 0) ky ky true q34) (zv (.bool true) (zv (.bool true) (zv (.pointer (some ⟨q1, 2, none⟩)) (zu (.int .i64 c.dv) (run_load1 (fun w => Try.isAgg3 w) ky (((h24.get 0 rfl).cell 2).trans rfl)) ?_))))
     rcases q39 : decide (c.dv < 2) with _ | _
     {refine zu (.bool false) (run_ltZ (k := .i64) (a := c.dv) (b := 2) ky ky false q39) (zv (.bool false) (zv (.bool false) (wl_nil (then_at rfl (wp_ret ?_)))))
      repeat first|refine tr ?_|refine block_ret ?_
      have hM := mayC_k2 q25 q30
      have p40 := of_decide_eq_false q25
      have p41 := of_decide_eq_true q30
      have p42 := of_decide_eq_true ((wi_dec _ _ _).symm.trans hub)
      have p43 := of_decide_eq_true q34
      have p44 := of_decide_eq_false q39
      have hO : (wi c.dv 0 1 && wi c.us 0 2) = false := by simp only [wi_dec, wn_dec, isD_dec, ← Bool.decide_and]; exact decide_eq_false (by omega)
      have hno : mayC c = false := by rw [hM, hO, q4]; rfl
      exact bodyPost_ret (v := .bool false) ky rfl ⟨by rw [hno], h24.old.old⟩}
     refine zu (.bool true) (run_ltZ (k := .i64) (a := c.dv) (b := 2) ky ky true q39) (zv (.bool true) (zv (.bool true) (wl_nil (then_at rfl (wp_ret ?_)))))
     repeat first|refine tr ?_|refine block_ret ?_
     have hM := mayC_k2 q25 q30
     have p45 := of_decide_eq_false q25
     have p46 := of_decide_eq_true q30
     have p47 := of_decide_eq_true ((wi_dec _ _ _).symm.trans hub)
     have p48 := of_decide_eq_true q34
     have p49 := of_decide_eq_true q39
     have hO : (wi c.dv 0 1 && wi c.us 0 2) = true := by simp only [wi_dec, wn_dec, isD_dec, ← Bool.decide_and]; exact decide_eq_true (by omega)
     have hno : mayC c = true := by rw [hM, hO, q4]; rfl
     exact bodyPost_ret (v := .bool true) ky rfl ⟨by rw [hno], h24.old.old⟩}
    refine zu (.bool false) (run_eqZ (k := .i64) (a := c.kd) (b := 2) ky ky false q30) (zv (.bool false) (wl_nil (then_at rfl (wp_cond_false ky (wp_seq (wl_region ?_))))))
    rcases q50 : decide (c.kd = 3) with _ | _; rotate_left
    {refine zu (.bool true) (run_eqZ (k := .i64) (a := c.kd) (b := 3) ky ky true q50) (zv (.bool true) (wl_nil (then_at rfl (wp_cond_true ky (wp_seq (wl_region (zv (.pointer (some ⟨q1, 3, none⟩)) (zu (.agg #[.int .i64 c.li.u, .int .i64 c.li.v, .string c.li.ac, .slice o c.li.ds.length k, .string c.li.sg]) (run_load_part (q := q1) (off := 3) (d := #[.int .i64 c.li.u, .int .i64 c.li.v, .string c.li.ac, .slice o c.li.ds.length k, .string c.li.sg]) ky (h24.get 0 rfl) Try.underlying25 rfl ky (by intro j hj; match j, hj with | 0, _ => rfl | 1, _ => rfl | 2, _ => rfl | 3, _ => rfl | 4, _ => rfl)) ?_))))))))
     rcases q51 : mayL c.li with _ | _
     {refine zl (.bool false) h24 enter15 #[.agg #[.int .i64 c.li.u, .int .i64 c.li.v, .string c.li.ac, .slice o c.li.ds.length k, .string c.li.sg]] (((rmayL_any c.li (hP.keep h24.old.old)).mono fun _ _ hh => ⟨by rw [hh.1, q51], hh.2⟩)) (fun w52 h53 => (zv (.bool false) (wl_nil (then_at rfl (wp_ret ?_)))))
      repeat first|refine tr ?_|refine block_ret ?_
      have hM := mayC_k3 q25 q30 q50
      have hO : mayL c.li = false := q51
      have hno : mayC c = false := by rw [hM, hO, q4]; rfl
      exact bodyPost_ret (v := .bool false) ky rfl ⟨by rw [hno], h53.old.old⟩}
     refine zl (.bool true) h24 enter15 #[.agg #[.int .i64 c.li.u, .int .i64 c.li.v, .string c.li.ac, .slice o c.li.ds.length k, .string c.li.sg]] (((rmayL_any c.li (hP.keep h24.old.old)).mono fun _ _ hh => ⟨by rw [hh.1, q51], hh.2⟩)) (fun w54 h55 => (zv (.bool true) (wl_nil (then_at rfl (wp_ret ?_)))))
     repeat first|refine tr ?_|refine block_ret ?_
     have hM := mayC_k3 q25 q30 q50
     have hO : mayL c.li = true := q51
     have hno : mayC c = true := by rw [hM, hO, q4]; rfl
     exact bodyPost_ret (v := .bool true) ky rfl ⟨by rw [hno], h55.old.old⟩}
    refine zu (.bool false) (run_eqZ (k := .i64) (a := c.kd) (b := 3) ky ky false q50) (zv (.bool false) (wl_nil (then_at rfl (wp_cond_false ky (wp_seq (wl_region ?_))))))
    rcases q56 : decide (c.kd = 4) with _ | _; rotate_left
    {refine zu (.bool true) (run_eqZ (k := .i64) (a := c.kd) (b := 4) ky ky true q56) (zv (.bool true) (wl_nil (then_at rfl (wp_cond_true ky (wp_seq (wl_region (zv (.pointer (some ⟨q1, 8, none⟩)) (zu (.agg #[.int .i64 c.bu.u, .int .i64 c.bu.d, .string c.bu.sg, .string c.bu.dh, .int .i64 c.bu.pi, .string c.bu.pr, .string c.bu.ps, .int .i64 c.bu.oi, .string c.bu.on]) (run_load_part (q := q1) (off := 8) (d := #[.int .i64 c.bu.u, .int .i64 c.bu.d, .string c.bu.sg, .string c.bu.dh, .int .i64 c.bu.pi, .string c.bu.pr, .string c.bu.ps, .int .i64 c.bu.oi, .string c.bu.on]) ky (h24.get 0 rfl) Try.underlying27 rfl ky (by intro j hj; match j, hj with | 0, _ => rfl | 1, _ => rfl | 2, _ => rfl | 3, _ => rfl | 4, _ => rfl | 5, _ => rfl | 6, _ => rfl | 7, _ => rfl | 8, _ => rfl)) (zl (.tuple #[.string ((encA c.bu).1), iN .i64 ((encA c.bu).2)]) h24 enter40 _ (renc_any c.bu) (fun w57 h58 => (zv (.tuple #[.string ((encA c.bu).1), iN .i64 ((encA c.bu).2)]) (zv (.string ((encA c.bu).1)) (zv (iN .i64 ((encA c.bu).2)) (zv (.string ((encA c.bu).1)) (zv (iN .i64 ((encA c.bu).2)) (wl_nil (then_at rfl (wp_seq (wp_seq (wl_region (zv (iN .i64 ((encA c.bu).2)) ?_)))))))))))))))))))))
     rcases q59 : decide ((encA c.bu).2 = 0) with _ | _
     {refine zu (.bool true) (run_neN (k := .i64) (a := (encA c.bu).2) (b := 0) ky ky false q59) (zv (.bool true) (zk (zk (zk (zk (zv (.bool true) (zv (.bool true) (zk (zk (zk (zv (.bool true) (zv (.bool true) (zk (zk (zk (zv (.bool true) (zv (.bool true) (zk (zk (zk (zk (zv (.bool true) (wl_nil (then_at rfl ?_))))))))))))))))))))))))
      refine wp_cond_true ky (wp_seq (wl_region (zv (.bool false) (wl_nil (then_at rfl (wp_ret ?_))))))
      repeat first|refine tr ?_|refine block_ret ?_
      have hM := mayC_k4 q25 q30 q50 q56
      have f60 := (encA_b c.bu).trans q59
      have hO : (!decide ((encA c.bu).1 = { data := #[] }) && decide (c.bu.oi = 0) && wi c.ix 1 1073741824 && decide (c.on.length ≤ 20) && c.on.all kk) = false := by simp only [f60, Bool.and_false, Bool.false_and, Bool.and_true, Bool.true_and, Bool.and_self]
      have hno : mayC c = false := by rw [hM, hO, q4]; rfl
      exact bodyPost_ret (v := .bool false) ky rfl ⟨by rw [hno], h58.old.old⟩}
     refine zu (.bool false) (run_neN (k := .i64) (a := (encA c.bu).2) (b := 0) ky ky true q59) (zv (.bool false) (zv (.pointer (some ⟨q1, 8, none⟩)) (zv (.pointer (some ⟨q1, 15, none⟩)) (zu (.int .i64 c.bu.oi) (run_load1 (fun w => Try.isAgg3 w) ky (((h58.get 0 rfl).cell 15).trans rfl)) ?_))))
     rcases q61 : decide (c.bu.oi = 0) with _ | _
     {refine zu (.bool true) (run_neZ (k := .i64) (a := c.bu.oi) (b := 0) ky ky false q61) (zv (.bool true) (zv (.bool true) (zk (zk (zk (zv (.bool true) (zv (.bool true) (zk (zk (zk (zv (.bool true) (zv (.bool true) (zk (zk (zk (zk (zv (.bool true) (wl_nil (then_at rfl (wp_cond_true ky (wp_seq (wl_region (zv (.bool false) (wl_nil (then_at rfl (wp_ret ?_))))))))))))))))))))))))))
      repeat first|refine tr ?_|refine block_ret ?_
      have hM := mayC_k4 q25 q30 q50 q56
      have f62 := (encA_b c.bu).trans q59
      have f63 := q61
      have hO : (!decide ((encA c.bu).1 = { data := #[] }) && decide (c.bu.oi = 0) && wi c.ix 1 1073741824 && decide (c.on.length ≤ 20) && c.on.all kk) = false := by simp only [f62, f63, Bool.and_false, Bool.false_and, Bool.and_true, Bool.true_and, Bool.and_self]
      have hno : mayC c = false := by rw [hM, hO, q4]; rfl
      exact bodyPost_ret (v := .bool false) ky rfl ⟨by rw [hno], h58.old.old⟩}
     refine zu (.bool false) (run_neZ (k := .i64) (a := c.bu.oi) (b := 0) ky ky true q61) (zv (.bool false) (zv (.bool false) (zv (.pointer (some ⟨q1, 22, none⟩)) (zu (.int .i64 c.ix) (run_load1 (fun w => Try.isAgg3 w) ky (((h58.get 0 rfl).cell 22).trans rfl)) ?_))))
     rcases q64 : decide (c.ix < 1) with _ | _
     {refine zu (.bool false) (run_ltZ (k := .i64) (a := c.ix) (b := 1) ky ky false q64) (zv (.bool false) (zv (.bool false) (zv (.pointer (some ⟨q1, 22, none⟩)) (zu (.int .i64 c.ix) (run_load1 (fun w => Try.isAgg3 w) ky (((h58.get 0 rfl).cell 22).trans rfl)) ?_))))
      rcases q65 : decide (1073741824 < c.ix) with _ | _
      {refine zu (.bool false) (run_gtZ (k := .i64) (a := c.ix) (b := 1073741824) ky ky false q65) (zv (.bool false) (zv (.bool false) (zv (.pointer (some ⟨q1, 17, none⟩)) (zu (.slice p c.on.length m) (run_load1 (fun w => Try.isAgg28 w) ky (((h58.get 0 rfl).cell 17).trans rfl)) (zv (iN .i64 c.on.length) ?_)))))
       rcases q66 : decide (20 < c.on.length) with _ | _
       {refine zu (.bool false) (run_gtr (k := .i64) (a := c.on.length) (b := 20) ky ky false q66) (zv (.bool false) (wl_nil (then_at rfl (wp_cond_false ky (wp_skip (then_at rfl (wp_seq (wp_seq (wl_region (zv (iN .i64 0) (wl_nil (then_at rfl (wp_block ?_)))))))))))))
        refine wp_count (fun i A w' => ∃ u67 : Nat → Value, A = ⟨(.agg (caC c (.slice o c.li.ds.length k) (.slice p c.on.length m)) :: pt q1 :: u67 2 :: .bool ub :: .string ((encA c.bu).1) :: iN .i64 ((encA c.bu).2) :: iN .i64 i :: .agg (caC c (.slice o c.li.ds.length k) (.slice p c.on.length m)) :: .agg (caC c (.slice o c.li.ds.length k) (.slice p c.on.length m)) :: .agg (caC (barC c) (.slice (sO c o) (barC c).li.ds.length (sK c k)) (.slice (sP c p) (barC c).on.length (sM c m))) :: .bool true :: .bool false :: u15 12 :: u15 13 :: u15 14 :: u15 15 :: u15 16 :: u15 17 :: u15 18 :: u15 19 :: pt q1 :: .int .i64 c.kd :: .bool false :: .bool false :: un :: .bool false :: .bool false :: un :: un :: un :: un :: un :: un :: un :: un :: un :: un :: un :: .bool false :: .bool false :: un :: un :: un :: .bool true :: .bool true :: .tuple #[.string ((encA c.bu).1), iN .i64 ((encA c.bu).2)] :: .pointer (some ⟨q1, 8, none⟩) :: .agg #[.int .i64 c.bu.u, .int .i64 c.bu.d, .string c.bu.sg, .string c.bu.dh, .int .i64 c.bu.pi, .string c.bu.pr, .string c.bu.ps, .int .i64 c.bu.oi, .string c.bu.on] :: .tuple #[.string ((encA c.bu).1), iN .i64 ((encA c.bu).2)] :: .string ((encA c.bu).1) :: iN .i64 ((encA c.bu).2) :: iN .i64 ((encA c.bu).2) :: .bool false :: .bool false :: .pointer (some ⟨q1, 8, none⟩) :: .pointer (some ⟨q1, 15, none⟩) :: .int .i64 c.bu.oi :: .bool false :: .bool false :: .bool false :: .pointer (some ⟨q1, 22, none⟩) :: .int .i64 c.ix :: .bool false :: .bool false :: .bool false :: .pointer (some ⟨q1, 22, none⟩) :: .int .i64 c.ix :: .bool false :: .bool false :: .bool false :: .pointer (some ⟨q1, 17, none⟩) :: .slice p c.on.length m :: iN .i64 c.on.length :: .bool false :: .bool false :: u67 75 :: u67 76 :: u67 77 :: u67 78 :: u67 79 :: u67 80 :: u67 81 :: u67 82 :: u67 83 :: u67 84 :: u67 85 :: u67 86 :: u67 87 :: u67 88 :: List.replicate 39 un).toArray, []⟩ ∧ HA (bs w) [(q1, 30, caC c (.slice o c.li.ds.length k) (.slice p c.on.length m))] w' ∧ (∀ j, j < i → kk (c.on.getD j ByteArray.empty) = true)) c.on.length ?_ ?_ ?_
        {exact exu ky ⟨h58, fun j h => absurd h (Nat.not_lt_zero j)⟩}
        {rintro i hk _ w68 ⟨u67, rfl, h69, hall⟩
         obtain ⟨mas, hmas, hAas⟩ := hQ.ex (by rw [scl_len]; omega)
         refine wp_seq (wp_seq (wl_region (zv (iN .i64 i) (zv (.pointer (some ⟨q1, 17, none⟩)) (zu (.slice p c.on.length m) (run_load1 (fun w => Try.isAgg28 w) ky (((h69.get 0 rfl).cell 17).trans rfl)) (zv (iN .i64 c.on.length) (zu (.bool true) (run_lss (k := .i64) (a := i) (b := c.on.length) ky ky true (decide_eq_true (by omega))) (wl_nil (then_at rfl (wp_cond_true ky (wp_skip (then_at rfl (wp_seq (wp_block (wp_seq (wl_region (zv (.pointer (some ⟨q1, 17, none⟩)) (zu (.slice p c.on.length m) (run_load1 (fun w => Try.isAgg28 w) ky (((h69.get 0 rfl).cell 17).trans rfl)) (zv (iN .i64 i) (zu (.pointer (some (mas.add (i * 1)))) (run_addr28 (a := mas) (n := c.on.length) (m := m) (i := i) hmas ky ky hk) ?_))))))))))))))))))))
         refine wl_val (.string (c.on.getD i ByteArray.empty)) ky ((run_ld28 (hAas.keep h69.old.old) hk ky)) ?_
         rcases q70 : kk (c.on.getD i ByteArray.empty) with _ | _
         {refine zl (.bool false) h69 enter44 _ (((rkey_any (c.on.getD i ByteArray.empty)).mono fun _ _ hh => ⟨by rw [hh.1, q70], hh.2⟩)) (fun w71 h72 => (zv (.bool true) (wl_nil (then_at rfl (wp_cond_true ky (wp_seq (wl_region (zv (.bool false) (wl_nil (then_at rfl (wp_ret ?_)))))))))))
          repeat first|refine tr ?_|refine block_ret ?_
          have hM := mayC_k4 q25 q30 q50 q56
          have f73 := (encA_b c.bu).trans q59
          have f74 := q61
          have f75 := show decide (c.on.length ≤ 20) = true from decide_eq_true (by have := of_decide_eq_false q66; omega)
          have f76 := all_no2 hk (p := kk) q70
          have f77 := show wi c.ix 1 1073741824 = true from by rw [wi_dec]; exact decide_eq_true (by have := of_decide_eq_false q64; have := of_decide_eq_false q65; omega)
          have hO : (!decide ((encA c.bu).1 = { data := #[] }) && decide (c.bu.oi = 0) && wi c.ix 1 1073741824 && decide (c.on.length ≤ 20) && c.on.all kk) = false := by simp only [f73, f74, f75, f76, f77, Bool.and_false, Bool.false_and, Bool.and_true, Bool.true_and, Bool.and_self]
          have hno : mayC c = false := by rw [hM, hO, q4]; rfl
          exact bodyPost_ret (v := .bool false) ky rfl ⟨by rw [hno], h72.old.old⟩}
         refine zl (.bool true) h69 enter44 _ (((rkey_any (c.on.getD i ByteArray.empty)).mono fun _ _ hh => ⟨by rw [hh.1, q70], hh.2⟩)) (fun w78 h79 => (zv (.bool false) (wl_nil (then_at rfl (wp_cond_false ky (wp_skip (block_normal (then_at rfl (wl_region (zv (iN .i64 i) (zu (iN .i64 (i + 1)) (run_add (k := .i64) (a := i) (b := 1) ky ky (by first | omega | (simp only [top]; omega))) (zv (iN .i64 (i + 1)) (wl_nil ?_)))))))))))))
         exact then_I (exu ky ⟨h79, fun j hj => (Nat.lt_succ_iff_lt_or_eq.1 hj).elim (hall j) (fun e => by rw [e]; exact q70)⟩)}
        {rintro _ w80 ⟨u67, rfl, h81, hall⟩
         refine wp_seq (wp_seq (wl_region (zv (iN .i64 c.on.length) (zv (.pointer (some ⟨q1, 17, none⟩)) (zu (.slice p c.on.length m) (run_load1 (fun w => Try.isAgg28 w) ky (((h81.get 0 rfl).cell 17).trans rfl)) (zv (iN .i64 c.on.length) (zu (.bool false) (run_lss (k := .i64) (a := c.on.length) (b := c.on.length) ky ky false (decide_eq_false (by omega))) (wl_nil (then_at rfl (wp_cond_false ky ?_))))))))))
         refine wp_exit ?_
         repeat first | refine then_exit ?_ | refine block_exit ?_ | refine block_exit_ne (by decide) ?_
         refine then_at rfl (wp_seq (wl_region ?_))
         refine zv (.bool true) (wl_nil (then_at rfl (wp_ret ?_)))
         repeat first|refine tr ?_|refine block_ret ?_
         have hM := mayC_k4 q25 q30 q50 q56
         have f82 := (encA_b c.bu).trans q59
         have f83 := q61
         have f84 := show decide (c.on.length ≤ 20) = true from decide_eq_true (by have := of_decide_eq_false q66; omega)
         have f85 := all_yes2 hall
         have f86 := show wi c.ix 1 1073741824 = true from by rw [wi_dec]; exact decide_eq_true (by have := of_decide_eq_false q64; have := of_decide_eq_false q65; omega)
         have hO : (!decide ((encA c.bu).1 = { data := #[] }) && decide (c.bu.oi = 0) && wi c.ix 1 1073741824 && decide (c.on.length ≤ 20) && c.on.all kk) = true := by simp only [f82, f83, f84, f85, f86, Bool.and_false, Bool.false_and, Bool.and_true, Bool.true_and, Bool.and_self]
         have hno : mayC c = true := by rw [hM, hO, q4]; rfl
         exact bodyPost_ret (v := .bool true) ky rfl ⟨by rw [hno], h81.old.old⟩}}
       refine zu (.bool true) (run_gtr (k := .i64) (a := c.on.length) (b := 20) ky ky true q66) (zv (.bool true) (wl_nil (then_at rfl (wp_cond_true ky (wp_seq (wl_region (zv (.bool false) (wl_nil (then_at rfl (wp_ret ?_))))))))))
       repeat first|refine tr ?_|refine block_ret ?_
       have hM := mayC_k4 q25 q30 q50 q56
       have f87 := (encA_b c.bu).trans q59
       have f88 := q61
       have f89 := show decide (c.on.length ≤ 20) = false from decide_eq_false (by have := of_decide_eq_true q66; omega)
       have f90 := show wi c.ix 1 1073741824 = true from by rw [wi_dec]; exact decide_eq_true (by have := of_decide_eq_false q64; have := of_decide_eq_false q65; omega)
       have hO : (!decide ((encA c.bu).1 = { data := #[] }) && decide (c.bu.oi = 0) && wi c.ix 1 1073741824 && decide (c.on.length ≤ 20) && c.on.all kk) = false := by simp only [f87, f88, f89, f90, Bool.and_false, Bool.false_and, Bool.and_true, Bool.true_and, Bool.and_self]
       have hno : mayC c = false := by rw [hM, hO, q4]; rfl
       exact bodyPost_ret (v := .bool false) ky rfl ⟨by rw [hno], h58.old.old⟩}
      refine zu (.bool true) (run_gtZ (k := .i64) (a := c.ix) (b := 1073741824) ky ky true q65) (zv (.bool true) (zv (.bool true) (zk (zk (zk (zk (zv (.bool true) (wl_nil (then_at rfl (wp_cond_true ky (wp_seq (wl_region (zv (.bool false) (wl_nil (then_at rfl (wp_ret ?_))))))))))))))))
      repeat first|refine tr ?_|refine block_ret ?_
      have hM := mayC_k4 q25 q30 q50 q56
      have f91 := (encA_b c.bu).trans q59
      have f92 := q61
      have f93 := show wi c.ix 1 1073741824 = false from by rw [wi_dec]; exact decide_eq_false (by have := of_decide_eq_false q64; have := of_decide_eq_true q65; omega)
      have hO : (!decide ((encA c.bu).1 = { data := #[] }) && decide (c.bu.oi = 0) && wi c.ix 1 1073741824 && decide (c.on.length ≤ 20) && c.on.all kk) = false := by simp only [f91, f92, f93, Bool.and_false, Bool.false_and, Bool.and_true, Bool.true_and, Bool.and_self]
      have hno : mayC c = false := by rw [hM, hO, q4]; rfl
      exact bodyPost_ret (v := .bool false) ky rfl ⟨by rw [hno], h58.old.old⟩}
     refine zu (.bool true) (run_ltZ (k := .i64) (a := c.ix) (b := 1) ky ky true q64) (zv (.bool true) (zv (.bool true) (zk (zk (zk (zv (.bool true) (zv (.bool true) (zk (zk (zk (zk (zv (.bool true) (wl_nil (then_at rfl (wp_cond_true ky (wp_seq (wl_region (zv (.bool false) (wl_nil (then_at rfl (wp_ret ?_)))))))))))))))))))))
     repeat first|refine tr ?_|refine block_ret ?_
     have hM := mayC_k4 q25 q30 q50 q56
     have f94 := (encA_b c.bu).trans q59
     have f95 := q61
     have f96 := show wi c.ix 1 1073741824 = false from by rw [wi_dec]; exact decide_eq_false (by have := of_decide_eq_true q64; omega)
     have hO : (!decide ((encA c.bu).1 = { data := #[] }) && decide (c.bu.oi = 0) && wi c.ix 1 1073741824 && decide (c.on.length ≤ 20) && c.on.all kk) = false := by simp only [f94, f95, f96, Bool.and_false, Bool.false_and, Bool.and_true, Bool.true_and, Bool.and_self]
     have hno : mayC c = false := by rw [hM, hO, q4]; rfl
     exact bodyPost_ret (v := .bool false) ky rfl ⟨by rw [hno], h58.old.old⟩}
    refine zu (.bool false) (run_eqZ (k := .i64) (a := c.kd) (b := 4) ky ky false q56) (zv (.bool false) (wl_nil (then_at rfl (wp_cond_false ky (wp_seq (wl_region ?_))))))
    rcases q97 : decide (c.kd = 5) with _ | _; rotate_left
    {refine zu (.bool true) (run_eqZ (k := .i64) (a := c.kd) (b := 5) ky ky true q97) (zv (.bool true) (wl_nil (then_at rfl (wp_cond_true ky (wp_seq (wl_region (zv (.pointer (some ⟨q1, 18, none⟩)) (zu (.int .i64 c.tt) (run_load1 (fun w => Try.isAgg3 w) ky (((h24.get 0 rfl).cell 18).trans rfl)) ?_))))))))
     rcases q98 : isD c.tt with _ | _
     {refine zl (.bool false) h24 enter77 _ (((rdev_any c.tt).mono fun _ _ hh => ⟨by rw [hh.1, q98], hh.2⟩)) (fun w99 h100 => (zv (.bool false) (zk (zk (zk (zv (.bool false) (zv (.bool false) (zk (zk (zk (zv (.bool false) (zv (.bool false) (zk (zk (zk (zv (.bool false) (zv (.bool false) (wl_nil (then_at rfl (wp_ret ?_))))))))))))))))))))
      repeat first|refine tr ?_|refine block_ret ?_
      have hM := mayC_k5 q25 q30 q50 q56 q97
      have p101 := of_decide_eq_false q25
      have p102 := of_decide_eq_false q30
      have p103 := of_decide_eq_false q50
      have p104 := of_decide_eq_false q56
      have p105 := of_decide_eq_true q97
      have p106 := of_decide_eq_false ((isD_dec _).symm.trans q98)
      have hO : (isD c.tt && wn c.no 1 1099511627776 && wi ((c.bt.size : Nat) : Int) 1 4096) = false := by simp only [wi_dec, wn_dec, isD_dec, ← Bool.decide_and]; exact decide_eq_false (by omega)
      have hno : mayC c = false := by rw [hM, hO, q4]; rfl
      exact bodyPost_ret (v := .bool false) ky rfl ⟨by rw [hno], h100.old.old⟩}
     refine zl (.bool true) h24 enter77 _ (((rdev_any c.tt).mono fun _ _ hh => ⟨by rw [hh.1, q98], hh.2⟩)) (fun w107 h108 => (zv (.bool true) (zv (.pointer (some ⟨q1, 19, none⟩)) (zu (iN .u64 c.no) (run_load1 (fun w => Try.isAgg22 w) ky (((h108.get 0 rfl).cell 19).trans rfl)) ?_))))
     rcases q109 : decide (1 ≤ c.no) with _ | _
     {refine zu (.bool false) (run_geq (k := .u64) (a := c.no) (b := 1) ky ky false q109) (zv (.bool false) (zv (.bool false) (zk (zk (zk (zv (.bool false) (zv (.bool false) (zk (zk (zk (zv (.bool false) (zv (.bool false) (wl_nil (then_at rfl (wp_ret ?_)))))))))))))))
      repeat first|refine tr ?_|refine block_ret ?_
      have hM := mayC_k5 q25 q30 q50 q56 q97
      have p110 := of_decide_eq_false q25
      have p111 := of_decide_eq_false q30
      have p112 := of_decide_eq_false q50
      have p113 := of_decide_eq_false q56
      have p114 := of_decide_eq_true q97
      have p115 := of_decide_eq_true ((isD_dec _).symm.trans q98)
      have p116 := of_decide_eq_false q109
      have hO : (isD c.tt && wn c.no 1 1099511627776 && wi ((c.bt.size : Nat) : Int) 1 4096) = false := by simp only [wi_dec, wn_dec, isD_dec, ← Bool.decide_and]; exact decide_eq_false (by omega)
      have hno : mayC c = false := by rw [hM, hO, q4]; rfl
      exact bodyPost_ret (v := .bool false) ky rfl ⟨by rw [hno], h108.old.old⟩}
     refine zu (.bool true) (run_geq (k := .u64) (a := c.no) (b := 1) ky ky true q109) (zv (.bool true) (zv (.bool true) (zv (.pointer (some ⟨q1, 19, none⟩)) (zu (iN .u64 c.no) (run_load1 (fun w => Try.isAgg22 w) ky (((h108.get 0 rfl).cell 19).trans rfl)) ?_))))
     rcases q117 : decide (c.no ≤ 1099511627776) with _ | _
     {refine zu (.bool false) (run_leq (k := .u64) (a := c.no) (b := 1099511627776) ky ky false q117) (zv (.bool false) (zv (.bool false) (zk (zk (zk (zv (.bool false) (zv (.bool false) (wl_nil (then_at rfl (wp_ret ?_))))))))))
      repeat first|refine tr ?_|refine block_ret ?_
      have hM := mayC_k5 q25 q30 q50 q56 q97
      have p118 := of_decide_eq_false q25
      have p119 := of_decide_eq_false q30
      have p120 := of_decide_eq_false q50
      have p121 := of_decide_eq_false q56
      have p122 := of_decide_eq_true q97
      have p123 := of_decide_eq_true ((isD_dec _).symm.trans q98)
      have p124 := of_decide_eq_true q109
      have p125 := of_decide_eq_false q117
      have hO : (isD c.tt && wn c.no 1 1099511627776 && wi ((c.bt.size : Nat) : Int) 1 4096) = false := by simp only [wi_dec, wn_dec, isD_dec, ← Bool.decide_and]; exact decide_eq_false (by omega)
      have hno : mayC c = false := by rw [hM, hO, q4]; rfl
      exact bodyPost_ret (v := .bool false) ky rfl ⟨by rw [hno], h108.old.old⟩}
     refine zu (.bool true) (run_leq (k := .u64) (a := c.no) (b := 1099511627776) ky ky true q117) (zv (.bool true) (zv (.bool true) (zv (.pointer (some ⟨q1, 23, none⟩)) (zu (.string c.bt) (run_load1 (fun w => Try.isAgg9 w) ky (((h108.get 0 rfl).cell 23).trans rfl)) ?_))))
     rcases q126 : itm c.bt with _ | _
     {refine zl (.bool false) h108 enter78 _ (((ritm_any c.bt).mono fun _ _ hh => ⟨by rw [hh.1, q126], hh.2⟩)) (fun w127 h128 => (zv (.bool false) (zv (.bool false) (wl_nil (then_at rfl (wp_ret ?_))))))
      repeat first|refine tr ?_|refine block_ret ?_
      have hM := mayC_k5 q25 q30 q50 q56 q97
      have p129 := of_decide_eq_false q25
      have p130 := of_decide_eq_false q30
      have p131 := of_decide_eq_false q50
      have p132 := of_decide_eq_false q56
      have p133 := of_decide_eq_true q97
      have p134 := of_decide_eq_true ((isD_dec _).symm.trans q98)
      have p135 := of_decide_eq_true q109
      have p136 := of_decide_eq_true q117
      have p137 := of_decide_eq_false ((itm_dec _).symm.trans q126)
      have hO : (isD c.tt && wn c.no 1 1099511627776 && wi ((c.bt.size : Nat) : Int) 1 4096) = false := by simp only [wi_dec, wn_dec, isD_dec, ← Bool.decide_and]; exact decide_eq_false (by omega)
      have hno : mayC c = false := by rw [hM, hO, q4]; rfl
      exact bodyPost_ret (v := .bool false) ky rfl ⟨by rw [hno], h128.old.old⟩}
     refine zl (.bool true) h108 enter78 _ (((ritm_any c.bt).mono fun _ _ hh => ⟨by rw [hh.1, q126], hh.2⟩)) (fun w138 h139 => (zv (.bool true) (zv (.bool true) (wl_nil (then_at rfl (wp_ret ?_))))))
     repeat first|refine tr ?_|refine block_ret ?_
     have hM := mayC_k5 q25 q30 q50 q56 q97
     have p140 := of_decide_eq_false q25
     have p141 := of_decide_eq_false q30
     have p142 := of_decide_eq_false q50
     have p143 := of_decide_eq_false q56
     have p144 := of_decide_eq_true q97
     have p145 := of_decide_eq_true ((isD_dec _).symm.trans q98)
     have p146 := of_decide_eq_true q109
     have p147 := of_decide_eq_true q117
     have p148 := of_decide_eq_true ((itm_dec _).symm.trans q126)
     have hO : (isD c.tt && wn c.no 1 1099511627776 && wi ((c.bt.size : Nat) : Int) 1 4096) = true := by simp only [wi_dec, wn_dec, isD_dec, ← Bool.decide_and]; exact decide_eq_true (by omega)
     have hno : mayC c = true := by rw [hM, hO, q4]; rfl
     exact bodyPost_ret (v := .bool true) ky rfl ⟨by rw [hno], h139.old.old⟩}
    refine zu (.bool false) (run_eqZ (k := .i64) (a := c.kd) (b := 5) ky ky false q97) (zv (.bool false) (wl_nil (then_at rfl (wp_cond_false ky (wp_seq (wp_seq (wl_region ?_)))))))
    rcases q149 : decide (c.kd = 6) with _ | _; rotate_left
    {refine zu (.bool true) (run_eqZ (k := .i64) (a := c.kd) (b := 6) ky ky true q149) (zv (.bool true) (wl_nil (then_at rfl (wp_cond_true ky (wp_skip (then_at rfl (wp_cond_true ky (wp_seq (wl_region (zv (.pointer (some ⟨q1, 20, none⟩)) (zu (iN .u64 c.af) (run_load1 (fun w => Try.isAgg22 w) ky (((h24.get 0 rfl).cell 20).trans rfl)) ?_)))))))))))
     rcases q150 : decide (c.af ≤ 1099511627776) with _ | _
     {refine zu (.bool false) (run_leq (k := .u64) (a := c.af) (b := 1099511627776) ky ky false q150) (zv (.bool false) (wl_nil (then_at rfl (wp_ret ?_))))
      repeat first|refine tr ?_|refine block_ret ?_
      have hM := mayC_k6 q25 q30 q50 q56 q97 q149
      have p151 := of_decide_eq_false q25
      have p152 := of_decide_eq_false q30
      have p153 := of_decide_eq_false q50
      have p154 := of_decide_eq_false q56
      have p155 := of_decide_eq_false q97
      have p156 := of_decide_eq_true q149
      have p157 := of_decide_eq_false q150
      have hO : wn c.af 0 1099511627776 = false := by simp only [wi_dec, wn_dec, isD_dec, ← Bool.decide_and]; exact decide_eq_false (by omega)
      have hno : mayC c = false := by rw [hM, hO, q4]; rfl
      exact bodyPost_ret (v := .bool false) ky rfl ⟨by rw [hno], h24.old.old⟩}
     refine zu (.bool true) (run_leq (k := .u64) (a := c.af) (b := 1099511627776) ky ky true q150) (zv (.bool true) (wl_nil (then_at rfl (wp_ret ?_))))
     repeat first|refine tr ?_|refine block_ret ?_
     have hM := mayC_k6 q25 q30 q50 q56 q97 q149
     have p158 := of_decide_eq_false q25
     have p159 := of_decide_eq_false q30
     have p160 := of_decide_eq_false q50
     have p161 := of_decide_eq_false q56
     have p162 := of_decide_eq_false q97
     have p163 := of_decide_eq_true q149
     have p164 := of_decide_eq_true q150
     have hO : wn c.af 0 1099511627776 = true := by simp only [wi_dec, wn_dec, isD_dec, ← Bool.decide_and]; exact decide_eq_true (by omega)
     have hno : mayC c = true := by rw [hM, hO, q4]; rfl
     exact bodyPost_ret (v := .bool true) ky rfl ⟨by rw [hno], h24.old.old⟩}
    refine zu (.bool false) (run_eqZ (k := .i64) (a := c.kd) (b := 6) ky ky false q149) (zv (.bool false) (wl_nil (then_at rfl (wp_cond_false ky (wl_region ?_)))))
    rcases q165 : decide (c.kd = 7) with _ | _; rotate_left
    {refine zu (.bool true) (run_eqZ (k := .i64) (a := c.kd) (b := 7) ky ky true q165) (zv (.bool true) (wl_nil (then_at rfl (wp_cond_true ky (wp_seq (wl_region (zv (.pointer (some ⟨q1, 20, none⟩)) (zu (iN .u64 c.af) (run_load1 (fun w => Try.isAgg22 w) ky (((h24.get 0 rfl).cell 20).trans rfl)) ?_))))))))
     rcases q166 : decide (c.af ≤ 1099511627776) with _ | _
     {refine zu (.bool false) (run_leq (k := .u64) (a := c.af) (b := 1099511627776) ky ky false q166) (zv (.bool false) (wl_nil (then_at rfl (wp_ret ?_))))
      repeat first|refine tr ?_|refine block_ret ?_
      have hM := mayC_k7 q25 q30 q50 q56 q97 q149 q165
      have p167 := of_decide_eq_false q25
      have p168 := of_decide_eq_false q30
      have p169 := of_decide_eq_false q50
      have p170 := of_decide_eq_false q56
      have p171 := of_decide_eq_false q97
      have p172 := of_decide_eq_false q149
      have p173 := of_decide_eq_true q165
      have p174 := of_decide_eq_false q166
      have hO : wn c.af 0 1099511627776 = false := by simp only [wi_dec, wn_dec, isD_dec, ← Bool.decide_and]; exact decide_eq_false (by omega)
      have hno : mayC c = false := by rw [hM, hO, q4]; rfl
      exact bodyPost_ret (v := .bool false) ky rfl ⟨by rw [hno], h24.old.old⟩}
     refine zu (.bool true) (run_leq (k := .u64) (a := c.af) (b := 1099511627776) ky ky true q166) (zv (.bool true) (wl_nil (then_at rfl (wp_ret ?_))))
     repeat first|refine tr ?_|refine block_ret ?_
     have hM := mayC_k7 q25 q30 q50 q56 q97 q149 q165
     have p175 := of_decide_eq_false q25
     have p176 := of_decide_eq_false q30
     have p177 := of_decide_eq_false q50
     have p178 := of_decide_eq_false q56
     have p179 := of_decide_eq_false q97
     have p180 := of_decide_eq_false q149
     have p181 := of_decide_eq_true q165
     have p182 := of_decide_eq_true q166
     have hO : wn c.af 0 1099511627776 = true := by simp only [wi_dec, wn_dec, isD_dec, ← Bool.decide_and]; exact decide_eq_true (by omega)
     have hno : mayC c = true := by rw [hM, hO, q4]; rfl
     exact bodyPost_ret (v := .bool true) ky rfl ⟨by rw [hno], h24.old.old⟩}
    refine zu (.bool false) (run_eqZ (k := .i64) (a := c.kd) (b := 7) ky ky false q165) (zv (.bool false) (wl_nil (then_at rfl (wp_cond_false ky (wp_seq (wl_region ?_))))))
    rcases q183 : decide (c.kd = 8) with _ | _; rotate_left
    {refine zu (.bool true) (run_eqZ (k := .i64) (a := c.kd) (b := 8) ky ky true q183) (zv (.bool true) (wl_nil (then_at rfl (wp_cond_true ky (wp_seq (wl_region (wl_load h24 0 rfl ky ky Try.underlying30 rfl ky ?_)))))))
     rcases q184 : chu c with _ | _
     {refine zl (.bool false) h24 enter79 #[.agg (caC c (.slice o c.li.ds.length k) (.slice p c.on.length m))] (((rchk_any c (hP.keep h24.old.old) (hQ.keep h24.old.old) hl1 hl2).mono fun _ _ hh => ⟨by rw [hh.1, q184], hh.2⟩)) (fun w185 h186 => (zv (.bool false) (zk (zk (zk (zv (.bool false) (zv (.bool false) (wl_nil (then_at rfl (wp_ret ?_))))))))))
      repeat first|refine tr ?_|refine block_ret ?_
      have hM := mayC_k8 q25 q30 q50 q56 q97 q149 q165 q183
      have p187 := of_decide_eq_false q25
      have p188 := of_decide_eq_false q30
      have p189 := of_decide_eq_false q50
      have p190 := of_decide_eq_false q56
      have p191 := of_decide_eq_false q97
      have p192 := of_decide_eq_false q149
      have p193 := of_decide_eq_false q165
      have p194 := of_decide_eq_true q183
      have p195 := of_decide_eq_false ((chu_dec _).symm.trans q184)
      have hO : (wi ((c.bt.size : Nat) : Int) 1 4096 && wi ((c.nm.size : Nat) : Int) 1 40 && wi c.ix 0 63) = false := by simp only [wi_dec, wn_dec, isD_dec, ← Bool.decide_and]; exact decide_eq_false (by omega)
      have hno : mayC c = false := by rw [hM, hO, q4]; rfl
      exact bodyPost_ret (v := .bool false) ky rfl ⟨by rw [hno], h186.old.old⟩}
     refine zl (.bool true) h24 enter79 #[.agg (caC c (.slice o c.li.ds.length k) (.slice p c.on.length m))] (((rchk_any c (hP.keep h24.old.old) (hQ.keep h24.old.old) hl1 hl2).mono fun _ _ hh => ⟨by rw [hh.1, q184], hh.2⟩)) (fun w196 h197 => (zv (.bool true) (zv (.pointer (some ⟨q1, 23, none⟩)) (zu (.string c.bt) (run_load1 (fun w => Try.isAgg9 w) ky (((h197.get 0 rfl).cell 23).trans rfl)) ?_))))
     rcases q198 : itm c.bt with _ | _
     {refine zl (.bool false) h197 enter78 _ (((ritm_any c.bt).mono fun _ _ hh => ⟨by rw [hh.1, q198], hh.2⟩)) (fun w199 h200 => (zv (.bool false) (zv (.bool false) (wl_nil (then_at rfl (wp_ret ?_))))))
      repeat first|refine tr ?_|refine block_ret ?_
      have hM := mayC_k8 q25 q30 q50 q56 q97 q149 q165 q183
      have p201 := of_decide_eq_false q25
      have p202 := of_decide_eq_false q30
      have p203 := of_decide_eq_false q50
      have p204 := of_decide_eq_false q56
      have p205 := of_decide_eq_false q97
      have p206 := of_decide_eq_false q149
      have p207 := of_decide_eq_false q165
      have p208 := of_decide_eq_true q183
      have p209 := of_decide_eq_true ((chu_dec _).symm.trans q184)
      have p210 := of_decide_eq_false ((itm_dec _).symm.trans q198)
      have hO : (wi ((c.bt.size : Nat) : Int) 1 4096 && wi ((c.nm.size : Nat) : Int) 1 40 && wi c.ix 0 63) = false := by simp only [wi_dec, wn_dec, isD_dec, ← Bool.decide_and]; exact decide_eq_false (by omega)
      have hno : mayC c = false := by rw [hM, hO, q4]; rfl
      exact bodyPost_ret (v := .bool false) ky rfl ⟨by rw [hno], h200.old.old⟩}
     refine zl (.bool true) h197 enter78 _ (((ritm_any c.bt).mono fun _ _ hh => ⟨by rw [hh.1, q198], hh.2⟩)) (fun w211 h212 => (zv (.bool true) (zv (.bool true) (wl_nil (then_at rfl (wp_ret ?_))))))
     repeat first|refine tr ?_|refine block_ret ?_
     have hM := mayC_k8 q25 q30 q50 q56 q97 q149 q165 q183
     have p213 := of_decide_eq_false q25
     have p214 := of_decide_eq_false q30
     have p215 := of_decide_eq_false q50
     have p216 := of_decide_eq_false q56
     have p217 := of_decide_eq_false q97
     have p218 := of_decide_eq_false q149
     have p219 := of_decide_eq_false q165
     have p220 := of_decide_eq_true q183
     have p221 := of_decide_eq_true ((chu_dec _).symm.trans q184)
     have p222 := of_decide_eq_true ((itm_dec _).symm.trans q198)
     have hO : (wi ((c.bt.size : Nat) : Int) 1 4096 && wi ((c.nm.size : Nat) : Int) 1 40 && wi c.ix 0 63) = true := by simp only [wi_dec, wn_dec, isD_dec, ← Bool.decide_and]; exact decide_eq_true (by omega)
     have hno : mayC c = true := by rw [hM, hO, q4]; rfl
     exact bodyPost_ret (v := .bool true) ky rfl ⟨by rw [hno], h212.old.old⟩}
    refine zu (.bool false) (run_eqZ (k := .i64) (a := c.kd) (b := 8) ky ky false q183) (zv (.bool false) (wl_nil (then_at rfl (wp_cond_false ky (wp_seq (wl_region ?_))))))
    rcases q223 : decide (c.kd = 9) with _ | _; rotate_left
    {refine zu (.bool true) (run_eqZ (k := .i64) (a := c.kd) (b := 9) ky ky true q223) (zv (.bool true) (wl_nil (then_at rfl (wp_cond_true ky (wp_seq (wl_region (wl_load h24 0 rfl ky ky Try.underlying30 rfl ky ?_)))))))
     rcases q224 : chu c with _ | _
     {refine zl (.bool false) h24 enter79 #[.agg (caC c (.slice o c.li.ds.length k) (.slice p c.on.length m))] (((rchk_any c (hP.keep h24.old.old) (hQ.keep h24.old.old) hl1 hl2).mono fun _ _ hh => ⟨by rw [hh.1, q224], hh.2⟩)) (fun w225 h226 => (zv (.bool false) (wl_nil (then_at rfl (wp_ret ?_)))))
      repeat first|refine tr ?_|refine block_ret ?_
      have hM := mayC_k9 q25 q30 q50 q56 q97 q149 q165 q183 q223
      have p227 := of_decide_eq_false q25
      have p228 := of_decide_eq_false q30
      have p229 := of_decide_eq_false q50
      have p230 := of_decide_eq_false q56
      have p231 := of_decide_eq_false q97
      have p232 := of_decide_eq_false q149
      have p233 := of_decide_eq_false q165
      have p234 := of_decide_eq_false q183
      have p235 := of_decide_eq_true q223
      have p236 := of_decide_eq_false ((chu_dec _).symm.trans q224)
      have hO : (wi ((c.nm.size : Nat) : Int) 1 40 && wi c.ix 0 63) = false := by simp only [wi_dec, wn_dec, isD_dec, ← Bool.decide_and]; exact decide_eq_false (by omega)
      have hno : mayC c = false := by rw [hM, hO, q4]; rfl
      exact bodyPost_ret (v := .bool false) ky rfl ⟨by rw [hno], h226.old.old⟩}
     refine zl (.bool true) h24 enter79 #[.agg (caC c (.slice o c.li.ds.length k) (.slice p c.on.length m))] (((rchk_any c (hP.keep h24.old.old) (hQ.keep h24.old.old) hl1 hl2).mono fun _ _ hh => ⟨by rw [hh.1, q224], hh.2⟩)) (fun w237 h238 => (zv (.bool true) (wl_nil (then_at rfl (wp_ret ?_)))))
     repeat first|refine tr ?_|refine block_ret ?_
     have hM := mayC_k9 q25 q30 q50 q56 q97 q149 q165 q183 q223
     have p239 := of_decide_eq_false q25
     have p240 := of_decide_eq_false q30
     have p241 := of_decide_eq_false q50
     have p242 := of_decide_eq_false q56
     have p243 := of_decide_eq_false q97
     have p244 := of_decide_eq_false q149
     have p245 := of_decide_eq_false q165
     have p246 := of_decide_eq_false q183
     have p247 := of_decide_eq_true q223
     have p248 := of_decide_eq_true ((chu_dec _).symm.trans q224)
     have hO : (wi ((c.nm.size : Nat) : Int) 1 40 && wi c.ix 0 63) = true := by simp only [wi_dec, wn_dec, isD_dec, ← Bool.decide_and]; exact decide_eq_true (by omega)
     have hno : mayC c = true := by rw [hM, hO, q4]; rfl
     exact bodyPost_ret (v := .bool true) ky rfl ⟨by rw [hno], h238.old.old⟩}
    refine zu (.bool false) (run_eqZ (k := .i64) (a := c.kd) (b := 9) ky ky false q223) (zv (.bool false) (wl_nil (then_at rfl (wp_cond_false ky (wp_skip (block_normal (then_at rfl (wp_seq (wl_region (zv (.bool false) (wl_nil (then_at rfl (wp_ret ?_)))))))))))))
    repeat first|refine tr ?_|refine block_ret ?_
    have hM := mayC_k0 q25 q30 q50 q56 q97 q149 q165 q183 q223
    have hno : mayC c = false := hM
    exact bodyPost_ret (v := .bool false) ky rfl ⟨by rw [hno], h24.old.old⟩}}
set_option maxHeartbeats 2000000 in
theorem rchkC_any {w : World} (c : Ca) {o p : Option Addr} {k m : Nat} (hP : At w o (mcl c.li.ds)) (hQ : At w p (scl c.on)) (hl1 : c.li.ds.length ≤ 1000000) (hl2 : c.on.length ≤ 1000000) :
    Calls Try.prog 11 #[.agg (caC c (.slice o c.li.ds.length k) (.slice p c.on.length m))] w fun e w' => e = .returned (iN .i64 (chkC c)) ∧ Below w.heap.size w w' := by
  have H0 := HA.start w
  go_enter Try.func11, Try.ntmps11
  refine wp_seq (wl_region (wl_make (c := caC c (.slice o c.li.ds.length k) (.slice p c.on.length m)) H0 30 ky ky ?_))
  intro q1 w2 (h3 : HA (bs w) [(q1, 30, caC c (.slice o c.li.ds.length k) (.slice p c.on.length m))] w2)
  refine zv (iN .i64 0) (wl_nil (then_at rfl (wp_seq (wp_seq (wl_region (wl_load h3 0 rfl ky ky Try.underlying30 rfl ky ?_))))))
  rcases q4 : mayC c with _ | _
  {refine zl (.bool false) h3 enter36 #[.agg (caC c (.slice o c.li.ds.length k) (.slice p c.on.length m))] (((rmayC_any c (hP.keep h3.old.old) (hQ.keep h3.old.old) hl1 hl2).mono fun _ _ hh => ⟨by rw [hh.1, q4], hh.2⟩)) (fun w5 h6 => (zv (.bool true) (wl_nil (then_at rfl (wp_cond_true ky (wp_seq (wl_region (zv (iN .i64 2) (wl_nil (then_at rfl (wp_ret ?_)))))))))))
   repeat first|refine tr ?_|refine block_ret ?_
   exact bodyPost_ret (v := iN .i64 2) ky rfl ⟨by rw [(show chkC c = 2 from by unfold chkC; rw [q4]; first | done | rfl)], h6.old.old⟩}
  refine zl (.bool true) h3 enter36 #[.agg (caC c (.slice o c.li.ds.length k) (.slice p c.on.length m))] (((rmayC_any c (hP.keep h3.old.old) (hQ.keep h3.old.old) hl1 hl2).mono fun _ _ hh => ⟨by rw [hh.1, q4], hh.2⟩)) (fun w7 h8 => (zv (.bool false) (wl_nil (then_at rfl (wp_cond_false ky (wp_skip (then_at rfl (wp_seq (wl_region (zv (iN .i64 0) (wl_nil (then_at rfl (wp_ret ?_)))))))))))))
  repeat first|refine tr ?_|refine block_ret ?_
  exact bodyPost_ret (v := iN .i64 0) ky rfl ⟨by rw [(show chkC c = 0 from by unfold chkC; rw [q4]; first | done | rfl)], h8.old.old⟩
end Go.Proofs.Ytiogegoepgkjlaa
