/-
  SameCall, mayBe, Check.
-/
import Derived.Test.YtiogegoepgkjlaaC2
set_option maxRecDepth 100000
set_option linter.unusedVariables false
namespace Go.Proofs.Ytiogegoepgkjlaa
open Go.RowKit

def sameC (a b : Ca) : Bool := decide (a.kd = b.kd) && decide (a.us = b.us) && decide (a.dv = b.dv) && sameL a.li b.li && decide (a.bu = b.bu) && decide (a.on = b.on) && decide (a.tt = b.tt) && decide (a.no = b.no) && decide (a.af = b.af) && decide (a.nm = b.nm) && decide (a.ix = b.ix) && decide (a.bt = b.bt)
theorem sameC_eq (a b : Ca) : sameC a b = decide (a = b) := by
  obtain ⟨a1, a2, a3, a4, a5, a6, a7, a8, a9, a10, a11, a12⟩ := a
  obtain ⟨b1, b2, b3, b4, b5, b6, b7, b8, b9, b10, b11, b12⟩ := b
  rw [Bool.eq_iff_iff]
  simp [sameC, sameL_eq, and_assoc]
set_option maxHeartbeats 4000000 in
theorem smc_any {w : World} (a b : Ca) {o p o2 p2 : Option Addr} {k m k2 m2 : Nat} (hP : At w o (mcl a.li.ds)) (hQ : At w p (scl a.on)) (hP2 : At w o2 (mcl b.li.ds)) (hQ2 : At w p2 (scl b.on)) (hl1 : a.li.ds.length ≤ 1000000) (hl2 : a.on.length ≤ 1000000) :
    Calls Try.prog 12 #[.agg (caC a (.slice o a.li.ds.length k) (.slice p a.on.length m)), .agg (caC b (.slice o2 b.li.ds.length k2) (.slice p2 b.on.length m2))] w fun e w' => e = .returned (.bool (sameC a b)) ∧ Below w.heap.size w w' := by
  have H0 := HA.start w
  go_enter Try.func12, Try.ntmps12
  refine wp_seq (wl_region (wl_make (c := caC a (.slice o a.li.ds.length k) (.slice p a.on.length m)) H0 30 ky ky ?_))
  intro q1 w2 (h3 : HA (bs w) [(q1, 30, caC a (.slice o a.li.ds.length k) (.slice p a.on.length m))] w2)
  refine wl_make (c := caC b (.slice o2 b.li.ds.length k2) (.slice p2 b.on.length m2)) h3 30 ky ky ?_
  intro q4 w5 (h6 : HA (bs w) [(q4, 30, caC b (.slice o2 b.li.ds.length k2) (.slice p2 b.on.length m2)), (q1, 30, caC a (.slice o a.li.ds.length k) (.slice p a.on.length m))] w5)
  refine zv (.bool false) (wl_nil (then_at rfl (wp_seq (wl_region (zv (.pointer (some ⟨q1, 0, none⟩)) (zu (.int .i64 a.kd) (run_load1 (fun w => Try.isAgg3 w) ky (((h6.get 1 rfl).cell 0).trans rfl)) (zv (.pointer (some ⟨q4, 0, none⟩)) (zu (.int .i64 b.kd) (run_load1 (fun w => Try.isAgg3 w) ky (((h6.get 0 rfl).cell 0).trans rfl)) ?_))))))))
  rcases q7 : decide (a.kd = b.kd) with _ | _
  {refine zu (.bool false) (run_eqZ (k := .i64) (a := a.kd) (b := b.kd) ky ky false q7) (zv (.bool false) (zk (zk (zk (zk (zk (zv (.bool false) (zv (.bool false) (zk (zk (zk (zk (zk (zv (.bool false) (zv (.bool false) (zk (zk (zk (zk (zk (zv (.bool false) (zv (.bool false) (zk ?_)))))))))))))))))))))))
   refine zk (zk (zk (zk (zv (.bool false) (zv (.bool false) (zk (zk (zk (zk (zk (zv (.bool false) (zv (.bool false) (zk (zk (zk (zk (zk (zv (.bool false) (zv (.bool false) (zk (zk (zk (zk ?_)))))))))))))))))))))))
   refine zk (zv (.bool false) (zv (.bool false) (zk (zk (zk (zk (zk (zv (.bool false) (zv (.bool false) (zk (zk (zk (zk (zk (zv (.bool false) (zv (.bool false) (zk (zk (zk (zk (zk (zv (.bool false) (zv (.bool false) ?_)))))))))))))))))))))))
   refine zk (zk (zk (zk (zk (zv (.bool false) (zv (.bool false) (wl_nil (then_at rfl (wp_ret ?_)))))))))
   repeat first|refine tr ?_|refine block_ret ?_
   exact bodyPost_ret (v := .bool false) ky rfl ⟨by rw [(show sameC a b = false from by unfold sameC; rw [q7]; first | done | rfl)], h6.old.old⟩}
  refine zu (.bool true) (run_eqZ (k := .i64) (a := a.kd) (b := b.kd) ky ky true q7) (zv (.bool true) (zv (.pointer (some ⟨q1, 1, none⟩)) (zu (.int .i64 a.us) (run_load1 (fun w => Try.isAgg3 w) ky (((h6.get 1 rfl).cell 1).trans rfl)) (zv (.pointer (some ⟨q4, 1, none⟩)) (zu (.int .i64 b.us) (run_load1 (fun w => Try.isAgg3 w) ky (((h6.get 0 rfl).cell 1).trans rfl)) ?_)))))
  rcases q8 : decide (a.us = b.us) with _ | _
  {refine zu (.bool false) (run_eqZ (k := .i64) (a := a.us) (b := b.us) ky ky false q8) (zv (.bool false) (zv (.bool false) (zk (zk (zk (zk (zk (zv (.bool false) (zv (.bool false) (zk (zk (zk (zk (zk (zv (.bool false) (zv (.bool false) (zk (zk (zk (zk (zk (zv (.bool false) (zv (.bool false) ?_)))))))))))))))))))))))
   refine zk (zk (zk (zk (zk (zv (.bool false) (zv (.bool false) (zk (zk (zk (zk (zk (zv (.bool false) (zv (.bool false) (zk (zk (zk (zk (zk (zv (.bool false) (zv (.bool false) (zk (zk (zk ?_)))))))))))))))))))))))
   refine zk (zk (zv (.bool false) (zv (.bool false) (zk (zk (zk (zk (zk (zv (.bool false) (zv (.bool false) (zk (zk (zk (zk (zk (zv (.bool false) (zv (.bool false) (zk (zk (zk (zk (zk (zv (.bool false) ?_)))))))))))))))))))))))
   refine zv (.bool false) (wl_nil (then_at rfl (wp_ret ?_)))
   repeat first|refine tr ?_|refine block_ret ?_
   exact bodyPost_ret (v := .bool false) ky rfl ⟨by rw [(show sameC a b = false from by unfold sameC; rw [q7, q8]; first | done | rfl)], h6.old.old⟩}
  refine zu (.bool true) (run_eqZ (k := .i64) (a := a.us) (b := b.us) ky ky true q8) (zv (.bool true) (zv (.bool true) (zv (.pointer (some ⟨q1, 2, none⟩)) (zu (.int .i64 a.dv) (run_load1 (fun w => Try.isAgg3 w) ky (((h6.get 1 rfl).cell 2).trans rfl)) (zv (.pointer (some ⟨q4, 2, none⟩)) (zu (.int .i64 b.dv) (run_load1 (fun w => Try.isAgg3 w) ky (((h6.get 0 rfl).cell 2).trans rfl)) ?_))))))
  rcases q9 : decide (a.dv = b.dv) with _ | _
  {refine zu (.bool false) (run_eqZ (k := .i64) (a := a.dv) (b := b.dv) ky ky false q9) (zv (.bool false) (zv (.bool false) (zk (zk (zk (zk (zk (zv (.bool false) (zv (.bool false) (zk (zk (zk (zk (zk (zv (.bool false) (zv (.bool false) (zk (zk (zk (zk (zk (zv (.bool false) (zv (.bool false) ?_)))))))))))))))))))))))
   refine zk (zk (zk (zk (zk (zv (.bool false) (zv (.bool false) (zk (zk (zk (zk (zk (zv (.bool false) (zv (.bool false) (zk (zk (zk (zk (zk (zv (.bool false) (zv (.bool false) (zk (zk (zk ?_)))))))))))))))))))))))
   refine zk (zk (zv (.bool false) (zv (.bool false) (zk (zk (zk (zk (zk (zv (.bool false) (zv (.bool false) (zk (zk (zk (zk (zk (zv (.bool false) (zv (.bool false) (wl_nil (then_at rfl (wp_ret ?_))))))))))))))))))))
   repeat first|refine tr ?_|refine block_ret ?_
   exact bodyPost_ret (v := .bool false) ky rfl ⟨by rw [(show sameC a b = false from by unfold sameC; rw [q7, q8, q9]; first | done | rfl)], h6.old.old⟩}
  refine zu (.bool true) (run_eqZ (k := .i64) (a := a.dv) (b := b.dv) ky ky true q9) (zv (.bool true) (zv (.bool true) (zv (.pointer (some ⟨q1, 3, none⟩)) (zu (.agg #[.int .i64 a.li.u, .int .i64 a.li.v, .string a.li.ac, .slice o a.li.ds.length k, .string a.li.sg]) (run_load_part (q := q1) (off := 3) (d := #[.int .i64 a.li.u, .int .i64 a.li.v, .string a.li.ac, .slice o a.li.ds.length k, .string a.li.sg]) ky (h6.get 1 rfl) Try.underlying25 rfl ky (by intro j hj; match j, hj with | 0, _ => rfl | 1, _ => rfl | 2, _ => rfl | 3, _ => rfl | 4, _ => rfl)) (zv (.pointer (some ⟨q4, 3, none⟩)) (zu (.agg #[.int .i64 b.li.u, .int .i64 b.li.v, .string b.li.ac, .slice o2 b.li.ds.length k2, .string b.li.sg]) (run_load_part (q := q4) (off := 3) (d := #[.int .i64 b.li.u, .int .i64 b.li.v, .string b.li.ac, .slice o2 b.li.ds.length k2, .string b.li.sg]) ky (h6.get 0 rfl) Try.underlying25 rfl ky (by intro j hj; match j, hj with | 0, _ => rfl | 1, _ => rfl | 2, _ => rfl | 3, _ => rfl | 4, _ => rfl)) ?_))))))
  rcases q10 : sameL a.li b.li with _ | _
  {refine zl (.bool false) h6 enter16 #[.agg #[.int .i64 a.li.u, .int .i64 a.li.v, .string a.li.ac, .slice o a.li.ds.length k, .string a.li.sg], .agg #[.int .i64 b.li.u, .int .i64 b.li.v, .string b.li.ac, .slice o2 b.li.ds.length k2, .string b.li.sg]] (((sml_any a.li b.li (hP.keep h6.old.old) (hP2.keep h6.old.old) hl1).mono fun _ _ hh => ⟨by rw [hh.1, q10], hh.2⟩)) (fun w11 h12 => (zv (.bool false) (zv (.bool false) (zk (zk (zk (zk (zk (zv (.bool false) (zv (.bool false) (zk (zk (zk (zk (zk (zv (.bool false) (zv (.bool false) (zk (zk (zk (zk (zk (zv (.bool false) ?_)))))))))))))))))))))))
   refine zv (.bool false) (zk (zk (zk (zk (zk (zv (.bool false) (zv (.bool false) (zk (zk (zk (zk (zk (zv (.bool false) (zv (.bool false) (zk (zk (zk (zk (zk (zv (.bool false) (zv (.bool false) (zk (zk ?_)))))))))))))))))))))))
   refine zk (zk (zk (zv (.bool false) (zv (.bool false) (zk (zk (zk (zk (zk (zv (.bool false) (zv (.bool false) (wl_nil (then_at rfl (wp_ret ?_))))))))))))))
   repeat first|refine tr ?_|refine block_ret ?_
   exact bodyPost_ret (v := .bool false) ky rfl ⟨by rw [(show sameC a b = false from by unfold sameC; rw [q7, q8, q9, q10]; first | done | rfl)], h12.old.old⟩}
  refine zl (.bool true) h6 enter16 #[.agg #[.int .i64 a.li.u, .int .i64 a.li.v, .string a.li.ac, .slice o a.li.ds.length k, .string a.li.sg], .agg #[.int .i64 b.li.u, .int .i64 b.li.v, .string b.li.ac, .slice o2 b.li.ds.length k2, .string b.li.sg]] (((sml_any a.li b.li (hP.keep h6.old.old) (hP2.keep h6.old.old) hl1).mono fun _ _ hh => ⟨by rw [hh.1, q10], hh.2⟩)) (fun w13 h14 => (zv (.bool true) (zv (.bool true) (zv (.pointer (some ⟨q1, 8, none⟩)) (zu (.agg #[.int .i64 a.bu.u, .int .i64 a.bu.d, .string a.bu.sg, .string a.bu.dh, .int .i64 a.bu.pi, .string a.bu.pr, .string a.bu.ps, .int .i64 a.bu.oi, .string a.bu.on]) (run_load_part (q := q1) (off := 8) (d := #[.int .i64 a.bu.u, .int .i64 a.bu.d, .string a.bu.sg, .string a.bu.dh, .int .i64 a.bu.pi, .string a.bu.pr, .string a.bu.ps, .int .i64 a.bu.oi, .string a.bu.on]) ky (h14.get 1 rfl) Try.underlying27 rfl ky (by intro j hj; match j, hj with | 0, _ => rfl | 1, _ => rfl | 2, _ => rfl | 3, _ => rfl | 4, _ => rfl | 5, _ => rfl | 6, _ => rfl | 7, _ => rfl | 8, _ => rfl)) (zv (.pointer (some ⟨q4, 8, none⟩)) (zu (.agg #[.int .i64 b.bu.u, .int .i64 b.bu.d, .string b.bu.sg, .string b.bu.dh, .int .i64 b.bu.pi, .string b.bu.pr, .string b.bu.ps, .int .i64 b.bu.oi, .string b.bu.on]) (run_load_part (q := q4) (off := 8) (d := #[.int .i64 b.bu.u, .int .i64 b.bu.d, .string b.bu.sg, .string b.bu.dh, .int .i64 b.bu.pi, .string b.bu.pr, .string b.bu.ps, .int .i64 b.bu.oi, .string b.bu.on]) ky (h14.get 0 rfl) Try.underlying27 rfl ky (by intro j hj; match j, hj with | 0, _ => rfl | 1, _ => rfl | 2, _ => rfl | 3, _ => rfl | 4, _ => rfl | 5, _ => rfl | 6, _ => rfl | 7, _ => rfl | 8, _ => rfl)) ?_)))))))
  rcases q15 : decide ((a.bu : Bu) = b.bu) with _ | _
  {refine zu (.bool false) (run_eqB (a := a.bu) (b := b.bu) ky ky false q15) (zv (.bool false) (zv (.bool false) (zk (zk (zk (zk (zk (zv (.bool false) (zv (.bool false) (zk (zk (zk (zk (zk (zv (.bool false) (zv (.bool false) (zk (zk (zk (zk (zk (zv (.bool false) (zv (.bool false) ?_)))))))))))))))))))))))
   refine zk (zk (zk (zk (zk (zv (.bool false) (zv (.bool false) (zk (zk (zk (zk (zk (zv (.bool false) (zv (.bool false) (zk (zk (zk (zk (zk (zv (.bool false) (zv (.bool false) (zk (zk (zk ?_)))))))))))))))))))))))
   refine zk (zk (zv (.bool false) (zv (.bool false) (wl_nil (then_at rfl (wp_ret ?_))))))
   repeat first|refine tr ?_|refine block_ret ?_
   exact bodyPost_ret (v := .bool false) ky rfl ⟨by rw [(show sameC a b = false from by unfold sameC; rw [q7, q8, q9, q10, q15]; first | done | rfl)], h14.old.old⟩}
  refine zu (.bool true) (run_eqB (a := a.bu) (b := b.bu) ky ky true q15) (zv (.bool true) (zv (.bool true) (zv (.pointer (some ⟨q1, 17, none⟩)) (zu (.slice p a.on.length m) (run_load1 (fun w => Try.isAgg28 w) ky (((h14.get 1 rfl).cell 17).trans rfl)) (zv (.pointer (some ⟨q4, 17, none⟩)) (zu (.slice p2 b.on.length m2) (run_load1 (fun w => Try.isAgg28 w) ky (((h14.get 0 rfl).cell 17).trans rfl)) ?_))))))
  rcases q16 : decide (a.on = b.on) with _ | _
  {refine zl (.bool false) h14 enter41 #[.slice p a.on.length m, .slice p2 b.on.length m2] (((eqs_any a.on b.on (hQ.keep h14.old.old) (hQ2.keep h14.old.old) hl2).mono fun _ _ hh => ⟨by rw [hh.1, q16], hh.2⟩)) (fun w17 h18 => (zv (.bool false) (zv (.bool false) (zk (zk (zk (zk (zk (zv (.bool false) (zv (.bool false) (zk (zk (zk (zk (zk (zv (.bool false) (zv (.bool false) (zk (zk (zk (zk (zk (zv (.bool false) ?_)))))))))))))))))))))))
   refine zv (.bool false) (zk (zk (zk (zk (zk (zv (.bool false) (zv (.bool false) (zk (zk (zk (zk (zk (zv (.bool false) (zv (.bool false) (zk (zk (zk (zk (zk (zv (.bool false) (zv (.bool false) (wl_nil (then_at rfl (wp_ret ?_))))))))))))))))))))))))
   repeat first|refine tr ?_|refine block_ret ?_
   exact bodyPost_ret (v := .bool false) ky rfl ⟨by rw [(show sameC a b = false from by unfold sameC; rw [q7, q8, q9, q10, q15, q16]; first | done | rfl)], h18.old.old⟩}
  refine zl (.bool true) h14 enter41 #[.slice p a.on.length m, .slice p2 b.on.length m2] (((eqs_any a.on b.on (hQ.keep h14.old.old) (hQ2.keep h14.old.old) hl2).mono fun _ _ hh => ⟨by rw [hh.1, q16], hh.2⟩)) (fun w19 h20 => (zv (.bool true) (zv (.bool true) (zv (.pointer (some ⟨q1, 18, none⟩)) (zu (.int .i64 a.tt) (run_load1 (fun w => Try.isAgg3 w) ky (((h20.get 1 rfl).cell 18).trans rfl)) (zv (.pointer (some ⟨q4, 18, none⟩)) (zu (.int .i64 b.tt) (run_load1 (fun w => Try.isAgg3 w) ky (((h20.get 0 rfl).cell 18).trans rfl)) ?_)))))))
  rcases q21 : decide (a.tt = b.tt) with _ | _
  {refine zu (.bool false) (run_eqZ (k := .i64) (a := a.tt) (b := b.tt) ky ky false q21) (zv (.bool false) (zv (.bool false) (zk (zk (zk (zk (zk (zv (.bool false) (zv (.bool false) (zk (zk (zk (zk (zk (zv (.bool false) (zv (.bool false) (zk (zk (zk (zk (zk (zv (.bool false) (zv (.bool false) ?_)))))))))))))))))))))))
   refine zk (zk (zk (zk (zk (zv (.bool false) (zv (.bool false) (zk (zk (zk (zk (zk (zv (.bool false) (zv (.bool false) (wl_nil (then_at rfl (wp_ret ?_))))))))))))))))
   repeat first|refine tr ?_|refine block_ret ?_
   exact bodyPost_ret (v := .bool false) ky rfl ⟨by rw [(show sameC a b = false from by unfold sameC; rw [q7, q8, q9, q10, q15, q16, q21]; first | done | rfl)], h20.old.old⟩}
  refine zu (.bool true) (run_eqZ (k := .i64) (a := a.tt) (b := b.tt) ky ky true q21) (zv (.bool true) (zv (.bool true) (zv (.pointer (some ⟨q1, 19, none⟩)) (zu (iN .u64 a.no) (run_load1 (fun w => Try.isAgg22 w) ky (((h20.get 1 rfl).cell 19).trans rfl)) (zv (.pointer (some ⟨q4, 19, none⟩)) (zu (iN .u64 b.no) (run_load1 (fun w => Try.isAgg22 w) ky (((h20.get 0 rfl).cell 19).trans rfl)) ?_))))))
  rcases q22 : decide (a.no = b.no) with _ | _
  {refine zu (.bool false) (run_eqi (k := .u64) (a := a.no) (b := b.no) ky ky false q22) (zv (.bool false) (zv (.bool false) (zk (zk (zk (zk (zk (zv (.bool false) (zv (.bool false) (zk (zk (zk (zk (zk (zv (.bool false) (zv (.bool false) (zk (zk (zk (zk (zk (zv (.bool false) (zv (.bool false) ?_)))))))))))))))))))))))
   refine zk (zk (zk (zk (zk (zv (.bool false) (zv (.bool false) (wl_nil (then_at rfl (wp_ret ?_)))))))))
   repeat first|refine tr ?_|refine block_ret ?_
   exact bodyPost_ret (v := .bool false) ky rfl ⟨by rw [(show sameC a b = false from by unfold sameC; rw [q7, q8, q9, q10, q15, q16, q21, q22]; first | done | rfl)], h20.old.old⟩}
  refine zu (.bool true) (run_eqi (k := .u64) (a := a.no) (b := b.no) ky ky true q22) (zv (.bool true) (zv (.bool true) (zv (.pointer (some ⟨q1, 20, none⟩)) (zu (iN .u64 a.af) (run_load1 (fun w => Try.isAgg22 w) ky (((h20.get 1 rfl).cell 20).trans rfl)) (zv (.pointer (some ⟨q4, 20, none⟩)) (zu (iN .u64 b.af) (run_load1 (fun w => Try.isAgg22 w) ky (((h20.get 0 rfl).cell 20).trans rfl)) ?_))))))
  rcases q23 : decide (a.af = b.af) with _ | _
  {refine zu (.bool false) (run_eqi (k := .u64) (a := a.af) (b := b.af) ky ky false q23) (zv (.bool false) (zv (.bool false) (zk (zk (zk (zk (zk (zv (.bool false) (zv (.bool false) (zk (zk (zk (zk (zk (zv (.bool false) (zv (.bool false) (zk (zk (zk (zk (zk (zv (.bool false) (zv (.bool false) ?_)))))))))))))))))))))))
   refine wl_nil (then_at rfl (wp_ret ?_))
   repeat first|refine tr ?_|refine block_ret ?_
   exact bodyPost_ret (v := .bool false) ky rfl ⟨by rw [(show sameC a b = false from by unfold sameC; rw [q7, q8, q9, q10, q15, q16, q21, q22, q23]; first | done | rfl)], h20.old.old⟩}
  refine zu (.bool true) (run_eqi (k := .u64) (a := a.af) (b := b.af) ky ky true q23) (zv (.bool true) (zv (.bool true) (zv (.pointer (some ⟨q1, 21, none⟩)) (zu (.string a.nm) (run_load1 (fun w => Try.isAgg9 w) ky (((h20.get 1 rfl).cell 21).trans rfl)) (zv (.pointer (some ⟨q4, 21, none⟩)) (zu (.string b.nm) (run_load1 (fun w => Try.isAgg9 w) ky (((h20.get 0 rfl).cell 21).trans rfl)) ?_))))))
  rcases q24 : decide (a.nm = b.nm) with _ | _
  {refine zu (.bool false) (run_eqs (s := a.nm) (t := b.nm) ky ky false q24) (zv (.bool false) (zv (.bool false) (zk (zk (zk (zk (zk (zv (.bool false) (zv (.bool false) (zk (zk (zk (zk (zk (zv (.bool false) (zv (.bool false) (wl_nil (then_at rfl (wp_ret ?_)))))))))))))))))))
   repeat first|refine tr ?_|refine block_ret ?_
   exact bodyPost_ret (v := .bool false) ky rfl ⟨by rw [(show sameC a b = false from by unfold sameC; rw [q7, q8, q9, q10, q15, q16, q21, q22, q23, q24]; first | done | rfl)], h20.old.old⟩}
  refine zu (.bool true) (run_eqs (s := a.nm) (t := b.nm) ky ky true q24) (zv (.bool true) (zv (.bool true) (zv (.pointer (some ⟨q1, 22, none⟩)) (zu (.int .i64 a.ix) (run_load1 (fun w => Try.isAgg3 w) ky (((h20.get 1 rfl).cell 22).trans rfl)) (zv (.pointer (some ⟨q4, 22, none⟩)) (zu (.int .i64 b.ix) (run_load1 (fun w => Try.isAgg3 w) ky (((h20.get 0 rfl).cell 22).trans rfl)) ?_))))))
  rcases q25 : decide (a.ix = b.ix) with _ | _
  {refine zu (.bool false) (run_eqZ (k := .i64) (a := a.ix) (b := b.ix) ky ky false q25) (zv (.bool false) (zv (.bool false) (zk (zk (zk (zk (zk (zv (.bool false) (zv (.bool false) (wl_nil (then_at rfl (wp_ret ?_))))))))))))
   repeat first|refine tr ?_|refine block_ret ?_
   exact bodyPost_ret (v := .bool false) ky rfl ⟨by rw [(show sameC a b = false from by unfold sameC; rw [q7, q8, q9, q10, q15, q16, q21, q22, q23, q24, q25]; first | done | rfl)], h20.old.old⟩}
  refine zu (.bool true) (run_eqZ (k := .i64) (a := a.ix) (b := b.ix) ky ky true q25) (zv (.bool true) (zv (.bool true) (zv (.pointer (some ⟨q1, 23, none⟩)) (zu (.string a.bt) (run_load1 (fun w => Try.isAgg9 w) ky (((h20.get 1 rfl).cell 23).trans rfl)) (zv (.pointer (some ⟨q4, 23, none⟩)) (zu (.string b.bt) (run_load1 (fun w => Try.isAgg9 w) ky (((h20.get 0 rfl).cell 23).trans rfl)) ?_))))))
  rcases q26 : decide (a.bt = b.bt) with _ | _
  {refine zu (.bool false) (run_eqs (s := a.bt) (t := b.bt) ky ky false q26) (zv (.bool false) (zv (.bool false) (wl_nil (then_at rfl (wp_ret ?_)))))
   repeat first|refine tr ?_|refine block_ret ?_
   exact bodyPost_ret (v := .bool false) ky rfl ⟨by rw [(show sameC a b = false from by unfold sameC; rw [q7, q8, q9, q10, q15, q16, q21, q22, q23, q24, q25, q26]; first | done | rfl)], h20.old.old⟩}
  refine zu (.bool true) (run_eqs (s := a.bt) (t := b.bt) ky ky true q26) (zv (.bool true) (zv (.bool true) (wl_nil (then_at rfl (wp_ret ?_)))))
  repeat first|refine tr ?_|refine block_ret ?_
  exact bodyPost_ret (v := .bool true) ky rfl ⟨by rw [(show sameC a b = true from by unfold sameC; rw [q7, q8, q9, q10, q15, q16, q21, q22, q23, q24, q25, q26]; first | done | rfl)], h20.old.old⟩
/-- may a call be? -/
def mayC (c : Ca) : Bool := bif decide (c.kd = 2) then ((wi c.dv 0 1 && wi c.us 0 2) && sameC c ⟨c.kd, c.us, c.dv, ⟨0, 0, { data := #[] }, [], { data := #[] }⟩, ⟨0, 0, { data := #[] }, { data := #[] }, 0, { data := #[] }, { data := #[] }, 0, { data := #[] }⟩, [], 0, 0, 0, { data := #[] }, 0, { data := #[] }⟩) else bif decide (c.kd = 1) then (wi c.us 0 2 && sameC c ⟨c.kd, c.us, 0, ⟨0, 0, { data := #[] }, [], { data := #[] }⟩, ⟨0, 0, { data := #[] }, { data := #[] }, 0, { data := #[] }, { data := #[] }, 0, { data := #[] }⟩, [], 0, 0, 0, { data := #[] }, 0, { data := #[] }⟩) else bif decide (c.kd = 3) then (mayL c.li && sameC c ⟨c.kd, 0, 0, c.li, ⟨0, 0, { data := #[] }, { data := #[] }, 0, { data := #[] }, { data := #[] }, 0, { data := #[] }⟩, [], 0, 0, 0, { data := #[] }, 0, { data := #[] }⟩) else bif decide (c.kd = 4) then ((!decide ((encA c.bu).1 = { data := #[] }) && decide (c.bu.oi = 0) && wi c.ix 1 1073741824 && decide (c.on.length ≤ 20) && c.on.all kk) && sameC c ⟨c.kd, 0, 0, ⟨0, 0, { data := #[] }, [], { data := #[] }⟩, c.bu, c.on, 0, 0, 0, { data := #[] }, c.ix, { data := #[] }⟩) else bif decide (c.kd = 5) then ((isD c.tt && wn c.no 1 1099511627776 && wi ((c.bt.size : Nat) : Int) 1 4096) && sameC c ⟨c.kd, 0, 0, ⟨0, 0, { data := #[] }, [], { data := #[] }⟩, ⟨0, 0, { data := #[] }, { data := #[] }, 0, { data := #[] }, { data := #[] }, 0, { data := #[] }⟩, [], c.tt, c.no, 0, { data := #[] }, 0, c.bt⟩) else bif (decide (c.kd = 6) || decide (c.kd = 7)) then (wn c.af 0 1099511627776 && sameC c ⟨c.kd, 0, 0, ⟨0, 0, { data := #[] }, [], { data := #[] }⟩, ⟨0, 0, { data := #[] }, { data := #[] }, 0, { data := #[] }, { data := #[] }, 0, { data := #[] }⟩, [], 0, 0, c.af, { data := #[] }, 0, { data := #[] }⟩) else bif decide (c.kd = 8) then ((wi ((c.bt.size : Nat) : Int) 1 4096 && wi ((c.nm.size : Nat) : Int) 1 40 && wi c.ix 0 63) && sameC c ⟨c.kd, 0, 0, ⟨0, 0, { data := #[] }, [], { data := #[] }⟩, ⟨0, 0, { data := #[] }, { data := #[] }, 0, { data := #[] }, { data := #[] }, 0, { data := #[] }⟩, [], 0, 0, 0, c.nm, c.ix, c.bt⟩) else bif decide (c.kd = 9) then ((wi ((c.nm.size : Nat) : Int) 1 40 && wi c.ix 0 63) && sameC c ⟨c.kd, 0, 0, ⟨0, 0, { data := #[] }, [], { data := #[] }⟩, ⟨0, 0, { data := #[] }, { data := #[] }, 0, { data := #[] }, { data := #[] }, 0, { data := #[] }⟩, [], 0, 0, 0, c.nm, c.ix, { data := #[] }⟩) else false
set_option maxHeartbeats 8000000 in
theorem mayC_any {w : World} (c : Ca) {o p : Option Addr} {k m : Nat} (hP : At w o (mcl c.li.ds)) (hQ : At w p (scl c.on)) (hl1 : c.li.ds.length ≤ 1000000) (hl2 : c.on.length ≤ 1000000) :
    Calls Try.prog 33 #[.agg (caC c (.slice o c.li.ds.length k) (.slice p c.on.length m))] w fun e w' => e = .returned (.bool (mayC c)) ∧ Below w.heap.size w w' := by
  have H0 := HA.start w
  go_enter Try.func33, Try.ntmps33
  refine wp_seq (wl_region (wl_make (c := caC c (.slice o c.li.ds.length k) (.slice p c.on.length m)) H0 30 ky ky ?_))
  intro q1 w2 (h3 : HA (bs w) [(q1, 30, caC c (.slice o c.li.ds.length k) (.slice p c.on.length m))] w2)
  refine zv (.bool false) (wl_nil (then_at rfl (wp_seq (wl_region (zv (.pointer (some ⟨q1, 0, none⟩)) (zu (.int .i64 c.kd) (run_load1 (fun w => Try.isAgg3 w) ky (((h3.get 0 rfl).cell 0).trans rfl)) (zv (.agg #[.int .i64 c.kd, iN .i64 0, iN .i64 0, iN .i64 0, iN .i64 0, .string ({ data := #[] }), .slice none 0 0, .string ({ data := #[] }), iN .i64 0, iN .i64 0, .string ({ data := #[] }), .string ({ data := #[] }), iN .i64 0, .string ({ data := #[] }), .string ({ data := #[] }), iN .i64 0, .string ({ data := #[] }), .slice none 0 0, iN .i64 0, iN .u64 0, iN .u64 0, .string ({ data := #[] }), iN .i64 0, .string ({ data := #[] })]) (wl_make (c := #[iN .i64 0, iN .i64 0, iN .i64 0, iN .i64 0, iN .i64 0, .string ({ data := #[] }), .slice none 0 0, .string ({ data := #[] }), iN .i64 0, iN .i64 0, .string ({ data := #[] }), .string ({ data := #[] }), iN .i64 0, .string ({ data := #[] }), .string ({ data := #[] }), iN .i64 0, .string ({ data := #[] }), .slice none 0 0, iN .i64 0, iN .u64 0, iN .u64 0, .string ({ data := #[] }), iN .i64 0, .string ({ data := #[] })]) h3 30 ky ky ?_))))))))
  intro q4 w5 (h6 : HA (bs w) [(q4, 30, #[iN .i64 0, iN .i64 0, iN .i64 0, iN .i64 0, iN .i64 0, .string ({ data := #[] }), .slice none 0 0, .string ({ data := #[] }), iN .i64 0, iN .i64 0, .string ({ data := #[] }), .string ({ data := #[] }), iN .i64 0, .string ({ data := #[] }), .string ({ data := #[] }), iN .i64 0, .string ({ data := #[] }), .slice none 0 0, iN .i64 0, iN .u64 0, iN .u64 0, .string ({ data := #[] }), iN .i64 0, .string ({ data := #[] })]), (q1, 30, caC c (.slice o c.li.ds.length k) (.slice p c.on.length m))] w5)
  refine wl_fill (c' := #[.int .i64 c.kd, iN .i64 0, iN .i64 0, iN .i64 0, iN .i64 0, .string ({ data := #[] }), .slice none 0 0, .string ({ data := #[] }), iN .i64 0, iN .i64 0, .string ({ data := #[] }), .string ({ data := #[] }), iN .i64 0, .string ({ data := #[] }), .string ({ data := #[] }), iN .i64 0, .string ({ data := #[] }), .slice none 0 0, iN .i64 0, iN .u64 0, iN .u64 0, .string ({ data := #[] }), iN .i64 0, .string ({ data := #[] })]) h6 0 rfl ky ky ky rfl ky ky (fun w7 h8 => (zv (.bool true) (wl_nil (then_at rfl (wp_seq ?_)))))
  refine wp_meet (fun AQ w' => ∃ (hd : Ca) (okb : Bool) (o2 : Option Addr) (k2 : Nat) (p2 : Option Addr) (m2 : Nat) (u9 : Nat → Value), AQ = ⟨(.agg (caC c (.slice o c.li.ds.length k) (.slice p c.on.length m)) :: pt q1 :: u9 2 :: pt q4 :: .bool okb :: pt q1 :: .int .i64 c.kd :: .agg #[.int .i64 c.kd, iN .i64 0, iN .i64 0, iN .i64 0, iN .i64 0, .string ({ data := #[] }), .slice none 0 0, .string ({ data := #[] }), iN .i64 0, iN .i64 0, .string ({ data := #[] }), .string ({ data := #[] }), iN .i64 0, .string ({ data := #[] }), .string ({ data := #[] }), iN .i64 0, .string ({ data := #[] }), .slice none 0 0, iN .i64 0, iN .u64 0, iN .u64 0, .string ({ data := #[] }), iN .i64 0, .string ({ data := #[] })] :: u9 8 :: u9 9 :: u9 10 :: u9 11 :: u9 12 :: u9 13 :: u9 14 :: u9 15 :: u9 16 :: u9 17 :: u9 18 :: u9 19 :: u9 20 :: u9 21 :: u9 22 :: u9 23 :: u9 24 :: u9 25 :: u9 26 :: u9 27 :: u9 28 :: u9 29 :: u9 30 :: u9 31 :: u9 32 :: u9 33 :: u9 34 :: u9 35 :: u9 36 :: u9 37 :: u9 38 :: u9 39 :: u9 40 :: u9 41 :: u9 42 :: u9 43 :: u9 44 :: u9 45 :: u9 46 :: u9 47 :: u9 48 :: u9 49 :: u9 50 :: u9 51 :: u9 52 :: u9 53 :: u9 54 :: u9 55 :: u9 56 :: u9 57 :: u9 58 :: u9 59 :: u9 60 :: u9 61 :: u9 62 :: u9 63 :: u9 64 :: u9 65 :: u9 66 :: u9 67 :: u9 68 :: u9 69 :: u9 70 :: u9 71 :: u9 72 :: u9 73 :: u9 74 :: u9 75 :: u9 76 :: u9 77 :: u9 78 :: u9 79 :: u9 80 :: u9 81 :: u9 82 :: u9 83 :: u9 84 :: u9 85 :: u9 86 :: u9 87 :: u9 88 :: u9 89 :: u9 90 :: u9 91 :: u9 92 :: u9 93 :: u9 94 :: u9 95 :: u9 96 :: u9 97 :: u9 98 :: u9 99 :: u9 100 :: u9 101 :: u9 102 :: u9 103 :: u9 104 :: u9 105 :: u9 106 :: u9 107 :: u9 108 :: u9 109 :: u9 110 :: u9 111 :: u9 112 :: u9 113 :: u9 114 :: u9 115 :: u9 116 :: u9 117 :: u9 118 :: u9 119 :: u9 120 :: u9 121 :: u9 122 :: u9 123 :: u9 124 :: u9 125 :: u9 126 :: u9 127 :: u9 128 :: u9 129 :: u9 130 :: u9 131 :: u9 132 :: u9 133 :: u9 134 :: u9 135 :: u9 136 :: u9 137 :: List.replicate 6 un).toArray, []⟩ ∧ mayC c = (okb && sameC c hd) ∧ At w o2 (mcl hd.li.ds) ∧ At w p2 (scl hd.on) ∧ HA (bs w) [(q4, 30, caC hd (.slice o2 hd.li.ds.length k2) (.slice p2 hd.on.length m2)), (q1, 30, caC c (.slice o c.li.ds.length k) (.slice p c.on.length m))] w') ?_ ?_
  {refine wp_seq (wl_region (zv (.pointer (some ⟨q1, 0, none⟩)) (zu (.int .i64 c.kd) (run_load1 (fun w => Try.isAgg3 w) ky (((h8.get 1 rfl).cell 0).trans rfl)) (wl_nil (then_at rfl (wp_block (wp_seq (wp_block (wp_seq (wp_block (wp_seq (wp_block (wp_seq (wp_block (wp_seq (wp_block (wp_seq (wp_block (wp_seq (wp_block (wp_seq (wp_block (wp_seq (wp_block (wp_seq (wp_seq (wp_seq (wl_region ?_))))))))))))))))))))))))))))
   rcases q10 : decide (c.kd = 2) with _ | _; rotate_left
   {refine zu (.bool true) (run_eqZ (k := .i64) (a := c.kd) (b := 2) ky ky true q10) (zv (.bool true) (wl_nil (then_at rfl (wp_cond_true ky ?_))))
    refine wp_exit ?_
    repeat first | refine then_exit ?_ | refine block_exit ?_ | refine block_exit_ne (by decide) ?_
    refine then_at rfl (wp_seq (wl_region ?_))
    refine zv (.pointer (some ⟨q1, 2, none⟩)) (zu (.int .i64 c.dv) (run_load1 (fun w => Try.isAgg3 w) ky (((h8.get 1 rfl).cell 2).trans rfl)) (zv (.pointer (some ⟨q4, 2, none⟩)) (wl_putv (v := .int .i64 c.dv) h8 0 rfl 2 (by show 2 < 24; decide) ky (fun w => Try.sizeOf3 w) ky ky ky (fun w11 h12 => (wl_nil (then_at rfl (wl_region (zv (.pointer (some ⟨q1, 2, none⟩)) (zu (.int .i64 c.dv) (run_load1 (fun w => Try.isAgg3 w) ky (((h12.get 1 rfl).cell 2).trans rfl)) ?_)))))))))
    rcases q13 : wi c.dv 0 1 with _ | _
    {refine zl (.bool false) h12 enter42 _ (((wi_any c.dv 0 1).mono fun _ _ hh => ⟨by rw [hh.1, q13], hh.2⟩)) (fun w14 h15 => (zv (.bool false) (wl_nil (block_normal (then_at rfl (wp_seq (wp_seq (wl_region (zv (.pointer (some ⟨q1, 1, none⟩)) (zu (.int .i64 c.us) (run_load1 (fun w => Try.isAgg3 w) ky (((h15.get 1 rfl).cell 1).trans rfl)) (zv (.pointer (some ⟨q4, 1, none⟩)) (wl_putv (v := .int .i64 c.us) h15 0 rfl 1 (by show 1 < 24; decide) ky (fun w => Try.sizeOf3 w) ky ky ky (fun w16 h17 => (wl_nil (then_at rfl (wl_region (zv (.bool false) (zv (.bool false) (zk (zk (zk (zv (.bool false) (zv (.bool false) (wl_nil (then_at rfl ?_)))))))))))))))))))))))))
     refine wp_exit ?_
     repeat first | refine then_exit ?_ | refine block_exit ?_ | refine block_exit_ne (by decide) ?_
     exact then_I ⟨⟨c.kd, c.us, c.dv, ⟨0, 0, { data := #[] }, [], { data := #[] }⟩, ⟨0, 0, { data := #[] }, { data := #[] }, 0, { data := #[] }, { data := #[] }, 0, { data := #[] }⟩, [], 0, 0, 0, { data := #[] }, 0, { data := #[] }⟩, false, none, 0, none, 0, exu ky ⟨(by unfold mayC; rw [q10, q13]; rfl), (At.nil _), (At.nil _), h17⟩⟩}
    refine zl (.bool true) h12 enter42 _ (((wi_any c.dv 0 1).mono fun _ _ hh => ⟨by rw [hh.1, q13], hh.2⟩)) (fun w18 h19 => (zv (.bool true) (wl_nil (block_normal (then_at rfl (wp_seq (wp_seq (wl_region (zv (.pointer (some ⟨q1, 1, none⟩)) (zu (.int .i64 c.us) (run_load1 (fun w => Try.isAgg3 w) ky (((h19.get 1 rfl).cell 1).trans rfl)) (zv (.pointer (some ⟨q4, 1, none⟩)) (wl_putv (v := .int .i64 c.us) h19 0 rfl 1 (by show 1 < 24; decide) ky (fun w => Try.sizeOf3 w) ky ky ky (fun w20 h21 => (wl_nil (then_at rfl (wl_region (zv (.bool true) (zv (.bool true) (zv (.pointer (some ⟨q1, 1, none⟩)) (zu (.int .i64 c.us) (run_load1 (fun w => Try.isAgg3 w) ky (((h21.get 1 rfl).cell 1).trans rfl)) ?_))))))))))))))))))))
    rcases q22 : wi c.us 0 2 with _ | _
    {refine zl (.bool false) h21 enter42 _ (((wi_any c.us 0 2).mono fun _ _ hh => ⟨by rw [hh.1, q22], hh.2⟩)) (fun w23 h24 => (zv (.bool false) (zv (.bool false) (wl_nil (then_at rfl ?_)))))
     refine wp_exit ?_
     repeat first | refine then_exit ?_ | refine block_exit ?_ | refine block_exit_ne (by decide) ?_
     exact then_I ⟨⟨c.kd, c.us, c.dv, ⟨0, 0, { data := #[] }, [], { data := #[] }⟩, ⟨0, 0, { data := #[] }, { data := #[] }, 0, { data := #[] }, { data := #[] }, 0, { data := #[] }⟩, [], 0, 0, 0, { data := #[] }, 0, { data := #[] }⟩, false, none, 0, none, 0, exu ky ⟨(by unfold mayC; rw [q10, q13, q22]; rfl), (At.nil _), (At.nil _), h24⟩⟩}
    refine zl (.bool true) h21 enter42 _ (((wi_any c.us 0 2).mono fun _ _ hh => ⟨by rw [hh.1, q22], hh.2⟩)) (fun w25 h26 => (zv (.bool true) (zv (.bool true) (wl_nil (then_at rfl ?_)))))
    refine wp_exit ?_
    repeat first | refine then_exit ?_ | refine block_exit ?_ | refine block_exit_ne (by decide) ?_
    exact then_I ⟨⟨c.kd, c.us, c.dv, ⟨0, 0, { data := #[] }, [], { data := #[] }⟩, ⟨0, 0, { data := #[] }, { data := #[] }, 0, { data := #[] }, { data := #[] }, 0, { data := #[] }⟩, [], 0, 0, 0, { data := #[] }, 0, { data := #[] }⟩, true, none, 0, none, 0, exu ky ⟨(by unfold mayC; rw [q10, q13, q22]; rfl), (At.nil _), (At.nil _), h26⟩⟩}
   refine zu (.bool false) (run_eqZ (k := .i64) (a := c.kd) (b := 2) ky ky false q10) (zv (.bool false) (wl_nil (then_at rfl (wp_cond_false ky (wp_skip (then_at rfl (wp_seq (wp_seq (wl_region ?_)))))))))
   rcases q27 : decide (c.kd = 1) with _ | _; rotate_left
   {refine zu (.bool true) (run_eqZ (k := .i64) (a := c.kd) (b := 1) ky ky true q27) (zv (.bool true) (wl_nil (then_at rfl (wp_cond_true ky ?_))))
    refine wp_exit ?_
    repeat first | refine then_exit ?_ | refine block_exit ?_ | refine block_exit_ne (by decide) ?_
    refine then_at rfl (wp_seq (wp_seq (wl_region ?_)))
    refine zv (.pointer (some ⟨q1, 1, none⟩)) (zu (.int .i64 c.us) (run_load1 (fun w => Try.isAgg3 w) ky (((h8.get 1 rfl).cell 1).trans rfl)) (zv (.pointer (some ⟨q4, 1, none⟩)) (wl_putv (v := .int .i64 c.us) h8 0 rfl 1 (by show 1 < 24; decide) ky (fun w => Try.sizeOf3 w) ky ky ky (fun w28 h29 => (wl_nil (then_at rfl (wl_region (zv (.bool true) (zv (.bool true) (zv (.pointer (some ⟨q1, 1, none⟩)) (zu (.int .i64 c.us) (run_load1 (fun w => Try.isAgg3 w) ky (((h29.get 1 rfl).cell 1).trans rfl)) ?_)))))))))))
    rcases q30 : wi c.us 0 2 with _ | _
    {refine zl (.bool false) h29 enter42 _ (((wi_any c.us 0 2).mono fun _ _ hh => ⟨by rw [hh.1, q30], hh.2⟩)) (fun w31 h32 => (zv (.bool false) (zv (.bool false) (wl_nil (then_at rfl ?_)))))
     refine wp_exit ?_
     repeat first | refine then_exit ?_ | refine block_exit ?_ | refine block_exit_ne (by decide) ?_
     exact then_I ⟨⟨c.kd, c.us, 0, ⟨0, 0, { data := #[] }, [], { data := #[] }⟩, ⟨0, 0, { data := #[] }, { data := #[] }, 0, { data := #[] }, { data := #[] }, 0, { data := #[] }⟩, [], 0, 0, 0, { data := #[] }, 0, { data := #[] }⟩, false, none, 0, none, 0, exu ky ⟨(by unfold mayC; rw [q10, q27, q30]; rfl), (At.nil _), (At.nil _), h32⟩⟩}
    refine zl (.bool true) h29 enter42 _ (((wi_any c.us 0 2).mono fun _ _ hh => ⟨by rw [hh.1, q30], hh.2⟩)) (fun w33 h34 => (zv (.bool true) (zv (.bool true) (wl_nil (then_at rfl ?_)))))
    refine wp_exit ?_
    repeat first | refine then_exit ?_ | refine block_exit ?_ | refine block_exit_ne (by decide) ?_
    exact then_I ⟨⟨c.kd, c.us, 0, ⟨0, 0, { data := #[] }, [], { data := #[] }⟩, ⟨0, 0, { data := #[] }, { data := #[] }, 0, { data := #[] }, { data := #[] }, 0, { data := #[] }⟩, [], 0, 0, 0, { data := #[] }, 0, { data := #[] }⟩, true, none, 0, none, 0, exu ky ⟨(by unfold mayC; rw [q10, q27, q30]; rfl), (At.nil _), (At.nil _), h34⟩⟩}
   refine zu (.bool false) (run_eqZ (k := .i64) (a := c.kd) (b := 1) ky ky false q27) (zv (.bool false) (wl_nil (then_at rfl (wp_cond_false ky (wp_skip (then_at rfl (wp_seq (wp_seq (wl_region ?_)))))))))
   rcases q35 : decide (c.kd = 3) with _ | _; rotate_left
   {refine zu (.bool true) (run_eqZ (k := .i64) (a := c.kd) (b := 3) ky ky true q35) (zv (.bool true) (wl_nil (then_at rfl (wp_cond_true ky ?_))))
    refine wp_exit ?_
    repeat first | refine then_exit ?_ | refine block_exit ?_ | refine block_exit_ne (by decide) ?_
    refine then_at rfl (wp_seq (wp_seq (wl_region ?_)))
    refine zv (.pointer (some ⟨q1, 3, none⟩)) (zu (.agg #[.int .i64 c.li.u, .int .i64 c.li.v, .string c.li.ac, .slice o c.li.ds.length k, .string c.li.sg]) (run_load_part (q := q1) (off := 3) (d := #[.int .i64 c.li.u, .int .i64 c.li.v, .string c.li.ac, .slice o c.li.ds.length k, .string c.li.sg]) ky (h8.get 1 rfl) Try.underlying25 rfl ky (by intro j hj; match j, hj with | 0, _ => rfl | 1, _ => rfl | 2, _ => rfl | 3, _ => rfl | 4, _ => rfl)) (zv (.pointer (some ⟨q4, 3, none⟩)) (wl_puts (d := #[.int .i64 c.li.u, .int .i64 c.li.v, .string c.li.ac, .slice o c.li.ds.length k, .string c.li.sg]) (c' := #[.int .i64 c.kd, iN .i64 0, iN .i64 0, .int .i64 c.li.u, .int .i64 c.li.v, .string c.li.ac, .slice o c.li.ds.length k, .string c.li.sg, iN .i64 0, iN .i64 0, .string ({ data := #[] }), .string ({ data := #[] }), iN .i64 0, .string ({ data := #[] }), .string ({ data := #[] }), iN .i64 0, .string ({ data := #[] }), .slice none 0 0, iN .i64 0, iN .u64 0, iN .u64 0, .string ({ data := #[] }), iN .i64 0, .string ({ data := #[] })]) h8 0 rfl (off := 3) ky ky ky ky ky ky ky (fun w36 h37 => (wl_nil (then_at rfl (wl_region (zv (.pointer (some ⟨q1, 3, none⟩)) (zu (.agg #[.int .i64 c.li.u, .int .i64 c.li.v, .string c.li.ac, .slice o c.li.ds.length k, .string c.li.sg]) (run_load_part (q := q1) (off := 3) (d := #[.int .i64 c.li.u, .int .i64 c.li.v, .string c.li.ac, .slice o c.li.ds.length k, .string c.li.sg]) ky (h37.get 1 rfl) Try.underlying25 rfl ky (by intro j hj; match j, hj with | 0, _ => rfl | 1, _ => rfl | 2, _ => rfl | 3, _ => rfl | 4, _ => rfl)) ?_)))))))))
    rcases q38 : mayL c.li with _ | _
    {refine zl (iN .i64 2) h37 enter14 #[.agg #[.int .i64 c.li.u, .int .i64 c.li.v, .string c.li.ac, .slice o c.li.ds.length k, .string c.li.sg]] (((chk_any c.li (hP.keep h37.old.old)).mono fun _ _ hh => ⟨by rw [hh.1, show chkL c.li = 2 from by unfold chkL; rw [q38]; rfl], hh.2⟩)) (fun w39 h40 => (zu (.bool false) (run_eqi (k := .i64) (a := 2) (b := 0) ky ky false (by decide)) (zv (.bool false) (wl_nil (then_at rfl ?_)))))
     refine wp_exit ?_
     repeat first | refine then_exit ?_ | refine block_exit ?_ | refine block_exit_ne (by decide) ?_
     exact then_I ⟨⟨c.kd, 0, 0, c.li, ⟨0, 0, { data := #[] }, { data := #[] }, 0, { data := #[] }, { data := #[] }, 0, { data := #[] }⟩, [], 0, 0, 0, { data := #[] }, 0, { data := #[] }⟩, false, o, k, none, 0, exu ky ⟨(by unfold mayC; rw [q10, q27, q35, q38]; rfl), hP, (At.nil _), h40⟩⟩}
    refine zl (iN .i64 0) h37 enter14 #[.agg #[.int .i64 c.li.u, .int .i64 c.li.v, .string c.li.ac, .slice o c.li.ds.length k, .string c.li.sg]] (((chk_any c.li (hP.keep h37.old.old)).mono fun _ _ hh => ⟨by rw [hh.1, show chkL c.li = 0 from by unfold chkL; rw [q38]; rfl], hh.2⟩)) (fun w41 h42 => (zu (.bool true) (run_eqi (k := .i64) (a := 0) (b := 0) ky ky true (by decide)) (zv (.bool true) (wl_nil (then_at rfl ?_)))))
    refine wp_exit ?_
    repeat first | refine then_exit ?_ | refine block_exit ?_ | refine block_exit_ne (by decide) ?_
    exact then_I ⟨⟨c.kd, 0, 0, c.li, ⟨0, 0, { data := #[] }, { data := #[] }, 0, { data := #[] }, { data := #[] }, 0, { data := #[] }⟩, [], 0, 0, 0, { data := #[] }, 0, { data := #[] }⟩, true, o, k, none, 0, exu ky ⟨(by unfold mayC; rw [q10, q27, q35, q38]; rfl), hP, (At.nil _), h42⟩⟩}
   refine zu (.bool false) (run_eqZ (k := .i64) (a := c.kd) (b := 3) ky ky false q35) (zv (.bool false) (wl_nil (then_at rfl (wp_cond_false ky (wp_skip (then_at rfl (wp_seq (wp_seq (wl_region ?_)))))))))
   rcases q43 : decide (c.kd = 4) with _ | _; rotate_left
   {refine zu (.bool true) (run_eqZ (k := .i64) (a := c.kd) (b := 4) ky ky true q43) (zv (.bool true) (wl_nil (then_at rfl (wp_cond_true ky ?_))))
    refine wp_exit ?_
    repeat first | refine then_exit ?_ | refine block_exit ?_ | refine block_exit_ne (by decide) ?_
    refine then_at rfl (wp_seq (wp_seq ?_))
    refine wp_region_wx (fun w' => Blk w' q1 30 (caC c (.slice o c.li.ds.length k) (.slice p c.on.length m))) (fun AQ w' => AQ = ⟨(.agg (caC c (.slice o c.li.ds.length k) (.slice p c.on.length m)) :: pt q1 :: .bool false :: pt q4 :: .bool true :: pt q1 :: .int .i64 c.kd :: .agg #[.int .i64 c.kd, iN .i64 0, iN .i64 0, iN .i64 0, iN .i64 0, .string ({ data := #[] }), .slice none 0 0, .string ({ data := #[] }), iN .i64 0, iN .i64 0, .string ({ data := #[] }), .string ({ data := #[] }), iN .i64 0, .string ({ data := #[] }), .string ({ data := #[] }), iN .i64 0, .string ({ data := #[] }), .slice none 0 0, iN .i64 0, iN .u64 0, iN .u64 0, .string ({ data := #[] }), iN .i64 0, .string ({ data := #[] })] :: pt q1 :: .int .i64 c.kd :: .bool false :: .bool false :: .bool false :: .bool false :: .bool false :: .bool false :: .bool true :: .bool true :: un :: un :: un :: un :: un :: un :: un :: un :: un :: un :: un :: un :: un :: un :: un :: un :: un :: un :: un :: un :: un :: un :: un :: un :: un :: un :: un :: un :: un :: un :: un :: .pointer (some ⟨q1, 8, none⟩) :: .agg #[.int .i64 c.bu.u, .int .i64 c.bu.d, .string c.bu.sg, .string c.bu.dh, .int .i64 c.bu.pi, .string c.bu.pr, .string c.bu.ps, .int .i64 c.bu.oi, .string c.bu.on] :: .pointer (some ⟨q1, 22, none⟩) :: .int .i64 c.ix :: .pointer (some ⟨q1, 17, none⟩) :: .slice p c.on.length m :: .pointer (some ⟨q4, 8, none⟩) :: .pointer (some ⟨q4, 22, none⟩) :: .pointer (some ⟨q4, 17, none⟩) :: List.replicate 86 un).toArray, []⟩ ∧ HA (bs w) [(q4, 30, #[.int .i64 c.kd, iN .i64 0, iN .i64 0, iN .i64 0, iN .i64 0, .string ({ data := #[] }), .slice none 0 0, .string ({ data := #[] }), .int .i64 c.bu.u, .int .i64 c.bu.d, .string c.bu.sg, .string c.bu.dh, .int .i64 c.bu.pi, .string c.bu.pr, .string c.bu.ps, .int .i64 c.bu.oi, .string c.bu.on, .slice p c.on.length m, iN .i64 0, iN .u64 0, iN .u64 0, .string ({ data := #[] }), .int .i64 c.ix, .string ({ data := #[] })]), (q1, 30, caC c (.slice o c.li.ds.length k) (.slice p c.on.length m))] w') 12 ky ky ky ky ky ((h8.drew).get 1 rfl) ?_ ?_
    {have h44 := h8.drew
     refine zp 0 (.pointer (some ⟨q1, 8, none⟩)) (zx 1 (.agg #[.int .i64 c.bu.u, .int .i64 c.bu.d, .string c.bu.sg, .string c.bu.dh, .int .i64 c.bu.pi, .string c.bu.pr, .string c.bu.ps, .int .i64 c.bu.oi, .string c.bu.on]) rfl (fun w' h' => run_load_part (q := q1) (off := 8) (d := #[.int .i64 c.bu.u, .int .i64 c.bu.d, .string c.bu.sg, .string c.bu.dh, .int .i64 c.bu.pi, .string c.bu.pr, .string c.bu.ps, .int .i64 c.bu.oi, .string c.bu.on]) ky h' Try.underlying27 rfl ky (by intro j hj; match j, hj with | 0, _ => rfl | 1, _ => rfl | 2, _ => rfl | 3, _ => rfl | 4, _ => rfl | 5, _ => rfl | 6, _ => rfl | 7, _ => rfl | 8, _ => rfl)) (zp 2 (.pointer (some ⟨q1, 22, none⟩)) (zx 3 (.int .i64 c.ix) rfl (fun w' h' => run_load1 (fun w => Try.isAgg3 w) ky ((h'.cell 22).trans rfl)) (zp 4 (.pointer (some ⟨q1, 17, none⟩)) (zx 5 (.slice p c.on.length m) rfl (fun w' h' => run_load1 (fun w => Try.isAgg28 w) ky ((h'.cell 17).trans rfl)) (zp 6 (.pointer (some ⟨q4, 8, none⟩)) (wx_one 7 ky ?_)))))))
     refine ex_puts (d := #[.int .i64 c.bu.u, .int .i64 c.bu.d, .string c.bu.sg, .string c.bu.dh, .int .i64 c.bu.pi, .string c.bu.pr, .string c.bu.ps, .int .i64 c.bu.oi, .string c.bu.on]) (c' := #[.int .i64 c.kd, iN .i64 0, iN .i64 0, iN .i64 0, iN .i64 0, .string ({ data := #[] }), .slice none 0 0, .string ({ data := #[] }), .int .i64 c.bu.u, .int .i64 c.bu.d, .string c.bu.sg, .string c.bu.dh, .int .i64 c.bu.pi, .string c.bu.pr, .string c.bu.ps, .int .i64 c.bu.oi, .string c.bu.on, .slice none 0 0, iN .i64 0, iN .u64 0, iN .u64 0, .string ({ data := #[] }), iN .i64 0, .string ({ data := #[] })]) (off := 8) rfl ky h44 0 rfl ky ky ky ky ky ky ?_
     intro w48 h47
     refine ⟨_, .inr rfl, (h47.get 1 rfl), ?_⟩
     refine zp 8 (.pointer (some ⟨q4, 22, none⟩)) (wx_one 9 ky ?_)
     refine ex_skipT rfl ky h47 fun w49 h50 => ⟨_, run_storev (q := q4) (i := 22) (v := .int .i64 c.ix) (fun w => Try.sizeOf3 w) ky ky ky (by rw [(h50.get 0 rfl).cell]; rfl) ((h50.get 0 rfl).free _ (by show 22 < 24; decide)), ?_⟩
     have h51 := h50.put 0 rfl 22 (.int .i64 c.ix)
     refine ⟨_, .inr rfl, (h51.get 1 rfl), ?_⟩
     refine zp 10 (.pointer (some ⟨q4, 17, none⟩)) (wx_one 11 ky ?_)
     refine ex_skipT rfl ky h51 fun w52 h53 => ⟨_, run_storev (q := q4) (i := 17) (v := .slice p c.on.length m) (fun w => Try.sizeOf28 w) ky ky ky (by rw [(h53.get 0 rfl).cell]; rfl) ((h53.get 0 rfl).free _ (by show 17 < 24; decide)), ?_⟩
     have h54 := h53.put 0 rfl 17 (.slice p c.on.length m)
     refine ⟨_, .inr rfl, (h54.get 1 rfl), ?_⟩
     refine wx_end fun w55 hbx _ => ?_
     have h56 := HA.keep _ _ h54 hbx
     exact ⟨by kernel_rfl, h56⟩}
    {rintro _ w57 ⟨rfl, h58⟩
     refine then_at rfl (wl_region ?_)
     refine zv (.pointer (some ⟨q1, 8, none⟩)) (zu (.agg #[.int .i64 c.bu.u, .int .i64 c.bu.d, .string c.bu.sg, .string c.bu.dh, .int .i64 c.bu.pi, .string c.bu.pr, .string c.bu.ps, .int .i64 c.bu.oi, .string c.bu.on]) (run_load_part (q := q1) (off := 8) (d := #[.int .i64 c.bu.u, .int .i64 c.bu.d, .string c.bu.sg, .string c.bu.dh, .int .i64 c.bu.pi, .string c.bu.pr, .string c.bu.ps, .int .i64 c.bu.oi, .string c.bu.on]) ky (h58.get 1 rfl) Try.underlying27 rfl ky (by intro j hj; match j, hj with | 0, _ => rfl | 1, _ => rfl | 2, _ => rfl | 3, _ => rfl | 4, _ => rfl | 5, _ => rfl | 6, _ => rfl | 7, _ => rfl | 8, _ => rfl)) (zl (.string ((encA c.bu).1)) h58 enter59 _ (bb_any c.bu) (fun w59 h60 => ?_)))
     rcases q61 : decide ((encA c.bu).1 = { data := #[] }) with _ | _
     {refine zu (.bool true) (run_nes (s := (encA c.bu).1) (t := { data := #[] }) ky ky true ((q61).trans rfl)) (zv (.bool true) (zv (.pointer (some ⟨q1, 8, none⟩)) (zv (.pointer (some ⟨q1, 15, none⟩)) (zu (.int .i64 c.bu.oi) (run_load1 (fun w => Try.isAgg3 w) ky (((h60.get 1 rfl).cell 15).trans rfl)) ?_))))
      rcases q62 : decide (c.bu.oi = 0) with _ | _
      {refine zu (.bool false) (run_eqZ (k := .i64) (a := c.bu.oi) (b := 0) ky ky false q62) (zv (.bool false) (zv (.bool false) (zk (zk (zk (zv (.bool false) (zv (.bool false) (zk (zk (zk (zk (zv (.bool false) (zv (.bool false) (zk (zk (zk (zv (.bool false) (zv (.bool false) (wl_nil (then_at rfl ?_))))))))))))))))))))
       refine wp_exit ?_
       repeat first | refine then_exit ?_ | refine block_exit ?_ | refine block_exit_ne (by decide) ?_
       exact then_I ⟨⟨c.kd, 0, 0, ⟨0, 0, { data := #[] }, [], { data := #[] }⟩, c.bu, c.on, 0, 0, 0, { data := #[] }, c.ix, { data := #[] }⟩, false, none, 0, p, m, exu ky ⟨(by unfold mayC; rw [q10, q27, q35, q43, q61, q62]; rfl), (At.nil _), hQ, h60⟩⟩}
      refine zu (.bool true) (run_eqZ (k := .i64) (a := c.bu.oi) (b := 0) ky ky true q62) (zv (.bool true) (zv (.bool true) (zv (.pointer (some ⟨q1, 22, none⟩)) (zu (.int .i64 c.ix) (run_load1 (fun w => Try.isAgg3 w) ky (((h60.get 1 rfl).cell 22).trans rfl)) ?_))))
      rcases q63 : wi c.ix 1 1073741824 with _ | _
      {refine zl (.bool false) h60 enter42 _ (((wi_any c.ix 1 1073741824).mono fun _ _ hh => ⟨by rw [hh.1, q63], hh.2⟩)) (fun w64 h65 => (zv (.bool false) (zv (.bool false) (zk (zk (zk (zk (zv (.bool false) (zv (.bool false) (zk (zk (zk (zv (.bool false) (zv (.bool false) (wl_nil (then_at rfl ?_))))))))))))))))
       refine wp_exit ?_
       repeat first | refine then_exit ?_ | refine block_exit ?_ | refine block_exit_ne (by decide) ?_
       exact then_I ⟨⟨c.kd, 0, 0, ⟨0, 0, { data := #[] }, [], { data := #[] }⟩, c.bu, c.on, 0, 0, 0, { data := #[] }, c.ix, { data := #[] }⟩, false, none, 0, p, m, exu ky ⟨(by unfold mayC; rw [q10, q27, q35, q43, q61, q62, q63]; rfl), (At.nil _), hQ, h65⟩⟩}
      refine zl (.bool true) h60 enter42 _ (((wi_any c.ix 1 1073741824).mono fun _ _ hh => ⟨by rw [hh.1, q63], hh.2⟩)) (fun w66 h67 => (zv (.bool true) (zv (.bool true) (zv (.pointer (some ⟨q1, 17, none⟩)) (zu (.slice p c.on.length m) (run_load1 (fun w => Try.isAgg28 w) ky (((h67.get 1 rfl).cell 17).trans rfl)) (zv (iN .i64 c.on.length) ?_))))))
      rcases q68 : decide (c.on.length ≤ 20) with _ | _
      {refine zu (.bool false) (run_leq (k := .i64) (a := c.on.length) (b := 20) ky ky false q68) (zv (.bool false) (zv (.bool false) (zk (zk (zk (zv (.bool false) (zv (.bool false) (wl_nil (then_at rfl ?_)))))))))
       refine wp_exit ?_
       repeat first | refine then_exit ?_ | refine block_exit ?_ | refine block_exit_ne (by decide) ?_
       exact then_I ⟨⟨c.kd, 0, 0, ⟨0, 0, { data := #[] }, [], { data := #[] }⟩, c.bu, c.on, 0, 0, 0, { data := #[] }, c.ix, { data := #[] }⟩, false, none, 0, p, m, exu ky ⟨(by unfold mayC; rw [q10, q27, q35, q43, q61, q62, q63, q68]; rfl), (At.nil _), hQ, h67⟩⟩}
      refine zu (.bool true) (run_leq (k := .i64) (a := c.on.length) (b := 20) ky ky true q68) (zv (.bool true) (zv (.bool true) (zv (.pointer (some ⟨q1, 17, none⟩)) (zu (.slice p c.on.length m) (run_load1 (fun w => Try.isAgg28 w) ky (((h67.get 1 rfl).cell 17).trans rfl)) ?_))))
      rcases q69 : c.on.all kk with _ | _
      {refine zl (.bool false) h67 enter43 #[.slice p c.on.length m] (((areK_any c.on (hQ.keep h67.old.old) hl2).mono fun _ _ hh => ⟨by rw [hh.1, q69], hh.2⟩)) (fun w70 h71 => (zv (.bool false) (zv (.bool false) (wl_nil (then_at rfl ?_)))))
       refine wp_exit ?_
       repeat first | refine then_exit ?_ | refine block_exit ?_ | refine block_exit_ne (by decide) ?_
       exact then_I ⟨⟨c.kd, 0, 0, ⟨0, 0, { data := #[] }, [], { data := #[] }⟩, c.bu, c.on, 0, 0, 0, { data := #[] }, c.ix, { data := #[] }⟩, false, none, 0, p, m, exu ky ⟨(by unfold mayC; rw [q10, q27, q35, q43, q61, q62, q63, q68, q69]; rfl), (At.nil _), hQ, h71⟩⟩}
      refine zl (.bool true) h67 enter43 #[.slice p c.on.length m] (((areK_any c.on (hQ.keep h67.old.old) hl2).mono fun _ _ hh => ⟨by rw [hh.1, q69], hh.2⟩)) (fun w72 h73 => (zv (.bool true) (zv (.bool true) (wl_nil (then_at rfl ?_)))))
      refine wp_exit ?_
      repeat first | refine then_exit ?_ | refine block_exit ?_ | refine block_exit_ne (by decide) ?_
      exact then_I ⟨⟨c.kd, 0, 0, ⟨0, 0, { data := #[] }, [], { data := #[] }⟩, c.bu, c.on, 0, 0, 0, { data := #[] }, c.ix, { data := #[] }⟩, true, none, 0, p, m, exu ky ⟨(by unfold mayC; rw [q10, q27, q35, q43, q61, q62, q63, q68, q69]; rfl), (At.nil _), hQ, h73⟩⟩}
     refine zu (.bool false) (run_nes (s := (encA c.bu).1) (t := { data := #[] }) ky ky false ((q61).trans rfl)) (zv (.bool false) (zk (zk (zk (zk (zv (.bool false) (zv (.bool false) (zk (zk (zk (zv (.bool false) (zv (.bool false) (zk (zk (zk (zk (zv (.bool false) (zv (.bool false) (zk (zk (zk (zv (.bool false) (zv (.bool false) ?_)))))))))))))))))))))))
     refine wl_nil (then_at rfl ?_)
     refine wp_exit ?_
     repeat first | refine then_exit ?_ | refine block_exit ?_ | refine block_exit_ne (by decide) ?_
     exact then_I ⟨⟨c.kd, 0, 0, ⟨0, 0, { data := #[] }, [], { data := #[] }⟩, c.bu, c.on, 0, 0, 0, { data := #[] }, c.ix, { data := #[] }⟩, false, none, 0, p, m, exu ky ⟨(by unfold mayC; rw [q10, q27, q35, q43, q61]; rfl), (At.nil _), hQ, h60⟩⟩}}
   refine zu (.bool false) (run_eqZ (k := .i64) (a := c.kd) (b := 4) ky ky false q43) (zv (.bool false) (wl_nil (then_at rfl (wp_cond_false ky (wp_skip (then_at rfl (wp_seq (wp_seq (wl_region ?_)))))))))
   rcases q74 : decide (c.kd = 5) with _ | _; rotate_left
   {refine zu (.bool true) (run_eqZ (k := .i64) (a := c.kd) (b := 5) ky ky true q74) (zv (.bool true) (wl_nil (then_at rfl (wp_cond_true ky ?_))))
    refine wp_exit ?_
    repeat first | refine then_exit ?_ | refine block_exit ?_ | refine block_exit_ne (by decide) ?_
    refine then_at rfl (wp_seq (wp_seq ?_))
    refine wp_region_wx (fun w' => Blk w' q1 30 (caC c (.slice o c.li.ds.length k) (.slice p c.on.length m))) (fun AQ w' => AQ = ⟨(.agg (caC c (.slice o c.li.ds.length k) (.slice p c.on.length m)) :: pt q1 :: .bool false :: pt q4 :: .bool true :: pt q1 :: .int .i64 c.kd :: .agg #[.int .i64 c.kd, iN .i64 0, iN .i64 0, iN .i64 0, iN .i64 0, .string ({ data := #[] }), .slice none 0 0, .string ({ data := #[] }), iN .i64 0, iN .i64 0, .string ({ data := #[] }), .string ({ data := #[] }), iN .i64 0, .string ({ data := #[] }), .string ({ data := #[] }), iN .i64 0, .string ({ data := #[] }), .slice none 0 0, iN .i64 0, iN .u64 0, iN .u64 0, .string ({ data := #[] }), iN .i64 0, .string ({ data := #[] })] :: pt q1 :: .int .i64 c.kd :: .bool false :: .bool false :: .bool false :: .bool false :: .bool false :: .bool false :: .bool false :: .bool false :: .bool true :: .bool true :: un :: un :: un :: un :: un :: un :: un :: un :: un :: un :: un :: un :: un :: un :: un :: un :: un :: un :: un :: un :: un :: un :: un :: un :: un :: un :: un :: un :: un :: un :: un :: un :: un :: un :: un :: un :: un :: un :: un :: un :: un :: un :: un :: un :: un :: un :: un :: un :: un :: un :: un :: un :: un :: un :: un :: un :: un :: un :: un :: un :: un :: un :: un :: un :: .pointer (some ⟨q1, 18, none⟩) :: .int .i64 c.tt :: .pointer (some ⟨q1, 19, none⟩) :: iN .u64 c.no :: .pointer (some ⟨q1, 23, none⟩) :: .string c.bt :: .pointer (some ⟨q4, 18, none⟩) :: .pointer (some ⟨q4, 19, none⟩) :: .pointer (some ⟨q4, 23, none⟩) :: List.replicate 51 un).toArray, []⟩ ∧ HA (bs w) [(q4, 30, #[.int .i64 c.kd, iN .i64 0, iN .i64 0, iN .i64 0, iN .i64 0, .string ({ data := #[] }), .slice none 0 0, .string ({ data := #[] }), iN .i64 0, iN .i64 0, .string ({ data := #[] }), .string ({ data := #[] }), iN .i64 0, .string ({ data := #[] }), .string ({ data := #[] }), iN .i64 0, .string ({ data := #[] }), .slice none 0 0, .int .i64 c.tt, iN .u64 c.no, iN .u64 0, .string ({ data := #[] }), iN .i64 0, .string c.bt]), (q1, 30, caC c (.slice o c.li.ds.length k) (.slice p c.on.length m))] w') 12 ky ky ky ky ky ((h8.drew).get 1 rfl) ?_ ?_
    {have h75 := h8.drew
     refine zp 0 (.pointer (some ⟨q1, 18, none⟩)) (zx 1 (.int .i64 c.tt) rfl (fun w' h' => run_load1 (fun w => Try.isAgg3 w) ky ((h'.cell 18).trans rfl)) (zp 2 (.pointer (some ⟨q1, 19, none⟩)) (zx 3 (iN .u64 c.no) rfl (fun w' h' => run_load1 (fun w => Try.isAgg22 w) ky ((h'.cell 19).trans rfl)) (zp 4 (.pointer (some ⟨q1, 23, none⟩)) (zx 5 (.string c.bt) rfl (fun w' h' => run_load1 (fun w => Try.isAgg9 w) ky ((h'.cell 23).trans rfl)) (zp 6 (.pointer (some ⟨q4, 18, none⟩)) (wx_one 7 ky ?_)))))))
     refine ex_skipT rfl ky h75 fun w76 h77 => ⟨_, run_storev (q := q4) (i := 18) (v := .int .i64 c.tt) (fun w => Try.sizeOf3 w) ky ky ky (by rw [(h77.get 0 rfl).cell]; rfl) ((h77.get 0 rfl).free _ (by show 18 < 24; decide)), ?_⟩
     have h78 := h77.put 0 rfl 18 (.int .i64 c.tt)
     refine ⟨_, .inr rfl, (h78.get 1 rfl), ?_⟩
     refine zp 8 (.pointer (some ⟨q4, 19, none⟩)) (wx_one 9 ky ?_)
     refine ex_skipT rfl ky h78 fun w79 h80 => ⟨_, run_storev (q := q4) (i := 19) (v := iN .u64 c.no) (fun w => Try.sizeOf22 w) ky ky ky (by rw [(h80.get 0 rfl).cell]; rfl) ((h80.get 0 rfl).free _ (by show 19 < 24; decide)), ?_⟩
     have h81 := h80.put 0 rfl 19 (iN .u64 c.no)
     refine ⟨_, .inr rfl, (h81.get 1 rfl), ?_⟩
     refine zp 10 (.pointer (some ⟨q4, 23, none⟩)) (wx_one 11 ky ?_)
     refine ex_skipT rfl ky h81 fun w82 h83 => ⟨_, run_storev (q := q4) (i := 23) (v := .string c.bt) (fun w => Try.sizeOf9 w) ky ky ky (by rw [(h83.get 0 rfl).cell]; rfl) ((h83.get 0 rfl).free _ (by show 23 < 24; decide)), ?_⟩
     have h84 := h83.put 0 rfl 23 (.string c.bt)
     refine ⟨_, .inr rfl, (h84.get 1 rfl), ?_⟩
     refine wx_end fun w85 hbx _ => ?_
     have h86 := HA.keep _ _ h84 hbx
     exact ⟨by kernel_rfl, h86⟩}
    {rintro _ w87 ⟨rfl, h88⟩
     refine then_at rfl (wl_region ?_)
     refine zv (.pointer (some ⟨q1, 18, none⟩)) (zu (.int .i64 c.tt) (run_load1 (fun w => Try.isAgg3 w) ky (((h88.get 1 rfl).cell 18).trans rfl)) ?_)
     rcases q89 : isD c.tt with _ | _
     {refine zl (.bool false) h88 enter60 _ (((isD_any c.tt).mono fun _ _ hh => ⟨by rw [hh.1, q89], hh.2⟩)) (fun w90 h91 => (zv (.bool false) (zk (zk (zk (zv (.bool false) (zv (.bool false) (zk (zk (zk (zk (zv (.bool false) (zv (.bool false) (wl_nil (then_at rfl ?_)))))))))))))))
      refine wp_exit ?_
      repeat first | refine then_exit ?_ | refine block_exit ?_ | refine block_exit_ne (by decide) ?_
      exact then_I ⟨⟨c.kd, 0, 0, ⟨0, 0, { data := #[] }, [], { data := #[] }⟩, ⟨0, 0, { data := #[] }, { data := #[] }, 0, { data := #[] }, { data := #[] }, 0, { data := #[] }⟩, [], c.tt, c.no, 0, { data := #[] }, 0, c.bt⟩, false, none, 0, none, 0, exu ky ⟨(by unfold mayC; rw [q10, q27, q35, q43, q74, q89]; rfl), (At.nil _), (At.nil _), h91⟩⟩}
     refine zl (.bool true) h88 enter60 _ (((isD_any c.tt).mono fun _ _ hh => ⟨by rw [hh.1, q89], hh.2⟩)) (fun w92 h93 => (zv (.bool true) (zv (.pointer (some ⟨q1, 19, none⟩)) (zu (iN .u64 c.no) (run_load1 (fun w => Try.isAgg22 w) ky (((h93.get 1 rfl).cell 19).trans rfl)) ?_))))
     rcases q94 : wn c.no 1 1099511627776 with _ | _
     {refine zl (.bool false) h93 enter61 _ (((wu_any c.no 1 1099511627776).mono fun _ _ hh => ⟨by rw [hh.1, q94], hh.2⟩)) (fun w95 h96 => (zv (.bool false) (zv (.bool false) (zk (zk (zk (zk (zv (.bool false) (zv (.bool false) (wl_nil (then_at rfl ?_)))))))))))
      refine wp_exit ?_
      repeat first | refine then_exit ?_ | refine block_exit ?_ | refine block_exit_ne (by decide) ?_
      exact then_I ⟨⟨c.kd, 0, 0, ⟨0, 0, { data := #[] }, [], { data := #[] }⟩, ⟨0, 0, { data := #[] }, { data := #[] }, 0, { data := #[] }, { data := #[] }, 0, { data := #[] }⟩, [], c.tt, c.no, 0, { data := #[] }, 0, c.bt⟩, false, none, 0, none, 0, exu ky ⟨(by unfold mayC; rw [q10, q27, q35, q43, q74, q89, q94]; rfl), (At.nil _), (At.nil _), h96⟩⟩}
     refine zl (.bool true) h93 enter61 _ (((wu_any c.no 1 1099511627776).mono fun _ _ hh => ⟨by rw [hh.1, q94], hh.2⟩)) (fun w97 h98 => (zv (.bool true) (zv (.bool true) (zv (.pointer (some ⟨q1, 23, none⟩)) (zu (.string c.bt) (run_load1 (fun w => Try.isAgg9 w) ky (((h98.get 1 rfl).cell 23).trans rfl)) (zu (iN .i64 c.bt.size) (run_len (s := c.bt) ky) ?_))))))
     rcases q99 : wi (((c.bt.size : Nat) : Int)) 1 4096 with _ | _
     {refine zl (.bool false) h98 enter42 _ (((wi_any (((c.bt.size : Nat) : Int)) 1 4096).mono fun _ _ hh => ⟨by rw [hh.1, q99], hh.2⟩)) (fun w100 h101 => (zv (.bool false) (zv (.bool false) (wl_nil (then_at rfl ?_)))))
      refine wp_exit ?_
      repeat first | refine then_exit ?_ | refine block_exit ?_ | refine block_exit_ne (by decide) ?_
      exact then_I ⟨⟨c.kd, 0, 0, ⟨0, 0, { data := #[] }, [], { data := #[] }⟩, ⟨0, 0, { data := #[] }, { data := #[] }, 0, { data := #[] }, { data := #[] }, 0, { data := #[] }⟩, [], c.tt, c.no, 0, { data := #[] }, 0, c.bt⟩, false, none, 0, none, 0, exu ky ⟨(by unfold mayC; rw [q10, q27, q35, q43, q74, q89, q94, q99]; rfl), (At.nil _), (At.nil _), h101⟩⟩}
     refine zl (.bool true) h98 enter42 _ (((wi_any (((c.bt.size : Nat) : Int)) 1 4096).mono fun _ _ hh => ⟨by rw [hh.1, q99], hh.2⟩)) (fun w102 h103 => (zv (.bool true) (zv (.bool true) (wl_nil (then_at rfl ?_)))))
     refine wp_exit ?_
     repeat first | refine then_exit ?_ | refine block_exit ?_ | refine block_exit_ne (by decide) ?_
     exact then_I ⟨⟨c.kd, 0, 0, ⟨0, 0, { data := #[] }, [], { data := #[] }⟩, ⟨0, 0, { data := #[] }, { data := #[] }, 0, { data := #[] }, { data := #[] }, 0, { data := #[] }⟩, [], c.tt, c.no, 0, { data := #[] }, 0, c.bt⟩, true, none, 0, none, 0, exu ky ⟨(by unfold mayC; rw [q10, q27, q35, q43, q74, q89, q94, q99]; rfl), (At.nil _), (At.nil _), h103⟩⟩}}
   refine zu (.bool false) (run_eqZ (k := .i64) (a := c.kd) (b := 5) ky ky false q74) (zv (.bool false) (wl_nil (then_at rfl (wp_cond_false ky (wp_skip (then_at rfl (wp_seq (wp_seq (wp_seq (wl_region ?_))))))))))
   rcases q104 : decide (c.kd = 6) with _ | _; rotate_left
   {refine zu (.bool true) (run_eqZ (k := .i64) (a := c.kd) (b := 6) ky ky true q104) (zv (.bool true) (wl_nil (then_at rfl (wp_cond_true ky (wp_skip (then_at rfl (wp_cond_true ky ?_)))))))
    refine wp_exit ?_
    repeat first | refine then_exit ?_ | refine block_exit ?_ | refine block_exit_ne (by decide) ?_
    refine then_at rfl (wp_seq (wp_seq (wl_region ?_)))
    refine zv (.pointer (some ⟨q1, 20, none⟩)) (zu (iN .u64 c.af) (run_load1 (fun w => Try.isAgg22 w) ky (((h8.get 1 rfl).cell 20).trans rfl)) (zv (.pointer (some ⟨q4, 20, none⟩)) (wl_putv (v := iN .u64 c.af) h8 0 rfl 20 (by show 20 < 24; decide) ky (fun w => Try.sizeOf22 w) ky ky ky (fun w105 h106 => (wl_nil (then_at rfl (wl_region (zv (.pointer (some ⟨q1, 20, none⟩)) (zu (iN .u64 c.af) (run_load1 (fun w => Try.isAgg22 w) ky (((h106.get 1 rfl).cell 20).trans rfl)) ?_)))))))))
    rcases q107 : wn c.af 0 1099511627776 with _ | _
    {refine zl (.bool false) h106 enter61 _ (((wu_any c.af 0 1099511627776).mono fun _ _ hh => ⟨by rw [hh.1, q107], hh.2⟩)) (fun w108 h109 => (zv (.bool false) (wl_nil (then_at rfl ?_))))
     refine wp_exit ?_
     repeat first | refine then_exit ?_ | refine block_exit ?_ | refine block_exit_ne (by decide) ?_
     exact then_I ⟨⟨c.kd, 0, 0, ⟨0, 0, { data := #[] }, [], { data := #[] }⟩, ⟨0, 0, { data := #[] }, { data := #[] }, 0, { data := #[] }, { data := #[] }, 0, { data := #[] }⟩, [], 0, 0, c.af, { data := #[] }, 0, { data := #[] }⟩, false, none, 0, none, 0, exu ky ⟨(by unfold mayC; rw [q10, q27, q35, q43, q74, q104, q107]; rfl), (At.nil _), (At.nil _), h109⟩⟩}
    refine zl (.bool true) h106 enter61 _ (((wu_any c.af 0 1099511627776).mono fun _ _ hh => ⟨by rw [hh.1, q107], hh.2⟩)) (fun w110 h111 => (zv (.bool true) (wl_nil (then_at rfl ?_))))
    refine wp_exit ?_
    repeat first | refine then_exit ?_ | refine block_exit ?_ | refine block_exit_ne (by decide) ?_
    exact then_I ⟨⟨c.kd, 0, 0, ⟨0, 0, { data := #[] }, [], { data := #[] }⟩, ⟨0, 0, { data := #[] }, { data := #[] }, 0, { data := #[] }, { data := #[] }, 0, { data := #[] }⟩, [], 0, 0, c.af, { data := #[] }, 0, { data := #[] }⟩, true, none, 0, none, 0, exu ky ⟨(by unfold mayC; rw [q10, q27, q35, q43, q74, q104, q107]; rfl), (At.nil _), (At.nil _), h111⟩⟩}
   refine zu (.bool false) (run_eqZ (k := .i64) (a := c.kd) (b := 6) ky ky false q104) (zv (.bool false) (wl_nil (then_at rfl (wp_cond_false ky (wl_region ?_)))))
   rcases q112 : decide (c.kd = 7) with _ | _; rotate_left
   {refine zu (.bool true) (run_eqZ (k := .i64) (a := c.kd) (b := 7) ky ky true q112) (zv (.bool true) (wl_nil (then_at rfl (wp_cond_true ky ?_))))
    refine wp_exit ?_
    repeat first | refine then_exit ?_ | refine block_exit ?_ | refine block_exit_ne (by decide) ?_
    refine then_at rfl (wp_seq (wp_seq (wl_region ?_)))
    refine zv (.pointer (some ⟨q1, 20, none⟩)) (zu (iN .u64 c.af) (run_load1 (fun w => Try.isAgg22 w) ky (((h8.get 1 rfl).cell 20).trans rfl)) (zv (.pointer (some ⟨q4, 20, none⟩)) (wl_putv (v := iN .u64 c.af) h8 0 rfl 20 (by show 20 < 24; decide) ky (fun w => Try.sizeOf22 w) ky ky ky (fun w113 h114 => (wl_nil (then_at rfl (wl_region (zv (.pointer (some ⟨q1, 20, none⟩)) (zu (iN .u64 c.af) (run_load1 (fun w => Try.isAgg22 w) ky (((h114.get 1 rfl).cell 20).trans rfl)) ?_)))))))))
    rcases q115 : wn c.af 0 1099511627776 with _ | _
    {refine zl (.bool false) h114 enter61 _ (((wu_any c.af 0 1099511627776).mono fun _ _ hh => ⟨by rw [hh.1, q115], hh.2⟩)) (fun w116 h117 => (zv (.bool false) (wl_nil (then_at rfl ?_))))
     refine wp_exit ?_
     repeat first | refine then_exit ?_ | refine block_exit ?_ | refine block_exit_ne (by decide) ?_
     exact then_I ⟨⟨c.kd, 0, 0, ⟨0, 0, { data := #[] }, [], { data := #[] }⟩, ⟨0, 0, { data := #[] }, { data := #[] }, 0, { data := #[] }, { data := #[] }, 0, { data := #[] }⟩, [], 0, 0, c.af, { data := #[] }, 0, { data := #[] }⟩, false, none, 0, none, 0, exu ky ⟨(by unfold mayC; rw [q10, q27, q35, q43, q74, q104, q112, q115]; rfl), (At.nil _), (At.nil _), h117⟩⟩}
    refine zl (.bool true) h114 enter61 _ (((wu_any c.af 0 1099511627776).mono fun _ _ hh => ⟨by rw [hh.1, q115], hh.2⟩)) (fun w118 h119 => (zv (.bool true) (wl_nil (then_at rfl ?_))))
    refine wp_exit ?_
    repeat first | refine then_exit ?_ | refine block_exit ?_ | refine block_exit_ne (by decide) ?_
    exact then_I ⟨⟨c.kd, 0, 0, ⟨0, 0, { data := #[] }, [], { data := #[] }⟩, ⟨0, 0, { data := #[] }, { data := #[] }, 0, { data := #[] }, { data := #[] }, 0, { data := #[] }⟩, [], 0, 0, c.af, { data := #[] }, 0, { data := #[] }⟩, true, none, 0, none, 0, exu ky ⟨(by unfold mayC; rw [q10, q27, q35, q43, q74, q104, q112, q115]; rfl), (At.nil _), (At.nil _), h119⟩⟩}
   refine zu (.bool false) (run_eqZ (k := .i64) (a := c.kd) (b := 7) ky ky false q112) (zv (.bool false) (wl_nil (then_at rfl (wp_cond_false ky (wp_skip (then_at rfl (wp_seq (wp_seq (wl_region ?_)))))))))
   rcases q120 : decide (c.kd = 8) with _ | _; rotate_left
   {refine zu (.bool true) (run_eqZ (k := .i64) (a := c.kd) (b := 8) ky ky true q120) (zv (.bool true) (wl_nil (then_at rfl (wp_cond_true ky ?_))))
    refine wp_exit ?_
    repeat first | refine then_exit ?_ | refine block_exit ?_ | refine block_exit_ne (by decide) ?_
    refine then_at rfl (wp_seq (wl_region ?_))
    refine zv (.pointer (some ⟨q1, 23, none⟩)) (zu (.string c.bt) (run_load1 (fun w => Try.isAgg9 w) ky (((h8.get 1 rfl).cell 23).trans rfl)) (zv (.pointer (some ⟨q4, 23, none⟩)) (wl_putv (v := .string c.bt) h8 0 rfl 23 (by show 23 < 24; decide) ky (fun w => Try.sizeOf9 w) ky ky ky (fun w121 h122 => (wl_nil (then_at rfl (wl_region (zv (.pointer (some ⟨q1, 23, none⟩)) (zu (.string c.bt) (run_load1 (fun w => Try.isAgg9 w) ky (((h122.get 1 rfl).cell 23).trans rfl)) (zu (iN .i64 c.bt.size) (run_len (s := c.bt) ky) ?_))))))))))
    rcases q123 : wi (((c.bt.size : Nat) : Int)) 1 4096 with _ | _
    {refine zl (.bool false) h122 enter42 _ (((wi_any (((c.bt.size : Nat) : Int)) 1 4096).mono fun _ _ hh => ⟨by rw [hh.1, q123], hh.2⟩)) (fun w124 h125 => (zv (.bool false) (wl_nil (block_normal (then_at rfl (wp_seq (wp_seq ?_)))))))
     refine wp_region_wx (fun w' => Blk w' q1 30 (caC c (.slice o c.li.ds.length k) (.slice p c.on.length m))) (fun AQ w' => AQ = ⟨(.agg (caC c (.slice o c.li.ds.length k) (.slice p c.on.length m)) :: pt q1 :: .bool false :: pt q4 :: .bool false :: pt q1 :: .int .i64 c.kd :: .agg #[.int .i64 c.kd, iN .i64 0, iN .i64 0, iN .i64 0, iN .i64 0, .string ({ data := #[] }), .slice none 0 0, .string ({ data := #[] }), iN .i64 0, iN .i64 0, .string ({ data := #[] }), .string ({ data := #[] }), iN .i64 0, .string ({ data := #[] }), .string ({ data := #[] }), iN .i64 0, .string ({ data := #[] }), .slice none 0 0, iN .i64 0, iN .u64 0, iN .u64 0, .string ({ data := #[] }), iN .i64 0, .string ({ data := #[] })] :: pt q1 :: .int .i64 c.kd :: .bool false :: .bool false :: .bool false :: .bool false :: .bool false :: .bool false :: .bool false :: .bool false :: .bool false :: .bool false :: .bool false :: .bool false :: .bool false :: .bool true :: .bool true :: un :: un :: un :: un :: un :: un :: un :: un :: un :: un :: un :: un :: un :: un :: un :: un :: un :: un :: un :: un :: un :: un :: un :: un :: un :: un :: un :: un :: un :: un :: un :: un :: un :: un :: un :: un :: un :: un :: un :: un :: un :: un :: un :: un :: un :: un :: un :: un :: un :: un :: un :: un :: un :: un :: un :: un :: un :: un :: un :: un :: un :: un :: un :: un :: un :: un :: un :: un :: un :: un :: un :: un :: un :: un :: un :: un :: un :: un :: un :: un :: un :: un :: un :: un :: un :: un :: un :: un :: .pointer (some ⟨q1, 23, none⟩) :: .string c.bt :: .pointer (some ⟨q4, 23, none⟩) :: .pointer (some ⟨q1, 23, none⟩) :: .string c.bt :: iN .i64 c.bt.size :: .bool false :: .pointer (some ⟨q1, 21, none⟩) :: .string c.nm :: .pointer (some ⟨q1, 22, none⟩) :: .int .i64 c.ix :: .pointer (some ⟨q4, 21, none⟩) :: .pointer (some ⟨q4, 22, none⟩) :: List.replicate 18 un).toArray, []⟩ ∧ HA (bs w) [(q4, 30, #[.int .i64 c.kd, iN .i64 0, iN .i64 0, iN .i64 0, iN .i64 0, .string ({ data := #[] }), .slice none 0 0, .string ({ data := #[] }), iN .i64 0, iN .i64 0, .string ({ data := #[] }), .string ({ data := #[] }), iN .i64 0, .string ({ data := #[] }), .string ({ data := #[] }), iN .i64 0, .string ({ data := #[] }), .slice none 0 0, iN .i64 0, iN .u64 0, iN .u64 0, .string c.nm, .int .i64 c.ix, .string c.bt]), (q1, 30, caC c (.slice o c.li.ds.length k) (.slice p c.on.length m))] w') 8 ky ky ky ky ky ((h125.drew).get 1 rfl) ?_ ?_
     {have h126 := h125.drew
      refine zp 0 (.pointer (some ⟨q1, 21, none⟩)) (zx 1 (.string c.nm) rfl (fun w' h' => run_load1 (fun w => Try.isAgg9 w) ky ((h'.cell 21).trans rfl)) (zp 2 (.pointer (some ⟨q1, 22, none⟩)) (zx 3 (.int .i64 c.ix) rfl (fun w' h' => run_load1 (fun w => Try.isAgg3 w) ky ((h'.cell 22).trans rfl)) (zp 4 (.pointer (some ⟨q4, 21, none⟩)) (wx_one 5 ky ?_)))))
      refine ex_skipT rfl ky h126 fun w127 h128 => ⟨_, run_storev (q := q4) (i := 21) (v := .string c.nm) (fun w => Try.sizeOf9 w) ky ky ky (by rw [(h128.get 0 rfl).cell]; rfl) ((h128.get 0 rfl).free _ (by show 21 < 24; decide)), ?_⟩
      have h129 := h128.put 0 rfl 21 (.string c.nm)
      refine ⟨_, .inr rfl, (h129.get 1 rfl), ?_⟩
      refine zp 6 (.pointer (some ⟨q4, 22, none⟩)) (wx_one 7 ky ?_)
      refine ex_skipT rfl ky h129 fun w130 h131 => ⟨_, run_storev (q := q4) (i := 22) (v := .int .i64 c.ix) (fun w => Try.sizeOf3 w) ky ky ky (by rw [(h131.get 0 rfl).cell]; rfl) ((h131.get 0 rfl).free _ (by show 22 < 24; decide)), ?_⟩
      have h132 := h131.put 0 rfl 22 (.int .i64 c.ix)
      refine ⟨_, .inr rfl, (h132.get 1 rfl), ?_⟩
      refine wx_end fun w133 hbx _ => ?_
      have h134 := HA.keep _ _ h132 hbx
      exact ⟨by kernel_rfl, h134⟩}
     {rintro _ w135 ⟨rfl, h136⟩
      refine then_at rfl (wl_region ?_)
      refine zv (.bool false) (zv (.bool false) (zk (zk (zk (zk (zv (.bool false) (zv (.bool false) (zk (zk (zk (zv (.bool false) (zv (.bool false) (wl_nil (then_at rfl ?_))))))))))))))
      refine wp_exit ?_
      repeat first | refine then_exit ?_ | refine block_exit ?_ | refine block_exit_ne (by decide) ?_
      exact then_I ⟨⟨c.kd, 0, 0, ⟨0, 0, { data := #[] }, [], { data := #[] }⟩, ⟨0, 0, { data := #[] }, { data := #[] }, 0, { data := #[] }, { data := #[] }, 0, { data := #[] }⟩, [], 0, 0, 0, c.nm, c.ix, c.bt⟩, false, none, 0, none, 0, exu ky ⟨(by unfold mayC; rw [q10, q27, q35, q43, q74, q104, q112, q120, q123]; rfl), (At.nil _), (At.nil _), h136⟩⟩}}
    refine zl (.bool true) h122 enter42 _ (((wi_any (((c.bt.size : Nat) : Int)) 1 4096).mono fun _ _ hh => ⟨by rw [hh.1, q123], hh.2⟩)) (fun w137 h138 => (zv (.bool true) (wl_nil (block_normal (then_at rfl (wp_seq (wp_seq ?_)))))))
    refine wp_region_wx (fun w' => Blk w' q1 30 (caC c (.slice o c.li.ds.length k) (.slice p c.on.length m))) (fun AQ w' => AQ = ⟨(.agg (caC c (.slice o c.li.ds.length k) (.slice p c.on.length m)) :: pt q1 :: .bool false :: pt q4 :: .bool true :: pt q1 :: .int .i64 c.kd :: .agg #[.int .i64 c.kd, iN .i64 0, iN .i64 0, iN .i64 0, iN .i64 0, .string ({ data := #[] }), .slice none 0 0, .string ({ data := #[] }), iN .i64 0, iN .i64 0, .string ({ data := #[] }), .string ({ data := #[] }), iN .i64 0, .string ({ data := #[] }), .string ({ data := #[] }), iN .i64 0, .string ({ data := #[] }), .slice none 0 0, iN .i64 0, iN .u64 0, iN .u64 0, .string ({ data := #[] }), iN .i64 0, .string ({ data := #[] })] :: pt q1 :: .int .i64 c.kd :: .bool false :: .bool false :: .bool false :: .bool false :: .bool false :: .bool false :: .bool false :: .bool false :: .bool false :: .bool false :: .bool false :: .bool false :: .bool false :: .bool true :: .bool true :: un :: un :: un :: un :: un :: un :: un :: un :: un :: un :: un :: un :: un :: un :: un :: un :: un :: un :: un :: un :: un :: un :: un :: un :: un :: un :: un :: un :: un :: un :: un :: un :: un :: un :: un :: un :: un :: un :: un :: un :: un :: un :: un :: un :: un :: un :: un :: un :: un :: un :: un :: un :: un :: un :: un :: un :: un :: un :: un :: un :: un :: un :: un :: un :: un :: un :: un :: un :: un :: un :: un :: un :: un :: un :: un :: un :: un :: un :: un :: un :: un :: un :: un :: un :: un :: un :: un :: un :: .pointer (some ⟨q1, 23, none⟩) :: .string c.bt :: .pointer (some ⟨q4, 23, none⟩) :: .pointer (some ⟨q1, 23, none⟩) :: .string c.bt :: iN .i64 c.bt.size :: .bool true :: .pointer (some ⟨q1, 21, none⟩) :: .string c.nm :: .pointer (some ⟨q1, 22, none⟩) :: .int .i64 c.ix :: .pointer (some ⟨q4, 21, none⟩) :: .pointer (some ⟨q4, 22, none⟩) :: List.replicate 18 un).toArray, []⟩ ∧ HA (bs w) [(q4, 30, #[.int .i64 c.kd, iN .i64 0, iN .i64 0, iN .i64 0, iN .i64 0, .string ({ data := #[] }), .slice none 0 0, .string ({ data := #[] }), iN .i64 0, iN .i64 0, .string ({ data := #[] }), .string ({ data := #[] }), iN .i64 0, .string ({ data := #[] }), .string ({ data := #[] }), iN .i64 0, .string ({ data := #[] }), .slice none 0 0, iN .i64 0, iN .u64 0, iN .u64 0, .string c.nm, .int .i64 c.ix, .string c.bt]), (q1, 30, caC c (.slice o c.li.ds.length k) (.slice p c.on.length m))] w') 8 ky ky ky ky ky ((h138.drew).get 1 rfl) ?_ ?_
    {have h139 := h138.drew
     refine zp 0 (.pointer (some ⟨q1, 21, none⟩)) (zx 1 (.string c.nm) rfl (fun w' h' => run_load1 (fun w => Try.isAgg9 w) ky ((h'.cell 21).trans rfl)) (zp 2 (.pointer (some ⟨q1, 22, none⟩)) (zx 3 (.int .i64 c.ix) rfl (fun w' h' => run_load1 (fun w => Try.isAgg3 w) ky ((h'.cell 22).trans rfl)) (zp 4 (.pointer (some ⟨q4, 21, none⟩)) (wx_one 5 ky ?_)))))
     refine ex_skipT rfl ky h139 fun w140 h141 => ⟨_, run_storev (q := q4) (i := 21) (v := .string c.nm) (fun w => Try.sizeOf9 w) ky ky ky (by rw [(h141.get 0 rfl).cell]; rfl) ((h141.get 0 rfl).free _ (by show 21 < 24; decide)), ?_⟩
     have h142 := h141.put 0 rfl 21 (.string c.nm)
     refine ⟨_, .inr rfl, (h142.get 1 rfl), ?_⟩
     refine zp 6 (.pointer (some ⟨q4, 22, none⟩)) (wx_one 7 ky ?_)
     refine ex_skipT rfl ky h142 fun w143 h144 => ⟨_, run_storev (q := q4) (i := 22) (v := .int .i64 c.ix) (fun w => Try.sizeOf3 w) ky ky ky (by rw [(h144.get 0 rfl).cell]; rfl) ((h144.get 0 rfl).free _ (by show 22 < 24; decide)), ?_⟩
     have h145 := h144.put 0 rfl 22 (.int .i64 c.ix)
     refine ⟨_, .inr rfl, (h145.get 1 rfl), ?_⟩
     refine wx_end fun w146 hbx _ => ?_
     have h147 := HA.keep _ _ h145 hbx
     exact ⟨by kernel_rfl, h147⟩}
    {rintro _ w148 ⟨rfl, h149⟩
     refine then_at rfl (wl_region ?_)
     refine zv (.bool true) (zv (.bool true) (zv (.pointer (some ⟨q1, 21, none⟩)) (zu (.string c.nm) (run_load1 (fun w => Try.isAgg9 w) ky (((h149.get 1 rfl).cell 21).trans rfl)) (zu (iN .i64 c.nm.size) (run_len (s := c.nm) ky) ?_))))
     rcases q150 : wi (((c.nm.size : Nat) : Int)) 1 40 with _ | _
     {refine zl (.bool false) h149 enter42 _ (((wi_any (((c.nm.size : Nat) : Int)) 1 40).mono fun _ _ hh => ⟨by rw [hh.1, q150], hh.2⟩)) (fun w151 h152 => (zv (.bool false) (zv (.bool false) (zk (zk (zk (zv (.bool false) (zv (.bool false) (wl_nil (then_at rfl ?_))))))))))
      refine wp_exit ?_
      repeat first | refine then_exit ?_ | refine block_exit ?_ | refine block_exit_ne (by decide) ?_
      exact then_I ⟨⟨c.kd, 0, 0, ⟨0, 0, { data := #[] }, [], { data := #[] }⟩, ⟨0, 0, { data := #[] }, { data := #[] }, 0, { data := #[] }, { data := #[] }, 0, { data := #[] }⟩, [], 0, 0, 0, c.nm, c.ix, c.bt⟩, false, none, 0, none, 0, exu ky ⟨(by unfold mayC; rw [q10, q27, q35, q43, q74, q104, q112, q120, q123, q150]; rfl), (At.nil _), (At.nil _), h152⟩⟩}
     refine zl (.bool true) h149 enter42 _ (((wi_any (((c.nm.size : Nat) : Int)) 1 40).mono fun _ _ hh => ⟨by rw [hh.1, q150], hh.2⟩)) (fun w153 h154 => (zv (.bool true) (zv (.bool true) (zv (.pointer (some ⟨q1, 22, none⟩)) (zu (.int .i64 c.ix) (run_load1 (fun w => Try.isAgg3 w) ky (((h154.get 1 rfl).cell 22).trans rfl)) ?_)))))
     rcases q155 : wi c.ix 0 63 with _ | _
     {refine zl (.bool false) h154 enter42 _ (((wi_any c.ix 0 63).mono fun _ _ hh => ⟨by rw [hh.1, q155], hh.2⟩)) (fun w156 h157 => (zv (.bool false) (zv (.bool false) (wl_nil (then_at rfl ?_)))))
      refine wp_exit ?_
      repeat first | refine then_exit ?_ | refine block_exit ?_ | refine block_exit_ne (by decide) ?_
      exact then_I ⟨⟨c.kd, 0, 0, ⟨0, 0, { data := #[] }, [], { data := #[] }⟩, ⟨0, 0, { data := #[] }, { data := #[] }, 0, { data := #[] }, { data := #[] }, 0, { data := #[] }⟩, [], 0, 0, 0, c.nm, c.ix, c.bt⟩, false, none, 0, none, 0, exu ky ⟨(by unfold mayC; rw [q10, q27, q35, q43, q74, q104, q112, q120, q123, q150, q155]; rfl), (At.nil _), (At.nil _), h157⟩⟩}
     refine zl (.bool true) h154 enter42 _ (((wi_any c.ix 0 63).mono fun _ _ hh => ⟨by rw [hh.1, q155], hh.2⟩)) (fun w158 h159 => (zv (.bool true) (zv (.bool true) (wl_nil (then_at rfl ?_)))))
     refine wp_exit ?_
     repeat first | refine then_exit ?_ | refine block_exit ?_ | refine block_exit_ne (by decide) ?_
     exact then_I ⟨⟨c.kd, 0, 0, ⟨0, 0, { data := #[] }, [], { data := #[] }⟩, ⟨0, 0, { data := #[] }, { data := #[] }, 0, { data := #[] }, { data := #[] }, 0, { data := #[] }⟩, [], 0, 0, 0, c.nm, c.ix, c.bt⟩, true, none, 0, none, 0, exu ky ⟨(by unfold mayC; rw [q10, q27, q35, q43, q74, q104, q112, q120, q123, q150, q155]; rfl), (At.nil _), (At.nil _), h159⟩⟩}}
   refine zu (.bool false) (run_eqZ (k := .i64) (a := c.kd) (b := 8) ky ky false q120) (zv (.bool false) (wl_nil (then_at rfl (wp_cond_false ky (wp_skip (then_at rfl (wp_seq (wl_region ?_))))))))
   rcases q160 : decide (c.kd = 9) with _ | _; rotate_left
   {refine zu (.bool true) (run_eqZ (k := .i64) (a := c.kd) (b := 9) ky ky true q160) (zv (.bool true) (wl_nil (then_at rfl (wp_cond_true ky ?_))))
    refine wp_exit ?_
    repeat first | refine then_exit ?_ | refine block_exit ?_ | refine block_exit_ne (by decide) ?_
    refine then_at rfl (wp_seq (wp_seq ?_))
    refine wp_region_wx (fun w' => Blk w' q1 30 (caC c (.slice o c.li.ds.length k) (.slice p c.on.length m))) (fun AQ w' => AQ = ⟨(.agg (caC c (.slice o c.li.ds.length k) (.slice p c.on.length m)) :: pt q1 :: .bool false :: pt q4 :: .bool true :: pt q1 :: .int .i64 c.kd :: .agg #[.int .i64 c.kd, iN .i64 0, iN .i64 0, iN .i64 0, iN .i64 0, .string ({ data := #[] }), .slice none 0 0, .string ({ data := #[] }), iN .i64 0, iN .i64 0, .string ({ data := #[] }), .string ({ data := #[] }), iN .i64 0, .string ({ data := #[] }), .string ({ data := #[] }), iN .i64 0, .string ({ data := #[] }), .slice none 0 0, iN .i64 0, iN .u64 0, iN .u64 0, .string ({ data := #[] }), iN .i64 0, .string ({ data := #[] })] :: pt q1 :: .int .i64 c.kd :: .bool false :: .bool false :: .bool false :: .bool false :: .bool false :: .bool false :: .bool false :: .bool false :: .bool false :: .bool false :: .bool false :: .bool false :: .bool false :: .bool false :: .bool false :: .bool true :: .bool true :: un :: un :: un :: un :: un :: un :: un :: un :: un :: un :: un :: un :: un :: un :: un :: un :: un :: un :: un :: un :: un :: un :: un :: un :: un :: un :: un :: un :: un :: un :: un :: un :: un :: un :: un :: un :: un :: un :: un :: un :: un :: un :: un :: un :: un :: un :: un :: un :: un :: un :: un :: un :: un :: un :: un :: un :: un :: un :: un :: un :: un :: un :: un :: un :: un :: un :: un :: un :: un :: un :: un :: un :: un :: un :: un :: un :: un :: un :: un :: un :: un :: un :: un :: un :: un :: un :: un :: un :: un :: un :: un :: un :: un :: .pointer (some ⟨q1, 21, none⟩) :: .string c.nm :: .pointer (some ⟨q1, 22, none⟩) :: .int .i64 c.ix :: .pointer (some ⟨q4, 21, none⟩) :: .pointer (some ⟨q4, 22, none⟩) :: List.replicate 18 un).toArray, []⟩ ∧ HA (bs w) [(q4, 30, #[.int .i64 c.kd, iN .i64 0, iN .i64 0, iN .i64 0, iN .i64 0, .string ({ data := #[] }), .slice none 0 0, .string ({ data := #[] }), iN .i64 0, iN .i64 0, .string ({ data := #[] }), .string ({ data := #[] }), iN .i64 0, .string ({ data := #[] }), .string ({ data := #[] }), iN .i64 0, .string ({ data := #[] }), .slice none 0 0, iN .i64 0, iN .u64 0, iN .u64 0, .string c.nm, .int .i64 c.ix, .string ({ data := #[] })]), (q1, 30, caC c (.slice o c.li.ds.length k) (.slice p c.on.length m))] w') 8 ky ky ky ky ky ((h8.drew).get 1 rfl) ?_ ?_
    {have h161 := h8.drew
     refine zp 0 (.pointer (some ⟨q1, 21, none⟩)) (zx 1 (.string c.nm) rfl (fun w' h' => run_load1 (fun w => Try.isAgg9 w) ky ((h'.cell 21).trans rfl)) (zp 2 (.pointer (some ⟨q1, 22, none⟩)) (zx 3 (.int .i64 c.ix) rfl (fun w' h' => run_load1 (fun w => Try.isAgg3 w) ky ((h'.cell 22).trans rfl)) (zp 4 (.pointer (some ⟨q4, 21, none⟩)) (wx_one 5 ky ?_)))))
     refine ex_skipT rfl ky h161 fun w162 h163 => ⟨_, run_storev (q := q4) (i := 21) (v := .string c.nm) (fun w => Try.sizeOf9 w) ky ky ky (by rw [(h163.get 0 rfl).cell]; rfl) ((h163.get 0 rfl).free _ (by show 21 < 24; decide)), ?_⟩
     have h164 := h163.put 0 rfl 21 (.string c.nm)
     refine ⟨_, .inr rfl, (h164.get 1 rfl), ?_⟩
     refine zp 6 (.pointer (some ⟨q4, 22, none⟩)) (wx_one 7 ky ?_)
     refine ex_skipT rfl ky h164 fun w165 h166 => ⟨_, run_storev (q := q4) (i := 22) (v := .int .i64 c.ix) (fun w => Try.sizeOf3 w) ky ky ky (by rw [(h166.get 0 rfl).cell]; rfl) ((h166.get 0 rfl).free _ (by show 22 < 24; decide)), ?_⟩
     have h167 := h166.put 0 rfl 22 (.int .i64 c.ix)
     refine ⟨_, .inr rfl, (h167.get 1 rfl), ?_⟩
     refine wx_end fun w168 hbx _ => ?_
     have h169 := HA.keep _ _ h167 hbx
     exact ⟨by kernel_rfl, h169⟩}
    {rintro _ w170 ⟨rfl, h171⟩
     refine then_at rfl (wl_region ?_)
     refine zv (.bool true) (zv (.bool true) (zv (.pointer (some ⟨q1, 21, none⟩)) (zu (.string c.nm) (run_load1 (fun w => Try.isAgg9 w) ky (((h171.get 1 rfl).cell 21).trans rfl)) (zu (iN .i64 c.nm.size) (run_len (s := c.nm) ky) ?_))))
     rcases q172 : wi (((c.nm.size : Nat) : Int)) 1 40 with _ | _
     {refine zl (.bool false) h171 enter42 _ (((wi_any (((c.nm.size : Nat) : Int)) 1 40).mono fun _ _ hh => ⟨by rw [hh.1, q172], hh.2⟩)) (fun w173 h174 => (zv (.bool false) (zv (.bool false) (zk (zk (zk (zv (.bool false) (zv (.bool false) (wl_nil (then_at rfl ?_))))))))))
      refine wp_exit ?_
      repeat first | refine then_exit ?_ | refine block_exit ?_ | refine block_exit_ne (by decide) ?_
      exact then_I ⟨⟨c.kd, 0, 0, ⟨0, 0, { data := #[] }, [], { data := #[] }⟩, ⟨0, 0, { data := #[] }, { data := #[] }, 0, { data := #[] }, { data := #[] }, 0, { data := #[] }⟩, [], 0, 0, 0, c.nm, c.ix, { data := #[] }⟩, false, none, 0, none, 0, exu ky ⟨(by unfold mayC; rw [q10, q27, q35, q43, q74, q104, q112, q120, q160, q172]; rfl), (At.nil _), (At.nil _), h174⟩⟩}
     refine zl (.bool true) h171 enter42 _ (((wi_any (((c.nm.size : Nat) : Int)) 1 40).mono fun _ _ hh => ⟨by rw [hh.1, q172], hh.2⟩)) (fun w175 h176 => (zv (.bool true) (zv (.bool true) (zv (.pointer (some ⟨q1, 22, none⟩)) (zu (.int .i64 c.ix) (run_load1 (fun w => Try.isAgg3 w) ky (((h176.get 1 rfl).cell 22).trans rfl)) ?_)))))
     rcases q177 : wi c.ix 0 63 with _ | _
     {refine zl (.bool false) h176 enter42 _ (((wi_any c.ix 0 63).mono fun _ _ hh => ⟨by rw [hh.1, q177], hh.2⟩)) (fun w178 h179 => (zv (.bool false) (zv (.bool false) (wl_nil (then_at rfl ?_)))))
      refine wp_exit ?_
      repeat first | refine then_exit ?_ | refine block_exit ?_ | refine block_exit_ne (by decide) ?_
      exact then_I ⟨⟨c.kd, 0, 0, ⟨0, 0, { data := #[] }, [], { data := #[] }⟩, ⟨0, 0, { data := #[] }, { data := #[] }, 0, { data := #[] }, { data := #[] }, 0, { data := #[] }⟩, [], 0, 0, 0, c.nm, c.ix, { data := #[] }⟩, false, none, 0, none, 0, exu ky ⟨(by unfold mayC; rw [q10, q27, q35, q43, q74, q104, q112, q120, q160, q172, q177]; rfl), (At.nil _), (At.nil _), h179⟩⟩}
     refine zl (.bool true) h176 enter42 _ (((wi_any c.ix 0 63).mono fun _ _ hh => ⟨by rw [hh.1, q177], hh.2⟩)) (fun w180 h181 => (zv (.bool true) (zv (.bool true) (wl_nil (then_at rfl ?_)))))
     refine wp_exit ?_
     repeat first | refine then_exit ?_ | refine block_exit ?_ | refine block_exit_ne (by decide) ?_
     exact then_I ⟨⟨c.kd, 0, 0, ⟨0, 0, { data := #[] }, [], { data := #[] }⟩, ⟨0, 0, { data := #[] }, { data := #[] }, 0, { data := #[] }, { data := #[] }, 0, { data := #[] }⟩, [], 0, 0, 0, c.nm, c.ix, { data := #[] }⟩, true, none, 0, none, 0, exu ky ⟨(by unfold mayC; rw [q10, q27, q35, q43, q74, q104, q112, q120, q160, q172, q177]; rfl), (At.nil _), (At.nil _), h181⟩⟩}}
   refine zu (.bool false) (run_eqZ (k := .i64) (a := c.kd) (b := 9) ky ky false q160) (zv (.bool false) (wl_nil (then_at rfl (wp_cond_false ky (wp_skip (then_at rfl ?_))))))
   refine wp_exit ?_
   repeat first | refine then_exit ?_ | refine block_exit ?_ | refine block_exit_ne (by decide) ?_
   refine then_at rfl (wp_seq (wp_seq (wl_region ?_)))
   refine zv (.bool false) (wl_nil (then_at rfl (wp_ret ?_)))
   repeat first|refine tr ?_|refine block_ret ?_
   exact bodyPost_ret (v := .bool false) ky rfl ⟨by rw [(show mayC c = false from by unfold mayC; rw [q10, q27, q35, q43, q74, q104, q112, q120, q160]; first | done | rfl)], h8.old.old⟩}
  {rintro _ w182 ⟨hd, okb, o2, k2, p2, m2, u9, rfl, hmc, hP2, hQ2, h183⟩
   refine wp_seq ?_
   rcases okb with _ | _
   {refine wl_region (zv (.bool false) (zv (.bool false) (zk (zk (zk (zv (.bool false) (zv (.bool false) (wl_nil (then_at rfl (wp_ret ?_))))))))))
    repeat first|refine tr ?_|refine block_ret ?_
    exact bodyPost_ret (v := .bool false) ky rfl ⟨by rw [show mayC c = false from by rw [hmc]; rfl], h183.old.old⟩}
   refine wl_region (zv (.bool true) (zv (.bool true) (wl_load h183 1 rfl ky ky Try.underlying30 rfl ky (wl_load h183 0 rfl ky ky Try.underlying30 rfl ky ?_))))
   rcases q184 : sameC c hd with _ | _
   {refine zl (.bool false) h183 enter12 #[.agg (caC c (.slice o c.li.ds.length k) (.slice p c.on.length m)), .agg (caC hd (.slice o2 hd.li.ds.length k2) (.slice p2 hd.on.length m2))] (((smc_any c hd (hP.keep h183.old.old) (hQ.keep h183.old.old) (hP2.keep h183.old.old) (hQ2.keep h183.old.old) hl1 hl2).mono fun _ _ hh => ⟨by rw [hh.1, q184], hh.2⟩)) (fun w185 h186 => (zv (.bool false) (zv (.bool false) (wl_nil (then_at rfl (wp_ret ?_))))))
    repeat first|refine tr ?_|refine block_ret ?_
    exact bodyPost_ret (v := .bool false) ky rfl ⟨by rw [show mayC c = false from by rw [hmc, q184]; rfl], h186.old.old⟩}
   refine zl (.bool true) h183 enter12 #[.agg (caC c (.slice o c.li.ds.length k) (.slice p c.on.length m)), .agg (caC hd (.slice o2 hd.li.ds.length k2) (.slice p2 hd.on.length m2))] (((smc_any c hd (hP.keep h183.old.old) (hQ.keep h183.old.old) (hP2.keep h183.old.old) (hQ2.keep h183.old.old) hl1 hl2).mono fun _ _ hh => ⟨by rw [hh.1, q184], hh.2⟩)) (fun w187 h188 => (zv (.bool true) (zv (.bool true) (wl_nil (then_at rfl (wp_ret ?_))))))
   repeat first|refine tr ?_|refine block_ret ?_
   exact bodyPost_ret (v := .bool true) ky rfl ⟨by rw [show mayC c = true from by rw [hmc, q184]; rfl], h188.old.old⟩}
end Go.Proofs.Ytiogegoepgkjlaa
