/-
  SameAnswer, mayBeItems, mayBeAnswer, answerBytes, EncodeAnswer.
-/
import Derived.Test.YtiogegoepgkjlaaC7
set_option maxRecDepth 100000
set_option linter.unusedVariables false
namespace Go.Proofs.Ytiogegoepgkjlaa
open Go.RowKit

def sameA (a b : An) : Bool := decide (a.er = b.er) && sameL a.li b.li && decide (a.bu = b.bu) && decide (a.its = b.its) && decide (a.bt = b.bt) && decide (a.lf = b.lf)
theorem sameA_eq (a b : An) : sameA a b = decide (a = b) := by
  obtain ⟨a1, a2, a3, a4, a5, a6⟩ := a
  obtain ⟨b1, b2, b3, b4, b5, b6⟩ := b
  rw [Bool.eq_iff_iff]
  simp [sameA, sameL_eq, and_assoc]
set_option maxHeartbeats 4000000 in
theorem sma_any {w : World} (a b : An) {o p o2 p2 : Option Addr} {k m k2 m2 : Nat} (hP : At w o (mcl a.li.ds)) (hQ : At w p (icl a.its)) (hP2 : At w o2 (mcl b.li.ds)) (hQ2 : At w p2 (icl b.its)) (hl1 : a.li.ds.length ≤ 1000000) (hl2 : a.its.length ≤ 1000000) :
    Calls Try.prog 24 #[.agg (anC a (.slice o a.li.ds.length k) (.slice p a.its.length m)), .agg (anC b (.slice o2 b.li.ds.length k2) (.slice p2 b.its.length m2))] w fun e w' => e = .returned (.bool (sameA a b)) ∧ Below w.heap.size w w' := by
  have H0 := HA.start w
  go_enter Try.func24, Try.ntmps24
  refine wp_seq (wl_region (wl_make (c := anC a (.slice o a.li.ds.length k) (.slice p a.its.length m)) H0 47 ky ky ?_))
  intro q1 w2 (h3 : HA (bs w) [(q1, 47, anC a (.slice o a.li.ds.length k) (.slice p a.its.length m))] w2)
  refine wl_make (c := anC b (.slice o2 b.li.ds.length k2) (.slice p2 b.its.length m2)) h3 47 ky ky ?_
  intro q4 w5 (h6 : HA (bs w) [(q4, 47, anC b (.slice o2 b.li.ds.length k2) (.slice p2 b.its.length m2)), (q1, 47, anC a (.slice o a.li.ds.length k) (.slice p a.its.length m))] w5)
  refine zv (.bool false) (wl_nil (then_at rfl (wp_seq (wl_region (zv (.pointer (some ⟨q1, 0, none⟩)) (zu (.int .i64 a.er) (run_load1 (fun w => Try.isAgg33 w) ky (((h6.get 1 rfl).cell 0).trans rfl)) (zv (.pointer (some ⟨q4, 0, none⟩)) (zu (.int .i64 b.er) (run_load1 (fun w => Try.isAgg33 w) ky (((h6.get 0 rfl).cell 0).trans rfl)) ?_))))))))
  rcases q7 : decide (a.er = b.er) with _ | _
  {refine zu (.bool false) (run_eqZ (k := .i64) (a := a.er) (b := b.er) ky ky false q7) (zv (.bool false) (zk (zk (zk (zk (zk (zv (.bool false) (zv (.bool false) (zk (zk (zk (zk (zk (zv (.bool false) (zv (.bool false) (zk (zk (zk (zk (zk (zv (.bool false) (zv (.bool false) (zk ?_)))))))))))))))))))))))
   refine zk (zk (zk (zk (zv (.bool false) (zv (.bool false) (zk (zk (zk (zk (zk (zv (.bool false) (zv (.bool false) (wl_nil (then_at rfl (wp_ret ?_)))))))))))))))
   repeat first|refine tr ?_|refine block_ret ?_
   exact bodyPost_ret (v := .bool false) ky rfl ⟨by rw [(show sameA a b = false from by unfold sameA; rw [q7]; first | done | rfl)], h6.old.old⟩}
  refine zu (.bool true) (run_eqZ (k := .i64) (a := a.er) (b := b.er) ky ky true q7) (zv (.bool true) (zv (.pointer (some ⟨q1, 1, none⟩)) (zu (.agg #[.int .i64 a.li.u, .int .i64 a.li.v, .string a.li.ac, .slice o a.li.ds.length k, .string a.li.sg]) (run_load_part (q := q1) (off := 1) (d := #[.int .i64 a.li.u, .int .i64 a.li.v, .string a.li.ac, .slice o a.li.ds.length k, .string a.li.sg]) ky (h6.get 1 rfl) Try.underlying25 rfl ky (by intro j hj; match j, hj with | 0, _ => rfl | 1, _ => rfl | 2, _ => rfl | 3, _ => rfl | 4, _ => rfl)) (zv (.pointer (some ⟨q4, 1, none⟩)) (zu (.agg #[.int .i64 b.li.u, .int .i64 b.li.v, .string b.li.ac, .slice o2 b.li.ds.length k2, .string b.li.sg]) (run_load_part (q := q4) (off := 1) (d := #[.int .i64 b.li.u, .int .i64 b.li.v, .string b.li.ac, .slice o2 b.li.ds.length k2, .string b.li.sg]) ky (h6.get 0 rfl) Try.underlying25 rfl ky (by intro j hj; match j, hj with | 0, _ => rfl | 1, _ => rfl | 2, _ => rfl | 3, _ => rfl | 4, _ => rfl)) ?_)))))
  rcases q8 : sameL a.li b.li with _ | _
  {refine zl (.bool false) h6 enter16 #[.agg #[.int .i64 a.li.u, .int .i64 a.li.v, .string a.li.ac, .slice o a.li.ds.length k, .string a.li.sg], .agg #[.int .i64 b.li.u, .int .i64 b.li.v, .string b.li.ac, .slice o2 b.li.ds.length k2, .string b.li.sg]] (((sml_any a.li b.li (hP.keep h6.old.old) (hP2.keep h6.old.old) hl1).mono fun _ _ hh => ⟨by rw [hh.1, q8], hh.2⟩)) (fun w9 h10 => (zv (.bool false) (zv (.bool false) (zk (zk (zk (zk (zk (zv (.bool false) (zv (.bool false) (zk (zk (zk (zk (zk (zv (.bool false) (zv (.bool false) (zk (zk (zk (zk (zk (zv (.bool false) ?_)))))))))))))))))))))))
   refine zv (.bool false) (zk (zk (zk (zk (zk (zv (.bool false) (zv (.bool false) (wl_nil (then_at rfl (wp_ret ?_))))))))))
   repeat first|refine tr ?_|refine block_ret ?_
   exact bodyPost_ret (v := .bool false) ky rfl ⟨by rw [(show sameA a b = false from by unfold sameA; rw [q7, q8]; first | done | rfl)], h10.old.old⟩}
  refine zl (.bool true) h6 enter16 #[.agg #[.int .i64 a.li.u, .int .i64 a.li.v, .string a.li.ac, .slice o a.li.ds.length k, .string a.li.sg], .agg #[.int .i64 b.li.u, .int .i64 b.li.v, .string b.li.ac, .slice o2 b.li.ds.length k2, .string b.li.sg]] (((sml_any a.li b.li (hP.keep h6.old.old) (hP2.keep h6.old.old) hl1).mono fun _ _ hh => ⟨by rw [hh.1, q8], hh.2⟩)) (fun w11 h12 => (zv (.bool true) (zv (.bool true) (zv (.pointer (some ⟨q1, 6, none⟩)) (zu (.agg #[.int .i64 a.bu.u, .int .i64 a.bu.d, .string a.bu.sg, .string a.bu.dh, .int .i64 a.bu.pi, .string a.bu.pr, .string a.bu.ps, .int .i64 a.bu.oi, .string a.bu.on]) (run_load_part (q := q1) (off := 6) (d := #[.int .i64 a.bu.u, .int .i64 a.bu.d, .string a.bu.sg, .string a.bu.dh, .int .i64 a.bu.pi, .string a.bu.pr, .string a.bu.ps, .int .i64 a.bu.oi, .string a.bu.on]) ky (h12.get 1 rfl) Try.underlying27 rfl ky (by intro j hj; match j, hj with | 0, _ => rfl | 1, _ => rfl | 2, _ => rfl | 3, _ => rfl | 4, _ => rfl | 5, _ => rfl | 6, _ => rfl | 7, _ => rfl | 8, _ => rfl)) (zv (.pointer (some ⟨q4, 6, none⟩)) (zu (.agg #[.int .i64 b.bu.u, .int .i64 b.bu.d, .string b.bu.sg, .string b.bu.dh, .int .i64 b.bu.pi, .string b.bu.pr, .string b.bu.ps, .int .i64 b.bu.oi, .string b.bu.on]) (run_load_part (q := q4) (off := 6) (d := #[.int .i64 b.bu.u, .int .i64 b.bu.d, .string b.bu.sg, .string b.bu.dh, .int .i64 b.bu.pi, .string b.bu.pr, .string b.bu.ps, .int .i64 b.bu.oi, .string b.bu.on]) ky (h12.get 0 rfl) Try.underlying27 rfl ky (by intro j hj; match j, hj with | 0, _ => rfl | 1, _ => rfl | 2, _ => rfl | 3, _ => rfl | 4, _ => rfl | 5, _ => rfl | 6, _ => rfl | 7, _ => rfl | 8, _ => rfl)) ?_)))))))
  rcases q13 : decide ((a.bu : Bu) = b.bu) with _ | _
  {refine zu (.bool false) (run_eqB (a := a.bu) (b := b.bu) ky ky false q13) (zv (.bool false) (zv (.bool false) (zk (zk (zk (zk (zk (zv (.bool false) (zv (.bool false) (zk (zk (zk (zk (zk (zv (.bool false) (zv (.bool false) (zk (zk (zk (zk (zk (zv (.bool false) (zv (.bool false) ?_)))))))))))))))))))))))
   refine wl_nil (then_at rfl (wp_ret ?_))
   repeat first|refine tr ?_|refine block_ret ?_
   exact bodyPost_ret (v := .bool false) ky rfl ⟨by rw [(show sameA a b = false from by unfold sameA; rw [q7, q8, q13]; first | done | rfl)], h12.old.old⟩}
  refine zu (.bool true) (run_eqB (a := a.bu) (b := b.bu) ky ky true q13) (zv (.bool true) (zv (.bool true) (zv (.pointer (some ⟨q1, 15, none⟩)) (zu (.slice p a.its.length m) (run_load1 (fun w => Try.isAgg45 w) ky (((h12.get 1 rfl).cell 15).trans rfl)) (zv (.pointer (some ⟨q4, 15, none⟩)) (zu (.slice p2 b.its.length m2) (run_load1 (fun w => Try.isAgg45 w) ky (((h12.get 0 rfl).cell 15).trans rfl)) ?_))))))
  rcases q14 : decide (a.its = b.its) with _ | _
  {refine zl (.bool false) h12 enter58 #[.slice p a.its.length m, .slice p2 b.its.length m2] (((eqi_any a.its b.its (hQ.keep h12.old.old) (hQ2.keep h12.old.old) hl2).mono fun _ _ hh => ⟨by rw [hh.1, q14], hh.2⟩)) (fun w15 h16 => (zv (.bool false) (zv (.bool false) (zk (zk (zk (zk (zk (zv (.bool false) (zv (.bool false) (zk (zk (zk (zk (zk (zv (.bool false) (zv (.bool false) (wl_nil (then_at rfl (wp_ret ?_))))))))))))))))))))
   repeat first|refine tr ?_|refine block_ret ?_
   exact bodyPost_ret (v := .bool false) ky rfl ⟨by rw [(show sameA a b = false from by unfold sameA; rw [q7, q8, q13, q14]; first | done | rfl)], h16.old.old⟩}
  refine zl (.bool true) h12 enter58 #[.slice p a.its.length m, .slice p2 b.its.length m2] (((eqi_any a.its b.its (hQ.keep h12.old.old) (hQ2.keep h12.old.old) hl2).mono fun _ _ hh => ⟨by rw [hh.1, q14], hh.2⟩)) (fun w17 h18 => (zv (.bool true) (zv (.bool true) (zv (.pointer (some ⟨q1, 16, none⟩)) (zu (.string a.bt) (run_load1 (fun w => Try.isAgg9 w) ky (((h18.get 1 rfl).cell 16).trans rfl)) (zv (.pointer (some ⟨q4, 16, none⟩)) (zu (.string b.bt) (run_load1 (fun w => Try.isAgg9 w) ky (((h18.get 0 rfl).cell 16).trans rfl)) ?_)))))))
  rcases q19 : decide (a.bt = b.bt) with _ | _
  {refine zu (.bool false) (run_eqs (s := a.bt) (t := b.bt) ky ky false q19) (zv (.bool false) (zv (.bool false) (zk (zk (zk (zk (zk (zv (.bool false) (zv (.bool false) (wl_nil (then_at rfl (wp_ret ?_))))))))))))
   repeat first|refine tr ?_|refine block_ret ?_
   exact bodyPost_ret (v := .bool false) ky rfl ⟨by rw [(show sameA a b = false from by unfold sameA; rw [q7, q8, q13, q14, q19]; first | done | rfl)], h18.old.old⟩}
  refine zu (.bool true) (run_eqs (s := a.bt) (t := b.bt) ky ky true q19) (zv (.bool true) (zv (.bool true) (zv (.pointer (some ⟨q1, 17, none⟩)) (zu (.int .i64 a.lf) (run_load1 (fun w => Try.isAgg3 w) ky (((h18.get 1 rfl).cell 17).trans rfl)) (zv (.pointer (some ⟨q4, 17, none⟩)) (zu (.int .i64 b.lf) (run_load1 (fun w => Try.isAgg3 w) ky (((h18.get 0 rfl).cell 17).trans rfl)) ?_))))))
  rcases q20 : decide (a.lf = b.lf) with _ | _
  {refine zu (.bool false) (run_eqZ (k := .i64) (a := a.lf) (b := b.lf) ky ky false q20) (zv (.bool false) (zv (.bool false) (wl_nil (then_at rfl (wp_ret ?_)))))
   repeat first|refine tr ?_|refine block_ret ?_
   exact bodyPost_ret (v := .bool false) ky rfl ⟨by rw [(show sameA a b = false from by unfold sameA; rw [q7, q8, q13, q14, q19, q20]; first | done | rfl)], h18.old.old⟩}
  refine zu (.bool true) (run_eqZ (k := .i64) (a := a.lf) (b := b.lf) ky ky true q20) (zv (.bool true) (zv (.bool true) (wl_nil (then_at rfl (wp_ret ?_)))))
  repeat first|refine tr ?_|refine block_ret ?_
  exact bodyPost_ret (v := .bool true) ky rfl ⟨by rw [(show sameA a b = true from by unfold sameA; rw [q7, q8, q13, q14, q19, q20]; first | done | rfl)], h18.old.old⟩
def itOk (x : It) : Bool := wn x.n 1 1099511627776 && wn x.o 1 1099511627776 && isD x.f && wi ((x.b.size : Nat) : Int) 1 4096
def sumK (l : List It) : Nat → Nat
  | 0 => 0
  | k + 1 => sumK l k + (l.getD k it0).b.size
def mayI (l : List It) : Bool := !decide (8 < l.length) && l.all itOk && decide (sumK l l.length ≤ 8192)
theorem itOk_le {x : It} (h : itOk x = true) : (1 ≤ x.n ∧ x.n ≤ 1099511627776) ∧ (1 ≤ x.o ∧ x.o ≤ 1099511627776) ∧ (2 ≤ x.f ∧ x.f ≤ 7) ∧ 1 ≤ x.b.size ∧ x.b.size ≤ 4096 := by
  unfold itOk at h
  have h1 := and2 h; have h2 := and2 h1.1; have h3 := and2 h2.1
  have a1 := wn_le h3.1; have a2 := wn_le h3.2; have a3 := wi_le (show wi x.f 2 7 = true from h2.2); have a4 := wi_le h1.2
  exact ⟨a1, a2, a3, by omega, by omega⟩
set_option maxHeartbeats 2000000 in
theorem mi_any {w : World} (its : List It) {o : Option Addr} {c : Nat} (hP : At w o (icl its)) :
    Calls Try.prog 94 #[.slice o its.length c] w fun e w' => e = .returned (.bool (mayI its)) ∧ Below w.heap.size w w' := by
  have H0 := HA.start w
  go_enter Try.func94, Try.ntmps94
  refine wp_seq (wl_region (zv (.bool false) (wl_nil (then_at rfl (wp_seq (wp_seq (wl_region (zv (.slice o its.length c) (zv (iN .i64 its.length) ?_)))))))))
  rcases q1 : decide (8 < its.length) with _ | _
  {refine zu (.bool false) (run_gtr (k := .i64) (a := its.length) (b := 8) ky ky false q1) (wl_nil (then_at rfl (wp_cond_false ky (wp_skip (then_at rfl (wp_seq (wl_region (zv (iN .i64 0) (wl_nil (then_at rfl (wp_seq (wp_seq (wl_region (zv (.slice o its.length c) (zv (iN .i64 its.length) (zv (iN .i64 0) (wl_nil (then_at rfl (wp_block ?_)))))))))))))))))))
   refine wp_count (fun i A w' => ∃ u2 : Nat → Value, A = ⟨(.slice o its.length c :: un :: u2 2 :: iN .i64 (sumK its i) :: un :: u2 5 :: .slice o its.length c :: iN .i64 its.length :: .bool false :: .slice o its.length c :: iN .i64 its.length :: iN .i64 i :: u2 12 :: u2 13 :: u2 14 :: u2 15 :: u2 16 :: u2 17 :: u2 18 :: u2 19 :: u2 20 :: u2 21 :: u2 22 :: u2 23 :: u2 24 :: u2 25 :: u2 26 :: u2 27 :: u2 28 :: u2 29 :: u2 30 :: u2 31 :: u2 32 :: u2 33 :: u2 34 :: u2 35 :: u2 36 :: u2 37 :: u2 38 :: u2 39 :: u2 40 :: u2 41 :: u2 42 :: u2 43 :: List.replicate 2 un).toArray, []⟩ ∧ HA (bs w) [] w' ∧ ((∀ j, j < i → itOk (its.getD j it0) = true) ∧ sumK its i ≤ i * 4096)) its.length ?_ ?_ ?_
   {exact exu ky ⟨H0, ⟨fun j h => absurd h (Nat.not_lt_zero j), Nat.le_refl _⟩⟩}
   {rintro i hk _ w3 ⟨u2, rfl, h4, ⟨hall, hsm⟩⟩
    obtain ⟨ma, hma, hAa⟩ := hP.ex (by rw [icl_len]; omega)
    have h8 : its.length ≤ 8 := by have := of_decide_eq_false q1; omega
    refine wp_seq (wl_region (zu (.bool true) (run_lss (k := .i64) (a := i) (b := its.length) ky ky true (decide_eq_true (by omega))) (wl_nil (then_at rfl (wp_seq (wp_cond_true ky (wp_skip (then_at rfl (wp_seq (wp_block (wp_seq (wl_region (zu (.pointer (some (ma.add (i * 4)))) (run_addr45 (a := ma) (n := its.length) (m := c) (i := i) hma ky ky hk) ?_)))))))))))))
    refine wl_val (.agg (itC (its.getD i it0))) ky ((run_ld45 (hAa.keep h4.old.old) hk ky)) ?_
    refine wl_make (c := #[iN .u64 0, iN .i64 0, iN .u64 0, .string ({ data := #[] })]) h4 62 ky ky ?_
    intro q5 w6 (h7 : HA (bs w) [(q5, 62, #[iN .u64 0, iN .i64 0, iN .u64 0, .string ({ data := #[] })])] w6)
    refine wl_fill (c' := itC (its.getD i it0)) h7 0 rfl ky ky ky rfl ky ky (fun w8 h9 => (wl_nil (then_at rfl (wp_seq (wp_seq (wl_region (zv (.pointer (some ⟨q5, 0, none⟩)) (zu (iN .u64 ((its.getD i it0).n)) (run_load1 (fun w => Try.isAgg22 w) ky (((h9.get 0 rfl).cell 0).trans rfl)) ?_))))))))
    rcases q10 : wn ((its.getD i it0).n) 1 1099511627776 with _ | _
    {refine zl (.bool false) h9 enter61 _ (((wu_any ((its.getD i it0).n) 1 1099511627776).mono fun _ _ hh => ⟨by rw [hh.1, q10], hh.2⟩)) (fun w11 h12 => (zv (.bool true) (zv (.bool true) (zk (zk (zk (zk (zv (.bool true) (zv (.bool true) (zk (zk (zk (zk (zv (.bool true) (zv (.bool true) (zk (zk (zk (zk (zk (zv (.bool true) (wl_nil (then_at rfl (wp_cond_true ky ?_))))))))))))))))))))))))
     refine wp_seq (wl_region (zv (.bool false) (wl_nil (then_at rfl (wp_ret ?_)))))
     repeat first|refine tr ?_|refine block_ret ?_
     exact bodyPost_ret (v := .bool false) ky rfl ⟨by rw [show mayI its = false from by unfold mayI; rw [q1, all_no2 (p := itOk) hk (show itOk (its.getD i it0) = false from by unfold itOk; rw [q10]; rfl)]; rfl], h12.old.old⟩}
    refine zl (.bool true) h9 enter61 _ (((wu_any ((its.getD i it0).n) 1 1099511627776).mono fun _ _ hh => ⟨by rw [hh.1, q10], hh.2⟩)) (fun w13 h14 => (zv (.bool false) (zv (.bool false) (zv (.pointer (some ⟨q5, 2, none⟩)) (zu (iN .u64 ((its.getD i it0).o)) (run_load1 (fun w => Try.isAgg22 w) ky (((h14.get 0 rfl).cell 2).trans rfl)) ?_)))))
    rcases q15 : wn ((its.getD i it0).o) 1 1099511627776 with _ | _
    {refine zl (.bool false) h14 enter61 _ (((wu_any ((its.getD i it0).o) 1 1099511627776).mono fun _ _ hh => ⟨by rw [hh.1, q15], hh.2⟩)) (fun w16 h17 => (zv (.bool true) (zv (.bool true) (zv (.bool true) (zk (zk (zk (zk (zv (.bool true) (zv (.bool true) (zk (zk (zk (zk (zk (zv (.bool true) (wl_nil (then_at rfl (wp_cond_true ky (wp_seq (wl_region (zv (.bool false) (wl_nil (then_at rfl (wp_ret ?_)))))))))))))))))))))))))
     repeat first|refine tr ?_|refine block_ret ?_
     exact bodyPost_ret (v := .bool false) ky rfl ⟨by rw [show mayI its = false from by unfold mayI; rw [q1, all_no2 (p := itOk) hk (show itOk (its.getD i it0) = false from by unfold itOk; rw [q10, q15]; rfl)]; rfl], h17.old.old⟩}
    refine zl (.bool true) h14 enter61 _ (((wu_any ((its.getD i it0).o) 1 1099511627776).mono fun _ _ hh => ⟨by rw [hh.1, q15], hh.2⟩)) (fun w18 h19 => (zv (.bool false) (zv (.bool false) (zv (.bool false) (zv (.pointer (some ⟨q5, 1, none⟩)) (zu (.int .i64 ((its.getD i it0).f)) (run_load1 (fun w => Try.isAgg3 w) ky (((h19.get 0 rfl).cell 1).trans rfl)) ?_))))))
    rcases q20 : isD ((its.getD i it0).f) with _ | _
    {refine zl (.bool false) h19 enter60 _ (((isD_any ((its.getD i it0).f)).mono fun _ _ hh => ⟨by rw [hh.1, q20], hh.2⟩)) (fun w21 h22 => (zv (.bool true) (zv (.bool true) (zv (.bool true) (zk (zk (zk (zk (zk (zv (.bool true) (wl_nil (then_at rfl (wp_cond_true ky (wp_seq (wl_region (zv (.bool false) (wl_nil (then_at rfl (wp_ret ?_)))))))))))))))))))
     repeat first|refine tr ?_|refine block_ret ?_
     exact bodyPost_ret (v := .bool false) ky rfl ⟨by rw [show mayI its = false from by unfold mayI; rw [q1, all_no2 (p := itOk) hk (show itOk (its.getD i it0) = false from by unfold itOk; rw [q10, q15, q20]; rfl)]; rfl], h22.old.old⟩}
    refine zl (.bool true) h19 enter60 _ (((isD_any ((its.getD i it0).f)).mono fun _ _ hh => ⟨by rw [hh.1, q20], hh.2⟩)) (fun w23 h24 => (zv (.bool false) (zv (.bool false) (zv (.bool false) (zv (.pointer (some ⟨q5, 3, none⟩)) (zu (.string ((its.getD i it0).b)) (run_load1 (fun w => Try.isAgg9 w) ky (((h24.get 0 rfl).cell 3).trans rfl)) (zu (iN .i64 (((its.getD i it0).b).size)) (run_len (s := (its.getD i it0).b) ky) ?_)))))))
    rcases q25 : wi (((((its.getD i it0).b).size : Nat) : Int)) 1 4096 with _ | _
    {refine zl (.bool false) h24 enter42 _ (((wi_any (((((its.getD i it0).b).size : Nat) : Int)) 1 4096).mono fun _ _ hh => ⟨by rw [hh.1, q25], hh.2⟩)) (fun w26 h27 => (zv (.bool true) (zv (.bool true) (wl_nil (then_at rfl (wp_cond_true ky (wp_seq (wl_region (zv (.bool false) (wl_nil (then_at rfl (wp_ret ?_))))))))))))
     repeat first|refine tr ?_|refine block_ret ?_
     exact bodyPost_ret (v := .bool false) ky rfl ⟨by rw [show mayI its = false from by unfold mayI; rw [q1, all_no2 (p := itOk) hk (show itOk (its.getD i it0) = false from by unfold itOk; rw [q10, q15, q20, q25]; rfl)]; rfl], h27.old.old⟩}
    have hok : itOk (its.getD i it0) = true := by unfold itOk; rw [q10, q15, q20, q25]; rfl
    refine zl (.bool true) h24 enter42 _ (((wi_any (((((its.getD i it0).b).size : Nat) : Int)) 1 4096).mono fun _ _ hh => ⟨by rw [hh.1, q25], hh.2⟩)) (fun w28 h29 => (zv (.bool false) (zv (.bool false) (wl_nil (then_at rfl (wp_cond_false ky (wp_skip (then_at rfl (wl_region (zv (iN .i64 (sumK its i)) (zv (.pointer (some ⟨q5, 3, none⟩)) (zu (.string ((its.getD i it0).b)) (run_load1 (fun w => Try.isAgg9 w) ky (((h29.get 0 rfl).cell 3).trans rfl)) (zu (iN .i64 (((its.getD i it0).b).size)) (run_len (s := (its.getD i it0).b) ky) (zu (iN .i64 ((sumK its i) + (((its.getD i it0).b).size))) (run_add (k := .i64) (a := sumK its i) (b := ((its.getD i it0).b).size) ky ky (by simp only [top]; have h9 := (itOk_le hok).2.2.2; omega)) (zv (iN .i64 ((sumK its i) + (((its.getD i it0).b).size))) (wl_nil (block_normal (then_at rfl (wl_region (zu (iN .i64 (i + 1)) (run_add (k := .i64) (a := i) (b := 1) ky ky (by first | omega | (simp only [top]; omega))) (zv (iN .i64 (i + 1)) (wl_nil ?_))))))))))))))))))))))
    exact then_I (exu ky ⟨(HA.sub h29 (List.Sublist.cons _ (List.Sublist.slnil))), ⟨fun j hj => (Nat.lt_succ_iff_lt_or_eq.1 hj).elim (hall j) (fun e => by rw [e]; exact hok), by have h9 := (itOk_le hok).2.2.2; show sumK its i + (its.getD i it0).b.size ≤ (i + 1) * 4096; omega⟩⟩)}
   {rintro _ w30 ⟨u2, rfl, h31, ⟨hall, hsm⟩⟩
    refine wp_seq (wl_region (zu (.bool false) (run_lss (k := .i64) (a := its.length) (b := its.length) ky ky false (decide_eq_false (by omega))) (wl_nil (then_at rfl (wp_seq (wp_cond_false ky ?_))))))
    refine wp_exit ?_
    repeat first | refine then_exit ?_ | refine block_exit ?_ | refine block_exit_ne (by decide) ?_
    refine then_at rfl (wp_seq (wl_region ?_))
    refine zv (iN .i64 (sumK its its.length)) ?_
    rcases q32 : decide (sumK its its.length ≤ 8192) with _ | _
    {refine zu (.bool false) (run_leq (k := .i64) (a := sumK its its.length) (b := 8192) ky ky false q32) (zv (.bool false) (wl_nil (then_at rfl (wp_ret ?_))))
     repeat first|refine tr ?_|refine block_ret ?_
     exact bodyPost_ret (v := .bool false) ky rfl ⟨by rw [show mayI its = false from by unfold mayI; rw [q1, all_yes2 hall, q32]; rfl], h31.old.old⟩}
    refine zu (.bool true) (run_leq (k := .i64) (a := sumK its its.length) (b := 8192) ky ky true q32) (zv (.bool true) (wl_nil (then_at rfl (wp_ret ?_))))
    repeat first|refine tr ?_|refine block_ret ?_
    exact bodyPost_ret (v := .bool true) ky rfl ⟨by rw [show mayI its = true from by unfold mayI; rw [q1, all_yes2 hall, q32]; rfl], h31.old.old⟩}}
  refine zu (.bool true) (run_gtr (k := .i64) (a := its.length) (b := 8) ky ky true q1) (wl_nil (then_at rfl (wp_cond_true ky (wp_seq (wl_region (zv (.bool false) (wl_nil (then_at rfl (wp_ret ?_)))))))))
  repeat first|refine tr ?_|refine block_ret ?_
  exact bodyPost_ret (v := .bool false) ky rfl ⟨by rw [show mayI its = false from by unfold mayI; rw [q1]; rfl], H0.old.old⟩
/-- may an answer be? -/
def mayA (a : An) : Bool := bif decide (a.er = 0) then ((sameL a.li ⟨0, 0, { data := #[] }, [], { data := #[] }⟩ || mayL a.li) && (decide (a.bu = ⟨0, 0, { data := #[] }, { data := #[] }, 0, { data := #[] }, { data := #[] }, 0, { data := #[] }⟩) || !decide ((encA a.bu).1 = { data := #[] })) && mayI a.its && decide (a.bt.size ≤ 4096) && wi a.lf 0 20) else (wi a.er 0 16 && sameA a ⟨a.er, ⟨0, 0, { data := #[] }, [], { data := #[] }⟩, ⟨0, 0, { data := #[] }, { data := #[] }, 0, { data := #[] }, { data := #[] }, 0, { data := #[] }⟩, [], { data := #[] }, 0⟩)
set_option maxHeartbeats 4000000 in
theorem mayA_any {w : World} (a : An) {o p : Option Addr} {k m : Nat} (hP : At w o (mcl a.li.ds)) (hQ : At w p (icl a.its)) (hl1 : a.li.ds.length ≤ 1000000) (hl2 : a.its.length ≤ 1000000) :
    Calls Try.prog 55 #[.agg (anC a (.slice o a.li.ds.length k) (.slice p a.its.length m))] w fun e w' => e = .returned (.bool (mayA a)) ∧ Below w.heap.size w w' := by
  have H0 := HA.start w
  go_enter Try.func55, Try.ntmps55
  refine wp_seq (wl_region (wl_make (c := anC a (.slice o a.li.ds.length k) (.slice p a.its.length m)) H0 47 ky ky ?_))
  intro q1 w2 (h3 : HA (bs w) [(q1, 47, anC a (.slice o a.li.ds.length k) (.slice p a.its.length m))] w2)
  refine zv (.bool false) (wl_nil (then_at rfl (wp_seq (wp_seq (wl_region (zv (.pointer (some ⟨q1, 0, none⟩)) (zu (.int .i64 a.er) (run_load1 (fun w => Try.isAgg33 w) ky (((h3.get 0 rfl).cell 0).trans rfl)) ?_)))))))
  rcases q4 : decide (a.er = 0) with _ | _
  {refine zu (.bool true) (run_neZ (k := .i64) (a := a.er) (b := 0) ky ky false q4) (wl_nil (then_at rfl (wp_cond_true ky (wp_seq (wl_region (zv (.pointer (some ⟨q1, 0, none⟩)) (zu (.int .i64 a.er) (run_load1 (fun w => Try.isAgg33 w) ky (((h3.get 0 rfl).cell 0).trans rfl)) ?_)))))))
   rcases q5 : wi a.er 0 16 with _ | _
   {refine zl (.bool false) h3 enter93 _ (((we_any a.er 0 16).mono fun _ _ hh => ⟨by rw [hh.1, q5], hh.2⟩)) (fun w6 h7 => (zv (.bool false) (zk (zk (zk (zk (zk (zv (.bool false) (zv (.bool false) (wl_nil (then_at rfl (wp_ret ?_))))))))))))
    repeat first|refine tr ?_|refine block_ret ?_
    exact bodyPost_ret (v := .bool false) ky rfl ⟨by rw [(show mayA a = false from by unfold mayA; rw [q4, q5]; first | done | rfl)], h7.old.old⟩}
   refine zl (.bool true) h3 enter93 _ (((we_any a.er 0 16).mono fun _ _ hh => ⟨by rw [hh.1, q5], hh.2⟩)) (fun w8 h9 => (zv (.bool true) (wl_load h9 0 rfl ky ky Try.underlying47 rfl ky (zv (.pointer (some ⟨q1, 0, none⟩)) (zu (.int .i64 a.er) (run_load1 (fun w => Try.isAgg33 w) ky (((h9.get 0 rfl).cell 0).trans rfl)) (zv (.agg #[.int .i64 a.er, iN .i64 0, iN .i64 0, .string ({ data := #[] }), .slice none 0 0, .string ({ data := #[] }), iN .i64 0, iN .i64 0, .string ({ data := #[] }), .string ({ data := #[] }), iN .i64 0, .string ({ data := #[] }), .string ({ data := #[] }), iN .i64 0, .string ({ data := #[] }), .slice none 0 0, .string ({ data := #[] }), iN .i64 0]) ?_))))))
   rcases q10 : sameA a ⟨a.er, ⟨0, 0, { data := #[] }, [], { data := #[] }⟩, ⟨0, 0, { data := #[] }, { data := #[] }, 0, { data := #[] }, { data := #[] }, 0, { data := #[] }⟩, [], { data := #[] }, 0⟩ with _ | _
   {refine zl (.bool false) h9 enter24 #[.agg (anC a (.slice o a.li.ds.length k) (.slice p a.its.length m)), .agg #[.int .i64 a.er, iN .i64 0, iN .i64 0, .string ({ data := #[] }), .slice none 0 0, .string ({ data := #[] }), iN .i64 0, iN .i64 0, .string ({ data := #[] }), .string ({ data := #[] }), iN .i64 0, .string ({ data := #[] }), .string ({ data := #[] }), iN .i64 0, .string ({ data := #[] }), .slice none 0 0, .string ({ data := #[] }), iN .i64 0]] (((sma_any a ⟨a.er, ⟨0, 0, { data := #[] }, [], { data := #[] }⟩, ⟨0, 0, { data := #[] }, { data := #[] }, 0, { data := #[] }, { data := #[] }, 0, { data := #[] }⟩, [], { data := #[] }, 0⟩ (hP.keep h9.old.old) (hQ.keep h9.old.old) (At.nil _) (At.nil _) hl1 hl2).mono fun _ _ hh => ⟨by rw [hh.1, q10], hh.2⟩)) (fun w11 h12 => (zv (.bool false) (zv (.bool false) (wl_nil (then_at rfl (wp_ret ?_))))))
    repeat first|refine tr ?_|refine block_ret ?_
    exact bodyPost_ret (v := .bool false) ky rfl ⟨by rw [(show mayA a = false from by unfold mayA; rw [q4, q5, q10]; first | done | rfl)], h12.old.old⟩}
   refine zl (.bool true) h9 enter24 #[.agg (anC a (.slice o a.li.ds.length k) (.slice p a.its.length m)), .agg #[.int .i64 a.er, iN .i64 0, iN .i64 0, .string ({ data := #[] }), .slice none 0 0, .string ({ data := #[] }), iN .i64 0, iN .i64 0, .string ({ data := #[] }), .string ({ data := #[] }), iN .i64 0, .string ({ data := #[] }), .string ({ data := #[] }), iN .i64 0, .string ({ data := #[] }), .slice none 0 0, .string ({ data := #[] }), iN .i64 0]] (((sma_any a ⟨a.er, ⟨0, 0, { data := #[] }, [], { data := #[] }⟩, ⟨0, 0, { data := #[] }, { data := #[] }, 0, { data := #[] }, { data := #[] }, 0, { data := #[] }⟩, [], { data := #[] }, 0⟩ (hP.keep h9.old.old) (hQ.keep h9.old.old) (At.nil _) (At.nil _) hl1 hl2).mono fun _ _ hh => ⟨by rw [hh.1, q10], hh.2⟩)) (fun w13 h14 => (zv (.bool true) (zv (.bool true) (wl_nil (then_at rfl (wp_ret ?_))))))
   repeat first|refine tr ?_|refine block_ret ?_
   exact bodyPost_ret (v := .bool true) ky rfl ⟨by rw [(show mayA a = true from by unfold mayA; rw [q4, q5, q10]; first | done | rfl)], h14.old.old⟩}
  refine zu (.bool false) (run_neZ (k := .i64) (a := a.er) (b := 0) ky ky true q4) (wl_nil (then_at rfl (wp_cond_false ky (wp_skip (then_at rfl (wp_seq (wl_region (zv (.pointer (some ⟨q1, 1, none⟩)) (zu (.agg #[.int .i64 a.li.u, .int .i64 a.li.v, .string a.li.ac, .slice o a.li.ds.length k, .string a.li.sg]) (run_load_part (q := q1) (off := 1) (d := #[.int .i64 a.li.u, .int .i64 a.li.v, .string a.li.ac, .slice o a.li.ds.length k, .string a.li.sg]) ky (h3.get 0 rfl) Try.underlying25 rfl ky (by intro j hj; match j, hj with | 0, _ => rfl | 1, _ => rfl | 2, _ => rfl | 3, _ => rfl | 4, _ => rfl)) (zv (.agg #[iN .i64 0, iN .i64 0, .string ({ data := #[] }), .slice none 0 0, .string ({ data := #[] })]) ?_))))))))))
  rcases q15 : sameL a.li ⟨0, 0, { data := #[] }, [], { data := #[] }⟩ with _ | _
  {refine zl (.bool false) h3 enter16 #[.agg #[.int .i64 a.li.u, .int .i64 a.li.v, .string a.li.ac, .slice o a.li.ds.length k, .string a.li.sg], .agg #[iN .i64 0, iN .i64 0, .string ({ data := #[] }), .slice none 0 0, .string ({ data := #[] })]] (((sml_any a.li ⟨0, 0, { data := #[] }, [], { data := #[] }⟩ (hP.keep h3.old.old) (At.nil _) hl1).mono fun _ _ hh => ⟨by rw [hh.1, q15], hh.2⟩)) (fun w16 h17 => (zv (.bool false) (zv (.pointer (some ⟨q1, 1, none⟩)) (zu (.agg #[.int .i64 a.li.u, .int .i64 a.li.v, .string a.li.ac, .slice o a.li.ds.length k, .string a.li.sg]) (run_load_part (q := q1) (off := 1) (d := #[.int .i64 a.li.u, .int .i64 a.li.v, .string a.li.ac, .slice o a.li.ds.length k, .string a.li.sg]) ky (h17.get 0 rfl) Try.underlying25 rfl ky (by intro j hj; match j, hj with | 0, _ => rfl | 1, _ => rfl | 2, _ => rfl | 3, _ => rfl | 4, _ => rfl)) ?_))))
   rcases q18 : mayL a.li with _ | _
   {refine zl (iN .i64 2) h17 enter14 #[.agg #[.int .i64 a.li.u, .int .i64 a.li.v, .string a.li.ac, .slice o a.li.ds.length k, .string a.li.sg]] (((chk_any a.li (hP.keep h17.old.old)).mono fun _ _ hh => ⟨by rw [hh.1, show chkL a.li = 2 from by unfold chkL; rw [q18]; rfl], hh.2⟩)) (fun w19 h20 => (zu (.bool false) (run_eqi (k := .i64) (a := 2) (b := 0) ky ky false (by decide)) (zv (.bool false) (zv (.bool false) (zk (zk (zk (zk (zk (zk (zk (zk (zk (zk (zv (.bool false) (zv (.bool false) (zk (zk (zk (zv (.bool false) (zv (.bool false) (zk (zk ?_)))))))))))))))))))))))
    refine zk (zk (zv (.bool false) (zv (.bool false) (zk (zk (zk (zv (.bool false) (zv (.bool false) (wl_nil (then_at rfl (wp_ret ?_)))))))))))
    repeat first|refine tr ?_|refine block_ret ?_
    exact bodyPost_ret (v := .bool false) ky rfl ⟨by rw [(show mayA a = false from by unfold mayA; rw [q4, q15, q18]; first | done | rfl)], h20.old.old⟩}
   refine zl (iN .i64 0) h17 enter14 #[.agg #[.int .i64 a.li.u, .int .i64 a.li.v, .string a.li.ac, .slice o a.li.ds.length k, .string a.li.sg]] (((chk_any a.li (hP.keep h17.old.old)).mono fun _ _ hh => ⟨by rw [hh.1, show chkL a.li = 0 from by unfold chkL; rw [q18]; rfl], hh.2⟩)) (fun w21 h22 => (zu (.bool true) (run_eqi (k := .i64) (a := 0) (b := 0) ky ky true (by decide)) (zv (.bool true) (zv (.bool true) (zv (.pointer (some ⟨q1, 6, none⟩)) (zu (.agg #[.int .i64 a.bu.u, .int .i64 a.bu.d, .string a.bu.sg, .string a.bu.dh, .int .i64 a.bu.pi, .string a.bu.pr, .string a.bu.ps, .int .i64 a.bu.oi, .string a.bu.on]) (run_load_part (q := q1) (off := 6) (d := #[.int .i64 a.bu.u, .int .i64 a.bu.d, .string a.bu.sg, .string a.bu.dh, .int .i64 a.bu.pi, .string a.bu.pr, .string a.bu.ps, .int .i64 a.bu.oi, .string a.bu.on]) ky (h22.get 0 rfl) Try.underlying27 rfl ky (by intro j hj; match j, hj with | 0, _ => rfl | 1, _ => rfl | 2, _ => rfl | 3, _ => rfl | 4, _ => rfl | 5, _ => rfl | 6, _ => rfl | 7, _ => rfl | 8, _ => rfl)) (zv (.agg #[iN .i64 0, iN .i64 0, .string ({ data := #[] }), .string ({ data := #[] }), iN .i64 0, .string ({ data := #[] }), .string ({ data := #[] }), iN .i64 0, .string ({ data := #[] })]) ?_)))))))
   rcases q23 : decide ((a.bu : Bu) = ⟨0, 0, { data := #[] }, { data := #[] }, 0, { data := #[] }, { data := #[] }, 0, { data := #[] }⟩) with _ | _
   {refine zu (.bool false) (run_eqB (a := a.bu) (b := ⟨0, 0, { data := #[] }, { data := #[] }, 0, { data := #[] }, { data := #[] }, 0, { data := #[] }⟩) ky ky false q23) (zv (.bool false) (zv (.pointer (some ⟨q1, 6, none⟩)) (zu (.agg #[.int .i64 a.bu.u, .int .i64 a.bu.d, .string a.bu.sg, .string a.bu.dh, .int .i64 a.bu.pi, .string a.bu.pr, .string a.bu.ps, .int .i64 a.bu.oi, .string a.bu.on]) (run_load_part (q := q1) (off := 6) (d := #[.int .i64 a.bu.u, .int .i64 a.bu.d, .string a.bu.sg, .string a.bu.dh, .int .i64 a.bu.pi, .string a.bu.pr, .string a.bu.ps, .int .i64 a.bu.oi, .string a.bu.on]) ky (h22.get 0 rfl) Try.underlying27 rfl ky (by intro j hj; match j, hj with | 0, _ => rfl | 1, _ => rfl | 2, _ => rfl | 3, _ => rfl | 4, _ => rfl | 5, _ => rfl | 6, _ => rfl | 7, _ => rfl | 8, _ => rfl)) (zl (.string ((encA a.bu).1)) h22 enter59 _ (bb_any a.bu) (fun w24 h25 => ?_)))))
    rcases q26 : decide ((encA a.bu).1 = { data := #[] }) with _ | _
    {refine zu (.bool true) (run_nes (s := (encA a.bu).1) (t := { data := #[] }) ky ky true ((q26).trans rfl)) (zv (.bool true) (zv (.bool true) (zv (.bool true) (zv (.pointer (some ⟨q1, 15, none⟩)) (zu (.slice p a.its.length m) (run_load1 (fun w => Try.isAgg45 w) ky (((h25.get 0 rfl).cell 15).trans rfl)) ?_)))))
     rcases q27 : mayI a.its with _ | _
     {refine zl (.bool false) h25 enter94 #[.slice p a.its.length m] (((mi_any a.its (hQ.keep h25.old.old)).mono fun _ _ hh => ⟨by rw [hh.1, q27], hh.2⟩)) (fun w28 h29 => (zv (.bool false) (zv (.bool false) (zk (zk (zk (zk (zv (.bool false) (zv (.bool false) (zk (zk (zk (zv (.bool false) (zv (.bool false) (wl_nil (then_at rfl (wp_ret ?_)))))))))))))))))
      repeat first|refine tr ?_|refine block_ret ?_
      exact bodyPost_ret (v := .bool false) ky rfl ⟨by rw [(show mayA a = false from by unfold mayA; rw [q4, q15, q18, q23, q26, q27]; first | done | rfl)], h29.old.old⟩}
     refine zl (.bool true) h25 enter94 #[.slice p a.its.length m] (((mi_any a.its (hQ.keep h25.old.old)).mono fun _ _ hh => ⟨by rw [hh.1, q27], hh.2⟩)) (fun w30 h31 => (zv (.bool true) (zv (.bool true) (zv (.pointer (some ⟨q1, 16, none⟩)) (zu (.string a.bt) (run_load1 (fun w => Try.isAgg9 w) ky (((h31.get 0 rfl).cell 16).trans rfl)) (zu (iN .i64 a.bt.size) (run_len (s := a.bt) ky) ?_))))))
     rcases q32 : decide (a.bt.size ≤ 4096) with _ | _
     {refine zu (.bool false) (run_leq (k := .i64) (a := a.bt.size) (b := 4096) ky ky false q32) (zv (.bool false) (zv (.bool false) (zk (zk (zk (zv (.bool false) (zv (.bool false) (wl_nil (then_at rfl (wp_ret ?_))))))))))
      repeat first|refine tr ?_|refine block_ret ?_
      exact bodyPost_ret (v := .bool false) ky rfl ⟨by rw [(show mayA a = false from by unfold mayA; rw [q4, q15, q18, q23, q26, q27, q32]; first | done | rfl)], h31.old.old⟩}
     refine zu (.bool true) (run_leq (k := .i64) (a := a.bt.size) (b := 4096) ky ky true q32) (zv (.bool true) (zv (.bool true) (zv (.pointer (some ⟨q1, 17, none⟩)) (zu (.int .i64 a.lf) (run_load1 (fun w => Try.isAgg3 w) ky (((h31.get 0 rfl).cell 17).trans rfl)) ?_))))
     rcases q33 : wi a.lf 0 20 with _ | _
     {refine zl (.bool false) h31 enter42 _ (((wi_any a.lf 0 20).mono fun _ _ hh => ⟨by rw [hh.1, q33], hh.2⟩)) (fun w34 h35 => (zv (.bool false) (zv (.bool false) (wl_nil (then_at rfl (wp_ret ?_))))))
      repeat first|refine tr ?_|refine block_ret ?_
      exact bodyPost_ret (v := .bool false) ky rfl ⟨by rw [(show mayA a = false from by unfold mayA; rw [q4, q15, q18, q23, q26, q27, q32, q33]; first | done | rfl)], h35.old.old⟩}
     refine zl (.bool true) h31 enter42 _ (((wi_any a.lf 0 20).mono fun _ _ hh => ⟨by rw [hh.1, q33], hh.2⟩)) (fun w36 h37 => (zv (.bool true) (zv (.bool true) (wl_nil (then_at rfl (wp_ret ?_))))))
     repeat first|refine tr ?_|refine block_ret ?_
     exact bodyPost_ret (v := .bool true) ky rfl ⟨by rw [(show mayA a = true from by unfold mayA; rw [q4, q15, q18, q23, q26, q27, q32, q33]; first | done | rfl)], h37.old.old⟩}
    refine zu (.bool false) (run_nes (s := (encA a.bu).1) (t := { data := #[] }) ky ky false ((q26).trans rfl)) (zv (.bool false) (zv (.bool false) (zv (.bool false) (zk (zk (zk (zv (.bool false) (zv (.bool false) (zk (zk (zk (zk (zv (.bool false) (zv (.bool false) (zk (zk (zk (zv (.bool false) (zv (.bool false) (wl_nil (then_at rfl (wp_ret ?_))))))))))))))))))))))
    repeat first|refine tr ?_|refine block_ret ?_
    exact bodyPost_ret (v := .bool false) ky rfl ⟨by rw [(show mayA a = false from by unfold mayA; rw [q4, q15, q18, q23, q26]; first | done | rfl)], h25.old.old⟩}
   refine zu (.bool true) (run_eqB (a := a.bu) (b := ⟨0, 0, { data := #[] }, { data := #[] }, 0, { data := #[] }, { data := #[] }, 0, { data := #[] }⟩) ky ky true q23) (zv (.bool true) (zk (zk (zk (zk (zv (.bool true) (zv (.bool true) (zv (.bool true) (zv (.pointer (some ⟨q1, 15, none⟩)) (zu (.slice p a.its.length m) (run_load1 (fun w => Try.isAgg45 w) ky (((h22.get 0 rfl).cell 15).trans rfl)) ?_))))))))))
   rcases q38 : mayI a.its with _ | _
   {refine zl (.bool false) h22 enter94 #[.slice p a.its.length m] (((mi_any a.its (hQ.keep h22.old.old)).mono fun _ _ hh => ⟨by rw [hh.1, q38], hh.2⟩)) (fun w39 h40 => (zv (.bool false) (zv (.bool false) (zk (zk (zk (zk (zv (.bool false) (zv (.bool false) (zk (zk (zk (zv (.bool false) (zv (.bool false) (wl_nil (then_at rfl (wp_ret ?_)))))))))))))))))
    repeat first|refine tr ?_|refine block_ret ?_
    exact bodyPost_ret (v := .bool false) ky rfl ⟨by rw [(show mayA a = false from by unfold mayA; rw [q4, q15, q18, q23, q38]; first | done | rfl)], h40.old.old⟩}
   refine zl (.bool true) h22 enter94 #[.slice p a.its.length m] (((mi_any a.its (hQ.keep h22.old.old)).mono fun _ _ hh => ⟨by rw [hh.1, q38], hh.2⟩)) (fun w41 h42 => (zv (.bool true) (zv (.bool true) (zv (.pointer (some ⟨q1, 16, none⟩)) (zu (.string a.bt) (run_load1 (fun w => Try.isAgg9 w) ky (((h42.get 0 rfl).cell 16).trans rfl)) (zu (iN .i64 a.bt.size) (run_len (s := a.bt) ky) ?_))))))
   rcases q43 : decide (a.bt.size ≤ 4096) with _ | _
   {refine zu (.bool false) (run_leq (k := .i64) (a := a.bt.size) (b := 4096) ky ky false q43) (zv (.bool false) (zv (.bool false) (zk (zk (zk (zv (.bool false) (zv (.bool false) (wl_nil (then_at rfl (wp_ret ?_))))))))))
    repeat first|refine tr ?_|refine block_ret ?_
    exact bodyPost_ret (v := .bool false) ky rfl ⟨by rw [(show mayA a = false from by unfold mayA; rw [q4, q15, q18, q23, q38, q43]; first | done | rfl)], h42.old.old⟩}
   refine zu (.bool true) (run_leq (k := .i64) (a := a.bt.size) (b := 4096) ky ky true q43) (zv (.bool true) (zv (.bool true) (zv (.pointer (some ⟨q1, 17, none⟩)) (zu (.int .i64 a.lf) (run_load1 (fun w => Try.isAgg3 w) ky (((h42.get 0 rfl).cell 17).trans rfl)) ?_))))
   rcases q44 : wi a.lf 0 20 with _ | _
   {refine zl (.bool false) h42 enter42 _ (((wi_any a.lf 0 20).mono fun _ _ hh => ⟨by rw [hh.1, q44], hh.2⟩)) (fun w45 h46 => (zv (.bool false) (zv (.bool false) (wl_nil (then_at rfl (wp_ret ?_))))))
    repeat first|refine tr ?_|refine block_ret ?_
    exact bodyPost_ret (v := .bool false) ky rfl ⟨by rw [(show mayA a = false from by unfold mayA; rw [q4, q15, q18, q23, q38, q43, q44]; first | done | rfl)], h46.old.old⟩}
   refine zl (.bool true) h42 enter42 _ (((wi_any a.lf 0 20).mono fun _ _ hh => ⟨by rw [hh.1, q44], hh.2⟩)) (fun w47 h48 => (zv (.bool true) (zv (.bool true) (wl_nil (then_at rfl (wp_ret ?_))))))
   repeat first|refine tr ?_|refine block_ret ?_
   exact bodyPost_ret (v := .bool true) ky rfl ⟨by rw [(show mayA a = true from by unfold mayA; rw [q4, q15, q18, q23, q38, q43, q44]; first | done | rfl)], h48.old.old⟩}
  refine zl (.bool true) h3 enter16 #[.agg #[.int .i64 a.li.u, .int .i64 a.li.v, .string a.li.ac, .slice o a.li.ds.length k, .string a.li.sg], .agg #[iN .i64 0, iN .i64 0, .string ({ data := #[] }), .slice none 0 0, .string ({ data := #[] })]] (((sml_any a.li ⟨0, 0, { data := #[] }, [], { data := #[] }⟩ (hP.keep h3.old.old) (At.nil _) hl1).mono fun _ _ hh => ⟨by rw [hh.1, q15], hh.2⟩)) (fun w49 h50 => (zv (.bool true) (zk (zk (zk (zk (zv (.bool true) (zv (.bool true) (zv (.pointer (some ⟨q1, 6, none⟩)) (zu (.agg #[.int .i64 a.bu.u, .int .i64 a.bu.d, .string a.bu.sg, .string a.bu.dh, .int .i64 a.bu.pi, .string a.bu.pr, .string a.bu.ps, .int .i64 a.bu.oi, .string a.bu.on]) (run_load_part (q := q1) (off := 6) (d := #[.int .i64 a.bu.u, .int .i64 a.bu.d, .string a.bu.sg, .string a.bu.dh, .int .i64 a.bu.pi, .string a.bu.pr, .string a.bu.ps, .int .i64 a.bu.oi, .string a.bu.on]) ky (h50.get 0 rfl) Try.underlying27 rfl ky (by intro j hj; match j, hj with | 0, _ => rfl | 1, _ => rfl | 2, _ => rfl | 3, _ => rfl | 4, _ => rfl | 5, _ => rfl | 6, _ => rfl | 7, _ => rfl | 8, _ => rfl)) (zv (.agg #[iN .i64 0, iN .i64 0, .string ({ data := #[] }), .string ({ data := #[] }), iN .i64 0, .string ({ data := #[] }), .string ({ data := #[] }), iN .i64 0, .string ({ data := #[] })]) ?_)))))))))))
  rcases q51 : decide ((a.bu : Bu) = ⟨0, 0, { data := #[] }, { data := #[] }, 0, { data := #[] }, { data := #[] }, 0, { data := #[] }⟩) with _ | _
  {refine zu (.bool false) (run_eqB (a := a.bu) (b := ⟨0, 0, { data := #[] }, { data := #[] }, 0, { data := #[] }, { data := #[] }, 0, { data := #[] }⟩) ky ky false q51) (zv (.bool false) (zv (.pointer (some ⟨q1, 6, none⟩)) (zu (.agg #[.int .i64 a.bu.u, .int .i64 a.bu.d, .string a.bu.sg, .string a.bu.dh, .int .i64 a.bu.pi, .string a.bu.pr, .string a.bu.ps, .int .i64 a.bu.oi, .string a.bu.on]) (run_load_part (q := q1) (off := 6) (d := #[.int .i64 a.bu.u, .int .i64 a.bu.d, .string a.bu.sg, .string a.bu.dh, .int .i64 a.bu.pi, .string a.bu.pr, .string a.bu.ps, .int .i64 a.bu.oi, .string a.bu.on]) ky (h50.get 0 rfl) Try.underlying27 rfl ky (by intro j hj; match j, hj with | 0, _ => rfl | 1, _ => rfl | 2, _ => rfl | 3, _ => rfl | 4, _ => rfl | 5, _ => rfl | 6, _ => rfl | 7, _ => rfl | 8, _ => rfl)) (zl (.string ((encA a.bu).1)) h50 enter59 _ (bb_any a.bu) (fun w52 h53 => ?_)))))
   rcases q54 : decide ((encA a.bu).1 = { data := #[] }) with _ | _
   {refine zu (.bool true) (run_nes (s := (encA a.bu).1) (t := { data := #[] }) ky ky true ((q54).trans rfl)) (zv (.bool true) (zv (.bool true) (zv (.bool true) (zv (.pointer (some ⟨q1, 15, none⟩)) (zu (.slice p a.its.length m) (run_load1 (fun w => Try.isAgg45 w) ky (((h53.get 0 rfl).cell 15).trans rfl)) ?_)))))
    rcases q55 : mayI a.its with _ | _
    {refine zl (.bool false) h53 enter94 #[.slice p a.its.length m] (((mi_any a.its (hQ.keep h53.old.old)).mono fun _ _ hh => ⟨by rw [hh.1, q55], hh.2⟩)) (fun w56 h57 => (zv (.bool false) (zv (.bool false) (zk (zk (zk (zk (zv (.bool false) (zv (.bool false) (zk (zk (zk (zv (.bool false) (zv (.bool false) (wl_nil (then_at rfl (wp_ret ?_)))))))))))))))))
     repeat first|refine tr ?_|refine block_ret ?_
     exact bodyPost_ret (v := .bool false) ky rfl ⟨by rw [(show mayA a = false from by unfold mayA; rw [q4, q15, q51, q54, q55]; first | done | rfl)], h57.old.old⟩}
    refine zl (.bool true) h53 enter94 #[.slice p a.its.length m] (((mi_any a.its (hQ.keep h53.old.old)).mono fun _ _ hh => ⟨by rw [hh.1, q55], hh.2⟩)) (fun w58 h59 => (zv (.bool true) (zv (.bool true) (zv (.pointer (some ⟨q1, 16, none⟩)) (zu (.string a.bt) (run_load1 (fun w => Try.isAgg9 w) ky (((h59.get 0 rfl).cell 16).trans rfl)) (zu (iN .i64 a.bt.size) (run_len (s := a.bt) ky) ?_))))))
    rcases q60 : decide (a.bt.size ≤ 4096) with _ | _
    {refine zu (.bool false) (run_leq (k := .i64) (a := a.bt.size) (b := 4096) ky ky false q60) (zv (.bool false) (zv (.bool false) (zk (zk (zk (zv (.bool false) (zv (.bool false) (wl_nil (then_at rfl (wp_ret ?_))))))))))
     repeat first|refine tr ?_|refine block_ret ?_
     exact bodyPost_ret (v := .bool false) ky rfl ⟨by rw [(show mayA a = false from by unfold mayA; rw [q4, q15, q51, q54, q55, q60]; first | done | rfl)], h59.old.old⟩}
    refine zu (.bool true) (run_leq (k := .i64) (a := a.bt.size) (b := 4096) ky ky true q60) (zv (.bool true) (zv (.bool true) (zv (.pointer (some ⟨q1, 17, none⟩)) (zu (.int .i64 a.lf) (run_load1 (fun w => Try.isAgg3 w) ky (((h59.get 0 rfl).cell 17).trans rfl)) ?_))))
    rcases q61 : wi a.lf 0 20 with _ | _
    {refine zl (.bool false) h59 enter42 _ (((wi_any a.lf 0 20).mono fun _ _ hh => ⟨by rw [hh.1, q61], hh.2⟩)) (fun w62 h63 => (zv (.bool false) (zv (.bool false) (wl_nil (then_at rfl (wp_ret ?_))))))
     repeat first|refine tr ?_|refine block_ret ?_
     exact bodyPost_ret (v := .bool false) ky rfl ⟨by rw [(show mayA a = false from by unfold mayA; rw [q4, q15, q51, q54, q55, q60, q61]; first | done | rfl)], h63.old.old⟩}
    refine zl (.bool true) h59 enter42 _ (((wi_any a.lf 0 20).mono fun _ _ hh => ⟨by rw [hh.1, q61], hh.2⟩)) (fun w64 h65 => (zv (.bool true) (zv (.bool true) (wl_nil (then_at rfl (wp_ret ?_))))))
    repeat first|refine tr ?_|refine block_ret ?_
    exact bodyPost_ret (v := .bool true) ky rfl ⟨by rw [(show mayA a = true from by unfold mayA; rw [q4, q15, q51, q54, q55, q60, q61]; first | done | rfl)], h65.old.old⟩}
   refine zu (.bool false) (run_nes (s := (encA a.bu).1) (t := { data := #[] }) ky ky false ((q54).trans rfl)) (zv (.bool false) (zv (.bool false) (zv (.bool false) (zk (zk (zk (zv (.bool false) (zv (.bool false) (zk (zk (zk (zk (zv (.bool false) (zv (.bool false) (zk (zk (zk (zv (.bool false) (zv (.bool false) (wl_nil (then_at rfl (wp_ret ?_))))))))))))))))))))))
   repeat first|refine tr ?_|refine block_ret ?_
   exact bodyPost_ret (v := .bool false) ky rfl ⟨by rw [(show mayA a = false from by unfold mayA; rw [q4, q15, q51, q54]; first | done | rfl)], h53.old.old⟩}
  refine zu (.bool true) (run_eqB (a := a.bu) (b := ⟨0, 0, { data := #[] }, { data := #[] }, 0, { data := #[] }, { data := #[] }, 0, { data := #[] }⟩) ky ky true q51) (zv (.bool true) (zk (zk (zk (zk (zv (.bool true) (zv (.bool true) (zv (.bool true) (zv (.pointer (some ⟨q1, 15, none⟩)) (zu (.slice p a.its.length m) (run_load1 (fun w => Try.isAgg45 w) ky (((h50.get 0 rfl).cell 15).trans rfl)) ?_))))))))))
  rcases q66 : mayI a.its with _ | _
  {refine zl (.bool false) h50 enter94 #[.slice p a.its.length m] (((mi_any a.its (hQ.keep h50.old.old)).mono fun _ _ hh => ⟨by rw [hh.1, q66], hh.2⟩)) (fun w67 h68 => (zv (.bool false) (zv (.bool false) (zk (zk (zk (zk (zv (.bool false) (zv (.bool false) (zk (zk (zk (zv (.bool false) (zv (.bool false) (wl_nil (then_at rfl (wp_ret ?_)))))))))))))))))
   repeat first|refine tr ?_|refine block_ret ?_
   exact bodyPost_ret (v := .bool false) ky rfl ⟨by rw [(show mayA a = false from by unfold mayA; rw [q4, q15, q51, q66]; first | done | rfl)], h68.old.old⟩}
  refine zl (.bool true) h50 enter94 #[.slice p a.its.length m] (((mi_any a.its (hQ.keep h50.old.old)).mono fun _ _ hh => ⟨by rw [hh.1, q66], hh.2⟩)) (fun w69 h70 => (zv (.bool true) (zv (.bool true) (zv (.pointer (some ⟨q1, 16, none⟩)) (zu (.string a.bt) (run_load1 (fun w => Try.isAgg9 w) ky (((h70.get 0 rfl).cell 16).trans rfl)) (zu (iN .i64 a.bt.size) (run_len (s := a.bt) ky) ?_))))))
  rcases q71 : decide (a.bt.size ≤ 4096) with _ | _
  {refine zu (.bool false) (run_leq (k := .i64) (a := a.bt.size) (b := 4096) ky ky false q71) (zv (.bool false) (zv (.bool false) (zk (zk (zk (zv (.bool false) (zv (.bool false) (wl_nil (then_at rfl (wp_ret ?_))))))))))
   repeat first|refine tr ?_|refine block_ret ?_
   exact bodyPost_ret (v := .bool false) ky rfl ⟨by rw [(show mayA a = false from by unfold mayA; rw [q4, q15, q51, q66, q71]; first | done | rfl)], h70.old.old⟩}
  refine zu (.bool true) (run_leq (k := .i64) (a := a.bt.size) (b := 4096) ky ky true q71) (zv (.bool true) (zv (.bool true) (zv (.pointer (some ⟨q1, 17, none⟩)) (zu (.int .i64 a.lf) (run_load1 (fun w => Try.isAgg3 w) ky (((h70.get 0 rfl).cell 17).trans rfl)) ?_))))
  rcases q72 : wi a.lf 0 20 with _ | _
  {refine zl (.bool false) h70 enter42 _ (((wi_any a.lf 0 20).mono fun _ _ hh => ⟨by rw [hh.1, q72], hh.2⟩)) (fun w73 h74 => (zv (.bool false) (zv (.bool false) (wl_nil (then_at rfl (wp_ret ?_))))))
   repeat first|refine tr ?_|refine block_ret ?_
   exact bodyPost_ret (v := .bool false) ky rfl ⟨by rw [(show mayA a = false from by unfold mayA; rw [q4, q15, q51, q66, q71, q72]; first | done | rfl)], h74.old.old⟩}
  refine zl (.bool true) h70 enter42 _ (((wi_any a.lf 0 20).mono fun _ _ hh => ⟨by rw [hh.1, q72], hh.2⟩)) (fun w75 h76 => (zv (.bool true) (zv (.bool true) (wl_nil (then_at rfl (wp_ret ?_))))))
  repeat first|refine tr ?_|refine block_ret ?_
  exact bodyPost_ret (v := .bool true) ky rfl ⟨by rw [(show mayA a = true from by unfold mayA; rw [q4, q15, q51, q66, q71, q72]; first | done | rfl)], h76.old.old⟩
/-- what is so of an answer that may be -/
structure OkA (a : An) : Prop where
  e0 : 0 ≤ a.er
  e1 : a.er ≤ 16
  len : a.its.length ≤ 8
  it : ∀ x ∈ a.its, itOk x = true
  bt : a.bt.size ≤ 4096
  l0 : 0 ≤ a.lf
  l1 : a.lf ≤ 20
theorem mayA_ok {a : An} (h : mayA a = true) : OkA a := by
  unfold mayA at h
  rcases q : decide (a.er = 0) with _ | _
  · rw [q] at h
    have h1 := and2 (show (wi a.er 0 16 && sameA a ⟨a.er, ⟨0, 0, { data := #[] }, [], { data := #[] }⟩, ⟨0, 0, { data := #[] }, { data := #[] }, 0, { data := #[] }, { data := #[] }, 0, { data := #[] }⟩, [], { data := #[] }, 0⟩) = true from h)
    have h2 := wi_le h1.1
    have h3 : a = ⟨a.er, ⟨0, 0, { data := #[] }, [], { data := #[] }⟩, ⟨0, 0, { data := #[] }, { data := #[] }, 0, { data := #[] }, { data := #[] }, 0, { data := #[] }⟩, [], { data := #[] }, 0⟩ := of_decide_eq_true ((sameA_eq _ _).symm.trans h1.2)
    have h4 : a.its = [] := congrArg An.its h3
    have h5 : a.bt = { data := #[] } := congrArg An.bt h3
    have h6 : a.lf = 0 := congrArg An.lf h3
    refine ⟨h2.1, h2.2, by rw [h4]; exact Nat.zero_le _, fun x hx => ?_, by rw [h5]; exact Nat.zero_le _, by omega, by omega⟩
    rw [h4] at hx
    cases hx
  · rw [q] at h
    have h0 := of_decide_eq_true q
    have h1 := and2 h
    have h2 := and2 h1.1
    have h3 := and2 h2.1
    have h4 := and2 (show (!decide (8 < a.its.length) && a.its.all itOk && decide (sumK a.its a.its.length ≤ 8192)) = true from h3.2)
    have h5 := and2 h4.1
    have h6 : ¬ 8 < a.its.length := of_decide_eq_false (by have := h5.1; rwa [Bool.not_eq_true'] at this)
    have h7 := wi_le h1.2
    exact ⟨by omega, by omega, by omega, fun x hx => List.all_eq_true.1 h5.2 x hx, of_decide_eq_true h2.2, h7.1, h7.2⟩
theorem OkA.at {a : An} (h : OkA a) {i : Nat} (hi : i < a.its.length) : (2 ≤ (a.its.getD i it0).f ∧ (a.its.getD i it0).f ≤ 7) ∧ (a.its.getD i it0).b.size ≤ 4096 := by
  have := itOk_le (h.it _ (List.mem_of_getElem? (gd_at it0 hi)))
  exact ⟨this.2.2.1, this.2.2.2.2⟩
def itT (x : It) : ByteArray := ((nbT 8 x.n ++ nbT 1 x.f.toNat) ++ nbT 8 x.o) ++ layT [x.b] 1
def itS (b : ByteArray) (l : List It) : Nat → ByteArray
  | 0 => b
  | k + 1 => itS b l k ++ itT (l.getD k it0)
def hdA (id : Nat) (a : An) : ByteArray := ((nbT 8 id ++ nbT 1 a.er.toNat) ++ layT [lbA a.li, (encA a.bu).1] 2) ++ nbT 1 a.its.length
/-- an answer's bytes -/
def ansB (id : Nat) (a : An) : ByteArray := (itS (hdA id a) a.its a.its.length ++ layT [a.bt] 1) ++ nbT 1 a.lf.toNat
def encN (id : Nat) (a : An) : ByteArray × Nat := bif mayA a then bdA (ansB id a) else ({ data := #[] }, 2)
theorem lbe_le (a : An) : (layT [lbA a.li, (encA a.bu).1] 2).size ≤ 2 * (100000 + 4) := lay2_le (Nat.le_trans (lbA_le _) (by decide)) (encA_le _)
theorem hdA_size (id : Nat) (a : An) : (hdA id a).size ≤ 200018 := by
  have := lbe_le a
  unfold hdA
  simp only [ByteArray.size_append, nbT_size (k := 1) (by decide) (by decide), nbT_size (k := 8) (by decide) (by decide)]
  omega
theorem itT_size {x : It} (h : x.b.size ≤ 4096) : (itT x).size ≤ 4117 := by
  have := lay1_le h
  unfold itT
  simp only [ByteArray.size_append, nbT_size (k := 1) (by decide) (by decide), nbT_size (k := 8) (by decide) (by decide)]
  omega
theorem itS_size {id : Nat} {a : An} (h : OkA a) : ∀ k, k ≤ a.its.length → (itS (hdA id a) a.its k).size ≤ 200018 + k * 4117
  | 0, _ => by have := hdA_size id a; show (hdA id a).size ≤ 200018 + 0 * 4117; omega
  | k + 1, hk => by
    have h1 := itS_size (id := id) h k (by omega)
    have h2 := itT_size (h.at (i := k) (by omega)).2
    simp only [itS, ByteArray.size_append]
    omega
set_option maxHeartbeats 4000000 in
theorem ab_any {w : World} (a : An) {o p : Option Addr} {k m : Nat} (hP : At w o (mcl a.li.ds)) (hQ : At w p (icl a.its)) (hl1 : a.li.ds.length ≤ 1000000) (hl2 : a.its.length ≤ 1000000) (hO : OkA a) (id : Nat) :
    Calls Try.prog 56 #[iN .u64 id, .agg (anC a (.slice o a.li.ds.length k) (.slice p a.its.length m))] w fun e w' => e = .returned (.string (ansB id a)) ∧ Below w.heap.size w w' := by
  have H0 := HA.start w
  go_enter Try.func56, Try.ntmps56
  refine wp_seq (wl_region (wl_make (c := anC a (.slice o a.li.ds.length k) (.slice p a.its.length m)) H0 47 ky ky ?_))
  intro q1 w2 (h3 : HA (bs w) [(q1, 47, anC a (.slice o a.li.ds.length k) (.slice p a.its.length m))] w2)
  refine zv (.string ({ data := #[] })) (wl_nil (then_at rfl (wp_seq ?_)))
  refine wp_region_wxh h3 (fun AQ w' => ∃ (q7 : Nat), AQ = ⟨(iN .u64 id :: .agg (anC a (.slice o a.li.ds.length k) (.slice p a.its.length m)) :: un :: pt q1 :: .string ({ data := #[] }) :: .string ((nbT 8 id ++ nbT 1 a.er.toNat) ++ layT [lbA a.li, (encA a.bu).1] 2) :: un :: un :: iN .u64 id :: .string (nbT 8 id) :: pt q1 :: .int .i64 a.er :: .string (nbT 1 a.er.toNat) :: .string (nbT 8 id ++ nbT 1 a.er.toNat) :: .pointer (some ⟨q1, 1, none⟩) :: .agg #[.int .i64 a.li.u, .int .i64 a.li.v, .string a.li.ac, .slice o a.li.ds.length k, .string a.li.sg] :: .string (lbA a.li) :: .pointer (some ⟨q1, 6, none⟩) :: .agg #[.int .i64 a.bu.u, .int .i64 a.bu.d, .string a.bu.sg, .string a.bu.dh, .int .i64 a.bu.pi, .string a.bu.pr, .string a.bu.ps, .int .i64 a.bu.oi, .string a.bu.on] :: .string ((encA a.bu).1) :: .slice (some ⟨q7, 0, none⟩) 2 2 :: .string (layT [lbA a.li, (encA a.bu).1] 2) :: .string ((nbT 8 id ++ nbT 1 a.er.toNat) ++ layT [lbA a.li, (encA a.bu).1] 2) :: List.replicate 42 un).toArray, []⟩ ∧ HA (bs w) [(q7, 9, #[.string (lbA a.li), .string ((encA a.bu).1)]), (q1, 47, anC a (.slice o a.li.ds.length k) (.slice p a.its.length m))] w') 16 ky ky ky ky ky ?_ ?_
  {have h4 := h3.drew
   refine zp 0 (iN .u64 id) (zc 1 (.string (nbT 8 id)) rfl enter71 _ (fun w' h' => nw_any 8 id) (zp 2 (.pointer (some ⟨q1, 0, none⟩)) (zx 3 (.int .i64 a.er) rfl (fun w' h' => run_load1 (fun w => Try.isAgg33 w) ky (((h'.get 0 rfl).cell 0).trans rfl)) (zc 4 (.string (nbT 1 a.er.toNat)) rfl enter63 _ (fun w' h' => nu_any 1 a.er hO.e0 (by have := hO.e1; omega)) (zq 5 (.string (nbT 8 id ++ nbT 1 a.er.toNat)) rfl (fun _ => (run_cat (s := nbT 8 id) (t := nbT 1 a.er.toNat) ky ky (by simp only [nbT_size (k := 1) (by decide) (by decide), nbT_size (k := 8) (by decide) (by decide)]; omega))) (zp 6 (.pointer (some ⟨q1, 1, none⟩)) (zx 7 (.agg #[.int .i64 a.li.u, .int .i64 a.li.v, .string a.li.ac, .slice o a.li.ds.length k, .string a.li.sg]) rfl (fun w' h' => run_load_part (q := q1) (off := 1) (d := #[.int .i64 a.li.u, .int .i64 a.li.v, .string a.li.ac, .slice o a.li.ds.length k, .string a.li.sg]) ky (h'.get 0 rfl) Try.underlying25 rfl ky (by intro j hj; match j, hj with | 0, _ => rfl | 1, _ => rfl | 2, _ => rfl | 3, _ => rfl | 4, _ => rfl)) (zc 8 (.string (lbA a.li)) rfl enter67 #[.agg #[.int .i64 a.li.u, .int .i64 a.li.v, .string a.li.ac, .slice o a.li.ds.length k, .string a.li.sg]] (fun w' h' => lb_any a.li (hP.keep h'.old.old)) (zp 9 (.pointer (some ⟨q1, 6, none⟩)) (zx 10 (.agg #[.int .i64 a.bu.u, .int .i64 a.bu.d, .string a.bu.sg, .string a.bu.dh, .int .i64 a.bu.pi, .string a.bu.pr, .string a.bu.ps, .int .i64 a.bu.oi, .string a.bu.on]) rfl (fun w' h' => run_load_part (q := q1) (off := 6) (d := #[.int .i64 a.bu.u, .int .i64 a.bu.d, .string a.bu.sg, .string a.bu.dh, .int .i64 a.bu.pi, .string a.bu.pr, .string a.bu.ps, .int .i64 a.bu.oi, .string a.bu.on]) ky (h'.get 0 rfl) Try.underlying27 rfl ky (by intro j hj; match j, hj with | 0, _ => rfl | 1, _ => rfl | 2, _ => rfl | 3, _ => rfl | 4, _ => rfl | 5, _ => rfl | 6, _ => rfl | 7, _ => rfl | 8, _ => rfl)) (zc 11 (.string ((encA a.bu).1)) rfl enter59 _ (fun w' h' => bb_any a.bu) (wx_one 12 ky ?_))))))))))))
   refine ex_makeT (c := #[.string (lbA a.li), .string ((encA a.bu).1)]) rfl ky h4 9 (fun q => .slice (some ⟨q, 0, none⟩) 2 2) (fun _ => ky) ?_
   intro q7 w5 (h6 : HA (bs w) [(q7, 9, #[.string (lbA a.li), .string ((encA a.bu).1)]), (q1, 47, anC a (.slice o a.li.ds.length k) (.slice p a.its.length m))] w5)
   refine ⟨_, .inl ky, h6, ?_⟩
   refine zc 13 (.string (layT [lbA a.li, (encA a.bu).1] 2)) rfl enter66 #[.slice (some ⟨q7, 0, none⟩) 2 2] (fun w' h' => la_any [lbA a.li, (encA a.bu).1] (own_tx h' 0 [lbA a.li, (encA a.bu).1] rfl) (m := 100000) (by decide) (ss2 (Nat.le_trans (lbA_le _) (by decide)) (encA_le _)) (by simp)) (zq 14 (.string ((nbT 8 id ++ nbT 1 a.er.toNat) ++ layT [lbA a.li, (encA a.bu).1] 2)) rfl (fun _ => (run_cat (s := (nbT 8 id ++ nbT 1 a.er.toNat)) (t := layT [lbA a.li, (encA a.bu).1] 2) ky ky (by have h3 := lbe_le a; simp only [ByteArray.size_append, nbT_size (k := 1) (by decide) (by decide), nbT_size (k := 8) (by decide) (by decide)]; omega))) (zp 15 (.string ((nbT 8 id ++ nbT 1 a.er.toNat) ++ layT [lbA a.li, (encA a.bu).1] 2)) ?_))
   refine wx_end fun w8 hbx _ => ?_
   have h9 := HA.keep _ _ h6 hbx
   exact ⟨q7, by kernel_rfl, h9⟩}
  {rintro _ w10 ⟨q7, rfl, h11⟩
   refine then_at rfl (wp_seq (wl_region ?_))
   refine zv (.string ((nbT 8 id ++ nbT 1 a.er.toNat) ++ layT [lbA a.li, (encA a.bu).1] 2)) (zv (.pointer (some ⟨q1, 15, none⟩)) (zu (.slice p a.its.length m) (run_load1 (fun w => Try.isAgg45 w) ky (((h11.get 1 rfl).cell 15).trans rfl)) (zv (iN .i64 a.its.length) (zl (.string (nbT 1 a.its.length)) h11 enter63 _ (nu_any 1 ((a.its.length : Nat) : Int) (by omega) (by have := hO.len; omega)) (fun w12 h13 => (zu (.string (((nbT 8 id ++ nbT 1 a.er.toNat) ++ layT [lbA a.li, (encA a.bu).1] 2) ++ nbT 1 a.its.length)) (run_cat (s := ((nbT 8 id ++ nbT 1 a.er.toNat) ++ layT [lbA a.li, (encA a.bu).1] 2)) (t := nbT 1 a.its.length) ky ky (by have h3 := lbe_le a; simp only [ByteArray.size_append, nbT_size (k := 1) (by decide) (by decide), nbT_size (k := 8) (by decide) (by decide)]; omega)) (zv (.string (((nbT 8 id ++ nbT 1 a.er.toNat) ++ layT [lbA a.li, (encA a.bu).1] 2) ++ nbT 1 a.its.length)) (wl_nil (then_at rfl (wp_seq (wp_seq (wl_region (zv (.pointer (some ⟨q1, 15, none⟩)) (zu (.slice p a.its.length m) (run_load1 (fun w => Try.isAgg45 w) ky (((h13.get 1 rfl).cell 15).trans rfl)) (zv (iN .i64 a.its.length) (zv (iN .i64 0) (wl_nil (then_at rfl (wp_block ?_)))))))))))))))))))
   refine wp_count (fun i A w' => ∃ u14 : Nat → Value, A = ⟨(iN .u64 id :: .agg (anC a (.slice o a.li.ds.length k) (.slice p a.its.length m)) :: un :: pt q1 :: .string ({ data := #[] }) :: .string (itS (hdA id a) a.its i) :: un :: u14 7 :: iN .u64 id :: .string (nbT 8 id) :: pt q1 :: .int .i64 a.er :: .string (nbT 1 a.er.toNat) :: .string (nbT 8 id ++ nbT 1 a.er.toNat) :: .pointer (some ⟨q1, 1, none⟩) :: .agg #[.int .i64 a.li.u, .int .i64 a.li.v, .string a.li.ac, .slice o a.li.ds.length k, .string a.li.sg] :: .string (lbA a.li) :: .pointer (some ⟨q1, 6, none⟩) :: .agg #[.int .i64 a.bu.u, .int .i64 a.bu.d, .string a.bu.sg, .string a.bu.dh, .int .i64 a.bu.pi, .string a.bu.pr, .string a.bu.ps, .int .i64 a.bu.oi, .string a.bu.on] :: .string ((encA a.bu).1) :: .slice (some ⟨q7, 0, none⟩) 2 2 :: .string (layT [lbA a.li, (encA a.bu).1] 2) :: .string ((nbT 8 id ++ nbT 1 a.er.toNat) ++ layT [lbA a.li, (encA a.bu).1] 2) :: .string ((nbT 8 id ++ nbT 1 a.er.toNat) ++ layT [lbA a.li, (encA a.bu).1] 2) :: .pointer (some ⟨q1, 15, none⟩) :: .slice p a.its.length m :: iN .i64 a.its.length :: .string (nbT 1 a.its.length) :: .string (((nbT 8 id ++ nbT 1 a.er.toNat) ++ layT [lbA a.li, (encA a.bu).1] 2) ++ nbT 1 a.its.length) :: .pointer (some ⟨q1, 15, none⟩) :: .slice p a.its.length m :: iN .i64 a.its.length :: iN .i64 i :: u14 33 :: u14 34 :: u14 35 :: u14 36 :: u14 37 :: u14 38 :: u14 39 :: u14 40 :: u14 41 :: u14 42 :: u14 43 :: u14 44 :: u14 45 :: u14 46 :: u14 47 :: u14 48 :: u14 49 :: u14 50 :: u14 51 :: u14 52 :: u14 53 :: u14 54 :: List.replicate 10 un).toArray, []⟩ ∧ HA (bs w) [(q7, 9, #[.string (lbA a.li), .string ((encA a.bu).1)]), (q1, 47, anC a (.slice o a.li.ds.length k) (.slice p a.its.length m))] w') a.its.length ?_ ?_ ?_
   {exact exu ky h13}
   {rintro i hk _ w15 ⟨u14, rfl, h16⟩
    obtain ⟨mas, hmas, hAas⟩ := hQ.ex (by rw [icl_len]; omega)
    have hdl := hO.len
    refine wp_seq (wl_region (zu (.bool true) (run_lss (k := .i64) (a := i) (b := a.its.length) ky ky true (decide_eq_true (by omega))) (wl_nil (then_at rfl (wp_seq (wp_cond_true ky (wp_skip (then_at rfl (wp_seq (wp_block (wp_seq (wl_region (zu (.pointer (some (mas.add (i * 4)))) (run_addr45 (a := mas) (n := a.its.length) (m := m) (i := i) hmas ky ky hk) ?_)))))))))))))
    refine wl_val (.agg (itC (a.its.getD i it0))) ky ((run_ld45 (hAas.keep h16.old.old) hk ky)) ?_
    refine wl_make (c := #[iN .u64 0, iN .i64 0, iN .u64 0, .string ({ data := #[] })]) h16 62 ky ky ?_
    intro q17 w18 (h19 : HA (bs w) [(q17, 62, #[iN .u64 0, iN .i64 0, iN .u64 0, .string ({ data := #[] })]), (q7, 9, #[.string (lbA a.li), .string ((encA a.bu).1)]), (q1, 47, anC a (.slice o a.li.ds.length k) (.slice p a.its.length m))] w18)
    refine wl_fill (c' := itC (a.its.getD i it0)) h19 0 rfl ky ky ky rfl ky ky (fun w20 h21 => (wl_nil (then_at rfl ?_)))
    refine wp_region_wxo 0 (.string (itS (hdA id a) a.its i)) rfl ky ky (S := HA (bs w) [(q17, 62, itC (a.its.getD i it0)), (q7, 9, #[.string (lbA a.li), .string ((encA a.bu).1)]), (q1, 47, anC a (.slice o a.li.ds.length k) (.slice p a.its.length m))]) (J := fun AQ w' => ∃ (q25 : Nat), AQ = ⟨(iN .u64 id :: .agg (anC a (.slice o a.li.ds.length k) (.slice p a.its.length m)) :: un :: pt q1 :: .string ({ data := #[] }) :: .string (itS (hdA id a) a.its i ++ (((nbT 8 ((a.its.getD i it0).n) ++ nbT 1 ((a.its.getD i it0).f).toNat) ++ nbT 8 ((a.its.getD i it0).o)) ++ layT [(a.its.getD i it0).b] 1)) :: un :: pt q17 :: iN .u64 id :: .string (nbT 8 id) :: pt q1 :: .int .i64 a.er :: .string (nbT 1 a.er.toNat) :: .string (nbT 8 id ++ nbT 1 a.er.toNat) :: .pointer (some ⟨q1, 1, none⟩) :: .agg #[.int .i64 a.li.u, .int .i64 a.li.v, .string a.li.ac, .slice o a.li.ds.length k, .string a.li.sg] :: .string (lbA a.li) :: .pointer (some ⟨q1, 6, none⟩) :: .agg #[.int .i64 a.bu.u, .int .i64 a.bu.d, .string a.bu.sg, .string a.bu.dh, .int .i64 a.bu.pi, .string a.bu.pr, .string a.bu.ps, .int .i64 a.bu.oi, .string a.bu.on] :: .string ((encA a.bu).1) :: .slice (some ⟨q7, 0, none⟩) 2 2 :: .string (layT [lbA a.li, (encA a.bu).1] 2) :: .string ((nbT 8 id ++ nbT 1 a.er.toNat) ++ layT [lbA a.li, (encA a.bu).1] 2) :: .string ((nbT 8 id ++ nbT 1 a.er.toNat) ++ layT [lbA a.li, (encA a.bu).1] 2) :: .pointer (some ⟨q1, 15, none⟩) :: .slice p a.its.length m :: iN .i64 a.its.length :: .string (nbT 1 a.its.length) :: .string (((nbT 8 id ++ nbT 1 a.er.toNat) ++ layT [lbA a.li, (encA a.bu).1] 2) ++ nbT 1 a.its.length) :: .pointer (some ⟨q1, 15, none⟩) :: .slice p a.its.length m :: iN .i64 a.its.length :: iN .i64 i :: .bool true :: .pointer (some (mas.add (i * 4))) :: .agg (itC (a.its.getD i it0)) :: .string (itS (hdA id a) a.its i) :: pt q17 :: iN .u64 ((a.its.getD i it0).n) :: .string (nbT 8 ((a.its.getD i it0).n)) :: .pointer (some ⟨q17, 1, none⟩) :: .int .i64 ((a.its.getD i it0).f) :: .string (nbT 1 ((a.its.getD i it0).f).toNat) :: .string (nbT 8 ((a.its.getD i it0).n) ++ nbT 1 ((a.its.getD i it0).f).toNat) :: .pointer (some ⟨q17, 2, none⟩) :: iN .u64 ((a.its.getD i it0).o) :: .string (nbT 8 ((a.its.getD i it0).o)) :: .string ((nbT 8 ((a.its.getD i it0).n) ++ nbT 1 ((a.its.getD i it0).f).toNat) ++ nbT 8 ((a.its.getD i it0).o)) :: .pointer (some ⟨q17, 3, none⟩) :: .string ((a.its.getD i it0).b) :: .slice (some ⟨q25, 0, none⟩) 1 1 :: .string (layT [(a.its.getD i it0).b] 1) :: .string (((nbT 8 ((a.its.getD i it0).n) ++ nbT 1 ((a.its.getD i it0).f).toNat) ++ nbT 8 ((a.its.getD i it0).o)) ++ layT [(a.its.getD i it0).b] 1) :: .string (itS (hdA id a) a.its i ++ (((nbT 8 ((a.its.getD i it0).n) ++ nbT 1 ((a.its.getD i it0).f).toNat) ++ nbT 8 ((a.its.getD i it0).o)) ++ layT [(a.its.getD i it0).b] 1)) :: u14 54 :: List.replicate 10 un).toArray, []⟩ ∧ HA (bs w) [(q25, 9, #[.string ((a.its.getD i it0).b)]), (q17, 62, itC (a.its.getD i it0)), (q7, 9, #[.string (lbA a.li), .string ((encA a.bu).1)]), (q1, 47, anC a (.slice o a.li.ds.length k) (.slice p a.its.length m))] w') (n := 19) ky ky ky ky ky (h21.drew) ?_ ?_
    {have h22 := h21.drew
     refine zp 0 (.string (itS (hdA id a) a.its i)) (zp 1 (.pointer (some ⟨q17, 0, none⟩)) (zx 2 (iN .u64 ((a.its.getD i it0).n)) rfl (fun w' h' => run_load1 (fun w => Try.isAgg22 w) ky (((h'.get 0 rfl).cell 0).trans rfl)) (zc 3 (.string (nbT 8 ((a.its.getD i it0).n))) rfl enter71 _ (fun w' h' => nw_any 8 ((a.its.getD i it0).n)) (zp 4 (.pointer (some ⟨q17, 1, none⟩)) (zx 5 (.int .i64 ((a.its.getD i it0).f)) rfl (fun w' h' => run_load1 (fun w => Try.isAgg3 w) ky (((h'.get 0 rfl).cell 1).trans rfl)) (zc 6 (.string (nbT 1 ((a.its.getD i it0).f).toNat)) rfl enter63 _ (fun w' h' => nu_any 1 ((a.its.getD i it0).f) (by have := (hO.at hk).1; omega) (by have := (hO.at hk).1; omega)) (zq 7 (.string (nbT 8 ((a.its.getD i it0).n) ++ nbT 1 ((a.its.getD i it0).f).toNat)) rfl (fun _ => (run_cat (s := nbT 8 ((a.its.getD i it0).n)) (t := nbT 1 ((a.its.getD i it0).f).toNat) ky ky (by simp only [nbT_size (k := 1) (by decide) (by decide), nbT_size (k := 8) (by decide) (by decide)]; omega))) (zp 8 (.pointer (some ⟨q17, 2, none⟩)) (zx 9 (iN .u64 ((a.its.getD i it0).o)) rfl (fun w' h' => run_load1 (fun w => Try.isAgg22 w) ky (((h'.get 0 rfl).cell 2).trans rfl)) (zc 10 (.string (nbT 8 ((a.its.getD i it0).o))) rfl enter71 _ (fun w' h' => nw_any 8 ((a.its.getD i it0).o)) (zq 11 (.string ((nbT 8 ((a.its.getD i it0).n) ++ nbT 1 ((a.its.getD i it0).f).toNat) ++ nbT 8 ((a.its.getD i it0).o))) rfl (fun _ => (run_cat (s := (nbT 8 ((a.its.getD i it0).n) ++ nbT 1 ((a.its.getD i it0).f).toNat)) (t := nbT 8 ((a.its.getD i it0).o)) ky ky (by simp only [ByteArray.size_append, nbT_size (k := 1) (by decide) (by decide), nbT_size (k := 8) (by decide) (by decide)]; omega))) (zp 12 (.pointer (some ⟨q17, 3, none⟩)) (zx 13 (.string ((a.its.getD i it0).b)) rfl (fun w' h' => run_load1 (fun w => Try.isAgg9 w) ky (((h'.get 0 rfl).cell 3).trans rfl)) (wx_one 14 ky ?_))))))))))))))
     refine ex_makeT (c := #[.string ((a.its.getD i it0).b)]) rfl ky h22 9 (fun q => .slice (some ⟨q, 0, none⟩) 1 1) (fun _ => ky) ?_
     intro q25 w23 (h24 : HA (bs w) [(q25, 9, #[.string ((a.its.getD i it0).b)]), (q17, 62, itC (a.its.getD i it0)), (q7, 9, #[.string (lbA a.li), .string ((encA a.bu).1)]), (q1, 47, anC a (.slice o a.li.ds.length k) (.slice p a.its.length m))] w23)
     refine ⟨_, .inr rfl, (HA.sub h24 (List.Sublist.cons _ (List.Sublist.cons_cons _ (List.Sublist.cons_cons _ (List.Sublist.cons_cons _ (List.Sublist.refl _)))))), ?_⟩
     refine wx_one 15 ky ?_
     refine ex_callx rfl ky h24 enter66 #[.slice (some ⟨q25, 0, none⟩) 1 1] ky (fun w26 h27 => la_any [(a.its.getD i it0).b] (own_tx h27 0 [(a.its.getD i it0).b] rfl) (m := 100000) (by decide) (ss1 (Nat.le_trans (hO.at hk).2 (by decide))) (by simp)) ?_
     rintro w26 h27 _ w29 ⟨rfl, hb28⟩
     have h30 := HA.keep _ _ h27 hb28
     refine ⟨_, rfl, _, .inl ky, h30, ?_⟩
     refine zq 16 (.string (((nbT 8 ((a.its.getD i it0).n) ++ nbT 1 ((a.its.getD i it0).f).toNat) ++ nbT 8 ((a.its.getD i it0).o)) ++ layT [(a.its.getD i it0).b] 1)) rfl (fun _ => (run_cat (s := ((nbT 8 ((a.its.getD i it0).n) ++ nbT 1 ((a.its.getD i it0).f).toNat) ++ nbT 8 ((a.its.getD i it0).o))) (t := layT [(a.its.getD i it0).b] 1) ky ky (by have h9 := lay1_le (hO.at hk).2; simp only [ByteArray.size_append, nbT_size (k := 1) (by decide) (by decide), nbT_size (k := 8) (by decide) (by decide)]; omega))) (zq 17 (.string (itS (hdA id a) a.its i ++ (((nbT 8 ((a.its.getD i it0).n) ++ nbT 1 ((a.its.getD i it0).f).toNat) ++ nbT 8 ((a.its.getD i it0).o)) ++ layT [(a.its.getD i it0).b] 1))) rfl (fun _ => (run_cat (s := itS (hdA id a) a.its i) (t := (((nbT 8 ((a.its.getD i it0).n) ++ nbT 1 ((a.its.getD i it0).f).toNat) ++ nbT 8 ((a.its.getD i it0).o)) ++ layT [(a.its.getD i it0).b] 1)) ky ky (by have h7 := itS_size (id := id) hO i (by omega); have h8 := hO.len; have h9 := lay1_le (hO.at hk).2; simp only [ByteArray.size_append, nbT_size (k := 1) (by decide) (by decide), nbT_size (k := 8) (by decide) (by decide)]; omega))) (zp 18 (.string (itS (hdA id a) a.its i ++ (((nbT 8 ((a.its.getD i it0).n) ++ nbT 1 ((a.its.getD i it0).f).toNat) ++ nbT 8 ((a.its.getD i it0).o)) ++ layT [(a.its.getD i it0).b] 1))) ?_))
     refine wx_end fun w31 hbx _ => ?_
     have h32 := HA.keep _ _ h30 hbx
     exact ⟨q25, by kernel_rfl, h32⟩}
    {rintro _ w33 ⟨q25, rfl, h34⟩
     refine block_normal (then_at rfl (wl_region (zu (iN .i64 (i + 1)) (run_add (k := .i64) (a := i) (b := 1) ky ky (by first | omega | (simp only [top]; omega))) (zv (iN .i64 (i + 1)) (wl_nil ?_)))))
     exact then_I (exu ky (HA.sub h34 (List.Sublist.cons _ (List.Sublist.cons _ (List.Sublist.cons_cons _ (List.Sublist.cons_cons _ (List.Sublist.slnil)))))))}}
   {rintro _ w35 ⟨u14, rfl, h36⟩
    refine wp_seq (wl_region (zu (.bool false) (run_lss (k := .i64) (a := a.its.length) (b := a.its.length) ky ky false (decide_eq_false (by omega))) (wl_nil (then_at rfl (wp_seq (wp_cond_false ky ?_))))))
    refine wp_exit ?_
    repeat first | refine then_exit ?_ | refine block_exit ?_ | refine block_exit_ne (by decide) ?_
    refine then_at rfl (wp_seq ?_)
    refine wp_region_wxh h36 (fun AQ w' => ∃ (q40 : Nat), AQ = ⟨(iN .u64 id :: .agg (anC a (.slice o a.li.ds.length k) (.slice p a.its.length m)) :: un :: pt q1 :: .string ((itS (hdA id a) a.its a.its.length ++ layT [a.bt] 1) ++ nbT 1 a.lf.toNat) :: .string (itS (hdA id a) a.its a.its.length) :: un :: u14 7 :: iN .u64 id :: .string (nbT 8 id) :: pt q1 :: .int .i64 a.er :: .string (nbT 1 a.er.toNat) :: .string (nbT 8 id ++ nbT 1 a.er.toNat) :: .pointer (some ⟨q1, 1, none⟩) :: .agg #[.int .i64 a.li.u, .int .i64 a.li.v, .string a.li.ac, .slice o a.li.ds.length k, .string a.li.sg] :: .string (lbA a.li) :: .pointer (some ⟨q1, 6, none⟩) :: .agg #[.int .i64 a.bu.u, .int .i64 a.bu.d, .string a.bu.sg, .string a.bu.dh, .int .i64 a.bu.pi, .string a.bu.pr, .string a.bu.ps, .int .i64 a.bu.oi, .string a.bu.on] :: .string ((encA a.bu).1) :: .slice (some ⟨q7, 0, none⟩) 2 2 :: .string (layT [lbA a.li, (encA a.bu).1] 2) :: .string ((nbT 8 id ++ nbT 1 a.er.toNat) ++ layT [lbA a.li, (encA a.bu).1] 2) :: .string ((nbT 8 id ++ nbT 1 a.er.toNat) ++ layT [lbA a.li, (encA a.bu).1] 2) :: .pointer (some ⟨q1, 15, none⟩) :: .slice p a.its.length m :: iN .i64 a.its.length :: .string (nbT 1 a.its.length) :: .string (((nbT 8 id ++ nbT 1 a.er.toNat) ++ layT [lbA a.li, (encA a.bu).1] 2) ++ nbT 1 a.its.length) :: .pointer (some ⟨q1, 15, none⟩) :: .slice p a.its.length m :: iN .i64 a.its.length :: iN .i64 a.its.length :: .bool false :: u14 34 :: u14 35 :: u14 36 :: u14 37 :: u14 38 :: u14 39 :: u14 40 :: u14 41 :: u14 42 :: u14 43 :: u14 44 :: u14 45 :: u14 46 :: u14 47 :: u14 48 :: u14 49 :: u14 50 :: u14 51 :: u14 52 :: u14 53 :: u14 54 :: .string (itS (hdA id a) a.its a.its.length) :: .pointer (some ⟨q1, 16, none⟩) :: .string a.bt :: .slice (some ⟨q40, 0, none⟩) 1 1 :: .string (layT [a.bt] 1) :: .string (itS (hdA id a) a.its a.its.length ++ layT [a.bt] 1) :: .pointer (some ⟨q1, 17, none⟩) :: .int .i64 a.lf :: .string (nbT 1 a.lf.toNat) :: .string ((itS (hdA id a) a.its a.its.length ++ layT [a.bt] 1) ++ nbT 1 a.lf.toNat) :: List.replicate 0 un).toArray, []⟩ ∧ HA (bs w) [(q40, 9, #[.string a.bt]), (q7, 9, #[.string (lbA a.li), .string ((encA a.bu).1)]), (q1, 47, anC a (.slice o a.li.ds.length k) (.slice p a.its.length m))] w') 11 ky ky ky ky ky ?_ ?_
    {have h37 := h36.drew
     refine zp 0 (.string (itS (hdA id a) a.its a.its.length)) (zp 1 (.pointer (some ⟨q1, 16, none⟩)) (zx 2 (.string a.bt) rfl (fun w' h' => run_load1 (fun w => Try.isAgg9 w) ky (((h'.get 1 rfl).cell 16).trans rfl)) (zp 6 (.pointer (some ⟨q1, 17, none⟩)) (zx 7 (.int .i64 a.lf) rfl (fun w' h' => run_load1 (fun w => Try.isAgg3 w) ky (((h'.get 1 rfl).cell 17).trans rfl)) (wx_one 3 ky ?_)))))
     refine ex_makeT (c := #[.string a.bt]) rfl ky h37 9 (fun q => .slice (some ⟨q, 0, none⟩) 1 1) (fun _ => ky) ?_
     intro q40 w38 (h39 : HA (bs w) [(q40, 9, #[.string a.bt]), (q7, 9, #[.string (lbA a.li), .string ((encA a.bu).1)]), (q1, 47, anC a (.slice o a.li.ds.length k) (.slice p a.its.length m))] w38)
     refine ⟨_, .inr rfl, (HA.sub h39 (List.Sublist.cons _ (List.Sublist.cons_cons _ (List.Sublist.cons_cons _ (List.Sublist.refl _))))), ?_⟩
     refine wx_one 4 ky ?_
     refine ex_callx rfl ky h39 enter66 #[.slice (some ⟨q40, 0, none⟩) 1 1] ky (fun w41 h42 => la_any [a.bt] (own_tx h42 0 [a.bt] rfl) (m := 100000) (by decide) (ss1 (Nat.le_trans hO.bt (by decide))) (by simp)) ?_
     rintro w41 h42 _ w44 ⟨rfl, hb43⟩
     have h45 := HA.keep _ _ h42 hb43
     refine ⟨_, rfl, _, .inr rfl, (HA.sub h45 (List.Sublist.cons _ (List.Sublist.cons_cons _ (List.Sublist.cons_cons _ (List.Sublist.refl _))))), ?_⟩
     refine zq 5 (.string (itS (hdA id a) a.its a.its.length ++ layT [a.bt] 1)) rfl (fun _ => (run_cat (s := itS (hdA id a) a.its a.its.length) (t := layT [a.bt] 1) ky ky (by have h7 := itS_size (id := id) hO a.its.length (Nat.le_refl _); have h8 := hO.len; have h4 := lay1_le hO.bt; omega))) (zc 8 (.string (nbT 1 a.lf.toNat)) rfl enter63 _ (fun w' h' => nu_any 1 a.lf hO.l0 (by have := hO.l1; omega)) (zq 9 (.string ((itS (hdA id a) a.its a.its.length ++ layT [a.bt] 1) ++ nbT 1 a.lf.toNat)) rfl (fun _ => (run_cat (s := (itS (hdA id a) a.its a.its.length ++ layT [a.bt] 1)) (t := nbT 1 a.lf.toNat) ky ky (by have h7 := itS_size (id := id) hO a.its.length (Nat.le_refl _); have h8 := hO.len; have h4 := lay1_le hO.bt; simp only [ByteArray.size_append, nbT_size (k := 1) (by decide) (by decide)]; omega))) (zp 10 (.string ((itS (hdA id a) a.its a.its.length ++ layT [a.bt] 1) ++ nbT 1 a.lf.toNat)) ?_)))
     refine wx_end fun w46 hbx _ => ?_
     have h47 := HA.keep _ _ h45 hbx
     exact ⟨q40, by kernel_rfl, h47⟩}
    {rintro _ w48 ⟨q40, rfl, h49⟩
     refine then_at rfl ?_
     refine wp_ret ?_
     repeat first|refine tr ?_|refine block_ret ?_
     exact bodyPost_ret (v := .string (ansB id a)) ky rfl ⟨rfl, h49.old.old⟩}}}
set_option maxHeartbeats 2000000 in
theorem ea_any {w : World} (a : An) {o p : Option Addr} {k m : Nat} (hP : At w o (mcl a.li.ds)) (hQ : At w p (icl a.its)) (hl1 : a.li.ds.length ≤ 1000000) (hl2 : a.its.length ≤ 1000000) (id : Nat) :
    Calls Try.prog 22 #[iN .u64 id, .agg (anC a (.slice o a.li.ds.length k) (.slice p a.its.length m))] w fun e w' => e = .returned (.tuple #[.string (encN id a).1, iN .i64 (encN id a).2]) ∧ Below w.heap.size w w' := by
  have H0 := HA.start w
  go_enter Try.func22, Try.ntmps22
  refine wp_seq (wl_region (wl_make (c := anC a (.slice o a.li.ds.length k) (.slice p a.its.length m)) H0 47 ky ky ?_))
  intro q1 w2 (h3 : HA (bs w) [(q1, 47, anC a (.slice o a.li.ds.length k) (.slice p a.its.length m))] w2)
  refine zv (.string ({ data := #[] })) (zv (iN .i64 0) (wl_nil (then_at rfl (wp_seq (wp_seq (wl_region (wl_load h3 0 rfl ky ky Try.underlying47 rfl ky ?_)))))))
  rcases q4 : mayA a with _ | _
  {refine zl (.bool false) h3 enter55 #[.agg (anC a (.slice o a.li.ds.length k) (.slice p a.its.length m))] (((mayA_any a (hP.keep h3.old.old) (hQ.keep h3.old.old) hl1 hl2).mono fun _ _ hh => ⟨by rw [hh.1, q4], hh.2⟩)) (fun w5 h6 => (zv (.bool true) (wl_nil (then_at rfl (wp_cond_true ky (wp_seq (wl_region (zv (.string ({ data := #[] })) (zv (iN .i64 2) (wl_nil (then_at rfl (wp_ret ?_))))))))))))
   repeat first|refine tr ?_|refine block_ret ?_
   exact bodyPost_ret (v := .tuple #[.string { data := #[] }, iN .i64 2]) ky rfl ⟨by rw [show encN id a = ({ data := #[] }, 2) from by unfold encN; rw [q4]; rfl], h6.old.old⟩}
  have hO := mayA_ok q4
  refine zl (.bool true) h3 enter55 #[.agg (anC a (.slice o a.li.ds.length k) (.slice p a.its.length m))] (((mayA_any a (hP.keep h3.old.old) (hQ.keep h3.old.old) hl1 hl2).mono fun _ _ hh => ⟨by rw [hh.1, q4], hh.2⟩)) (fun w7 h8 => (zv (.bool false) (wl_nil (then_at rfl (wp_cond_false ky (wp_skip (then_at rfl (wp_seq (wl_region (zv (iN .u64 id) (wl_load h8 0 rfl ky ky Try.underlying47 rfl ky (zl (.string (ansB id a)) h8 enter56 #[iN .u64 id, .agg (anC a (.slice o a.li.ds.length k) (.slice p a.its.length m))] (ab_any a (hP.keep h8.old.old) (hQ.keep h8.old.old) hl1 hl2 hO id) (fun w9 h10 => (zl (.tuple #[.string ((bdA (ansB id a)).1), iN .i64 ((bdA (ansB id a)).2)]) h10 enter34 _ (bd_any (ansB id a)) (fun w11 h12 => (zv (.string ((bdA (ansB id a)).1)) (zv (iN .i64 ((bdA (ansB id a)).2)) (zv (.string ((bdA (ansB id a)).1)) (zv (iN .i64 ((bdA (ansB id a)).2)) (wl_nil (then_at rfl (wp_ret ?_))))))))))))))))))))))
  repeat first|refine tr ?_|refine block_ret ?_
  exact bodyPost_ret (v := .tuple #[.string (bdA (ansB id a)).1, iN .i64 (bdA (ansB id a)).2]) ky rfl ⟨by rw [show encN id a = bdA (ansB id a) from by unfold encN; rw [q4]; rfl], h12.old.old⟩
theorem ea_E {w : World} (a : An) {o p : Option Addr} {k m : Nat} (hP : At w o (mcl a.li.ds)) (hQ : At w p (icl a.its)) (hl1 : a.li.ds.length ≤ 1000000) (hl2 : a.its.length ≤ 1000000) {id : Nat} {y : ByteArray} {n : Nat} (he : encN id a = (y, n)) :
    Calls Try.prog 22 #[iN .u64 id, .agg (anC a (.slice o a.li.ds.length k) (.slice p a.its.length m))] w fun e w' => e = .returned (.tuple #[.string y, iN .i64 n]) ∧ Below w.heap.size w w' := by
  have h := ea_any a hP hQ hl1 hl2 id (k := k) (m := m)
  rw [he] at h
  exact h
end Go.Proofs.Ytiogegoepgkjlaa
