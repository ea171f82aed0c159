/-
  within, areWords, bare, mayBe; word, May.
-/
import Derived.Test.YtiogegoepgkjlaaX0
set_option maxRecDepth 100000
set_option linter.unusedVariables false
namespace Go.Proofs.Ytiogegoepgkjlaa
open Go.RowKit

set_option maxHeartbeats 2000000 in
theorem wi_1 {w : World} (v lo hi : Int) (h : ¬ lo ≤ v) :
    Calls Try.prog 111 #[.int .i64 v, .int .i64 lo, .int .i64 hi] w fun e w' => e = .returned (.bool false) ∧ Below w.heap.size w w' := by
  have H0 := HA.start w
  go_enter Try.func111, Try.ntmps111
  refine wp_seq (wl_region (zv (.bool false) (wl_nil (then_at rfl (wp_seq (wl_region (zv (.int .i64 v) (zv (.int .i64 lo) (zu (.bool false) (run_geZ (k := .i64) (a := v) (b := lo) ky ky false (decide_eq_false (by omega))) (zv (.bool false) (zk (zk (zk (zv (.bool false) (zv (.bool false) (wl_nil (then_at rfl (wp_ret ?_))))))))))))))))))
  repeat first|refine tr ?_|refine block_ret ?_
  exact bodyPost_ret (v := .bool false) ky rfl ⟨rfl, H0.old.old⟩
set_option maxHeartbeats 2000000 in
theorem wi_2 {w : World} (v lo hi : Int) (h : lo ≤ v) (h2 : v ≤ hi) :
    Calls Try.prog 111 #[.int .i64 v, .int .i64 lo, .int .i64 hi] w fun e w' => e = .returned (.bool true) ∧ Below w.heap.size w w' := by
  have H0 := HA.start w
  go_enter Try.func111, Try.ntmps111
  refine wp_seq (wl_region (zv (.bool false) (wl_nil (then_at rfl (wp_seq (wl_region (zv (.int .i64 v) (zv (.int .i64 lo) (zu (.bool true) (run_geZ (k := .i64) (a := v) (b := lo) ky ky true (decide_eq_true (by omega))) (zv (.bool true) (zv (.int .i64 v) (zv (.int .i64 hi) (zu (.bool true) (run_leZ (k := .i64) (a := v) (b := hi) ky ky true (decide_eq_true (by omega))) (zv (.bool true) (zv (.bool true) (wl_nil (then_at rfl (wp_ret ?_))))))))))))))))))
  repeat first|refine tr ?_|refine block_ret ?_
  exact bodyPost_ret (v := .bool true) ky rfl ⟨rfl, H0.old.old⟩
set_option maxHeartbeats 2000000 in
theorem wi_3 {w : World} (v lo hi : Int) (h : lo ≤ v) (h2 : ¬ v ≤ hi) :
    Calls Try.prog 111 #[.int .i64 v, .int .i64 lo, .int .i64 hi] w fun e w' => e = .returned (.bool false) ∧ Below w.heap.size w w' := by
  have H0 := HA.start w
  go_enter Try.func111, Try.ntmps111
  refine wp_seq (wl_region (zv (.bool false) (wl_nil (then_at rfl (wp_seq (wl_region (zv (.int .i64 v) (zv (.int .i64 lo) (zu (.bool true) (run_geZ (k := .i64) (a := v) (b := lo) ky ky true (decide_eq_true (by omega))) (zv (.bool true) (zv (.int .i64 v) (zv (.int .i64 hi) (zu (.bool false) (run_leZ (k := .i64) (a := v) (b := hi) ky ky false (decide_eq_false (by omega))) (zv (.bool false) (zv (.bool false) (wl_nil (then_at rfl (wp_ret ?_))))))))))))))))))
  repeat first|refine tr ?_|refine block_ret ?_
  exact bodyPost_ret (v := .bool false) ky rfl ⟨rfl, H0.old.old⟩
theorem within_any {w : World} (v lo hi : Int) {b : Bool} (hb : wi v lo hi = b) :
    Calls Try.prog 111 #[.int .i64 v, .int .i64 lo, .int .i64 hi] w fun e w' => e = .returned (.bool b) ∧ Below w.heap.size w w' := by
  subst hb
  unfold wi
  by_cases h : lo ≤ v
  · by_cases h2 : v ≤ hi
    · rw [decide_eq_true h, decide_eq_true h2]; exact wi_2 v lo hi h h2
    · rw [decide_eq_true h, decide_eq_false h2]; exact wi_3 v lo hi h h2
  · rw [decide_eq_false h]; exact wi_1 v lo hi h
theorem all_no {ss : List ByteArray} {i : Nat} (hi : i < ss.length) (h : wo (ss.getD i ByteArray.empty) = false) : ss.all wo = false := by
  rw [List.getD_eq_getElem?_getD, List.getElem?_eq_getElem hi] at h
  rw [Bool.eq_false_iff]
  intro h2
  rw [List.all_eq_true] at h2
  have := h2 _ (List.getElem_mem hi)
  rw [show ss[i] = (some ss[i]).getD ByteArray.empty from rfl, h] at this
  cases this
theorem all_yes {ss : List ByteArray} (h : ∀ j, j < ss.length → wo (ss.getD j ByteArray.empty) = true) : ss.all wo = true := by
  rw [List.all_eq_true]
  intro x hx
  obtain ⟨i, hi, rfl⟩ := List.mem_iff_getElem.1 hx
  have := h i hi
  rwa [List.getD_eq_getElem?_getD, List.getElem?_eq_getElem hi] at this
set_option maxHeartbeats 2000000 in
theorem areWords_any {w : World} (ss : List ByteArray) (o : Option Addr) (c : Nat) (hp : ss = [] ∨ ∃ pq cs, o = some ⟨pq, 0, none⟩ ∧ PreS cs ss ∧ Blk w pq 9 cs) {b : Bool} (hb : ss.all wo = b) (hsl : ss.length ≤ 100) :
    Calls Try.prog 112 #[.slice o ss.length c] w fun e w' => e = .returned (.bool b) ∧ Below w.heap.size w w' := by
  have H0 := HA.start w
  go_enter Try.func112, Try.ntmps112
  refine wp_seq (wl_region (zv (.bool false) (wl_nil (then_at rfl (wp_seq (wp_seq (wl_region (zv (.slice o ss.length c) (zv (iN .i64 ss.length) (zv (iN .i64 0) (wl_nil (then_at rfl (wp_block ?_)))))))))))))
  refine wp_count (fun i AQ w' => ∃ u1 : Nat → Value, AQ = ⟨(.slice o ss.length c :: un :: u1 2 :: un :: u1 4 :: .slice o ss.length c :: iN .i64 ss.length :: iN .i64 i :: u1 8 :: u1 9 :: u1 10 :: u1 11 :: u1 12 :: u1 13 :: u1 14 :: u1 15 :: List.replicate 0 un).toArray, []⟩ ∧ (∀ j, j < i → wo (ss.getD j ByteArray.empty) = true) ∧ HA (bs w) [] w') ss.length ?_ ?_ ?_
  {exact exu ky (⟨fun j h => absurd h (Nat.not_lt_zero j), H0⟩)}
  {rintro i hk _ w2 ⟨u1, rfl, ⟨hall, hT⟩⟩
   obtain ⟨pq, cs, rfl, hps, hm⟩ := hp.resolve_left (by intro e; rw [e] at hk; simp at hk)
   refine wp_seq (wl_region (zu (.bool true) (run_lss (k := .i64) (a := i) (b := ss.length) ky ky true (decide_eq_true (by omega))) (wl_nil (then_at rfl (wp_seq (wp_cond_true ky (wp_skip (then_at rfl (wp_seq (wp_block (wp_seq (wl_region (zu (.pointer (some ⟨pq, i, none⟩)) (run_addr_slice (q := pq) (n := ss.length) (m := c) (a := i) Try.underlying28 (fun w => Try.sizeOf9 w) ky ky (by omega)) (zu (.string (ss.getD i ByteArray.empty)) (run_load1 (fun w => Try.isAgg9 w) ky (((hm.keep hT.old.old).cell i).trans (hps i hk))) (zv (.string (ss.getD i ByteArray.empty)) (wl_nil (then_at rfl (wp_seq ?_))))))))))))))))))
   rcases hq : wo (ss.getD i ByteArray.empty) with _ | _
   {refine wl_region (zv (.string (ss.getD i ByteArray.empty)) (zu (iN .i64 ((ss.getD i ByteArray.empty).size)) (run_len (s := ss.getD i ByteArray.empty) ky) (zl (.bool false) hT enter111 #[iN .i64 ((ss.getD i ByteArray.empty).size), iN .i64 1, iN .i64 16384] (within_any _ _ _ (show wi _ 1 16384 = _ from hq)) (fun w3 h4 => (zv (.bool true) (wl_nil (then_at rfl (wp_cond_true ky (wp_seq (wl_region (zv (.bool false) (wl_nil (then_at rfl (wp_ret ?_))))))))))))))
    repeat first|refine tr ?_|refine block_ret ?_
    exact bodyPost_ret (v := .bool false) ky rfl ⟨by rw [← hb, all_no hk hq], h4.old.old⟩}
   {refine wl_region (zv (.string (ss.getD i ByteArray.empty)) (zu (iN .i64 ((ss.getD i ByteArray.empty).size)) (run_len (s := ss.getD i ByteArray.empty) ky) (zl (.bool true) hT enter111 #[iN .i64 ((ss.getD i ByteArray.empty).size), iN .i64 1, iN .i64 16384] (within_any _ _ _ (show wi _ 1 16384 = _ from hq)) (fun w5 h6 => (zv (.bool false) (wl_nil (then_at rfl (wp_cond_false ky (wp_skip (block_normal (then_at rfl (wl_region (zu (iN .i64 (i + 1)) (run_add (k := .i64) (a := i) (b := 1) ky ky (by first | omega | (simp only [top]; omega))) (zv (iN .i64 (i + 1)) (wl_nil ?_)))))))))))))))
    exact then_I (exu ky (⟨fun j hj => (Nat.lt_succ_iff_lt_or_eq.1 hj).elim (hall j) (fun e => by rw [e]; exact hq), h6⟩))}}
  {rintro _ w7 ⟨u1, rfl, ⟨hall, hT⟩⟩
   refine wp_seq (wl_region (zu (.bool false) (run_lss (k := .i64) (a := ss.length) (b := ss.length) ky ky false (decide_eq_false (by omega))) (wl_nil (then_at rfl (wp_seq (wp_cond_false ky ?_))))))
   refine wp_exit ?_
   repeat first | refine then_exit ?_ | refine block_exit ?_ | refine block_exit_ne (by decide) ?_
   refine then_at rfl (wp_seq (wl_region ?_))
   refine zv (.bool true) (wl_nil (then_at rfl (wp_ret ?_)))
   repeat first|refine tr ?_|refine block_ret ?_
   exact bodyPost_ret (v := .bool true) ky rfl ⟨by rw [← hb, all_yes hall], hT.old.old⟩}
set_option maxHeartbeats 2000000 in
theorem bare_any {w : World} (x : Bu) :
    Calls Try.prog 113 #[.agg (buC x)] w fun e w' => e = .returned (.agg (buC (bare x))) ∧ Below w.heap.size w w' := by
  have H0 := HA.start w
  go_enter Try.func113, Try.ntmps113
  refine wp_seq (wl_region (wl_make (c := buC x) H0 27 ky ky ?_))
  intro q1 w2 (h3 : HA (bs w) [(q1, 27, buC x)] w2)
  refine wl_make (c := #[iN .i64 0, iN .i64 0, .string ({ data := #[] }), .string ({ data := #[] }), iN .i64 0, .string ({ data := #[] }), .string ({ data := #[] }), iN .i64 0, .string ({ data := #[] })]) h3 27 ky ky ?_
  intro q4 w5 (h6 : HA (bs w) [(q4, 27, #[iN .i64 0, iN .i64 0, .string ({ data := #[] }), .string ({ data := #[] }), iN .i64 0, .string ({ data := #[] }), .string ({ data := #[] }), iN .i64 0, .string ({ data := #[] })]), (q1, 27, buC x)] w5)
  refine wl_nil (then_at rfl (wp_seq (wl_region (zv (.pointer (some ⟨q1, 7, none⟩)) (wl_putv (v := iN .i64 0) h6 1 rfl 7 (by show 7 < 9; decide) ky (fun w => Try.sizeOf3 w) ky ky ky (fun w7 h8 => (zv (.pointer (some ⟨q1, 8, none⟩)) (wl_putv (v := .string ({ data := #[] })) h8 1 rfl 8 (by show 8 < 9; decide) ky (fun w => Try.sizeOf9 w) ky ky ky (fun w9 h10 => (wl_nil (then_at rfl (wp_seq (wl_region (wl_load h10 1 rfl ky ky Try.underlying27 rfl ky (wl_fill (c' := #[.int .i64 x.u, .int .i64 x.d, .string x.sg, .string x.dh, .int .i64 x.pi, .string x.pr, .string x.ps, iN .i64 0, .string ({ data := #[] })]) h10 0 rfl ky ky ky rfl ky ky (fun w11 h12 => (wl_nil (then_at rfl (wp_ret ?_)))))))))))))))))))
  repeat first|refine tr ?_|refine block_ret ?_
  exact bodyPost_ret (v := .agg (buC (bare x))) (res_cell (p := 2) ky ky (h12.get 0 rfl) Try.underlying27 rfl ky) rfl ⟨rfl, h12.old.old⟩
set_option maxHeartbeats 2000000 in
theorem mb_0 {w : World} {x : Bu} (i1 : wi x.u 0 2 = false) :
    Calls Try.prog 107 #[.agg (buC x)] w fun e w' => e = .returned (.bool false) ∧ Below w.heap.size w w' := by
  have H0 := HA.start w
  go_enter Try.func107, Try.ntmps107
  refine wp_seq (wl_region (wl_make (c := buC x) H0 27 ky ky ?_))
  intro q1 w2 (h3 : HA (bs w) [(q1, 27, buC x)] w2)
  refine zv (.bool false) (wl_nil (then_at rfl (wp_seq ?_)))
  refine wp_region_wxh h3 (fun AQ w' => AQ = ⟨(.agg (buC x) :: pt q1 :: .bool false :: pt q1 :: .int .i64 x.u :: .bool false :: .bool false :: un :: un :: un :: .bool false :: .bool false :: un :: un :: un :: .bool false :: .bool false :: un :: un :: un :: un :: un :: un :: un :: un :: un :: un :: .bool false :: .bool false :: un :: un :: un :: un :: un :: un :: un :: un :: un :: un :: un :: un :: un :: un :: un :: .bool false :: List.replicate 0 un).toArray, []⟩ ∧ HA (bs w) [(q1, 27, buC x)] w') 43 ky ky ky ky ky ?_ ?_
  {have h4 := h3.drew
   refine zp 0 (.pointer (some ⟨q1, 0, none⟩)) (zx 1 (.int .i64 x.u) rfl (fun w' h' => run_load1 (fun w => Try.isAgg3 w) ky (((h'.get 0 rfl).cell 0).trans rfl)) (zc 2 (.bool false) rfl enter111 #[.int .i64 x.u, iN .i64 0, iN .i64 2] (fun w' h' => within_any _ _ _ i1) (zp 3 (.bool false) (zs 4 (zs 5 (zs 6 (zp 7 (.bool false) (zp 8 (.bool false) (zs 9 (zs 10 (zs 11 (zp 12 (.bool false) (zp 13 (.bool false) (zs 14 (zs 15 (zs 16 (zs 17 (zs 18 (zs 19 (zs 20 (zs 21 (zs 22 (zs 23 ?_)))))))))))))))))))))))
   refine zp 24 (.bool false) (zp 25 (.bool false) (zs 26 (zs 27 (zs 28 (zs 29 (zs 30 (zs 31 (zs 32 (zs 33 (zs 34 (zs 35 (zs 36 (zs 37 (zs 38 (zs 39 (zs 40 (zp 41 (.bool false) (zp 42 (.bool false) ?_))))))))))))))))))
   refine wx_end fun w5 hbx _ => ?_
   have h6 := HA.keep _ _ h4 hbx
   exact ⟨by kernel_rfl, h6⟩}
  {rintro _ w7 ⟨rfl, h8⟩
   refine then_at rfl ?_
   refine wp_ret ?_
   repeat first|refine tr ?_|refine block_ret ?_
   exact bodyPost_ret (v := .bool false) ky rfl ⟨rfl, h8.old.old⟩}
set_option maxHeartbeats 2000000 in
theorem mb_1 {w : World} {x : Bu} (i1 : wi x.u 0 2 = true) (i2 : wi x.d 0 1 = false) :
    Calls Try.prog 107 #[.agg (buC x)] w fun e w' => e = .returned (.bool false) ∧ Below w.heap.size w w' := by
  have H0 := HA.start w
  go_enter Try.func107, Try.ntmps107
  refine wp_seq (wl_region (wl_make (c := buC x) H0 27 ky ky ?_))
  intro q1 w2 (h3 : HA (bs w) [(q1, 27, buC x)] w2)
  refine zv (.bool false) (wl_nil (then_at rfl (wp_seq ?_)))
  refine wp_region_wxh h3 (fun AQ w' => AQ = ⟨(.agg (buC x) :: pt q1 :: .bool false :: pt q1 :: .int .i64 x.u :: .bool true :: .bool true :: .pointer (some ⟨q1, 1, none⟩) :: .int .i64 x.d :: .bool false :: .bool false :: .bool false :: un :: un :: un :: .bool false :: .bool false :: un :: un :: un :: un :: un :: un :: un :: un :: un :: un :: .bool false :: .bool false :: un :: un :: un :: un :: un :: un :: un :: un :: un :: un :: un :: un :: un :: un :: un :: .bool false :: List.replicate 0 un).toArray, []⟩ ∧ HA (bs w) [(q1, 27, buC x)] w') 43 ky ky ky ky ky ?_ ?_
  {have h4 := h3.drew
   refine zp 0 (.pointer (some ⟨q1, 0, none⟩)) (zx 1 (.int .i64 x.u) rfl (fun w' h' => run_load1 (fun w => Try.isAgg3 w) ky (((h'.get 0 rfl).cell 0).trans rfl)) (zc 2 (.bool true) rfl enter111 #[.int .i64 x.u, iN .i64 0, iN .i64 2] (fun w' h' => within_any _ _ _ i1) (zp 3 (.bool true) (zp 4 (.pointer (some ⟨q1, 1, none⟩)) (zx 5 (.int .i64 x.d) rfl (fun w' h' => run_load1 (fun w => Try.isAgg3 w) ky (((h'.get 0 rfl).cell 1).trans rfl)) (zc 6 (.bool false) rfl enter111 #[.int .i64 x.d, iN .i64 0, iN .i64 1] (fun w' h' => within_any _ _ _ i2) (zp 7 (.bool false) (zp 8 (.bool false) (zs 9 (zs 10 (zs 11 (zp 12 (.bool false) (zp 13 (.bool false) (zs 14 (zs 15 (zs 16 (zs 17 (zs 18 (zs 19 (zs 20 (zs 21 (zs 22 (zs 23 ?_)))))))))))))))))))))))
   refine zp 24 (.bool false) (zp 25 (.bool false) (zs 26 (zs 27 (zs 28 (zs 29 (zs 30 (zs 31 (zs 32 (zs 33 (zs 34 (zs 35 (zs 36 (zs 37 (zs 38 (zs 39 (zs 40 (zp 41 (.bool false) (zp 42 (.bool false) ?_))))))))))))))))))
   refine wx_end fun w5 hbx _ => ?_
   have h6 := HA.keep _ _ h4 hbx
   exact ⟨by kernel_rfl, h6⟩}
  {rintro _ w7 ⟨rfl, h8⟩
   refine then_at rfl ?_
   refine wp_ret ?_
   repeat first|refine tr ?_|refine block_ret ?_
   exact bodyPost_ret (v := .bool false) ky rfl ⟨rfl, h8.old.old⟩}
set_option maxHeartbeats 2000000 in
theorem mb_2 {w : World} {x : Bu} (i1 : wi x.u 0 2 = true) (i2 : wi x.d 0 1 = true) (i3 : wi x.pi 1 1073741824 = false) :
    Calls Try.prog 107 #[.agg (buC x)] w fun e w' => e = .returned (.bool false) ∧ Below w.heap.size w w' := by
  have H0 := HA.start w
  go_enter Try.func107, Try.ntmps107
  refine wp_seq (wl_region (wl_make (c := buC x) H0 27 ky ky ?_))
  intro q1 w2 (h3 : HA (bs w) [(q1, 27, buC x)] w2)
  refine zv (.bool false) (wl_nil (then_at rfl (wp_seq ?_)))
  refine wp_region_wxh h3 (fun AQ w' => AQ = ⟨(.agg (buC x) :: pt q1 :: .bool false :: pt q1 :: .int .i64 x.u :: .bool true :: .bool true :: .pointer (some ⟨q1, 1, none⟩) :: .int .i64 x.d :: .bool true :: .bool true :: .bool true :: .pointer (some ⟨q1, 4, none⟩) :: .int .i64 x.pi :: .bool false :: .bool false :: .bool false :: un :: un :: un :: un :: un :: un :: un :: un :: un :: un :: .bool false :: .bool false :: un :: un :: un :: un :: un :: un :: un :: un :: un :: un :: un :: un :: un :: un :: un :: .bool false :: List.replicate 0 un).toArray, []⟩ ∧ HA (bs w) [(q1, 27, buC x)] w') 43 ky ky ky ky ky ?_ ?_
  {have h4 := h3.drew
   refine zp 0 (.pointer (some ⟨q1, 0, none⟩)) (zx 1 (.int .i64 x.u) rfl (fun w' h' => run_load1 (fun w => Try.isAgg3 w) ky (((h'.get 0 rfl).cell 0).trans rfl)) (zc 2 (.bool true) rfl enter111 #[.int .i64 x.u, iN .i64 0, iN .i64 2] (fun w' h' => within_any _ _ _ i1) (zp 3 (.bool true) (zp 4 (.pointer (some ⟨q1, 1, none⟩)) (zx 5 (.int .i64 x.d) rfl (fun w' h' => run_load1 (fun w => Try.isAgg3 w) ky (((h'.get 0 rfl).cell 1).trans rfl)) (zc 6 (.bool true) rfl enter111 #[.int .i64 x.d, iN .i64 0, iN .i64 1] (fun w' h' => within_any _ _ _ i2) (zp 7 (.bool true) (zp 8 (.bool true) (zp 9 (.pointer (some ⟨q1, 4, none⟩)) (zx 10 (.int .i64 x.pi) rfl (fun w' h' => run_load1 (fun w => Try.isAgg3 w) ky (((h'.get 0 rfl).cell 4).trans rfl)) (zc 11 (.bool false) rfl enter111 #[.int .i64 x.pi, iN .i64 1, iN .i64 1073741824] (fun w' h' => within_any _ _ _ i3) (zp 12 (.bool false) (zp 13 (.bool false) (zs 14 (zs 15 (zs 16 (zs 17 (zs 18 (zs 19 (zs 20 (zs 21 (zs 22 (zs 23 ?_)))))))))))))))))))))))
   refine zp 24 (.bool false) (zp 25 (.bool false) (zs 26 (zs 27 (zs 28 (zs 29 (zs 30 (zs 31 (zs 32 (zs 33 (zs 34 (zs 35 (zs 36 (zs 37 (zs 38 (zs 39 (zs 40 (zp 41 (.bool false) (zp 42 (.bool false) ?_))))))))))))))))))
   refine wx_end fun w5 hbx _ => ?_
   have h6 := HA.keep _ _ h4 hbx
   exact ⟨by kernel_rfl, h6⟩}
  {rintro _ w7 ⟨rfl, h8⟩
   refine then_at rfl ?_
   refine wp_ret ?_
   repeat first|refine tr ?_|refine block_ret ?_
   exact bodyPost_ret (v := .bool false) ky rfl ⟨rfl, h8.old.old⟩}
set_option maxHeartbeats 2000000 in
theorem mb_3 {w : World} {x : Bu} (i1 : wi x.u 0 2 = true) (i2 : wi x.d 0 1 = true) (i3 : wi x.pi 1 1073741824 = true) (i4 : (wo x.sg && wo x.dh && wo x.pr && wo x.ps) = false) :
    Calls Try.prog 107 #[.agg (buC x)] w fun e w' => e = .returned (.bool false) ∧ Below w.heap.size w w' := by
  have H0 := HA.start w
  go_enter Try.func107, Try.ntmps107
  refine wp_seq (wl_region (wl_make (c := buC x) H0 27 ky ky ?_))
  intro q1 w2 (h3 : HA (bs w) [(q1, 27, buC x)] w2)
  refine zv (.bool false) (wl_nil (then_at rfl (wp_seq ?_)))
  refine wp_region_wxh h3 (fun AQ w' => ∃ (q7 : Nat), AQ = ⟨(.agg (buC x) :: pt q1 :: .bool false :: pt q1 :: .int .i64 x.u :: .bool true :: .bool true :: .pointer (some ⟨q1, 1, none⟩) :: .int .i64 x.d :: .bool true :: .bool true :: .bool true :: .pointer (some ⟨q1, 4, none⟩) :: .int .i64 x.pi :: .bool true :: .bool true :: .bool true :: .pointer (some ⟨q1, 2, none⟩) :: .string x.sg :: .pointer (some ⟨q1, 3, none⟩) :: .string x.dh :: .pointer (some ⟨q1, 5, none⟩) :: .string x.pr :: .pointer (some ⟨q1, 6, none⟩) :: .string x.ps :: .slice (some ⟨q7, 0, none⟩) 4 4 :: .bool false :: .bool false :: .bool false :: un :: un :: un :: un :: un :: un :: un :: un :: un :: un :: un :: un :: un :: un :: un :: .bool false :: List.replicate 0 un).toArray, []⟩ ∧ HA (bs w) [(q7, 9, #[.string x.sg, .string x.dh, .string x.pr, .string x.ps]), (q1, 27, buC x)] w') 43 ky ky ky ky ky ?_ ?_
  {have h4 := h3.drew
   refine zp 0 (.pointer (some ⟨q1, 0, none⟩)) (zx 1 (.int .i64 x.u) rfl (fun w' h' => run_load1 (fun w => Try.isAgg3 w) ky (((h'.get 0 rfl).cell 0).trans rfl)) (zc 2 (.bool true) rfl enter111 #[.int .i64 x.u, iN .i64 0, iN .i64 2] (fun w' h' => within_any _ _ _ i1) (zp 3 (.bool true) (zp 4 (.pointer (some ⟨q1, 1, none⟩)) (zx 5 (.int .i64 x.d) rfl (fun w' h' => run_load1 (fun w => Try.isAgg3 w) ky (((h'.get 0 rfl).cell 1).trans rfl)) (zc 6 (.bool true) rfl enter111 #[.int .i64 x.d, iN .i64 0, iN .i64 1] (fun w' h' => within_any _ _ _ i2) (zp 7 (.bool true) (zp 8 (.bool true) (zp 9 (.pointer (some ⟨q1, 4, none⟩)) (zx 10 (.int .i64 x.pi) rfl (fun w' h' => run_load1 (fun w => Try.isAgg3 w) ky (((h'.get 0 rfl).cell 4).trans rfl)) (zc 11 (.bool true) rfl enter111 #[.int .i64 x.pi, iN .i64 1, iN .i64 1073741824] (fun w' h' => within_any _ _ _ i3) (zp 12 (.bool true) (zp 13 (.bool true) (zp 14 (.pointer (some ⟨q1, 2, none⟩)) (zx 15 (.string x.sg) rfl (fun w' h' => run_load1 (fun w => Try.isAgg9 w) ky (((h'.get 0 rfl).cell 2).trans rfl)) (zp 16 (.pointer (some ⟨q1, 3, none⟩)) (zx 17 (.string x.dh) rfl (fun w' h' => run_load1 (fun w => Try.isAgg9 w) ky (((h'.get 0 rfl).cell 3).trans rfl)) (zp 18 (.pointer (some ⟨q1, 5, none⟩)) (zx 19 (.string x.pr) rfl (fun w' h' => run_load1 (fun w => Try.isAgg9 w) ky (((h'.get 0 rfl).cell 5).trans rfl)) (zp 20 (.pointer (some ⟨q1, 6, none⟩)) (zx 21 (.string x.ps) rfl (fun w' h' => run_load1 (fun w => Try.isAgg9 w) ky (((h'.get 0 rfl).cell 6).trans rfl)) (wx_one 22 ky ?_))))))))))))))))))))))
   refine ex_makeT (c := #[.string x.sg, .string x.dh, .string x.pr, .string x.ps]) rfl ky h4 9 (fun q => .slice (some ⟨q, 0, none⟩) 4 4) (fun _ => ky) ?_
   intro q7 w5 (h6 : HA (bs w) [(q7, 9, #[.string x.sg, .string x.dh, .string x.pr, .string x.ps]), (q1, 27, buC x)] w5)
   refine ⟨_, .inl ky, h6, ?_⟩
   refine zc 23 (.bool false) rfl enter112 #[.slice (some ⟨q7, 0, none⟩) 4 4] (fun w' h' => areWords_any [x.sg, x.dh, x.pr, x.ps] _ _ (.inr ⟨q7, _, rfl, PreS.strc [x.sg, x.dh, x.pr, x.ps], h'.get 0 rfl⟩) (by simpa only [List.all_cons, List.all_nil, Bool.and_true, Bool.and_assoc] using i4) (by simp)) (zp 24 (.bool false) (zp 25 (.bool false) (zs 26 (zs 27 (zs 28 (zs 29 (zs 30 (zs 31 (zs 32 (zs 33 (zs 34 (zs 35 (zs 36 (zs 37 (zs 38 (zs 39 (zs 40 (zp 41 (.bool false) (zp 42 (.bool false) ?_)))))))))))))))))))
   refine wx_end fun w8 hbx _ => ?_
   have h9 := HA.keep _ _ h6 hbx
   exact ⟨q7, by kernel_rfl, h9⟩}
  {rintro _ w10 ⟨q7, rfl, h11⟩
   refine then_at rfl ?_
   refine wp_ret ?_
   repeat first|refine tr ?_|refine block_ret ?_
   exact bodyPost_ret (v := .bool false) ky rfl ⟨rfl, h11.old.old⟩}
set_option maxHeartbeats 2000000 in
theorem mb_4 {w : World} {x : Bu} (i1 : wi x.u 0 2 = true) (i2 : wi x.d 0 1 = true) (i3 : wi x.pi 1 1073741824 = true) (i4 : (wo x.sg && wo x.dh && wo x.pr && wo x.ps) = true) (i5 : decide (x = bare x) = true) :
    Calls Try.prog 107 #[.agg (buC x)] w fun e w' => e = .returned (.bool true) ∧ Below w.heap.size w w' := by
  have H0 := HA.start w
  go_enter Try.func107, Try.ntmps107
  refine wp_seq (wl_region (wl_make (c := buC x) H0 27 ky ky ?_))
  intro q1 w2 (h3 : HA (bs w) [(q1, 27, buC x)] w2)
  refine zv (.bool false) (wl_nil (then_at rfl (wp_seq ?_)))
  refine wp_region_wxh h3 (fun AQ w' => ∃ (q7 : Nat), AQ = ⟨(.agg (buC x) :: pt q1 :: .bool true :: pt q1 :: .int .i64 x.u :: .bool true :: .bool true :: .pointer (some ⟨q1, 1, none⟩) :: .int .i64 x.d :: .bool true :: .bool true :: .bool true :: .pointer (some ⟨q1, 4, none⟩) :: .int .i64 x.pi :: .bool true :: .bool true :: .bool true :: .pointer (some ⟨q1, 2, none⟩) :: .string x.sg :: .pointer (some ⟨q1, 3, none⟩) :: .string x.dh :: .pointer (some ⟨q1, 5, none⟩) :: .string x.pr :: .pointer (some ⟨q1, 6, none⟩) :: .string x.ps :: .slice (some ⟨q7, 0, none⟩) 4 4 :: .bool true :: .bool true :: .bool true :: .agg (buC x) :: .agg (buC x) :: .agg (buC (bare x)) :: .bool true :: .bool true :: un :: un :: un :: un :: un :: un :: un :: un :: un :: .bool true :: .bool true :: List.replicate 0 un).toArray, []⟩ ∧ HA (bs w) [(q7, 9, #[.string x.sg, .string x.dh, .string x.pr, .string x.ps]), (q1, 27, buC x)] w') 43 ky ky ky ky ky ?_ ?_
  {have h4 := h3.drew
   refine zp 0 (.pointer (some ⟨q1, 0, none⟩)) (zx 1 (.int .i64 x.u) rfl (fun w' h' => run_load1 (fun w => Try.isAgg3 w) ky (((h'.get 0 rfl).cell 0).trans rfl)) (zc 2 (.bool true) rfl enter111 #[.int .i64 x.u, iN .i64 0, iN .i64 2] (fun w' h' => within_any _ _ _ i1) (zp 3 (.bool true) (zp 4 (.pointer (some ⟨q1, 1, none⟩)) (zx 5 (.int .i64 x.d) rfl (fun w' h' => run_load1 (fun w => Try.isAgg3 w) ky (((h'.get 0 rfl).cell 1).trans rfl)) (zc 6 (.bool true) rfl enter111 #[.int .i64 x.d, iN .i64 0, iN .i64 1] (fun w' h' => within_any _ _ _ i2) (zp 7 (.bool true) (zp 8 (.bool true) (zp 9 (.pointer (some ⟨q1, 4, none⟩)) (zx 10 (.int .i64 x.pi) rfl (fun w' h' => run_load1 (fun w => Try.isAgg3 w) ky (((h'.get 0 rfl).cell 4).trans rfl)) (zc 11 (.bool true) rfl enter111 #[.int .i64 x.pi, iN .i64 1, iN .i64 1073741824] (fun w' h' => within_any _ _ _ i3) (zp 12 (.bool true) (zp 13 (.bool true) (zp 14 (.pointer (some ⟨q1, 2, none⟩)) (zx 15 (.string x.sg) rfl (fun w' h' => run_load1 (fun w => Try.isAgg9 w) ky (((h'.get 0 rfl).cell 2).trans rfl)) (zp 16 (.pointer (some ⟨q1, 3, none⟩)) (zx 17 (.string x.dh) rfl (fun w' h' => run_load1 (fun w => Try.isAgg9 w) ky (((h'.get 0 rfl).cell 3).trans rfl)) (zp 18 (.pointer (some ⟨q1, 5, none⟩)) (zx 19 (.string x.pr) rfl (fun w' h' => run_load1 (fun w => Try.isAgg9 w) ky (((h'.get 0 rfl).cell 5).trans rfl)) (zp 20 (.pointer (some ⟨q1, 6, none⟩)) (zx 21 (.string x.ps) rfl (fun w' h' => run_load1 (fun w => Try.isAgg9 w) ky (((h'.get 0 rfl).cell 6).trans rfl)) (wx_one 22 ky ?_))))))))))))))))))))))
   refine ex_makeT (c := #[.string x.sg, .string x.dh, .string x.pr, .string x.ps]) rfl ky h4 9 (fun q => .slice (some ⟨q, 0, none⟩) 4 4) (fun _ => ky) ?_
   intro q7 w5 (h6 : HA (bs w) [(q7, 9, #[.string x.sg, .string x.dh, .string x.pr, .string x.ps]), (q1, 27, buC x)] w5)
   refine ⟨_, .inl ky, h6, ?_⟩
   refine zc 23 (.bool true) rfl enter112 #[.slice (some ⟨q7, 0, none⟩) 4 4] (fun w' h' => areWords_any [x.sg, x.dh, x.pr, x.ps] _ _ (.inr ⟨q7, _, rfl, PreS.strc [x.sg, x.dh, x.pr, x.ps], h'.get 0 rfl⟩) (by simpa only [List.all_cons, List.all_nil, Bool.and_true, Bool.and_assoc] using i4) (by simp)) (zp 24 (.bool true) (zp 25 (.bool true) (zx 26 (.agg (buC x)) rfl (fun w' h' => run_load_blk ky (h'.get 1 rfl) Try.underlying27 rfl ky) (zx 27 (.agg (buC x)) rfl (fun w' h' => run_load_blk ky (h'.get 1 rfl) Try.underlying27 rfl ky) (zc 28 (.agg (buC (bare x))) rfl enter113 _ (fun w' h' => bare_any x) (zq 29 (.bool true) rfl (fun _ => (run_eqB (a := x) (b := (bare x)) ky ky true i5)) (zp 30 (.bool true) (zs 31 (zs 32 (zs 33 (zs 34 (zs 35 (zs 36 (zs 37 (zs 38 (zs 39 (zp 40 (.bool true) (zp 41 (.bool true) (zp 42 (.bool true) ?_)))))))))))))))))))
   refine wx_end fun w8 hbx _ => ?_
   have h9 := HA.keep _ _ h6 hbx
   exact ⟨q7, by kernel_rfl, h9⟩}
  {rintro _ w10 ⟨q7, rfl, h11⟩
   refine then_at rfl ?_
   refine wp_ret ?_
   repeat first|refine tr ?_|refine block_ret ?_
   exact bodyPost_ret (v := .bool true) ky rfl ⟨rfl, h11.old.old⟩}
set_option maxHeartbeats 2000000 in
theorem mb_5 {w : World} {x : Bu} (i1 : wi x.u 0 2 = true) (i2 : wi x.d 0 1 = true) (i3 : wi x.pi 1 1073741824 = true) (i4 : (wo x.sg && wo x.dh && wo x.pr && wo x.ps) = true) (i5 : decide (x = bare x) = false) (i6 : wi x.oi 1 1073741824 = false) :
    Calls Try.prog 107 #[.agg (buC x)] w fun e w' => e = .returned (.bool false) ∧ Below w.heap.size w w' := by
  have H0 := HA.start w
  go_enter Try.func107, Try.ntmps107
  refine wp_seq (wl_region (wl_make (c := buC x) H0 27 ky ky ?_))
  intro q1 w2 (h3 : HA (bs w) [(q1, 27, buC x)] w2)
  refine zv (.bool false) (wl_nil (then_at rfl (wp_seq ?_)))
  refine wp_region_wxh h3 (fun AQ w' => ∃ (q7 : Nat), AQ = ⟨(.agg (buC x) :: pt q1 :: .bool false :: pt q1 :: .int .i64 x.u :: .bool true :: .bool true :: .pointer (some ⟨q1, 1, none⟩) :: .int .i64 x.d :: .bool true :: .bool true :: .bool true :: .pointer (some ⟨q1, 4, none⟩) :: .int .i64 x.pi :: .bool true :: .bool true :: .bool true :: .pointer (some ⟨q1, 2, none⟩) :: .string x.sg :: .pointer (some ⟨q1, 3, none⟩) :: .string x.dh :: .pointer (some ⟨q1, 5, none⟩) :: .string x.pr :: .pointer (some ⟨q1, 6, none⟩) :: .string x.ps :: .slice (some ⟨q7, 0, none⟩) 4 4 :: .bool true :: .bool true :: .bool true :: .agg (buC x) :: .agg (buC x) :: .agg (buC (bare x)) :: .bool false :: .bool false :: .pointer (some ⟨q1, 7, none⟩) :: .int .i64 x.oi :: .bool false :: .bool false :: un :: un :: un :: un :: .bool false :: .bool false :: .bool false :: List.replicate 0 un).toArray, []⟩ ∧ HA (bs w) [(q7, 9, #[.string x.sg, .string x.dh, .string x.pr, .string x.ps]), (q1, 27, buC x)] w') 43 ky ky ky ky ky ?_ ?_
  {have h4 := h3.drew
   refine zp 0 (.pointer (some ⟨q1, 0, none⟩)) (zx 1 (.int .i64 x.u) rfl (fun w' h' => run_load1 (fun w => Try.isAgg3 w) ky (((h'.get 0 rfl).cell 0).trans rfl)) (zc 2 (.bool true) rfl enter111 #[.int .i64 x.u, iN .i64 0, iN .i64 2] (fun w' h' => within_any _ _ _ i1) (zp 3 (.bool true) (zp 4 (.pointer (some ⟨q1, 1, none⟩)) (zx 5 (.int .i64 x.d) rfl (fun w' h' => run_load1 (fun w => Try.isAgg3 w) ky (((h'.get 0 rfl).cell 1).trans rfl)) (zc 6 (.bool true) rfl enter111 #[.int .i64 x.d, iN .i64 0, iN .i64 1] (fun w' h' => within_any _ _ _ i2) (zp 7 (.bool true) (zp 8 (.bool true) (zp 9 (.pointer (some ⟨q1, 4, none⟩)) (zx 10 (.int .i64 x.pi) rfl (fun w' h' => run_load1 (fun w => Try.isAgg3 w) ky (((h'.get 0 rfl).cell 4).trans rfl)) (zc 11 (.bool true) rfl enter111 #[.int .i64 x.pi, iN .i64 1, iN .i64 1073741824] (fun w' h' => within_any _ _ _ i3) (zp 12 (.bool true) (zp 13 (.bool true) (zp 14 (.pointer (some ⟨q1, 2, none⟩)) (zx 15 (.string x.sg) rfl (fun w' h' => run_load1 (fun w => Try.isAgg9 w) ky (((h'.get 0 rfl).cell 2).trans rfl)) (zp 16 (.pointer (some ⟨q1, 3, none⟩)) (zx 17 (.string x.dh) rfl (fun w' h' => run_load1 (fun w => Try.isAgg9 w) ky (((h'.get 0 rfl).cell 3).trans rfl)) (zp 18 (.pointer (some ⟨q1, 5, none⟩)) (zx 19 (.string x.pr) rfl (fun w' h' => run_load1 (fun w => Try.isAgg9 w) ky (((h'.get 0 rfl).cell 5).trans rfl)) (zp 20 (.pointer (some ⟨q1, 6, none⟩)) (zx 21 (.string x.ps) rfl (fun w' h' => run_load1 (fun w => Try.isAgg9 w) ky (((h'.get 0 rfl).cell 6).trans rfl)) (wx_one 22 ky ?_))))))))))))))))))))))
   refine ex_makeT (c := #[.string x.sg, .string x.dh, .string x.pr, .string x.ps]) rfl ky h4 9 (fun q => .slice (some ⟨q, 0, none⟩) 4 4) (fun _ => ky) ?_
   intro q7 w5 (h6 : HA (bs w) [(q7, 9, #[.string x.sg, .string x.dh, .string x.pr, .string x.ps]), (q1, 27, buC x)] w5)
   refine ⟨_, .inl ky, h6, ?_⟩
   refine zc 23 (.bool true) rfl enter112 #[.slice (some ⟨q7, 0, none⟩) 4 4] (fun w' h' => areWords_any [x.sg, x.dh, x.pr, x.ps] _ _ (.inr ⟨q7, _, rfl, PreS.strc [x.sg, x.dh, x.pr, x.ps], h'.get 0 rfl⟩) (by simpa only [List.all_cons, List.all_nil, Bool.and_true, Bool.and_assoc] using i4) (by simp)) (zp 24 (.bool true) (zp 25 (.bool true) (zx 26 (.agg (buC x)) rfl (fun w' h' => run_load_blk ky (h'.get 1 rfl) Try.underlying27 rfl ky) (zx 27 (.agg (buC x)) rfl (fun w' h' => run_load_blk ky (h'.get 1 rfl) Try.underlying27 rfl ky) (zc 28 (.agg (buC (bare x))) rfl enter113 _ (fun w' h' => bare_any x) (zq 29 (.bool false) rfl (fun _ => (run_eqB (a := x) (b := (bare x)) ky ky false i5)) (zp 30 (.bool false) (zp 31 (.pointer (some ⟨q1, 7, none⟩)) (zx 32 (.int .i64 x.oi) rfl (fun w' h' => run_load1 (fun w => Try.isAgg3 w) ky (((h'.get 1 rfl).cell 7).trans rfl)) (zc 33 (.bool false) rfl enter111 #[.int .i64 x.oi, iN .i64 1, iN .i64 1073741824] (fun w' h' => within_any _ _ _ i6) (zp 34 (.bool false) (zs 35 (zs 36 (zs 37 (zs 38 (zp 39 (.bool false) (zp 40 (.bool false) (zp 41 (.bool false) (zp 42 (.bool false) ?_)))))))))))))))))))
   refine wx_end fun w8 hbx _ => ?_
   have h9 := HA.keep _ _ h6 hbx
   exact ⟨q7, by kernel_rfl, h9⟩}
  {rintro _ w10 ⟨q7, rfl, h11⟩
   refine then_at rfl ?_
   refine wp_ret ?_
   repeat first|refine tr ?_|refine block_ret ?_
   exact bodyPost_ret (v := .bool false) ky rfl ⟨rfl, h11.old.old⟩}
set_option maxHeartbeats 2000000 in
theorem mb_6 {w : World} {x : Bu} (i1 : wi x.u 0 2 = true) (i2 : wi x.d 0 1 = true) (i3 : wi x.pi 1 1073741824 = true) (i4 : (wo x.sg && wo x.dh && wo x.pr && wo x.ps) = true) (i5 : decide (x = bare x) = false) (i6 : wi x.oi 1 1073741824 = true) (i7 : wo x.on = false) :
    Calls Try.prog 107 #[.agg (buC x)] w fun e w' => e = .returned (.bool false) ∧ Below w.heap.size w w' := by
  have H0 := HA.start w
  go_enter Try.func107, Try.ntmps107
  refine wp_seq (wl_region (wl_make (c := buC x) H0 27 ky ky ?_))
  intro q1 w2 (h3 : HA (bs w) [(q1, 27, buC x)] w2)
  refine zv (.bool false) (wl_nil (then_at rfl (wp_seq ?_)))
  refine wp_region_wxh h3 (fun AQ w' => ∃ (q7 : Nat) (q10 : Nat), AQ = ⟨(.agg (buC x) :: pt q1 :: .bool false :: pt q1 :: .int .i64 x.u :: .bool true :: .bool true :: .pointer (some ⟨q1, 1, none⟩) :: .int .i64 x.d :: .bool true :: .bool true :: .bool true :: .pointer (some ⟨q1, 4, none⟩) :: .int .i64 x.pi :: .bool true :: .bool true :: .bool true :: .pointer (some ⟨q1, 2, none⟩) :: .string x.sg :: .pointer (some ⟨q1, 3, none⟩) :: .string x.dh :: .pointer (some ⟨q1, 5, none⟩) :: .string x.pr :: .pointer (some ⟨q1, 6, none⟩) :: .string x.ps :: .slice (some ⟨q7, 0, none⟩) 4 4 :: .bool true :: .bool true :: .bool true :: .agg (buC x) :: .agg (buC x) :: .agg (buC (bare x)) :: .bool false :: .bool false :: .pointer (some ⟨q1, 7, none⟩) :: .int .i64 x.oi :: .bool true :: .bool true :: .pointer (some ⟨q1, 8, none⟩) :: .string x.on :: .slice (some ⟨q10, 0, none⟩) 1 1 :: .bool false :: .bool false :: .bool false :: .bool false :: List.replicate 0 un).toArray, []⟩ ∧ HA (bs w) [(q10, 9, #[.string x.on]), (q7, 9, #[.string x.sg, .string x.dh, .string x.pr, .string x.ps]), (q1, 27, buC x)] w') 43 ky ky ky ky ky ?_ ?_
  {have h4 := h3.drew
   refine zp 0 (.pointer (some ⟨q1, 0, none⟩)) (zx 1 (.int .i64 x.u) rfl (fun w' h' => run_load1 (fun w => Try.isAgg3 w) ky (((h'.get 0 rfl).cell 0).trans rfl)) (zc 2 (.bool true) rfl enter111 #[.int .i64 x.u, iN .i64 0, iN .i64 2] (fun w' h' => within_any _ _ _ i1) (zp 3 (.bool true) (zp 4 (.pointer (some ⟨q1, 1, none⟩)) (zx 5 (.int .i64 x.d) rfl (fun w' h' => run_load1 (fun w => Try.isAgg3 w) ky (((h'.get 0 rfl).cell 1).trans rfl)) (zc 6 (.bool true) rfl enter111 #[.int .i64 x.d, iN .i64 0, iN .i64 1] (fun w' h' => within_any _ _ _ i2) (zp 7 (.bool true) (zp 8 (.bool true) (zp 9 (.pointer (some ⟨q1, 4, none⟩)) (zx 10 (.int .i64 x.pi) rfl (fun w' h' => run_load1 (fun w => Try.isAgg3 w) ky (((h'.get 0 rfl).cell 4).trans rfl)) (zc 11 (.bool true) rfl enter111 #[.int .i64 x.pi, iN .i64 1, iN .i64 1073741824] (fun w' h' => within_any _ _ _ i3) (zp 12 (.bool true) (zp 13 (.bool true) (zp 14 (.pointer (some ⟨q1, 2, none⟩)) (zx 15 (.string x.sg) rfl (fun w' h' => run_load1 (fun w => Try.isAgg9 w) ky (((h'.get 0 rfl).cell 2).trans rfl)) (zp 16 (.pointer (some ⟨q1, 3, none⟩)) (zx 17 (.string x.dh) rfl (fun w' h' => run_load1 (fun w => Try.isAgg9 w) ky (((h'.get 0 rfl).cell 3).trans rfl)) (zp 18 (.pointer (some ⟨q1, 5, none⟩)) (zx 19 (.string x.pr) rfl (fun w' h' => run_load1 (fun w => Try.isAgg9 w) ky (((h'.get 0 rfl).cell 5).trans rfl)) (zp 20 (.pointer (some ⟨q1, 6, none⟩)) (zx 21 (.string x.ps) rfl (fun w' h' => run_load1 (fun w => Try.isAgg9 w) ky (((h'.get 0 rfl).cell 6).trans rfl)) (wx_one 22 ky ?_))))))))))))))))))))))
   refine ex_makeT (c := #[.string x.sg, .string x.dh, .string x.pr, .string x.ps]) rfl ky h4 9 (fun q => .slice (some ⟨q, 0, none⟩) 4 4) (fun _ => ky) ?_
   intro q7 w5 (h6 : HA (bs w) [(q7, 9, #[.string x.sg, .string x.dh, .string x.pr, .string x.ps]), (q1, 27, buC x)] w5)
   refine ⟨_, .inl ky, h6, ?_⟩
   refine zc 23 (.bool true) rfl enter112 #[.slice (some ⟨q7, 0, none⟩) 4 4] (fun w' h' => areWords_any [x.sg, x.dh, x.pr, x.ps] _ _ (.inr ⟨q7, _, rfl, PreS.strc [x.sg, x.dh, x.pr, x.ps], h'.get 0 rfl⟩) (by simpa only [List.all_cons, List.all_nil, Bool.and_true, Bool.and_assoc] using i4) (by simp)) (zp 24 (.bool true) (zp 25 (.bool true) (zx 26 (.agg (buC x)) rfl (fun w' h' => run_load_blk ky (h'.get 1 rfl) Try.underlying27 rfl ky) (zx 27 (.agg (buC x)) rfl (fun w' h' => run_load_blk ky (h'.get 1 rfl) Try.underlying27 rfl ky) (zc 28 (.agg (buC (bare x))) rfl enter113 _ (fun w' h' => bare_any x) (zq 29 (.bool false) rfl (fun _ => (run_eqB (a := x) (b := (bare x)) ky ky false i5)) (zp 30 (.bool false) (zp 31 (.pointer (some ⟨q1, 7, none⟩)) (zx 32 (.int .i64 x.oi) rfl (fun w' h' => run_load1 (fun w => Try.isAgg3 w) ky (((h'.get 1 rfl).cell 7).trans rfl)) (zc 33 (.bool true) rfl enter111 #[.int .i64 x.oi, iN .i64 1, iN .i64 1073741824] (fun w' h' => within_any _ _ _ i6) (zp 34 (.bool true) (zp 35 (.pointer (some ⟨q1, 8, none⟩)) (zx 36 (.string x.on) rfl (fun w' h' => run_load1 (fun w => Try.isAgg9 w) ky (((h'.get 1 rfl).cell 8).trans rfl)) (wx_one 37 ky ?_))))))))))))))
   refine ex_makeT (c := #[.string x.on]) rfl ky h6 9 (fun q => .slice (some ⟨q, 0, none⟩) 1 1) (fun _ => ky) ?_
   intro q10 w8 (h9 : HA (bs w) [(q10, 9, #[.string x.on]), (q7, 9, #[.string x.sg, .string x.dh, .string x.pr, .string x.ps]), (q1, 27, buC x)] w8)
   refine ⟨_, .inl ky, h9, ?_⟩
   refine zc 38 (.bool false) rfl enter112 #[.slice (some ⟨q10, 0, none⟩) 1 1] (fun w' h' => areWords_any [x.on] _ _ (.inr ⟨q10, _, rfl, PreS.strc [x.on], h'.get 0 rfl⟩) (by simpa only [List.all_cons, List.all_nil, Bool.and_true] using i7) (by simp)) (zp 39 (.bool false) (zp 40 (.bool false) (zp 41 (.bool false) (zp 42 (.bool false) ?_))))
   refine wx_end fun w11 hbx _ => ?_
   have h12 := HA.keep _ _ h9 hbx
   exact ⟨q7, q10, by kernel_rfl, h12⟩}
  {rintro _ w13 ⟨q7, q10, rfl, h14⟩
   refine then_at rfl ?_
   refine wp_ret ?_
   repeat first|refine tr ?_|refine block_ret ?_
   exact bodyPost_ret (v := .bool false) ky rfl ⟨rfl, h14.old.old⟩}
set_option maxHeartbeats 2000000 in
theorem mb_7 {w : World} {x : Bu} (i1 : wi x.u 0 2 = true) (i2 : wi x.d 0 1 = true) (i3 : wi x.pi 1 1073741824 = true) (i4 : (wo x.sg && wo x.dh && wo x.pr && wo x.ps) = true) (i5 : decide (x = bare x) = false) (i6 : wi x.oi 1 1073741824 = true) (i7 : wo x.on = true) :
    Calls Try.prog 107 #[.agg (buC x)] w fun e w' => e = .returned (.bool true) ∧ Below w.heap.size w w' := by
  have H0 := HA.start w
  go_enter Try.func107, Try.ntmps107
  refine wp_seq (wl_region (wl_make (c := buC x) H0 27 ky ky ?_))
  intro q1 w2 (h3 : HA (bs w) [(q1, 27, buC x)] w2)
  refine zv (.bool false) (wl_nil (then_at rfl (wp_seq ?_)))
  refine wp_region_wxh h3 (fun AQ w' => ∃ (q7 : Nat) (q10 : Nat), AQ = ⟨(.agg (buC x) :: pt q1 :: .bool true :: pt q1 :: .int .i64 x.u :: .bool true :: .bool true :: .pointer (some ⟨q1, 1, none⟩) :: .int .i64 x.d :: .bool true :: .bool true :: .bool true :: .pointer (some ⟨q1, 4, none⟩) :: .int .i64 x.pi :: .bool true :: .bool true :: .bool true :: .pointer (some ⟨q1, 2, none⟩) :: .string x.sg :: .pointer (some ⟨q1, 3, none⟩) :: .string x.dh :: .pointer (some ⟨q1, 5, none⟩) :: .string x.pr :: .pointer (some ⟨q1, 6, none⟩) :: .string x.ps :: .slice (some ⟨q7, 0, none⟩) 4 4 :: .bool true :: .bool true :: .bool true :: .agg (buC x) :: .agg (buC x) :: .agg (buC (bare x)) :: .bool false :: .bool false :: .pointer (some ⟨q1, 7, none⟩) :: .int .i64 x.oi :: .bool true :: .bool true :: .pointer (some ⟨q1, 8, none⟩) :: .string x.on :: .slice (some ⟨q10, 0, none⟩) 1 1 :: .bool true :: .bool true :: .bool true :: .bool true :: List.replicate 0 un).toArray, []⟩ ∧ HA (bs w) [(q10, 9, #[.string x.on]), (q7, 9, #[.string x.sg, .string x.dh, .string x.pr, .string x.ps]), (q1, 27, buC x)] w') 43 ky ky ky ky ky ?_ ?_
  {have h4 := h3.drew
   refine zp 0 (.pointer (some ⟨q1, 0, none⟩)) (zx 1 (.int .i64 x.u) rfl (fun w' h' => run_load1 (fun w => Try.isAgg3 w) ky (((h'.get 0 rfl).cell 0).trans rfl)) (zc 2 (.bool true) rfl enter111 #[.int .i64 x.u, iN .i64 0, iN .i64 2] (fun w' h' => within_any _ _ _ i1) (zp 3 (.bool true) (zp 4 (.pointer (some ⟨q1, 1, none⟩)) (zx 5 (.int .i64 x.d) rfl (fun w' h' => run_load1 (fun w => Try.isAgg3 w) ky (((h'.get 0 rfl).cell 1).trans rfl)) (zc 6 (.bool true) rfl enter111 #[.int .i64 x.d, iN .i64 0, iN .i64 1] (fun w' h' => within_any _ _ _ i2) (zp 7 (.bool true) (zp 8 (.bool true) (zp 9 (.pointer (some ⟨q1, 4, none⟩)) (zx 10 (.int .i64 x.pi) rfl (fun w' h' => run_load1 (fun w => Try.isAgg3 w) ky (((h'.get 0 rfl).cell 4).trans rfl)) (zc 11 (.bool true) rfl enter111 #[.int .i64 x.pi, iN .i64 1, iN .i64 1073741824] (fun w' h' => within_any _ _ _ i3) (zp 12 (.bool true) (zp 13 (.bool true) (zp 14 (.pointer (some ⟨q1, 2, none⟩)) (zx 15 (.string x.sg) rfl (fun w' h' => run_load1 (fun w => Try.isAgg9 w) ky (((h'.get 0 rfl).cell 2).trans rfl)) (zp 16 (.pointer (some ⟨q1, 3, none⟩)) (zx 17 (.string x.dh) rfl (fun w' h' => run_load1 (fun w => Try.isAgg9 w) ky (((h'.get 0 rfl).cell 3).trans rfl)) (zp 18 (.pointer (some ⟨q1, 5, none⟩)) (zx 19 (.string x.pr) rfl (fun w' h' => run_load1 (fun w => Try.isAgg9 w) ky (((h'.get 0 rfl).cell 5).trans rfl)) (zp 20 (.pointer (some ⟨q1, 6, none⟩)) (zx 21 (.string x.ps) rfl (fun w' h' => run_load1 (fun w => Try.isAgg9 w) ky (((h'.get 0 rfl).cell 6).trans rfl)) (wx_one 22 ky ?_))))))))))))))))))))))
   refine ex_makeT (c := #[.string x.sg, .string x.dh, .string x.pr, .string x.ps]) rfl ky h4 9 (fun q => .slice (some ⟨q, 0, none⟩) 4 4) (fun _ => ky) ?_
   intro q7 w5 (h6 : HA (bs w) [(q7, 9, #[.string x.sg, .string x.dh, .string x.pr, .string x.ps]), (q1, 27, buC x)] w5)
   refine ⟨_, .inl ky, h6, ?_⟩
   refine zc 23 (.bool true) rfl enter112 #[.slice (some ⟨q7, 0, none⟩) 4 4] (fun w' h' => areWords_any [x.sg, x.dh, x.pr, x.ps] _ _ (.inr ⟨q7, _, rfl, PreS.strc [x.sg, x.dh, x.pr, x.ps], h'.get 0 rfl⟩) (by simpa only [List.all_cons, List.all_nil, Bool.and_true, Bool.and_assoc] using i4) (by simp)) (zp 24 (.bool true) (zp 25 (.bool true) (zx 26 (.agg (buC x)) rfl (fun w' h' => run_load_blk ky (h'.get 1 rfl) Try.underlying27 rfl ky) (zx 27 (.agg (buC x)) rfl (fun w' h' => run_load_blk ky (h'.get 1 rfl) Try.underlying27 rfl ky) (zc 28 (.agg (buC (bare x))) rfl enter113 _ (fun w' h' => bare_any x) (zq 29 (.bool false) rfl (fun _ => (run_eqB (a := x) (b := (bare x)) ky ky false i5)) (zp 30 (.bool false) (zp 31 (.pointer (some ⟨q1, 7, none⟩)) (zx 32 (.int .i64 x.oi) rfl (fun w' h' => run_load1 (fun w => Try.isAgg3 w) ky (((h'.get 1 rfl).cell 7).trans rfl)) (zc 33 (.bool true) rfl enter111 #[.int .i64 x.oi, iN .i64 1, iN .i64 1073741824] (fun w' h' => within_any _ _ _ i6) (zp 34 (.bool true) (zp 35 (.pointer (some ⟨q1, 8, none⟩)) (zx 36 (.string x.on) rfl (fun w' h' => run_load1 (fun w => Try.isAgg9 w) ky (((h'.get 1 rfl).cell 8).trans rfl)) (wx_one 37 ky ?_))))))))))))))
   refine ex_makeT (c := #[.string x.on]) rfl ky h6 9 (fun q => .slice (some ⟨q, 0, none⟩) 1 1) (fun _ => ky) ?_
   intro q10 w8 (h9 : HA (bs w) [(q10, 9, #[.string x.on]), (q7, 9, #[.string x.sg, .string x.dh, .string x.pr, .string x.ps]), (q1, 27, buC x)] w8)
   refine ⟨_, .inl ky, h9, ?_⟩
   refine zc 38 (.bool true) rfl enter112 #[.slice (some ⟨q10, 0, none⟩) 1 1] (fun w' h' => areWords_any [x.on] _ _ (.inr ⟨q10, _, rfl, PreS.strc [x.on], h'.get 0 rfl⟩) (by simpa only [List.all_cons, List.all_nil, Bool.and_true] using i7) (by simp)) (zp 39 (.bool true) (zp 40 (.bool true) (zp 41 (.bool true) (zp 42 (.bool true) ?_))))
   refine wx_end fun w11 hbx _ => ?_
   have h12 := HA.keep _ _ h9 hbx
   exact ⟨q7, q10, by kernel_rfl, h12⟩}
  {rintro _ w13 ⟨q7, q10, rfl, h14⟩
   refine then_at rfl ?_
   refine wp_ret ?_
   repeat first|refine tr ?_|refine block_ret ?_
   exact bodyPost_ret (v := .bool true) ky rfl ⟨rfl, h14.old.old⟩}
theorem mayX_any {w : World} (x : Bu) {b : Bool} (hb : mayX x = b) :
    Calls Try.prog 107 #[.agg (buC x)] w fun e w' => e = .returned (.bool b) ∧ Below w.heap.size w w' := by
  subst hb
  unfold mayX
  rcases h1 : wi x.u 0 2 with _ | _
  · exact mb_0 h1
  rcases h2 : wi x.d 0 1 with _ | _
  · exact mb_1 h1 h2
  rcases h3 : wi x.pi 1 1073741824 with _ | _
  · exact mb_2 h1 h2 h3
  rcases h4 : (wo x.sg && wo x.dh && wo x.pr && wo x.ps) with _ | _
  · exact mb_3 h1 h2 h3 h4
  rcases h5 : decide (x = bare x) with _ | _
  · rcases h6 : wi x.oi 1 1073741824 with _ | _
    · exact mb_5 h1 h2 h3 h4 h5 h6
    rcases h7 : wo x.on with _ | _
    · exact mb_6 h1 h2 h3 h4 h5 h6 h7
    · exact mb_7 h1 h2 h3 h4 h5 h6 h7
  · exact mb_4 h1 h2 h3 h4 h5
end Go.Proofs.Ytiogegoepgkjlaa
