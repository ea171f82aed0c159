/-
  The reference's key, Device, item, chunk, number, text, MayList, SameList.
-/
import Derived.Test.YtiogegoepgkjlaaC7
import Derived.Test.YtiogegoepgkjlaaX7
set_option maxRecDepth 100000
set_option linter.unusedVariables false
set_option linter.unusedSimpArgs false
namespace Go.Proofs.Ytiogegoepgkjlaa
open Go.RowKit

theorem wi_dec (v lo hi : Int) : wi v lo hi = decide (lo ≤ v ∧ v ≤ hi) := by unfold wi; rw [← Bool.decide_and]
theorem wn_dec (v lo hi : Nat) : wn v lo hi = decide (lo ≤ v ∧ v ≤ hi) := by unfold wn; rw [← Bool.decide_and]
theorem isD_dec (v : Int) : isD v = decide (2 ≤ v ∧ v ≤ 7) := wi_dec v 2 7
theorem kk_dec (s : ByteArray) : kk s = decide ((1 : Int) ≤ (s.size : Nat) ∧ ((s.size : Nat) : Int) ≤ 1000) := wi_dec _ _ _
/-- is it an item? -/
def itm (s : ByteArray) : Bool := wi ((s.size : Nat) : Int) 1 4096
theorem itm_dec (s : ByteArray) : itm s = decide ((1 : Int) ≤ (s.size : Nat) ∧ ((s.size : Nat) : Int) ≤ 4096) := wi_dec _ _ _
theorem app_nb (s : ByteArray) (k : Int) (v : Nat) (n : Nat) (hk : k = (n : Int)) : (⟨(s.data.toList ++ Wi.be v (Wi.wd k)).toArray⟩ : ByteArray) = s ++ nbT n v := by
  subst hk
  apply ByteArray.ext
  unfold nbT
  simp
theorem app_tx (s x : ByteArray) : (⟨(s.data.toList ++ Wi.pt x.data.toList).toArray⟩ : ByteArray) = s ++ layT [x] 1 := by
  apply ByteArray.ext
  simp [layT, ByteArray.empty, ByteArray.emptyWithCapacity]
set_option maxHeartbeats 2000000 in
theorem rkey_any {w : World} (s : ByteArray) :
    Calls Try.prog 44 #[.string s] w fun e w' => e = .returned (.bool (kk s)) ∧ Below w.heap.size w w' := by
  have H0 := HA.start w
  go_enter Try.func44, Try.ntmps44
  refine wp_seq (wl_region (zv (.bool false) (wl_nil (then_at rfl (wp_seq (wl_region (zv (.string s) (zu (iN .i64 s.size) (run_len (s := s) ky) ?_))))))))
  rcases q1 : decide (1 ≤ s.size) with _ | _
  {refine zu (.bool false) (run_geq (k := .i64) (a := s.size) (b := 1) ky ky false q1) (zv (.bool false) (zk (zk (zk (zv (.bool false) (zv (.bool false) (wl_nil (then_at rfl (wp_ret ?_)))))))))
   repeat first|refine tr ?_|refine block_ret ?_
   have p2 := of_decide_eq_false q1
   exact bodyPost_ret (v := .bool false) ky rfl ⟨by rw [show kk s = false from by rw [kk_dec]; exact decide_eq_false (by omega)], H0.old.old⟩}
  refine zu (.bool true) (run_geq (k := .i64) (a := s.size) (b := 1) ky ky true q1) (zv (.bool true) (zv (.string s) (zu (iN .i64 s.size) (run_len (s := s) ky) ?_)))
  rcases q3 : decide (s.size ≤ 1000) with _ | _
  {refine zu (.bool false) (run_leq (k := .i64) (a := s.size) (b := 1000) ky ky false q3) (zv (.bool false) (zv (.bool false) (wl_nil (then_at rfl (wp_ret ?_)))))
   repeat first|refine tr ?_|refine block_ret ?_
   have p4 := of_decide_eq_true q1
   have p5 := of_decide_eq_false q3
   exact bodyPost_ret (v := .bool false) ky rfl ⟨by rw [show kk s = false from by rw [kk_dec]; exact decide_eq_false (by omega)], H0.old.old⟩}
  refine zu (.bool true) (run_leq (k := .i64) (a := s.size) (b := 1000) ky ky true q3) (zv (.bool true) (zv (.bool true) (wl_nil (then_at rfl (wp_ret ?_)))))
  repeat first|refine tr ?_|refine block_ret ?_
  have p6 := of_decide_eq_true q1
  have p7 := of_decide_eq_true q3
  exact bodyPost_ret (v := .bool true) ky rfl ⟨by rw [show kk s = true from by rw [kk_dec]; exact decide_eq_true (by omega)], H0.old.old⟩
set_option maxHeartbeats 2000000 in
theorem rdev_any {w : World} (v : Int) :
    Calls Try.prog 77 #[.int .i64 v] w fun e w' => e = .returned (.bool (isD v)) ∧ Below w.heap.size w w' := by
  have H0 := HA.start w
  go_enter Try.func77, Try.ntmps77
  refine wp_seq (wl_region (zv (.bool false) (wl_nil (then_at rfl (wp_seq (wl_region (zv (.int .i64 v) ?_)))))))
  rcases q1 : decide (2 ≤ v) with _ | _
  {refine zu (.bool false) (run_geZ (k := .i64) (a := v) (b := 2) ky ky false q1) (zv (.bool false) (zk (zk (zv (.bool false) (zv (.bool false) (wl_nil (then_at rfl (wp_ret ?_))))))))
   repeat first|refine tr ?_|refine block_ret ?_
   have p2 := of_decide_eq_false q1
   exact bodyPost_ret (v := .bool false) ky rfl ⟨by rw [show isD v = false from by rw [isD_dec]; exact decide_eq_false (by omega)], H0.old.old⟩}
  refine zu (.bool true) (run_geZ (k := .i64) (a := v) (b := 2) ky ky true q1) (zv (.bool true) (zv (.int .i64 v) ?_))
  rcases q3 : decide (v < 8) with _ | _
  {refine zu (.bool false) (run_ltZ (k := .i64) (a := v) (b := 8) ky ky false q3) (zv (.bool false) (zv (.bool false) (wl_nil (then_at rfl (wp_ret ?_)))))
   repeat first|refine tr ?_|refine block_ret ?_
   have p4 := of_decide_eq_true q1
   have p5 := of_decide_eq_false q3
   exact bodyPost_ret (v := .bool false) ky rfl ⟨by rw [show isD v = false from by rw [isD_dec]; exact decide_eq_false (by omega)], H0.old.old⟩}
  refine zu (.bool true) (run_ltZ (k := .i64) (a := v) (b := 8) ky ky true q3) (zv (.bool true) (zv (.bool true) (wl_nil (then_at rfl (wp_ret ?_)))))
  repeat first|refine tr ?_|refine block_ret ?_
  have p6 := of_decide_eq_true q1
  have p7 := of_decide_eq_true q3
  exact bodyPost_ret (v := .bool true) ky rfl ⟨by rw [show isD v = true from by rw [isD_dec]; exact decide_eq_true (by omega)], H0.old.old⟩
set_option maxHeartbeats 2000000 in
theorem ritm_any {w : World} (s : ByteArray) :
    Calls Try.prog 78 #[.string s] w fun e w' => e = .returned (.bool (itm s)) ∧ Below w.heap.size w w' := by
  have H0 := HA.start w
  go_enter Try.func78, Try.ntmps78
  refine wp_seq (wl_region (zv (.bool false) (wl_nil (then_at rfl (wp_seq (wl_region (zv (.string s) (zu (iN .i64 s.size) (run_len (s := s) ky) ?_))))))))
  rcases q1 : decide (1 ≤ s.size) with _ | _
  {refine zu (.bool false) (run_geq (k := .i64) (a := s.size) (b := 1) ky ky false q1) (zv (.bool false) (zk (zk (zk (zv (.bool false) (zv (.bool false) (wl_nil (then_at rfl (wp_ret ?_)))))))))
   repeat first|refine tr ?_|refine block_ret ?_
   have p2 := of_decide_eq_false q1
   exact bodyPost_ret (v := .bool false) ky rfl ⟨by rw [show itm s = false from by rw [itm_dec]; exact decide_eq_false (by omega)], H0.old.old⟩}
  refine zu (.bool true) (run_geq (k := .i64) (a := s.size) (b := 1) ky ky true q1) (zv (.bool true) (zv (.string s) (zu (iN .i64 s.size) (run_len (s := s) ky) ?_)))
  rcases q3 : decide (s.size ≤ 4096) with _ | _
  {refine zu (.bool false) (run_leq (k := .i64) (a := s.size) (b := 4096) ky ky false q3) (zv (.bool false) (zv (.bool false) (wl_nil (then_at rfl (wp_ret ?_)))))
   repeat first|refine tr ?_|refine block_ret ?_
   have p4 := of_decide_eq_true q1
   have p5 := of_decide_eq_false q3
   exact bodyPost_ret (v := .bool false) ky rfl ⟨by rw [show itm s = false from by rw [itm_dec]; exact decide_eq_false (by omega)], H0.old.old⟩}
  refine zu (.bool true) (run_leq (k := .i64) (a := s.size) (b := 4096) ky ky true q3) (zv (.bool true) (zv (.bool true) (wl_nil (then_at rfl (wp_ret ?_)))))
  repeat first|refine tr ?_|refine block_ret ?_
  have p6 := of_decide_eq_true q1
  have p7 := of_decide_eq_true q3
  exact bodyPost_ret (v := .bool true) ky rfl ⟨by rw [show itm s = true from by rw [itm_dec]; exact decide_eq_true (by omega)], H0.old.old⟩
set_option maxHeartbeats 2000000 in
theorem rnum_any {w : World} (s : ByteArray) (k v : Nat) (hz : s.size ≤ 1000000000) :
    Calls Try.prog 37 #[.string s, iN .i64 k, iN .u64 v] w fun e w' => e = .returned (.string (s ++ nbT k v)) ∧ Below w.heap.size w w' := by
  have H0 := HA.start w
  go_enter Try.func37, Try.ntmps37
  refine wp_seq (wl_region (zv (.string ({ data := #[] })) (wl_nil (then_at rfl (wp_seq (wl_region (zv (.string s) (zv (iN .i64 k) (zv (iN .u64 v) (zl (.string (s ++ nbT k v)) H0 enter80 #[.string s, iN .i64 k, iN .u64 v] (((Wi.RPutNumber_any w s k v hz).mono fun _ _ hh => ⟨by rw [hh.1, app_nb s _ v k rfl], hh.2⟩)) (fun w1 h2 => (zv (.string (s ++ nbT k v)) (wl_nil (then_at rfl (wp_ret ?_)))))))))))))))
  repeat first|refine tr ?_|refine block_ret ?_
  exact bodyPost_ret (v := .string (s ++ nbT k v)) ky rfl ⟨rfl, h2.old.old⟩
set_option maxHeartbeats 2000000 in
theorem rtxt_any {w : World} (s x : ByteArray) (hz : s.size ≤ 1000000000) (hx : x.size ≤ 1000000000) :
    Calls Try.prog 38 #[.string s, .string x] w fun e w' => e = .returned (.string (s ++ layT [x] 1)) ∧ Below w.heap.size w w' := by
  have H0 := HA.start w
  go_enter Try.func38, Try.ntmps38
  refine wp_seq (wl_region (zv (.string ({ data := #[] })) (wl_nil (then_at rfl (wp_seq (wl_region (zv (.string s) (zv (.string x) (zl (.string (s ++ layT [x] 1)) H0 enter81 _ (((Wi.RPutText_any w s x hz hx).mono fun _ _ hh => ⟨by rw [hh.1, app_tx], hh.2⟩)) (fun w1 h2 => (zv (.string (s ++ layT [x] 1)) (wl_nil (then_at rfl (wp_ret ?_))))))))))))))
  repeat first|refine tr ?_|refine block_ret ?_
  exact bodyPost_ret (v := .string (s ++ layT [x] 1)) ky rfl ⟨rfl, h2.old.old⟩
set_option maxHeartbeats 4000000 in
theorem rsml_any {w : World} (a b : Li) {o o2 : Option Addr} {c c2 : Nat} (hP : At w o (mcl a.ds)) (hP2 : At w o2 (mcl b.ds)) (hl : a.ds.length ≤ 1000000) :
    Calls Try.prog 17 #[.agg (liC a (.slice o a.ds.length c)), .agg (liC b (.slice o2 b.ds.length c2))] w fun e w' => e = .returned (.bool (sameL a b)) ∧ Below w.heap.size w w' := by
  have H0 := HA.start w
  go_enter Try.func17, Try.ntmps17
  refine wp_seq (wl_region (wl_make (c := liC a (.slice o a.ds.length c)) H0 25 ky ky ?_))
  intro q1 w2 (h3 : HA (bs w) [(q1, 25, liC a (.slice o a.ds.length c))] w2)
  refine wl_make (c := liC b (.slice o2 b.ds.length c2)) h3 25 ky ky ?_
  intro q4 w5 (h6 : HA (bs w) [(q4, 25, liC b (.slice o2 b.ds.length c2)), (q1, 25, liC a (.slice o a.ds.length c))] w5)
  refine zv (.bool false) (wl_nil (then_at rfl (wp_seq (wp_seq (wl_region (zv (.pointer (some ⟨q1, 0, none⟩)) (zu (.int .i64 a.u) (run_load1 (fun w => Try.isAgg3 w) ky (((h6.get 1 rfl).cell 0).trans rfl)) (zv (.pointer (some ⟨q4, 0, none⟩)) (zu (.int .i64 b.u) (run_load1 (fun w => Try.isAgg3 w) ky (((h6.get 0 rfl).cell 0).trans rfl)) ?_)))))))))
  rcases q7 : decide (a.u = b.u) with _ | _
  {refine zu (.bool true) (run_neZ (k := .i64) (a := a.u) (b := b.u) ky ky false q7) (zv (.bool true) (zk (zk (zk (zk (zk (zv (.bool true) (zv (.bool true) (zk (zk (zk (zk (zk (zv (.bool true) (zv (.bool true) (zk (zk (zk (zk (zk (zv (.bool true) (zv (.bool true) (zk ?_)))))))))))))))))))))))
   refine zk (zk (zk (zk (zk (zk (zv (.bool true) (wl_nil (then_at rfl (wp_cond_true ky (wp_seq (wl_region (zv (.bool false) (wl_nil (then_at rfl (wp_ret ?_)))))))))))))))
   repeat first|refine tr ?_|refine block_ret ?_
   exact bodyPost_ret (v := .bool false) ky rfl ⟨by rw [show sameL a b = false from by unfold sameL; simp only [q7, Bool.and_false, Bool.false_and, Bool.and_true, Bool.and_self]], h6.old.old⟩}
  refine zu (.bool false) (run_neZ (k := .i64) (a := a.u) (b := b.u) ky ky true q7) (zv (.bool false) (zv (.pointer (some ⟨q1, 1, none⟩)) (zu (.int .i64 a.v) (run_load1 (fun w => Try.isAgg3 w) ky (((h6.get 1 rfl).cell 1).trans rfl)) (zv (.pointer (some ⟨q4, 1, none⟩)) (zu (.int .i64 b.v) (run_load1 (fun w => Try.isAgg3 w) ky (((h6.get 0 rfl).cell 1).trans rfl)) ?_)))))
  rcases q8 : decide (a.v = b.v) with _ | _
  {refine zu (.bool true) (run_neZ (k := .i64) (a := a.v) (b := b.v) ky ky false q8) (zv (.bool true) (zv (.bool true) (zk (zk (zk (zk (zk (zv (.bool true) (zv (.bool true) (zk (zk (zk (zk (zk (zv (.bool true) (zv (.bool true) (zk (zk (zk (zk (zk (zk (zk ?_)))))))))))))))))))))))
   refine zv (.bool true) (wl_nil (then_at rfl (wp_cond_true ky (wp_seq (wl_region (zv (.bool false) (wl_nil (then_at rfl (wp_ret ?_)))))))))
   repeat first|refine tr ?_|refine block_ret ?_
   exact bodyPost_ret (v := .bool false) ky rfl ⟨by rw [show sameL a b = false from by unfold sameL; simp only [q7, q8, Bool.and_false, Bool.false_and, Bool.and_true, Bool.and_self]], h6.old.old⟩}
  refine zu (.bool false) (run_neZ (k := .i64) (a := a.v) (b := b.v) ky ky true q8) (zv (.bool false) (zv (.bool false) (zv (.pointer (some ⟨q1, 2, none⟩)) (zu (.string a.ac) (run_load1 (fun w => Try.isAgg9 w) ky (((h6.get 1 rfl).cell 2).trans rfl)) (zv (.pointer (some ⟨q4, 2, none⟩)) (zu (.string b.ac) (run_load1 (fun w => Try.isAgg9 w) ky (((h6.get 0 rfl).cell 2).trans rfl)) ?_))))))
  rcases q9 : decide (a.ac = b.ac) with _ | _
  {refine zu (.bool true) (run_nes (s := a.ac) (t := b.ac) ky ky true ((q9).trans rfl)) (zv (.bool true) (zv (.bool true) (zk (zk (zk (zk (zk (zv (.bool true) (zv (.bool true) (zk (zk (zk (zk (zk (zk (zk (zv (.bool true) (wl_nil (then_at rfl (wp_cond_true ky (wp_seq (wl_region (zv (.bool false) (wl_nil (then_at rfl (wp_ret ?_))))))))))))))))))))))))))
   repeat first|refine tr ?_|refine block_ret ?_
   exact bodyPost_ret (v := .bool false) ky rfl ⟨by rw [show sameL a b = false from by unfold sameL; simp only [q7, q8, q9, Bool.and_false, Bool.false_and, Bool.and_true, Bool.and_self]], h6.old.old⟩}
  refine zu (.bool false) (run_nes (s := a.ac) (t := b.ac) ky ky false ((q9).trans rfl)) (zv (.bool false) (zv (.bool false) (zv (.pointer (some ⟨q1, 4, none⟩)) (zu (.string a.sg) (run_load1 (fun w => Try.isAgg9 w) ky (((h6.get 1 rfl).cell 4).trans rfl)) (zv (.pointer (some ⟨q4, 4, none⟩)) (zu (.string b.sg) (run_load1 (fun w => Try.isAgg9 w) ky (((h6.get 0 rfl).cell 4).trans rfl)) ?_))))))
  rcases q10 : decide (a.sg = b.sg) with _ | _
  {refine zu (.bool true) (run_nes (s := a.sg) (t := b.sg) ky ky true ((q10).trans rfl)) (zv (.bool true) (zv (.bool true) (zk (zk (zk (zk (zk (zk (zk (zv (.bool true) (wl_nil (then_at rfl (wp_cond_true ky (wp_seq (wl_region (zv (.bool false) (wl_nil (then_at rfl (wp_ret ?_)))))))))))))))))))
   repeat first|refine tr ?_|refine block_ret ?_
   exact bodyPost_ret (v := .bool false) ky rfl ⟨by rw [show sameL a b = false from by unfold sameL; simp only [q7, q8, q9, q10, Bool.and_false, Bool.false_and, Bool.and_true, Bool.and_self]], h6.old.old⟩}
  refine zu (.bool false) (run_nes (s := a.sg) (t := b.sg) ky ky false ((q10).trans rfl)) (zv (.bool false) (zv (.bool false) (zv (.pointer (some ⟨q1, 3, none⟩)) (zu (.slice o a.ds.length c) (run_load1 (fun w => Try.isAgg23 w) ky (((h6.get 1 rfl).cell 3).trans rfl)) (zv (iN .i64 a.ds.length) (zv (.pointer (some ⟨q4, 3, none⟩)) (zu (.slice o2 b.ds.length c2) (run_load1 (fun w => Try.isAgg23 w) ky (((h6.get 0 rfl).cell 3).trans rfl)) (zv (iN .i64 b.ds.length) ?_))))))))
  rcases q11 : decide (a.ds.length = b.ds.length) with _ | _
  {refine zu (.bool true) (run_neN (k := .i64) (a := a.ds.length) (b := b.ds.length) ky ky false q11) (zv (.bool true) (wl_nil (then_at rfl (wp_cond_true ky (wp_seq (wl_region (zv (.bool false) (wl_nil (then_at rfl (wp_ret ?_))))))))))
   repeat first|refine tr ?_|refine block_ret ?_
   exact bodyPost_ret (v := .bool false) ky rfl ⟨by rw [show sameL a b = false from by unfold sameL; simp only [q7, q8, q9, q10, eq_nol q11, Bool.and_false, Bool.false_and, Bool.and_true, Bool.and_self]], h6.old.old⟩}
  refine zu (.bool false) (run_neN (k := .i64) (a := a.ds.length) (b := b.ds.length) ky ky true q11) (zv (.bool false) (wl_nil (then_at rfl (wp_cond_false ky (wp_skip (then_at rfl (wp_seq (wp_seq (wl_region (zv (iN .i64 0) (wl_nil (then_at rfl (wp_block ?_)))))))))))))
  refine wp_count (fun i A w' => ∃ u12 : Nat → Value, A = ⟨(.agg (liC a (.slice o a.ds.length c)) :: .agg (liC b (.slice o2 b.ds.length c2)) :: pt q1 :: pt q4 :: u12 4 :: iN .i64 i :: pt q1 :: .int .i64 a.u :: pt q4 :: .int .i64 b.u :: .bool false :: .bool false :: .pointer (some ⟨q1, 1, none⟩) :: .int .i64 a.v :: .pointer (some ⟨q4, 1, none⟩) :: .int .i64 b.v :: .bool false :: .bool false :: .bool false :: .pointer (some ⟨q1, 2, none⟩) :: .string a.ac :: .pointer (some ⟨q4, 2, none⟩) :: .string b.ac :: .bool false :: .bool false :: .bool false :: .pointer (some ⟨q1, 4, none⟩) :: .string a.sg :: .pointer (some ⟨q4, 4, none⟩) :: .string b.sg :: .bool false :: .bool false :: .bool false :: .pointer (some ⟨q1, 3, none⟩) :: .slice o a.ds.length c :: iN .i64 a.ds.length :: .pointer (some ⟨q4, 3, none⟩) :: .slice o2 b.ds.length c2 :: iN .i64 b.ds.length :: .bool false :: .bool false :: u12 41 :: u12 42 :: u12 43 :: u12 44 :: u12 45 :: u12 46 :: u12 47 :: u12 48 :: u12 49 :: u12 50 :: u12 51 :: u12 52 :: u12 53 :: u12 54 :: u12 55 :: u12 56 :: u12 57 :: u12 58 :: List.replicate 0 un).toArray, []⟩ ∧ HA (bs w) [(q4, 25, liC b (.slice o2 b.ds.length c2)), (q1, 25, liC a (.slice o a.ds.length c))] w' ∧ (∀ j, j < i → a.ds.getD j mb0 = b.ds.getD j mb0)) a.ds.length ?_ ?_ ?_
  {exact exu ky ⟨h6, fun j h => absurd h (Nat.not_lt_zero j)⟩}
  {rintro i hk _ w13 ⟨u12, rfl, h14, hall⟩
   have hk2 : i < b.ds.length := by have := of_decide_eq_true q11; omega
   obtain ⟨ma, hma, hAa⟩ := hP.ex (by rw [mcl_len]; omega)
   obtain ⟨mb, hmb, hAb⟩ := hP2.ex (by rw [mcl_len]; omega)
   refine wp_seq (wp_seq (wl_region (zv (iN .i64 i) (zv (.pointer (some ⟨q1, 3, none⟩)) (zu (.slice o a.ds.length c) (run_load1 (fun w => Try.isAgg23 w) ky (((h14.get 1 rfl).cell 3).trans rfl)) (zv (iN .i64 a.ds.length) (zu (.bool true) (run_lss (k := .i64) (a := i) (b := a.ds.length) ky ky true (decide_eq_true (by omega))) (wl_nil (then_at rfl (wp_cond_true ky (wp_skip (then_at rfl (wp_seq (wp_block (wp_seq ?_)))))))))))))))
   rcases q15 : decide (((a.ds.getD i mb0) : Mb) = (b.ds.getD i mb0)) with _ | _
   {refine wp_region_wx (HA (bs w) [(q4, 25, liC b (.slice o2 b.ds.length c2)), (q1, 25, liC a (.slice o a.ds.length c))]) (fun AQ w' => AQ = ⟨(.agg (liC a (.slice o a.ds.length c)) :: .agg (liC b (.slice o2 b.ds.length c2)) :: pt q1 :: pt q4 :: u12 4 :: iN .i64 i :: pt q1 :: .int .i64 a.u :: pt q4 :: .int .i64 b.u :: .bool false :: .bool false :: .pointer (some ⟨q1, 1, none⟩) :: .int .i64 a.v :: .pointer (some ⟨q4, 1, none⟩) :: .int .i64 b.v :: .bool false :: .bool false :: .bool false :: .pointer (some ⟨q1, 2, none⟩) :: .string a.ac :: .pointer (some ⟨q4, 2, none⟩) :: .string b.ac :: .bool false :: .bool false :: .bool false :: .pointer (some ⟨q1, 4, none⟩) :: .string a.sg :: .pointer (some ⟨q4, 4, none⟩) :: .string b.sg :: .bool false :: .bool false :: .bool false :: .pointer (some ⟨q1, 3, none⟩) :: .slice o a.ds.length c :: iN .i64 a.ds.length :: .pointer (some ⟨q4, 3, none⟩) :: .slice o2 b.ds.length c2 :: iN .i64 b.ds.length :: .bool false :: .bool false :: iN .i64 i :: .pointer (some ⟨q1, 3, none⟩) :: .slice o a.ds.length c :: iN .i64 a.ds.length :: .bool true :: u12 46 :: u12 47 :: .pointer (some ⟨q1, 3, none⟩) :: .slice o a.ds.length c :: iN .i64 i :: .pointer (some (ma.add (i * 3))) :: .agg (mbC (a.ds.getD i mb0)) :: .pointer (some ⟨q4, 3, none⟩) :: .slice o2 b.ds.length c2 :: iN .i64 i :: .pointer (some (mb.add (i * 3))) :: .agg (mbC (b.ds.getD i mb0)) :: .bool true :: List.replicate 0 un).toArray, []⟩ ∧ HA (bs w) [(q4, 25, liC b (.slice o2 b.ds.length c2)), (q1, 25, liC a (.slice o a.ds.length c))] w') 11 ky ky ky ky ky (h14.drew) ?_ ?_
    {have h16 := h14.drew
     refine zp 0 (.pointer (some ⟨q1, 3, none⟩)) (zx 1 (.slice o a.ds.length c) rfl (fun w' h' => run_load1 (fun w => Try.isAgg23 w) ky (((h'.get 1 rfl).cell 3).trans rfl)) (zp 2 (iN .i64 i) (zq 3 (.pointer (some (ma.add (i * 3)))) rfl (fun _ => (run_addr23 (a := ma) (n := a.ds.length) (m := c) (i := i) hma ky ky hk)) (zx 4 (.agg (mbC (a.ds.getD i mb0))) rfl (fun w' h' => (run_ld23 (hAa.keep h'.old.old) hk ky)) (zp 5 (.pointer (some ⟨q4, 3, none⟩)) (zx 6 (.slice o2 b.ds.length c2) rfl (fun w' h' => run_load1 (fun w => Try.isAgg23 w) ky (((h'.get 0 rfl).cell 3).trans rfl)) (zp 7 (iN .i64 i) (zq 8 (.pointer (some (mb.add (i * 3)))) rfl (fun _ => (run_addr23 (a := mb) (n := b.ds.length) (m := c2) (i := i) hmb ky ky hk2)) (zx 9 (.agg (mbC (b.ds.getD i mb0))) rfl (fun w' h' => (run_ld23 (hAb.keep h'.old.old) hk2 ky)) (zq 10 (.bool true) rfl (fun _ => (run_neM (a := (a.ds.getD i mb0)) (b := (b.ds.getD i mb0)) ky ky false q15)) ?_))))))))))
     refine wx_end fun w17 hbx _ => ?_
     have h18 := HA.keep _ _ h16 hbx
     exact ⟨by kernel_rfl, h18⟩}
    {rintro _ w19 ⟨rfl, h20⟩
     refine then_at rfl ?_
     refine wp_cond_true ky (wp_seq (wl_region (zv (.bool false) (wl_nil (then_at rfl (wp_ret ?_))))))
     repeat first|refine tr ?_|refine block_ret ?_
     exact bodyPost_ret (v := .bool false) ky rfl ⟨by rw [show sameL a b = false from by unfold sameL; simp only [q7, q8, q9, q10, eq_noa (d := mb0) q15, Bool.and_false, Bool.false_and, Bool.and_true, Bool.and_self]], h20.old.old⟩}}
   refine wp_region_wxh h14 (fun AQ w' => AQ = ⟨(.agg (liC a (.slice o a.ds.length c)) :: .agg (liC b (.slice o2 b.ds.length c2)) :: pt q1 :: pt q4 :: u12 4 :: iN .i64 i :: pt q1 :: .int .i64 a.u :: pt q4 :: .int .i64 b.u :: .bool false :: .bool false :: .pointer (some ⟨q1, 1, none⟩) :: .int .i64 a.v :: .pointer (some ⟨q4, 1, none⟩) :: .int .i64 b.v :: .bool false :: .bool false :: .bool false :: .pointer (some ⟨q1, 2, none⟩) :: .string a.ac :: .pointer (some ⟨q4, 2, none⟩) :: .string b.ac :: .bool false :: .bool false :: .bool false :: .pointer (some ⟨q1, 4, none⟩) :: .string a.sg :: .pointer (some ⟨q4, 4, none⟩) :: .string b.sg :: .bool false :: .bool false :: .bool false :: .pointer (some ⟨q1, 3, none⟩) :: .slice o a.ds.length c :: iN .i64 a.ds.length :: .pointer (some ⟨q4, 3, none⟩) :: .slice o2 b.ds.length c2 :: iN .i64 b.ds.length :: .bool false :: .bool false :: iN .i64 i :: .pointer (some ⟨q1, 3, none⟩) :: .slice o a.ds.length c :: iN .i64 a.ds.length :: .bool true :: u12 46 :: u12 47 :: .pointer (some ⟨q1, 3, none⟩) :: .slice o a.ds.length c :: iN .i64 i :: .pointer (some (ma.add (i * 3))) :: .agg (mbC (a.ds.getD i mb0)) :: .pointer (some ⟨q4, 3, none⟩) :: .slice o2 b.ds.length c2 :: iN .i64 i :: .pointer (some (mb.add (i * 3))) :: .agg (mbC (b.ds.getD i mb0)) :: .bool false :: List.replicate 0 un).toArray, []⟩ ∧ HA (bs w) [(q4, 25, liC b (.slice o2 b.ds.length c2)), (q1, 25, liC a (.slice o a.ds.length c))] w') 11 ky ky ky ky ky ?_ ?_
   {have h21 := h14.drew
    refine zp 0 (.pointer (some ⟨q1, 3, none⟩)) (zx 1 (.slice o a.ds.length c) rfl (fun w' h' => run_load1 (fun w => Try.isAgg23 w) ky (((h'.get 1 rfl).cell 3).trans rfl)) (zp 2 (iN .i64 i) (zq 3 (.pointer (some (ma.add (i * 3)))) rfl (fun _ => (run_addr23 (a := ma) (n := a.ds.length) (m := c) (i := i) hma ky ky hk)) (zx 4 (.agg (mbC (a.ds.getD i mb0))) rfl (fun w' h' => (run_ld23 (hAa.keep h'.old.old) hk ky)) (zp 5 (.pointer (some ⟨q4, 3, none⟩)) (zx 6 (.slice o2 b.ds.length c2) rfl (fun w' h' => run_load1 (fun w => Try.isAgg23 w) ky (((h'.get 0 rfl).cell 3).trans rfl)) (zp 7 (iN .i64 i) (zq 8 (.pointer (some (mb.add (i * 3)))) rfl (fun _ => (run_addr23 (a := mb) (n := b.ds.length) (m := c2) (i := i) hmb ky ky hk2)) (zx 9 (.agg (mbC (b.ds.getD i mb0))) rfl (fun w' h' => (run_ld23 (hAb.keep h'.old.old) hk2 ky)) (zq 10 (.bool false) rfl (fun _ => (run_neM (a := (a.ds.getD i mb0)) (b := (b.ds.getD i mb0)) ky ky true q15)) ?_))))))))))
    refine wx_end fun w22 hbx _ => ?_
    have h23 := HA.keep _ _ h21 hbx
    exact ⟨by kernel_rfl, h23⟩}
   {rintro _ w24 ⟨rfl, h25⟩
    refine then_at rfl ?_
    refine wp_cond_false ky (wp_skip (block_normal (then_at rfl (wl_region (zv (iN .i64 i) (zu (iN .i64 (i + 1)) (run_add (k := .i64) (a := i) (b := 1) ky ky (by first | omega | (simp only [top]; omega))) (zv (iN .i64 (i + 1)) (wl_nil ?_))))))))
    exact then_I (exu ky ⟨h25, fun j hj => (Nat.lt_succ_iff_lt_or_eq.1 hj).elim (hall j) (fun e => by rw [e]; exact of_decide_eq_true q15)⟩)}}
  {rintro _ w26 ⟨u12, rfl, h27, hall⟩
   refine wp_seq (wp_seq (wl_region (zv (iN .i64 a.ds.length) (zv (.pointer (some ⟨q1, 3, none⟩)) (zu (.slice o a.ds.length c) (run_load1 (fun w => Try.isAgg23 w) ky (((h27.get 1 rfl).cell 3).trans rfl)) (zv (iN .i64 a.ds.length) (zu (.bool false) (run_lss (k := .i64) (a := a.ds.length) (b := a.ds.length) ky ky false (decide_eq_false (by omega))) (wl_nil (then_at rfl (wp_cond_false ky ?_))))))))))
   refine wp_exit ?_
   repeat first | refine then_exit ?_ | refine block_exit ?_ | refine block_exit_ne (by decide) ?_
   refine then_at rfl (wp_seq (wl_region ?_))
   refine zv (.bool true) (wl_nil (then_at rfl (wp_ret ?_)))
   repeat first|refine tr ?_|refine block_ret ?_
   exact bodyPost_ret (v := .bool true) ky rfl ⟨by rw [show sameL a b = true from by unfold sameL; simp only [q7, q8, q9, q10, eq_all mb0 q11 hall, Bool.and_false, Bool.false_and, Bool.and_true, Bool.and_self]], h27.old.old⟩}
section
variable {ρ : Operand → Value} {x y : Operand} {w : World} {dst : Option Tmp} {ty : TypeId} {pos : String} {aft : Array Edge} {gd : Option (Nat × Bool)}
theorem run_ldM {a : Addr} {i : Nat} {ds : List Mb} (hA : At w (some a) (mcl ds)) (hi : i < ds.length) (hx : ρ x = .pointer (some ((a.add (i * 3)).add 0))) : (execOp ρ ⟨dst, .load 3 x, ty, pos, aft, gd⟩).run Try.prog w = .ok (.value (.int .i64 (ds.getD i mb0).dv)) w := by
  have h := hA.get (show (mcl ds)[i * 3 + 0]? = some (.int .i64 (ds.getD i mb0).dv) by
    rw [mcl, fm_at (fun x : Mb => [.int .i64 x.dv, .string x.sg, .string x.dh]) (fun _ => rfl) ds (gd_at mb0 hi) (by decide)]; rfl)
  rw [add_two'] at hx
  rw [Nat.add_zero] at hx h
  simp only [execOp, hx, Instr.loadAt, Instr.sureAddr, Sem.run_bind, Sem.run_pure, Result.andThen_ok, loadVar, Try.isAgg3]
  simp [go_sem, h]
end
set_option maxHeartbeats 4000000 in
theorem rmayL_any {w : World} (l : Li) {o : Option Addr} {c : Nat} (hP : At w o (mcl l.ds)) :
    Calls Try.prog 15 #[.agg (liC l (.slice o l.ds.length c))] w fun e w' => e = .returned (.bool (mayL l)) ∧ Below w.heap.size w w' := by
  have H0 := HA.start w
  go_enter Try.func15, Try.ntmps15
  refine wp_seq (wl_region (wl_make (c := liC l (.slice o l.ds.length c)) H0 25 ky ky ?_))
  intro q1 w2 (h3 : HA (bs w) [(q1, 25, liC l (.slice o l.ds.length c))] w2)
  refine zv (.bool false) (wl_nil (then_at rfl (wp_seq (wp_seq (wl_region (zv (.pointer (some ⟨q1, 0, none⟩)) (zu (.int .i64 l.u) (run_load1 (fun w => Try.isAgg3 w) ky (((h3.get 0 rfl).cell 0).trans rfl)) ?_)))))))
  rcases q4 : decide (l.u < 0) with _ | _
  {refine zu (.bool false) (run_ltZ (k := .i64) (a := l.u) (b := 0) ky ky false q4) (zv (.bool false) (zv (.pointer (some ⟨q1, 0, none⟩)) (zu (.int .i64 l.u) (run_load1 (fun w => Try.isAgg3 w) ky (((h3.get 0 rfl).cell 0).trans rfl)) ?_)))
   rcases q5 : decide (3 ≤ l.u) with _ | _
   {refine zu (.bool false) (run_geZ (k := .i64) (a := l.u) (b := 3) ky ky false q5) (zv (.bool false) (zv (.bool false) (zv (.pointer (some ⟨q1, 1, none⟩)) (zu (.int .i64 l.v) (run_load1 (fun w => Try.isAgg3 w) ky (((h3.get 0 rfl).cell 1).trans rfl)) ?_))))
    rcases q6 : decide (l.v < 1) with _ | _
    {refine zu (.bool false) (run_ltZ (k := .i64) (a := l.v) (b := 1) ky ky false q6) (zv (.bool false) (zv (.bool false) (zv (.pointer (some ⟨q1, 1, none⟩)) (zu (.int .i64 l.v) (run_load1 (fun w => Try.isAgg3 w) ky (((h3.get 0 rfl).cell 1).trans rfl)) ?_))))
     rcases q7 : decide (1073741824 < l.v) with _ | _
     {refine zu (.bool false) (run_gtZ (k := .i64) (a := l.v) (b := 1073741824) ky ky false q7) (zv (.bool false) (zv (.bool false) (zv (.pointer (some ⟨q1, 2, none⟩)) (zu (.string l.ac) (run_load1 (fun w => Try.isAgg9 w) ky (((h3.get 0 rfl).cell 2).trans rfl)) ?_))))
      rcases q8 : kk l.ac with _ | _
      {refine zl (.bool false) h3 enter44 _ (((rkey_any l.ac).mono fun _ _ hh => ⟨by rw [hh.1, q8], hh.2⟩)) (fun w9 h10 => (zv (.bool true) (zv (.bool true) (zv (.bool true) (zk (zk (zk (zk (zv (.bool true) (wl_nil (then_at rfl (wp_cond_true ky (wp_seq (wl_region (zv (.bool false) (wl_nil (then_at rfl (wp_ret ?_))))))))))))))))))
       repeat first|refine tr ?_|refine block_ret ?_
       have hno : mayL l = false := by unfold mayL; simp only [List.all_cons, List.all_nil, q8, Bool.and_false, Bool.false_and, Bool.true_and, Bool.and_true]
       exact bodyPost_ret (v := .bool false) ky rfl ⟨by rw [hno], h10.old.old⟩}
      refine zl (.bool true) h3 enter44 _ (((rkey_any l.ac).mono fun _ _ hh => ⟨by rw [hh.1, q8], hh.2⟩)) (fun w11 h12 => (zv (.bool false) (zv (.bool false) (zv (.bool false) (zv (.pointer (some ⟨q1, 4, none⟩)) (zu (.string l.sg) (run_load1 (fun w => Try.isAgg9 w) ky (((h12.get 0 rfl).cell 4).trans rfl)) ?_))))))
      rcases q13 : kk l.sg with _ | _
      {refine zl (.bool false) h12 enter44 _ (((rkey_any l.sg).mono fun _ _ hh => ⟨by rw [hh.1, q13], hh.2⟩)) (fun w14 h15 => (zv (.bool true) (zv (.bool true) (wl_nil (then_at rfl (wp_cond_true ky (wp_seq (wl_region (zv (.bool false) (wl_nil (then_at rfl (wp_ret ?_))))))))))))
       repeat first|refine tr ?_|refine block_ret ?_
       have hno : mayL l = false := by unfold mayL; simp only [List.all_cons, List.all_nil, q8, q13, Bool.and_false, Bool.false_and, Bool.true_and, Bool.and_true]
       exact bodyPost_ret (v := .bool false) ky rfl ⟨by rw [hno], h15.old.old⟩}
      refine zl (.bool true) h12 enter44 _ (((rkey_any l.sg).mono fun _ _ hh => ⟨by rw [hh.1, q13], hh.2⟩)) (fun w16 h17 => (zv (.bool false) (zv (.bool false) (wl_nil (then_at rfl (wp_cond_false ky (wp_skip (then_at rfl (wp_seq (wp_seq (wl_region (zv (iN .i64 0) (wl_nil (then_at rfl (wp_block ?_)))))))))))))))
      refine wp_count (fun i A w' => ∃ u18 : Nat → Value, A = ⟨(.agg (liC l (.slice o l.ds.length c)) :: pt q1 :: u18 2 :: iN .i64 i :: u18 4 :: pt q1 :: .int .i64 l.u :: .bool false :: .bool false :: pt q1 :: .int .i64 l.u :: .bool false :: .bool false :: .bool false :: .pointer (some ⟨q1, 1, none⟩) :: .int .i64 l.v :: .bool false :: .bool false :: .bool false :: .pointer (some ⟨q1, 1, none⟩) :: .int .i64 l.v :: .bool false :: .bool false :: .bool false :: .pointer (some ⟨q1, 2, none⟩) :: .string l.ac :: .bool true :: .bool false :: .bool false :: .bool false :: .pointer (some ⟨q1, 4, none⟩) :: .string l.sg :: .bool true :: .bool false :: .bool false :: u18 35 :: u18 36 :: u18 37 :: u18 38 :: u18 39 :: u18 40 :: u18 41 :: u18 42 :: u18 43 :: u18 44 :: u18 45 :: u18 46 :: u18 47 :: u18 48 :: u18 49 :: u18 50 :: u18 51 :: u18 52 :: u18 53 :: u18 54 :: u18 55 :: u18 56 :: u18 57 :: u18 58 :: u18 59 :: u18 60 :: u18 61 :: u18 62 :: u18 63 :: u18 64 :: u18 65 :: u18 66 :: u18 67 :: u18 68 :: u18 69 :: u18 70 :: u18 71 :: u18 72 :: u18 73 :: u18 74 :: u18 75 :: u18 76 :: u18 77 :: u18 78 :: u18 79 :: u18 80 :: u18 81 :: u18 82 :: List.replicate 0 un).toArray, []⟩ ∧ HA (bs w) [(q1, 25, liC l (.slice o l.ds.length c))] w' ∧ (rise 0 l.ds = rise (ahK l.ds i + 1) (l.ds.drop i) ∧ -1 ≤ ahK l.ds i ∧ ahK l.ds i ≤ 1 ∧ ((i : Nat) : Int) ≤ ahK l.ds i + 1)) l.ds.length ?_ ?_ ?_
      {exact exu ky ⟨h17, ⟨rfl, by show (-1 : Int) ≤ -1; decide, by show (-1 : Int) ≤ 1; decide, by show (0 : Int) ≤ -1 + 1; decide⟩⟩}
      {rintro i hk _ w19 ⟨u18, rfl, h20, ⟨hr, hk0, hk1, hk2⟩⟩
       obtain ⟨ma, hma, hAa⟩ := hP.ex (by rw [mcl_len]; omega)
       have hR := rise_at (k := ahK l.ds i + 1) (gd_at mb0 hk)
       refine wp_seq (wp_seq (wl_region (zv (iN .i64 i) (zv (.pointer (some ⟨q1, 3, none⟩)) (zu (.slice o l.ds.length c) (run_load1 (fun w => Try.isAgg23 w) ky (((h20.get 0 rfl).cell 3).trans rfl)) (zv (iN .i64 l.ds.length) (zu (.bool true) (run_lss (k := .i64) (a := i) (b := l.ds.length) ky ky true (decide_eq_true (by omega))) (wl_nil (then_at rfl (wp_cond_true ky (wp_skip (then_at rfl (wp_seq (wp_block (wp_seq (wl_region (zv (.pointer (some ⟨q1, 3, none⟩)) (zu (.slice o l.ds.length c) (run_load1 (fun w => Try.isAgg23 w) ky (((h20.get 0 rfl).cell 3).trans rfl)) (zv (iN .i64 i) (zu (.pointer (some (ma.add (i * 3)))) (run_addr23 (a := ma) (n := l.ds.length) (m := c) (i := i) hma ky ky hk) ?_))))))))))))))))))))
       refine wl_val (.agg (mbC (l.ds.getD i mb0))) ky ((run_ld23 (hAa.keep h20.old.old) hk ky)) ?_
       refine wl_make (c := #[iN .i64 0, .string ({ data := #[] }), .string ({ data := #[] })]) h20 67 ky ky ?_
       intro q21 w22 (h23 : HA (bs w) [(q21, 67, #[iN .i64 0, .string ({ data := #[] }), .string ({ data := #[] })]), (q1, 25, liC l (.slice o l.ds.length c))] w22)
       refine wl_fill (c' := mbC (l.ds.getD i mb0)) h23 0 rfl ky ky ky rfl ky ky (fun w24 h25 => (wl_nil (then_at rfl (wp_seq ?_))))
       rcases q26 : decide ((l.ds.getD i mb0).dv < 0) with _ | _
       {rcases q27 : decide (2 ≤ (l.ds.getD i mb0).dv) with _ | _
        {rcases q28 : decide (0 < i) with _ | _
         {rcases q29 : kk ((l.ds.getD i mb0).sg) with _ | _
          {refine wp_region_wx (HA (bs w) [(q21, 67, mbC (l.ds.getD i mb0)), (q1, 25, liC l (.slice o l.ds.length c))]) (fun AQ w' => AQ = ⟨(.agg (liC l (.slice o l.ds.length c)) :: pt q1 :: u18 2 :: iN .i64 i :: pt q21 :: pt q1 :: .int .i64 l.u :: .bool false :: .bool false :: pt q1 :: .int .i64 l.u :: .bool false :: .bool false :: .bool false :: .pointer (some ⟨q1, 1, none⟩) :: .int .i64 l.v :: .bool false :: .bool false :: .bool false :: .pointer (some ⟨q1, 1, none⟩) :: .int .i64 l.v :: .bool false :: .bool false :: .bool false :: .pointer (some ⟨q1, 2, none⟩) :: .string l.ac :: .bool true :: .bool false :: .bool false :: .bool false :: .pointer (some ⟨q1, 4, none⟩) :: .string l.sg :: .bool true :: .bool false :: .bool false :: iN .i64 i :: .pointer (some ⟨q1, 3, none⟩) :: .slice o l.ds.length c :: iN .i64 l.ds.length :: .bool true :: u18 40 :: u18 41 :: .pointer (some ⟨q1, 3, none⟩) :: .slice o l.ds.length c :: iN .i64 i :: .pointer (some (ma.add (i * 3))) :: .agg (mbC (l.ds.getD i mb0)) :: pt q21 :: .int .i64 ((l.ds.getD i mb0).dv) :: .bool false :: .bool false :: pt q21 :: .int .i64 ((l.ds.getD i mb0).dv) :: .bool false :: .bool false :: .bool false :: iN .i64 i :: .bool false :: .bool false :: un :: un :: un :: un :: un :: un :: un :: un :: un :: un :: .bool false :: .bool false :: .bool false :: .pointer (some ⟨q21, 1, none⟩) :: .string ((l.ds.getD i mb0).sg) :: .bool false :: .bool true :: .bool true :: .bool true :: un :: un :: un :: un :: .bool true :: List.replicate 0 un).toArray, []⟩ ∧ HA (bs w) [(q21, 67, mbC (l.ds.getD i mb0)), (q1, 25, liC l (.slice o l.ds.length c))] w') 36 ky ky ky ky ky (h25.drew) ?_ ?_
           {have h30 := h25.drew
            refine zp 0 (.pointer (some ⟨q21, 0, none⟩)) (zx 1 (.int .i64 ((l.ds.getD i mb0).dv)) rfl (fun w' h' => run_load1 (fun w => Try.isAgg3 w) ky (((h'.get 0 rfl).cell 0).trans rfl)) (zq 2 (.bool false) rfl (fun _ => (run_ltZ (k := .i64) (a := (l.ds.getD i mb0).dv) (b := 0) ky ky false q26)) (zp 3 (.bool false) (zp 4 (.pointer (some ⟨q21, 0, none⟩)) (zx 5 (.int .i64 ((l.ds.getD i mb0).dv)) rfl (fun w' h' => run_load1 (fun w => Try.isAgg3 w) ky (((h'.get 0 rfl).cell 0).trans rfl)) (zq 6 (.bool false) rfl (fun _ => (run_geZ (k := .i64) (a := (l.ds.getD i mb0).dv) (b := 2) ky ky false q27)) (zp 7 (.bool false) (zp 8 (.bool false) (zp 9 (iN .i64 i) (zq 10 (.bool false) rfl (fun _ => (run_gtr (k := .i64) (a := i) (b := 0) ky ky false q28)) (zp 11 (.bool false) (zs 12 (zs 13 (zs 14 (zs 15 (zs 16 (zs 17 (zs 18 (zs 19 (zs 20 (zs 21 (zp 22 (.bool false) (zp 23 (.bool false) ?_)))))))))))))))))))))))
            refine zp 24 (.bool false) (zp 25 (.pointer (some ⟨q21, 1, none⟩)) (zx 26 (.string ((l.ds.getD i mb0).sg)) rfl (fun w' h' => run_load1 (fun w => Try.isAgg9 w) ky (((h'.get 0 rfl).cell 1).trans rfl)) (zc 27 (.bool false) rfl enter44 _ (fun w' h' => ((rkey_any ((l.ds.getD i mb0).sg)).mono fun _ _ hh => ⟨by rw [hh.1, q29], hh.2⟩)) (zp 28 (.bool true) (zp 29 (.bool true) (zp 30 (.bool true) (zs 31 (zs 32 (zs 33 (zs 34 (zp 35 (.bool true) ?_)))))))))))
            refine wx_end fun w31 hbx _ => ?_
            have h32 := HA.keep _ _ h30 hbx
            exact ⟨by kernel_rfl, h32⟩}
           {rintro _ w33 ⟨rfl, h34⟩
            refine then_at rfl ?_
            refine wp_cond_true ky (wp_seq (wl_region (zv (.bool false) (wl_nil (then_at rfl (wp_ret ?_))))))
            repeat first|refine tr ?_|refine block_ret ?_
            have hu : wi l.u 0 2 = true := by rw [wi_dec]; exact decide_eq_true (by have h1 := of_decide_eq_false q4; have h2 := of_decide_eq_false q5; omega)
            have hv : wi l.v 1 1073741824 = true := by rw [wi_dec]; exact decide_eq_true (by have h1 := of_decide_eq_false q6; have h2 := of_decide_eq_false q7; omega)
            have hkk : [l.ac, l.sg].all kk = true := by simp only [List.all_cons, List.all_nil, Bool.and_true]; rw [q8, q13]; rfl
            have ha : (wi (l.ds.getD i mb0).dv (ahK l.ds i + 1) 1 && [(l.ds.getD i mb0).sg, (l.ds.getD i mb0).dh].all kk) = false := by simp only [List.all_cons, List.all_nil, q29, Bool.and_false, Bool.false_and, Bool.true_and, Bool.and_true]
            have hno : mayL l = false := by unfold mayL; rw [hu, hv, hkk, hr, hR, ha]; rfl
            exact bodyPost_ret (v := .bool false) ky rfl ⟨by rw [hno], h34.old.old⟩}}
          rcases q35 : kk ((l.ds.getD i mb0).dh) with _ | _
          {refine wp_region_wx (HA (bs w) [(q21, 67, mbC (l.ds.getD i mb0)), (q1, 25, liC l (.slice o l.ds.length c))]) (fun AQ w' => AQ = ⟨(.agg (liC l (.slice o l.ds.length c)) :: pt q1 :: u18 2 :: iN .i64 i :: pt q21 :: pt q1 :: .int .i64 l.u :: .bool false :: .bool false :: pt q1 :: .int .i64 l.u :: .bool false :: .bool false :: .bool false :: .pointer (some ⟨q1, 1, none⟩) :: .int .i64 l.v :: .bool false :: .bool false :: .bool false :: .pointer (some ⟨q1, 1, none⟩) :: .int .i64 l.v :: .bool false :: .bool false :: .bool false :: .pointer (some ⟨q1, 2, none⟩) :: .string l.ac :: .bool true :: .bool false :: .bool false :: .bool false :: .pointer (some ⟨q1, 4, none⟩) :: .string l.sg :: .bool true :: .bool false :: .bool false :: iN .i64 i :: .pointer (some ⟨q1, 3, none⟩) :: .slice o l.ds.length c :: iN .i64 l.ds.length :: .bool true :: u18 40 :: u18 41 :: .pointer (some ⟨q1, 3, none⟩) :: .slice o l.ds.length c :: iN .i64 i :: .pointer (some (ma.add (i * 3))) :: .agg (mbC (l.ds.getD i mb0)) :: pt q21 :: .int .i64 ((l.ds.getD i mb0).dv) :: .bool false :: .bool false :: pt q21 :: .int .i64 ((l.ds.getD i mb0).dv) :: .bool false :: .bool false :: .bool false :: iN .i64 i :: .bool false :: .bool false :: un :: un :: un :: un :: un :: un :: un :: un :: un :: un :: .bool false :: .bool false :: .bool false :: .pointer (some ⟨q21, 1, none⟩) :: .string ((l.ds.getD i mb0).sg) :: .bool true :: .bool false :: .bool false :: .bool false :: .pointer (some ⟨q21, 2, none⟩) :: .string ((l.ds.getD i mb0).dh) :: .bool false :: .bool true :: .bool true :: List.replicate 0 un).toArray, []⟩ ∧ HA (bs w) [(q21, 67, mbC (l.ds.getD i mb0)), (q1, 25, liC l (.slice o l.ds.length c))] w') 36 ky ky ky ky ky (h25.drew) ?_ ?_
           {have h36 := h25.drew
            refine zp 0 (.pointer (some ⟨q21, 0, none⟩)) (zx 1 (.int .i64 ((l.ds.getD i mb0).dv)) rfl (fun w' h' => run_load1 (fun w => Try.isAgg3 w) ky (((h'.get 0 rfl).cell 0).trans rfl)) (zq 2 (.bool false) rfl (fun _ => (run_ltZ (k := .i64) (a := (l.ds.getD i mb0).dv) (b := 0) ky ky false q26)) (zp 3 (.bool false) (zp 4 (.pointer (some ⟨q21, 0, none⟩)) (zx 5 (.int .i64 ((l.ds.getD i mb0).dv)) rfl (fun w' h' => run_load1 (fun w => Try.isAgg3 w) ky (((h'.get 0 rfl).cell 0).trans rfl)) (zq 6 (.bool false) rfl (fun _ => (run_geZ (k := .i64) (a := (l.ds.getD i mb0).dv) (b := 2) ky ky false q27)) (zp 7 (.bool false) (zp 8 (.bool false) (zp 9 (iN .i64 i) (zq 10 (.bool false) rfl (fun _ => (run_gtr (k := .i64) (a := i) (b := 0) ky ky false q28)) (zp 11 (.bool false) (zs 12 (zs 13 (zs 14 (zs 15 (zs 16 (zs 17 (zs 18 (zs 19 (zs 20 (zs 21 (zp 22 (.bool false) (zp 23 (.bool false) ?_)))))))))))))))))))))))
            refine zp 24 (.bool false) (zp 25 (.pointer (some ⟨q21, 1, none⟩)) (zx 26 (.string ((l.ds.getD i mb0).sg)) rfl (fun w' h' => run_load1 (fun w => Try.isAgg9 w) ky (((h'.get 0 rfl).cell 1).trans rfl)) (zc 27 (.bool true) rfl enter44 _ (fun w' h' => ((rkey_any ((l.ds.getD i mb0).sg)).mono fun _ _ hh => ⟨by rw [hh.1, q29], hh.2⟩)) (zp 28 (.bool false) (zp 29 (.bool false) (zp 30 (.bool false) (zp 31 (.pointer (some ⟨q21, 2, none⟩)) (zx 32 (.string ((l.ds.getD i mb0).dh)) rfl (fun w' h' => run_load1 (fun w => Try.isAgg9 w) ky (((h'.get 0 rfl).cell 2).trans rfl)) (zc 33 (.bool false) rfl enter44 _ (fun w' h' => ((rkey_any ((l.ds.getD i mb0).dh)).mono fun _ _ hh => ⟨by rw [hh.1, q35], hh.2⟩)) (zp 34 (.bool true) (zp 35 (.bool true) ?_)))))))))))
            refine wx_end fun w37 hbx _ => ?_
            have h38 := HA.keep _ _ h36 hbx
            exact ⟨by kernel_rfl, h38⟩}
           {rintro _ w39 ⟨rfl, h40⟩
            refine then_at rfl ?_
            refine wp_cond_true ky (wp_seq (wl_region (zv (.bool false) (wl_nil (then_at rfl (wp_ret ?_))))))
            repeat first|refine tr ?_|refine block_ret ?_
            have hu : wi l.u 0 2 = true := by rw [wi_dec]; exact decide_eq_true (by have h1 := of_decide_eq_false q4; have h2 := of_decide_eq_false q5; omega)
            have hv : wi l.v 1 1073741824 = true := by rw [wi_dec]; exact decide_eq_true (by have h1 := of_decide_eq_false q6; have h2 := of_decide_eq_false q7; omega)
            have hkk : [l.ac, l.sg].all kk = true := by simp only [List.all_cons, List.all_nil, Bool.and_true]; rw [q8, q13]; rfl
            have ha : (wi (l.ds.getD i mb0).dv (ahK l.ds i + 1) 1 && [(l.ds.getD i mb0).sg, (l.ds.getD i mb0).dh].all kk) = false := by simp only [List.all_cons, List.all_nil, q29, q35, Bool.and_false, Bool.false_and, Bool.true_and, Bool.and_true]
            have hno : mayL l = false := by unfold mayL; rw [hu, hv, hkk, hr, hR, ha]; rfl
            exact bodyPost_ret (v := .bool false) ky rfl ⟨by rw [hno], h40.old.old⟩}}
          refine wp_region_wxh h25 (fun AQ w' => AQ = ⟨(.agg (liC l (.slice o l.ds.length c)) :: pt q1 :: u18 2 :: iN .i64 i :: pt q21 :: pt q1 :: .int .i64 l.u :: .bool false :: .bool false :: pt q1 :: .int .i64 l.u :: .bool false :: .bool false :: .bool false :: .pointer (some ⟨q1, 1, none⟩) :: .int .i64 l.v :: .bool false :: .bool false :: .bool false :: .pointer (some ⟨q1, 1, none⟩) :: .int .i64 l.v :: .bool false :: .bool false :: .bool false :: .pointer (some ⟨q1, 2, none⟩) :: .string l.ac :: .bool true :: .bool false :: .bool false :: .bool false :: .pointer (some ⟨q1, 4, none⟩) :: .string l.sg :: .bool true :: .bool false :: .bool false :: iN .i64 i :: .pointer (some ⟨q1, 3, none⟩) :: .slice o l.ds.length c :: iN .i64 l.ds.length :: .bool true :: u18 40 :: u18 41 :: .pointer (some ⟨q1, 3, none⟩) :: .slice o l.ds.length c :: iN .i64 i :: .pointer (some (ma.add (i * 3))) :: .agg (mbC (l.ds.getD i mb0)) :: pt q21 :: .int .i64 ((l.ds.getD i mb0).dv) :: .bool false :: .bool false :: pt q21 :: .int .i64 ((l.ds.getD i mb0).dv) :: .bool false :: .bool false :: .bool false :: iN .i64 i :: .bool false :: .bool false :: un :: un :: un :: un :: un :: un :: un :: un :: un :: un :: .bool false :: .bool false :: .bool false :: .pointer (some ⟨q21, 1, none⟩) :: .string ((l.ds.getD i mb0).sg) :: .bool true :: .bool false :: .bool false :: .bool false :: .pointer (some ⟨q21, 2, none⟩) :: .string ((l.ds.getD i mb0).dh) :: .bool true :: .bool false :: .bool false :: List.replicate 0 un).toArray, []⟩ ∧ HA (bs w) [(q21, 67, mbC (l.ds.getD i mb0)), (q1, 25, liC l (.slice o l.ds.length c))] w') 36 ky ky ky ky ky ?_ ?_
          {have h41 := h25.drew
           refine zp 0 (.pointer (some ⟨q21, 0, none⟩)) (zx 1 (.int .i64 ((l.ds.getD i mb0).dv)) rfl (fun w' h' => run_load1 (fun w => Try.isAgg3 w) ky (((h'.get 0 rfl).cell 0).trans rfl)) (zq 2 (.bool false) rfl (fun _ => (run_ltZ (k := .i64) (a := (l.ds.getD i mb0).dv) (b := 0) ky ky false q26)) (zp 3 (.bool false) (zp 4 (.pointer (some ⟨q21, 0, none⟩)) (zx 5 (.int .i64 ((l.ds.getD i mb0).dv)) rfl (fun w' h' => run_load1 (fun w => Try.isAgg3 w) ky (((h'.get 0 rfl).cell 0).trans rfl)) (zq 6 (.bool false) rfl (fun _ => (run_geZ (k := .i64) (a := (l.ds.getD i mb0).dv) (b := 2) ky ky false q27)) (zp 7 (.bool false) (zp 8 (.bool false) (zp 9 (iN .i64 i) (zq 10 (.bool false) rfl (fun _ => (run_gtr (k := .i64) (a := i) (b := 0) ky ky false q28)) (zp 11 (.bool false) (zs 12 (zs 13 (zs 14 (zs 15 (zs 16 (zs 17 (zs 18 (zs 19 (zs 20 (zs 21 (zp 22 (.bool false) (zp 23 (.bool false) ?_)))))))))))))))))))))))
           refine zp 24 (.bool false) (zp 25 (.pointer (some ⟨q21, 1, none⟩)) (zx 26 (.string ((l.ds.getD i mb0).sg)) rfl (fun w' h' => run_load1 (fun w => Try.isAgg9 w) ky (((h'.get 0 rfl).cell 1).trans rfl)) (zc 27 (.bool true) rfl enter44 _ (fun w' h' => ((rkey_any ((l.ds.getD i mb0).sg)).mono fun _ _ hh => ⟨by rw [hh.1, q29], hh.2⟩)) (zp 28 (.bool false) (zp 29 (.bool false) (zp 30 (.bool false) (zp 31 (.pointer (some ⟨q21, 2, none⟩)) (zx 32 (.string ((l.ds.getD i mb0).dh)) rfl (fun w' h' => run_load1 (fun w => Try.isAgg9 w) ky (((h'.get 0 rfl).cell 2).trans rfl)) (zc 33 (.bool true) rfl enter44 _ (fun w' h' => ((rkey_any ((l.ds.getD i mb0).dh)).mono fun _ _ hh => ⟨by rw [hh.1, q35], hh.2⟩)) (zp 34 (.bool false) (zp 35 (.bool false) ?_)))))))))))
           refine wx_end fun w42 hbx _ => ?_
           have h43 := HA.keep _ _ h41 hbx
           exact ⟨by kernel_rfl, h43⟩}
          {rintro _ w44 ⟨rfl, h45⟩
           refine then_at rfl ?_
           refine wp_cond_false ky (wp_skip (block_normal (then_at rfl (wl_region (zv (iN .i64 i) (zu (iN .i64 (i + 1)) (run_add (k := .i64) (a := i) (b := 1) ky ky (by first | omega | (simp only [top]; omega))) (zv (iN .i64 (i + 1)) (wl_nil ?_))))))))
           have p46 := of_decide_eq_false q26
           have p47 := of_decide_eq_false q27
           have p48 := of_decide_eq_false q28
           have hah : ahK l.ds i = -1 := by rw [show i = 0 from by omega]; rfl
           have hw : wi (l.ds.getD i mb0).dv (ahK l.ds i + 1) 1 = true := by rw [wi_dec]; exact decide_eq_true (by omega)
           have ha : [(l.ds.getD i mb0).sg, (l.ds.getD i mb0).dh].all kk = true := by simp only [List.all_cons, List.all_nil, Bool.and_true]; rw [q29, q35]; rfl
           exact then_I (exu ky ⟨(HA.sub h45 (List.Sublist.cons _ (List.Sublist.cons_cons _ (List.Sublist.slnil)))), ⟨by rw [hr, hR, hw, ha]; rfl, by show (-1 : Int) ≤ (l.ds.getD i mb0).dv; omega, by show (l.ds.getD i mb0).dv ≤ 1; omega, by show ((i + 1 : Nat) : Int) ≤ (l.ds.getD i mb0).dv + 1; omega⟩⟩)}}
         rcases q49 : decide ((l.ds.getD i mb0).dv ≤ (l.ds.getD (i - 1) mb0).dv) with _ | _
         {rcases q50 : kk ((l.ds.getD i mb0).sg) with _ | _
          {refine wp_region_wx (HA (bs w) [(q21, 67, mbC (l.ds.getD i mb0)), (q1, 25, liC l (.slice o l.ds.length c))]) (fun AQ w' => AQ = ⟨(.agg (liC l (.slice o l.ds.length c)) :: pt q1 :: u18 2 :: iN .i64 i :: pt q21 :: pt q1 :: .int .i64 l.u :: .bool false :: .bool false :: pt q1 :: .int .i64 l.u :: .bool false :: .bool false :: .bool false :: .pointer (some ⟨q1, 1, none⟩) :: .int .i64 l.v :: .bool false :: .bool false :: .bool false :: .pointer (some ⟨q1, 1, none⟩) :: .int .i64 l.v :: .bool false :: .bool false :: .bool false :: .pointer (some ⟨q1, 2, none⟩) :: .string l.ac :: .bool true :: .bool false :: .bool false :: .bool false :: .pointer (some ⟨q1, 4, none⟩) :: .string l.sg :: .bool true :: .bool false :: .bool false :: iN .i64 i :: .pointer (some ⟨q1, 3, none⟩) :: .slice o l.ds.length c :: iN .i64 l.ds.length :: .bool true :: u18 40 :: u18 41 :: .pointer (some ⟨q1, 3, none⟩) :: .slice o l.ds.length c :: iN .i64 i :: .pointer (some (ma.add (i * 3))) :: .agg (mbC (l.ds.getD i mb0)) :: pt q21 :: .int .i64 ((l.ds.getD i mb0).dv) :: .bool false :: .bool false :: pt q21 :: .int .i64 ((l.ds.getD i mb0).dv) :: .bool false :: .bool false :: .bool false :: iN .i64 i :: .bool true :: .bool true :: .pointer (some ⟨q1, 3, none⟩) :: .slice o l.ds.length c :: iN .i64 i :: iN .i64 (i - 1) :: .pointer (some (ma.add ((i - 1) * 3))) :: .pointer (some ((ma.add ((i - 1) * 3)).add 0)) :: .int .i64 ((l.ds.getD (i - 1) mb0).dv) :: pt q21 :: .int .i64 ((l.ds.getD i mb0).dv) :: .bool false :: .bool false :: .bool false :: .bool false :: .pointer (some ⟨q21, 1, none⟩) :: .string ((l.ds.getD i mb0).sg) :: .bool false :: .bool true :: .bool true :: .bool true :: un :: un :: un :: un :: .bool true :: List.replicate 0 un).toArray, []⟩ ∧ HA (bs w) [(q21, 67, mbC (l.ds.getD i mb0)), (q1, 25, liC l (.slice o l.ds.length c))] w') 36 ky ky ky ky ky (h25.drew) ?_ ?_
           {have h51 := h25.drew
            refine zp 0 (.pointer (some ⟨q21, 0, none⟩)) (zx 1 (.int .i64 ((l.ds.getD i mb0).dv)) rfl (fun w' h' => run_load1 (fun w => Try.isAgg3 w) ky (((h'.get 0 rfl).cell 0).trans rfl)) (zq 2 (.bool false) rfl (fun _ => (run_ltZ (k := .i64) (a := (l.ds.getD i mb0).dv) (b := 0) ky ky false q26)) (zp 3 (.bool false) (zp 4 (.pointer (some ⟨q21, 0, none⟩)) (zx 5 (.int .i64 ((l.ds.getD i mb0).dv)) rfl (fun w' h' => run_load1 (fun w => Try.isAgg3 w) ky (((h'.get 0 rfl).cell 0).trans rfl)) (zq 6 (.bool false) rfl (fun _ => (run_geZ (k := .i64) (a := (l.ds.getD i mb0).dv) (b := 2) ky ky false q27)) (zp 7 (.bool false) (zp 8 (.bool false) (zp 9 (iN .i64 i) (zq 10 (.bool true) rfl (fun _ => (run_gtr (k := .i64) (a := i) (b := 0) ky ky true q28)) (zp 11 (.bool true) (zp 12 (.pointer (some ⟨q1, 3, none⟩)) (zx 13 (.slice o l.ds.length c) rfl (fun w' h' => run_load1 (fun w => Try.isAgg23 w) ky (((h'.get 1 rfl).cell 3).trans rfl)) (zp 14 (iN .i64 i) (zq 15 (iN .i64 (i - 1)) rfl (fun _ => (run_sub (k := .i64) (a := i) (b := 1) ky ky (by have := of_decide_eq_true q28; first | omega | (simp only [top]; omega)) (by have := of_decide_eq_true q28; first | omega | (simp only [top]; omega)))) (zq 16 (.pointer (some (ma.add ((i - 1) * 3)))) rfl (fun _ => (run_addr23 (a := ma) (n := l.ds.length) (m := c) (i := i - 1) hma ky ky (show i - 1 < l.ds.length by omega))) (zp 17 (.pointer (some ((ma.add ((i - 1) * 3)).add 0))) (zx 18 (.int .i64 ((l.ds.getD (i - 1) mb0).dv)) rfl (fun w' h' => (run_ldM (hAa.keep h'.old.old) (show i - 1 < l.ds.length by omega) ky)) (zp 19 (.pointer (some ⟨q21, 0, none⟩)) (zx 20 (.int .i64 ((l.ds.getD i mb0).dv)) rfl (fun w' h' => run_load1 (fun w => Try.isAgg3 w) ky (((h'.get 0 rfl).cell 0).trans rfl)) (zq 21 (.bool false) rfl (fun _ => (run_geZ (k := .i64) (a := (l.ds.getD (i - 1) mb0).dv) (b := (l.ds.getD i mb0).dv) ky ky false q49)) (zp 22 (.bool false) (zp 23 (.bool false) ?_)))))))))))))))))))))))
            refine zp 24 (.bool false) (zp 25 (.pointer (some ⟨q21, 1, none⟩)) (zx 26 (.string ((l.ds.getD i mb0).sg)) rfl (fun w' h' => run_load1 (fun w => Try.isAgg9 w) ky (((h'.get 0 rfl).cell 1).trans rfl)) (zc 27 (.bool false) rfl enter44 _ (fun w' h' => ((rkey_any ((l.ds.getD i mb0).sg)).mono fun _ _ hh => ⟨by rw [hh.1, q50], hh.2⟩)) (zp 28 (.bool true) (zp 29 (.bool true) (zp 30 (.bool true) (zs 31 (zs 32 (zs 33 (zs 34 (zp 35 (.bool true) ?_)))))))))))
            refine wx_end fun w52 hbx _ => ?_
            have h53 := HA.keep _ _ h51 hbx
            exact ⟨by kernel_rfl, h53⟩}
           {rintro _ w54 ⟨rfl, h55⟩
            refine then_at rfl ?_
            refine wp_cond_true ky (wp_seq (wl_region (zv (.bool false) (wl_nil (then_at rfl (wp_ret ?_))))))
            repeat first|refine tr ?_|refine block_ret ?_
            have hu : wi l.u 0 2 = true := by rw [wi_dec]; exact decide_eq_true (by have h1 := of_decide_eq_false q4; have h2 := of_decide_eq_false q5; omega)
            have hv : wi l.v 1 1073741824 = true := by rw [wi_dec]; exact decide_eq_true (by have h1 := of_decide_eq_false q6; have h2 := of_decide_eq_false q7; omega)
            have hkk : [l.ac, l.sg].all kk = true := by simp only [List.all_cons, List.all_nil, Bool.and_true]; rw [q8, q13]; rfl
            have ha : (wi (l.ds.getD i mb0).dv (ahK l.ds i + 1) 1 && [(l.ds.getD i mb0).sg, (l.ds.getD i mb0).dh].all kk) = false := by simp only [List.all_cons, List.all_nil, q50, Bool.and_false, Bool.false_and, Bool.true_and, Bool.and_true]
            have hno : mayL l = false := by unfold mayL; rw [hu, hv, hkk, hr, hR, ha]; rfl
            exact bodyPost_ret (v := .bool false) ky rfl ⟨by rw [hno], h55.old.old⟩}}
          rcases q56 : kk ((l.ds.getD i mb0).dh) with _ | _
          {refine wp_region_wx (HA (bs w) [(q21, 67, mbC (l.ds.getD i mb0)), (q1, 25, liC l (.slice o l.ds.length c))]) (fun AQ w' => AQ = ⟨(.agg (liC l (.slice o l.ds.length c)) :: pt q1 :: u18 2 :: iN .i64 i :: pt q21 :: pt q1 :: .int .i64 l.u :: .bool false :: .bool false :: pt q1 :: .int .i64 l.u :: .bool false :: .bool false :: .bool false :: .pointer (some ⟨q1, 1, none⟩) :: .int .i64 l.v :: .bool false :: .bool false :: .bool false :: .pointer (some ⟨q1, 1, none⟩) :: .int .i64 l.v :: .bool false :: .bool false :: .bool false :: .pointer (some ⟨q1, 2, none⟩) :: .string l.ac :: .bool true :: .bool false :: .bool false :: .bool false :: .pointer (some ⟨q1, 4, none⟩) :: .string l.sg :: .bool true :: .bool false :: .bool false :: iN .i64 i :: .pointer (some ⟨q1, 3, none⟩) :: .slice o l.ds.length c :: iN .i64 l.ds.length :: .bool true :: u18 40 :: u18 41 :: .pointer (some ⟨q1, 3, none⟩) :: .slice o l.ds.length c :: iN .i64 i :: .pointer (some (ma.add (i * 3))) :: .agg (mbC (l.ds.getD i mb0)) :: pt q21 :: .int .i64 ((l.ds.getD i mb0).dv) :: .bool false :: .bool false :: pt q21 :: .int .i64 ((l.ds.getD i mb0).dv) :: .bool false :: .bool false :: .bool false :: iN .i64 i :: .bool true :: .bool true :: .pointer (some ⟨q1, 3, none⟩) :: .slice o l.ds.length c :: iN .i64 i :: iN .i64 (i - 1) :: .pointer (some (ma.add ((i - 1) * 3))) :: .pointer (some ((ma.add ((i - 1) * 3)).add 0)) :: .int .i64 ((l.ds.getD (i - 1) mb0).dv) :: pt q21 :: .int .i64 ((l.ds.getD i mb0).dv) :: .bool false :: .bool false :: .bool false :: .bool false :: .pointer (some ⟨q21, 1, none⟩) :: .string ((l.ds.getD i mb0).sg) :: .bool true :: .bool false :: .bool false :: .bool false :: .pointer (some ⟨q21, 2, none⟩) :: .string ((l.ds.getD i mb0).dh) :: .bool false :: .bool true :: .bool true :: List.replicate 0 un).toArray, []⟩ ∧ HA (bs w) [(q21, 67, mbC (l.ds.getD i mb0)), (q1, 25, liC l (.slice o l.ds.length c))] w') 36 ky ky ky ky ky (h25.drew) ?_ ?_
           {have h57 := h25.drew
            refine zp 0 (.pointer (some ⟨q21, 0, none⟩)) (zx 1 (.int .i64 ((l.ds.getD i mb0).dv)) rfl (fun w' h' => run_load1 (fun w => Try.isAgg3 w) ky (((h'.get 0 rfl).cell 0).trans rfl)) (zq 2 (.bool false) rfl (fun _ => (run_ltZ (k := .i64) (a := (l.ds.getD i mb0).dv) (b := 0) ky ky false q26)) (zp 3 (.bool false) (zp 4 (.pointer (some ⟨q21, 0, none⟩)) (zx 5 (.int .i64 ((l.ds.getD i mb0).dv)) rfl (fun w' h' => run_load1 (fun w => Try.isAgg3 w) ky (((h'.get 0 rfl).cell 0).trans rfl)) (zq 6 (.bool false) rfl (fun _ => (run_geZ (k := .i64) (a := (l.ds.getD i mb0).dv) (b := 2) ky ky false q27)) (zp 7 (.bool false) (zp 8 (.bool false) (zp 9 (iN .i64 i) (zq 10 (.bool true) rfl (fun _ => (run_gtr (k := .i64) (a := i) (b := 0) ky ky true q28)) (zp 11 (.bool true) (zp 12 (.pointer (some ⟨q1, 3, none⟩)) (zx 13 (.slice o l.ds.length c) rfl (fun w' h' => run_load1 (fun w => Try.isAgg23 w) ky (((h'.get 1 rfl).cell 3).trans rfl)) (zp 14 (iN .i64 i) (zq 15 (iN .i64 (i - 1)) rfl (fun _ => (run_sub (k := .i64) (a := i) (b := 1) ky ky (by have := of_decide_eq_true q28; first | omega | (simp only [top]; omega)) (by have := of_decide_eq_true q28; first | omega | (simp only [top]; omega)))) (zq 16 (.pointer (some (ma.add ((i - 1) * 3)))) rfl (fun _ => (run_addr23 (a := ma) (n := l.ds.length) (m := c) (i := i - 1) hma ky ky (show i - 1 < l.ds.length by omega))) (zp 17 (.pointer (some ((ma.add ((i - 1) * 3)).add 0))) (zx 18 (.int .i64 ((l.ds.getD (i - 1) mb0).dv)) rfl (fun w' h' => (run_ldM (hAa.keep h'.old.old) (show i - 1 < l.ds.length by omega) ky)) (zp 19 (.pointer (some ⟨q21, 0, none⟩)) (zx 20 (.int .i64 ((l.ds.getD i mb0).dv)) rfl (fun w' h' => run_load1 (fun w => Try.isAgg3 w) ky (((h'.get 0 rfl).cell 0).trans rfl)) (zq 21 (.bool false) rfl (fun _ => (run_geZ (k := .i64) (a := (l.ds.getD (i - 1) mb0).dv) (b := (l.ds.getD i mb0).dv) ky ky false q49)) (zp 22 (.bool false) (zp 23 (.bool false) ?_)))))))))))))))))))))))
            refine zp 24 (.bool false) (zp 25 (.pointer (some ⟨q21, 1, none⟩)) (zx 26 (.string ((l.ds.getD i mb0).sg)) rfl (fun w' h' => run_load1 (fun w => Try.isAgg9 w) ky (((h'.get 0 rfl).cell 1).trans rfl)) (zc 27 (.bool true) rfl enter44 _ (fun w' h' => ((rkey_any ((l.ds.getD i mb0).sg)).mono fun _ _ hh => ⟨by rw [hh.1, q50], hh.2⟩)) (zp 28 (.bool false) (zp 29 (.bool false) (zp 30 (.bool false) (zp 31 (.pointer (some ⟨q21, 2, none⟩)) (zx 32 (.string ((l.ds.getD i mb0).dh)) rfl (fun w' h' => run_load1 (fun w => Try.isAgg9 w) ky (((h'.get 0 rfl).cell 2).trans rfl)) (zc 33 (.bool false) rfl enter44 _ (fun w' h' => ((rkey_any ((l.ds.getD i mb0).dh)).mono fun _ _ hh => ⟨by rw [hh.1, q56], hh.2⟩)) (zp 34 (.bool true) (zp 35 (.bool true) ?_)))))))))))
            refine wx_end fun w58 hbx _ => ?_
            have h59 := HA.keep _ _ h57 hbx
            exact ⟨by kernel_rfl, h59⟩}
           {rintro _ w60 ⟨rfl, h61⟩
            refine then_at rfl ?_
            refine wp_cond_true ky (wp_seq (wl_region (zv (.bool false) (wl_nil (then_at rfl (wp_ret ?_))))))
            repeat first|refine tr ?_|refine block_ret ?_
            have hu : wi l.u 0 2 = true := by rw [wi_dec]; exact decide_eq_true (by have h1 := of_decide_eq_false q4; have h2 := of_decide_eq_false q5; omega)
            have hv : wi l.v 1 1073741824 = true := by rw [wi_dec]; exact decide_eq_true (by have h1 := of_decide_eq_false q6; have h2 := of_decide_eq_false q7; omega)
            have hkk : [l.ac, l.sg].all kk = true := by simp only [List.all_cons, List.all_nil, Bool.and_true]; rw [q8, q13]; rfl
            have ha : (wi (l.ds.getD i mb0).dv (ahK l.ds i + 1) 1 && [(l.ds.getD i mb0).sg, (l.ds.getD i mb0).dh].all kk) = false := by simp only [List.all_cons, List.all_nil, q50, q56, Bool.and_false, Bool.false_and, Bool.true_and, Bool.and_true]
            have hno : mayL l = false := by unfold mayL; rw [hu, hv, hkk, hr, hR, ha]; rfl
            exact bodyPost_ret (v := .bool false) ky rfl ⟨by rw [hno], h61.old.old⟩}}
          refine wp_region_wxh h25 (fun AQ w' => AQ = ⟨(.agg (liC l (.slice o l.ds.length c)) :: pt q1 :: u18 2 :: iN .i64 i :: pt q21 :: pt q1 :: .int .i64 l.u :: .bool false :: .bool false :: pt q1 :: .int .i64 l.u :: .bool false :: .bool false :: .bool false :: .pointer (some ⟨q1, 1, none⟩) :: .int .i64 l.v :: .bool false :: .bool false :: .bool false :: .pointer (some ⟨q1, 1, none⟩) :: .int .i64 l.v :: .bool false :: .bool false :: .bool false :: .pointer (some ⟨q1, 2, none⟩) :: .string l.ac :: .bool true :: .bool false :: .bool false :: .bool false :: .pointer (some ⟨q1, 4, none⟩) :: .string l.sg :: .bool true :: .bool false :: .bool false :: iN .i64 i :: .pointer (some ⟨q1, 3, none⟩) :: .slice o l.ds.length c :: iN .i64 l.ds.length :: .bool true :: u18 40 :: u18 41 :: .pointer (some ⟨q1, 3, none⟩) :: .slice o l.ds.length c :: iN .i64 i :: .pointer (some (ma.add (i * 3))) :: .agg (mbC (l.ds.getD i mb0)) :: pt q21 :: .int .i64 ((l.ds.getD i mb0).dv) :: .bool false :: .bool false :: pt q21 :: .int .i64 ((l.ds.getD i mb0).dv) :: .bool false :: .bool false :: .bool false :: iN .i64 i :: .bool true :: .bool true :: .pointer (some ⟨q1, 3, none⟩) :: .slice o l.ds.length c :: iN .i64 i :: iN .i64 (i - 1) :: .pointer (some (ma.add ((i - 1) * 3))) :: .pointer (some ((ma.add ((i - 1) * 3)).add 0)) :: .int .i64 ((l.ds.getD (i - 1) mb0).dv) :: pt q21 :: .int .i64 ((l.ds.getD i mb0).dv) :: .bool false :: .bool false :: .bool false :: .bool false :: .pointer (some ⟨q21, 1, none⟩) :: .string ((l.ds.getD i mb0).sg) :: .bool true :: .bool false :: .bool false :: .bool false :: .pointer (some ⟨q21, 2, none⟩) :: .string ((l.ds.getD i mb0).dh) :: .bool true :: .bool false :: .bool false :: List.replicate 0 un).toArray, []⟩ ∧ HA (bs w) [(q21, 67, mbC (l.ds.getD i mb0)), (q1, 25, liC l (.slice o l.ds.length c))] w') 36 ky ky ky ky ky ?_ ?_
          {have h62 := h25.drew
           refine zp 0 (.pointer (some ⟨q21, 0, none⟩)) (zx 1 (.int .i64 ((l.ds.getD i mb0).dv)) rfl (fun w' h' => run_load1 (fun w => Try.isAgg3 w) ky (((h'.get 0 rfl).cell 0).trans rfl)) (zq 2 (.bool false) rfl (fun _ => (run_ltZ (k := .i64) (a := (l.ds.getD i mb0).dv) (b := 0) ky ky false q26)) (zp 3 (.bool false) (zp 4 (.pointer (some ⟨q21, 0, none⟩)) (zx 5 (.int .i64 ((l.ds.getD i mb0).dv)) rfl (fun w' h' => run_load1 (fun w => Try.isAgg3 w) ky (((h'.get 0 rfl).cell 0).trans rfl)) (zq 6 (.bool false) rfl (fun _ => (run_geZ (k := .i64) (a := (l.ds.getD i mb0).dv) (b := 2) ky ky false q27)) (zp 7 (.bool false) (zp 8 (.bool false) (zp 9 (iN .i64 i) (zq 10 (.bool true) rfl (fun _ => (run_gtr (k := .i64) (a := i) (b := 0) ky ky true q28)) (zp 11 (.bool true) (zp 12 (.pointer (some ⟨q1, 3, none⟩)) (zx 13 (.slice o l.ds.length c) rfl (fun w' h' => run_load1 (fun w => Try.isAgg23 w) ky (((h'.get 1 rfl).cell 3).trans rfl)) (zp 14 (iN .i64 i) (zq 15 (iN .i64 (i - 1)) rfl (fun _ => (run_sub (k := .i64) (a := i) (b := 1) ky ky (by have := of_decide_eq_true q28; first | omega | (simp only [top]; omega)) (by have := of_decide_eq_true q28; first | omega | (simp only [top]; omega)))) (zq 16 (.pointer (some (ma.add ((i - 1) * 3)))) rfl (fun _ => (run_addr23 (a := ma) (n := l.ds.length) (m := c) (i := i - 1) hma ky ky (show i - 1 < l.ds.length by omega))) (zp 17 (.pointer (some ((ma.add ((i - 1) * 3)).add 0))) (zx 18 (.int .i64 ((l.ds.getD (i - 1) mb0).dv)) rfl (fun w' h' => (run_ldM (hAa.keep h'.old.old) (show i - 1 < l.ds.length by omega) ky)) (zp 19 (.pointer (some ⟨q21, 0, none⟩)) (zx 20 (.int .i64 ((l.ds.getD i mb0).dv)) rfl (fun w' h' => run_load1 (fun w => Try.isAgg3 w) ky (((h'.get 0 rfl).cell 0).trans rfl)) (zq 21 (.bool false) rfl (fun _ => (run_geZ (k := .i64) (a := (l.ds.getD (i - 1) mb0).dv) (b := (l.ds.getD i mb0).dv) ky ky false q49)) (zp 22 (.bool false) (zp 23 (.bool false) ?_)))))))))))))))))))))))
           refine zp 24 (.bool false) (zp 25 (.pointer (some ⟨q21, 1, none⟩)) (zx 26 (.string ((l.ds.getD i mb0).sg)) rfl (fun w' h' => run_load1 (fun w => Try.isAgg9 w) ky (((h'.get 0 rfl).cell 1).trans rfl)) (zc 27 (.bool true) rfl enter44 _ (fun w' h' => ((rkey_any ((l.ds.getD i mb0).sg)).mono fun _ _ hh => ⟨by rw [hh.1, q50], hh.2⟩)) (zp 28 (.bool false) (zp 29 (.bool false) (zp 30 (.bool false) (zp 31 (.pointer (some ⟨q21, 2, none⟩)) (zx 32 (.string ((l.ds.getD i mb0).dh)) rfl (fun w' h' => run_load1 (fun w => Try.isAgg9 w) ky (((h'.get 0 rfl).cell 2).trans rfl)) (zc 33 (.bool true) rfl enter44 _ (fun w' h' => ((rkey_any ((l.ds.getD i mb0).dh)).mono fun _ _ hh => ⟨by rw [hh.1, q56], hh.2⟩)) (zp 34 (.bool false) (zp 35 (.bool false) ?_)))))))))))
           refine wx_end fun w63 hbx _ => ?_
           have h64 := HA.keep _ _ h62 hbx
           exact ⟨by kernel_rfl, h64⟩}
          {rintro _ w65 ⟨rfl, h66⟩
           refine then_at rfl ?_
           refine wp_cond_false ky (wp_skip (block_normal (then_at rfl (wl_region (zv (iN .i64 i) (zu (iN .i64 (i + 1)) (run_add (k := .i64) (a := i) (b := 1) ky ky (by first | omega | (simp only [top]; omega))) (zv (iN .i64 (i + 1)) (wl_nil ?_))))))))
           have p67 := of_decide_eq_false q26
           have p68 := of_decide_eq_false q27
           have p69 := of_decide_eq_true q28
           have p70 := of_decide_eq_false q49
           have hah : ahK l.ds i = (l.ds.getD (i - 1) mb0).dv := by obtain ⟨j, rfl⟩ : ∃ j, i = j + 1 := ⟨i - 1, by omega⟩; rfl
           have hw : wi (l.ds.getD i mb0).dv (ahK l.ds i + 1) 1 = true := by rw [wi_dec]; exact decide_eq_true (by omega)
           have ha : [(l.ds.getD i mb0).sg, (l.ds.getD i mb0).dh].all kk = true := by simp only [List.all_cons, List.all_nil, Bool.and_true]; rw [q50, q56]; rfl
           exact then_I (exu ky ⟨(HA.sub h66 (List.Sublist.cons _ (List.Sublist.cons_cons _ (List.Sublist.slnil)))), ⟨by rw [hr, hR, hw, ha]; rfl, by show (-1 : Int) ≤ (l.ds.getD i mb0).dv; omega, by show (l.ds.getD i mb0).dv ≤ 1; omega, by show ((i + 1 : Nat) : Int) ≤ (l.ds.getD i mb0).dv + 1; omega⟩⟩)}}
         refine wp_region_wxh h25 (fun AQ w' => AQ = ⟨(.agg (liC l (.slice o l.ds.length c)) :: pt q1 :: u18 2 :: iN .i64 i :: pt q21 :: pt q1 :: .int .i64 l.u :: .bool false :: .bool false :: pt q1 :: .int .i64 l.u :: .bool false :: .bool false :: .bool false :: .pointer (some ⟨q1, 1, none⟩) :: .int .i64 l.v :: .bool false :: .bool false :: .bool false :: .pointer (some ⟨q1, 1, none⟩) :: .int .i64 l.v :: .bool false :: .bool false :: .bool false :: .pointer (some ⟨q1, 2, none⟩) :: .string l.ac :: .bool true :: .bool false :: .bool false :: .bool false :: .pointer (some ⟨q1, 4, none⟩) :: .string l.sg :: .bool true :: .bool false :: .bool false :: iN .i64 i :: .pointer (some ⟨q1, 3, none⟩) :: .slice o l.ds.length c :: iN .i64 l.ds.length :: .bool true :: u18 40 :: u18 41 :: .pointer (some ⟨q1, 3, none⟩) :: .slice o l.ds.length c :: iN .i64 i :: .pointer (some (ma.add (i * 3))) :: .agg (mbC (l.ds.getD i mb0)) :: pt q21 :: .int .i64 ((l.ds.getD i mb0).dv) :: .bool false :: .bool false :: pt q21 :: .int .i64 ((l.ds.getD i mb0).dv) :: .bool false :: .bool false :: .bool false :: iN .i64 i :: .bool true :: .bool true :: .pointer (some ⟨q1, 3, none⟩) :: .slice o l.ds.length c :: iN .i64 i :: iN .i64 (i - 1) :: .pointer (some (ma.add ((i - 1) * 3))) :: .pointer (some ((ma.add ((i - 1) * 3)).add 0)) :: .int .i64 ((l.ds.getD (i - 1) mb0).dv) :: pt q21 :: .int .i64 ((l.ds.getD i mb0).dv) :: .bool true :: .bool true :: .bool true :: .bool true :: un :: un :: un :: un :: .bool true :: .bool true :: un :: un :: un :: un :: .bool true :: List.replicate 0 un).toArray, []⟩ ∧ HA (bs w) [(q21, 67, mbC (l.ds.getD i mb0)), (q1, 25, liC l (.slice o l.ds.length c))] w') 36 ky ky ky ky ky ?_ ?_
         {have h71 := h25.drew
          refine zp 0 (.pointer (some ⟨q21, 0, none⟩)) (zx 1 (.int .i64 ((l.ds.getD i mb0).dv)) rfl (fun w' h' => run_load1 (fun w => Try.isAgg3 w) ky (((h'.get 0 rfl).cell 0).trans rfl)) (zq 2 (.bool false) rfl (fun _ => (run_ltZ (k := .i64) (a := (l.ds.getD i mb0).dv) (b := 0) ky ky false q26)) (zp 3 (.bool false) (zp 4 (.pointer (some ⟨q21, 0, none⟩)) (zx 5 (.int .i64 ((l.ds.getD i mb0).dv)) rfl (fun w' h' => run_load1 (fun w => Try.isAgg3 w) ky (((h'.get 0 rfl).cell 0).trans rfl)) (zq 6 (.bool false) rfl (fun _ => (run_geZ (k := .i64) (a := (l.ds.getD i mb0).dv) (b := 2) ky ky false q27)) (zp 7 (.bool false) (zp 8 (.bool false) (zp 9 (iN .i64 i) (zq 10 (.bool true) rfl (fun _ => (run_gtr (k := .i64) (a := i) (b := 0) ky ky true q28)) (zp 11 (.bool true) (zp 12 (.pointer (some ⟨q1, 3, none⟩)) (zx 13 (.slice o l.ds.length c) rfl (fun w' h' => run_load1 (fun w => Try.isAgg23 w) ky (((h'.get 1 rfl).cell 3).trans rfl)) (zp 14 (iN .i64 i) (zq 15 (iN .i64 (i - 1)) rfl (fun _ => (run_sub (k := .i64) (a := i) (b := 1) ky ky (by have := of_decide_eq_true q28; first | omega | (simp only [top]; omega)) (by have := of_decide_eq_true q28; first | omega | (simp only [top]; omega)))) (zq 16 (.pointer (some (ma.add ((i - 1) * 3)))) rfl (fun _ => (run_addr23 (a := ma) (n := l.ds.length) (m := c) (i := i - 1) hma ky ky (show i - 1 < l.ds.length by omega))) (zp 17 (.pointer (some ((ma.add ((i - 1) * 3)).add 0))) (zx 18 (.int .i64 ((l.ds.getD (i - 1) mb0).dv)) rfl (fun w' h' => (run_ldM (hAa.keep h'.old.old) (show i - 1 < l.ds.length by omega) ky)) (zp 19 (.pointer (some ⟨q21, 0, none⟩)) (zx 20 (.int .i64 ((l.ds.getD i mb0).dv)) rfl (fun w' h' => run_load1 (fun w => Try.isAgg3 w) ky (((h'.get 0 rfl).cell 0).trans rfl)) (zq 21 (.bool true) rfl (fun _ => (run_geZ (k := .i64) (a := (l.ds.getD (i - 1) mb0).dv) (b := (l.ds.getD i mb0).dv) ky ky true q49)) (zp 22 (.bool true) (zp 23 (.bool true) ?_)))))))))))))))))))))))
          refine zp 24 (.bool true) (zs 25 (zs 26 (zs 27 (zs 28 (zp 29 (.bool true) (zp 30 (.bool true) (zs 31 (zs 32 (zs 33 (zs 34 (zp 35 (.bool true) ?_)))))))))))
          refine wx_end fun w72 hbx _ => ?_
          have h73 := HA.keep _ _ h71 hbx
          exact ⟨by kernel_rfl, h73⟩}
         {rintro _ w74 ⟨rfl, h75⟩
          refine then_at rfl ?_
          refine wp_cond_true ky (wp_seq (wl_region (zv (.bool false) (wl_nil (then_at rfl (wp_ret ?_))))))
          repeat first|refine tr ?_|refine block_ret ?_
          have hu : wi l.u 0 2 = true := by rw [wi_dec]; exact decide_eq_true (by have h1 := of_decide_eq_false q4; have h2 := of_decide_eq_false q5; omega)
          have hv : wi l.v 1 1073741824 = true := by rw [wi_dec]; exact decide_eq_true (by have h1 := of_decide_eq_false q6; have h2 := of_decide_eq_false q7; omega)
          have hkk : [l.ac, l.sg].all kk = true := by simp only [List.all_cons, List.all_nil, Bool.and_true]; rw [q8, q13]; rfl
          have p76 := of_decide_eq_false q26
          have p77 := of_decide_eq_false q27
          have p78 := of_decide_eq_true q28
          have p79 := of_decide_eq_true q49
          have hah : ahK l.ds i = (l.ds.getD (i - 1) mb0).dv := by obtain ⟨j, rfl⟩ : ∃ j, i = j + 1 := ⟨i - 1, by omega⟩; rfl
          have ha : (wi (l.ds.getD i mb0).dv (ahK l.ds i + 1) 1 && [(l.ds.getD i mb0).sg, (l.ds.getD i mb0).dh].all kk) = false := by rw [show wi (l.ds.getD i mb0).dv (ahK l.ds i + 1) 1 = false from by rw [wi_dec]; exact decide_eq_false (by omega)]; rfl
          have hno : mayL l = false := by unfold mayL; rw [hu, hv, hkk, hr, hR, ha]; rfl
          exact bodyPost_ret (v := .bool false) ky rfl ⟨by rw [hno], h75.old.old⟩}}
        refine wp_region_wxh h25 (fun AQ w' => AQ = ⟨(.agg (liC l (.slice o l.ds.length c)) :: pt q1 :: u18 2 :: iN .i64 i :: pt q21 :: pt q1 :: .int .i64 l.u :: .bool false :: .bool false :: pt q1 :: .int .i64 l.u :: .bool false :: .bool false :: .bool false :: .pointer (some ⟨q1, 1, none⟩) :: .int .i64 l.v :: .bool false :: .bool false :: .bool false :: .pointer (some ⟨q1, 1, none⟩) :: .int .i64 l.v :: .bool false :: .bool false :: .bool false :: .pointer (some ⟨q1, 2, none⟩) :: .string l.ac :: .bool true :: .bool false :: .bool false :: .bool false :: .pointer (some ⟨q1, 4, none⟩) :: .string l.sg :: .bool true :: .bool false :: .bool false :: iN .i64 i :: .pointer (some ⟨q1, 3, none⟩) :: .slice o l.ds.length c :: iN .i64 l.ds.length :: .bool true :: u18 40 :: u18 41 :: .pointer (some ⟨q1, 3, none⟩) :: .slice o l.ds.length c :: iN .i64 i :: .pointer (some (ma.add (i * 3))) :: .agg (mbC (l.ds.getD i mb0)) :: pt q21 :: .int .i64 ((l.ds.getD i mb0).dv) :: .bool false :: .bool false :: pt q21 :: .int .i64 ((l.ds.getD i mb0).dv) :: .bool true :: .bool true :: .bool true :: un :: un :: un :: un :: un :: un :: un :: un :: un :: un :: un :: un :: un :: un :: .bool true :: .bool true :: un :: un :: un :: un :: .bool true :: .bool true :: un :: un :: un :: un :: .bool true :: List.replicate 0 un).toArray, []⟩ ∧ HA (bs w) [(q21, 67, mbC (l.ds.getD i mb0)), (q1, 25, liC l (.slice o l.ds.length c))] w') 36 ky ky ky ky ky ?_ ?_
        {have h80 := h25.drew
         refine zp 0 (.pointer (some ⟨q21, 0, none⟩)) (zx 1 (.int .i64 ((l.ds.getD i mb0).dv)) rfl (fun w' h' => run_load1 (fun w => Try.isAgg3 w) ky (((h'.get 0 rfl).cell 0).trans rfl)) (zq 2 (.bool false) rfl (fun _ => (run_ltZ (k := .i64) (a := (l.ds.getD i mb0).dv) (b := 0) ky ky false q26)) (zp 3 (.bool false) (zp 4 (.pointer (some ⟨q21, 0, none⟩)) (zx 5 (.int .i64 ((l.ds.getD i mb0).dv)) rfl (fun w' h' => run_load1 (fun w => Try.isAgg3 w) ky (((h'.get 0 rfl).cell 0).trans rfl)) (zq 6 (.bool true) rfl (fun _ => (run_geZ (k := .i64) (a := (l.ds.getD i mb0).dv) (b := 2) ky ky true q27)) (zp 7 (.bool true) (zp 8 (.bool true) (zs 9 (zs 10 (zs 11 (zs 12 (zs 13 (zs 14 (zs 15 (zs 16 (zs 17 (zs 18 (zs 19 (zs 20 (zs 21 (zs 22 (zp 23 (.bool true) ?_)))))))))))))))))))))))
         refine zp 24 (.bool true) (zs 25 (zs 26 (zs 27 (zs 28 (zp 29 (.bool true) (zp 30 (.bool true) (zs 31 (zs 32 (zs 33 (zs 34 (zp 35 (.bool true) ?_)))))))))))
         refine wx_end fun w81 hbx _ => ?_
         have h82 := HA.keep _ _ h80 hbx
         exact ⟨by kernel_rfl, h82⟩}
        {rintro _ w83 ⟨rfl, h84⟩
         refine then_at rfl ?_
         refine wp_cond_true ky (wp_seq (wl_region (zv (.bool false) (wl_nil (then_at rfl (wp_ret ?_))))))
         repeat first|refine tr ?_|refine block_ret ?_
         have hu : wi l.u 0 2 = true := by rw [wi_dec]; exact decide_eq_true (by have h1 := of_decide_eq_false q4; have h2 := of_decide_eq_false q5; omega)
         have hv : wi l.v 1 1073741824 = true := by rw [wi_dec]; exact decide_eq_true (by have h1 := of_decide_eq_false q6; have h2 := of_decide_eq_false q7; omega)
         have hkk : [l.ac, l.sg].all kk = true := by simp only [List.all_cons, List.all_nil, Bool.and_true]; rw [q8, q13]; rfl
         have p85 := of_decide_eq_false q26
         have p86 := of_decide_eq_true q27
         have ha : (wi (l.ds.getD i mb0).dv (ahK l.ds i + 1) 1 && [(l.ds.getD i mb0).sg, (l.ds.getD i mb0).dh].all kk) = false := by rw [show wi (l.ds.getD i mb0).dv (ahK l.ds i + 1) 1 = false from by rw [wi_dec]; exact decide_eq_false (by omega)]; rfl
         have hno : mayL l = false := by unfold mayL; rw [hu, hv, hkk, hr, hR, ha]; rfl
         exact bodyPost_ret (v := .bool false) ky rfl ⟨by rw [hno], h84.old.old⟩}}
       refine wp_region_wxh h25 (fun AQ w' => AQ = ⟨(.agg (liC l (.slice o l.ds.length c)) :: pt q1 :: u18 2 :: iN .i64 i :: pt q21 :: pt q1 :: .int .i64 l.u :: .bool false :: .bool false :: pt q1 :: .int .i64 l.u :: .bool false :: .bool false :: .bool false :: .pointer (some ⟨q1, 1, none⟩) :: .int .i64 l.v :: .bool false :: .bool false :: .bool false :: .pointer (some ⟨q1, 1, none⟩) :: .int .i64 l.v :: .bool false :: .bool false :: .bool false :: .pointer (some ⟨q1, 2, none⟩) :: .string l.ac :: .bool true :: .bool false :: .bool false :: .bool false :: .pointer (some ⟨q1, 4, none⟩) :: .string l.sg :: .bool true :: .bool false :: .bool false :: iN .i64 i :: .pointer (some ⟨q1, 3, none⟩) :: .slice o l.ds.length c :: iN .i64 l.ds.length :: .bool true :: u18 40 :: u18 41 :: .pointer (some ⟨q1, 3, none⟩) :: .slice o l.ds.length c :: iN .i64 i :: .pointer (some (ma.add (i * 3))) :: .agg (mbC (l.ds.getD i mb0)) :: pt q21 :: .int .i64 ((l.ds.getD i mb0).dv) :: .bool true :: .bool true :: un :: un :: un :: .bool true :: .bool true :: un :: un :: un :: un :: un :: un :: un :: un :: un :: un :: un :: un :: un :: un :: .bool true :: .bool true :: un :: un :: un :: un :: .bool true :: .bool true :: un :: un :: un :: un :: .bool true :: List.replicate 0 un).toArray, []⟩ ∧ HA (bs w) [(q21, 67, mbC (l.ds.getD i mb0)), (q1, 25, liC l (.slice o l.ds.length c))] w') 36 ky ky ky ky ky ?_ ?_
       {have h87 := h25.drew
        refine zp 0 (.pointer (some ⟨q21, 0, none⟩)) (zx 1 (.int .i64 ((l.ds.getD i mb0).dv)) rfl (fun w' h' => run_load1 (fun w => Try.isAgg3 w) ky (((h'.get 0 rfl).cell 0).trans rfl)) (zq 2 (.bool true) rfl (fun _ => (run_ltZ (k := .i64) (a := (l.ds.getD i mb0).dv) (b := 0) ky ky true q26)) (zp 3 (.bool true) (zs 4 (zs 5 (zs 6 (zp 7 (.bool true) (zp 8 (.bool true) (zs 9 (zs 10 (zs 11 (zs 12 (zs 13 (zs 14 (zs 15 (zs 16 (zs 17 (zs 18 (zs 19 (zs 20 (zs 21 (zs 22 (zp 23 (.bool true) ?_)))))))))))))))))))))))
        refine zp 24 (.bool true) (zs 25 (zs 26 (zs 27 (zs 28 (zp 29 (.bool true) (zp 30 (.bool true) (zs 31 (zs 32 (zs 33 (zs 34 (zp 35 (.bool true) ?_)))))))))))
        refine wx_end fun w88 hbx _ => ?_
        have h89 := HA.keep _ _ h87 hbx
        exact ⟨by kernel_rfl, h89⟩}
       {rintro _ w90 ⟨rfl, h91⟩
        refine then_at rfl ?_
        refine wp_cond_true ky (wp_seq (wl_region (zv (.bool false) (wl_nil (then_at rfl (wp_ret ?_))))))
        repeat first|refine tr ?_|refine block_ret ?_
        have hu : wi l.u 0 2 = true := by rw [wi_dec]; exact decide_eq_true (by have h1 := of_decide_eq_false q4; have h2 := of_decide_eq_false q5; omega)
        have hv : wi l.v 1 1073741824 = true := by rw [wi_dec]; exact decide_eq_true (by have h1 := of_decide_eq_false q6; have h2 := of_decide_eq_false q7; omega)
        have hkk : [l.ac, l.sg].all kk = true := by simp only [List.all_cons, List.all_nil, Bool.and_true]; rw [q8, q13]; rfl
        have p92 := of_decide_eq_true q26
        have ha : (wi (l.ds.getD i mb0).dv (ahK l.ds i + 1) 1 && [(l.ds.getD i mb0).sg, (l.ds.getD i mb0).dh].all kk) = false := by rw [show wi (l.ds.getD i mb0).dv (ahK l.ds i + 1) 1 = false from by rw [wi_dec]; exact decide_eq_false (by omega)]; rfl
        have hno : mayL l = false := by unfold mayL; rw [hu, hv, hkk, hr, hR, ha]; rfl
        exact bodyPost_ret (v := .bool false) ky rfl ⟨by rw [hno], h91.old.old⟩}}
      {rintro _ w93 ⟨u18, rfl, h94, ⟨hr, hk0, hk1, hk2⟩⟩
       refine wp_seq (wp_seq (wl_region (zv (iN .i64 l.ds.length) (zv (.pointer (some ⟨q1, 3, none⟩)) (zu (.slice o l.ds.length c) (run_load1 (fun w => Try.isAgg23 w) ky (((h94.get 0 rfl).cell 3).trans rfl)) (zv (iN .i64 l.ds.length) (zu (.bool false) (run_lss (k := .i64) (a := l.ds.length) (b := l.ds.length) ky ky false (decide_eq_false (by omega))) (wl_nil (then_at rfl (wp_cond_false ky ?_))))))))))
       refine wp_exit ?_
       repeat first | refine then_exit ?_ | refine block_exit ?_ | refine block_exit_ne (by decide) ?_
       refine then_at rfl (wp_seq (wl_region ?_))
       refine zv (.bool true) (wl_nil (then_at rfl (wp_ret ?_)))
       repeat first|refine tr ?_|refine block_ret ?_
       have hu : wi l.u 0 2 = true := by rw [wi_dec]; exact decide_eq_true (by have h1 := of_decide_eq_false q4; have h2 := of_decide_eq_false q5; omega)
       have hv : wi l.v 1 1073741824 = true := by rw [wi_dec]; exact decide_eq_true (by have h1 := of_decide_eq_false q6; have h2 := of_decide_eq_false q7; omega)
       have hkk : [l.ac, l.sg].all kk = true := by simp only [List.all_cons, List.all_nil, Bool.and_true]; rw [q8, q13]; rfl
       have hno : mayL l = true := by unfold mayL; rw [hu, hv, hkk, hr, List.drop_length]; rfl
       exact bodyPost_ret (v := .bool true) ky rfl ⟨by rw [hno], h94.old.old⟩}}
     refine zu (.bool true) (run_gtZ (k := .i64) (a := l.v) (b := 1073741824) ky ky true q7) (zv (.bool true) (zv (.bool true) (zk (zk (zk (zk (zv (.bool true) (zv (.bool true) (zk (zk (zk (zk (zv (.bool true) (wl_nil (then_at rfl (wp_cond_true ky (wp_seq (wl_region (zv (.bool false) (wl_nil (then_at rfl (wp_ret ?_))))))))))))))))))))))
     repeat first|refine tr ?_|refine block_ret ?_
     have p95 := of_decide_eq_false q4
     have p96 := of_decide_eq_false q5
     have p97 := of_decide_eq_false q6
     have p98 := of_decide_eq_true q7
     have hw : wi l.v 1 1073741824 = false := by rw [wi_dec]; exact decide_eq_false (by omega)
     have hno : mayL l = false := by unfold mayL; simp only [hw, Bool.and_false, Bool.false_and]
     exact bodyPost_ret (v := .bool false) ky rfl ⟨by rw [hno], h3.old.old⟩}
    refine zu (.bool true) (run_ltZ (k := .i64) (a := l.v) (b := 1) ky ky true q6) (zv (.bool true) (zv (.bool true) (zk (zk (zk (zv (.bool true) (zv (.bool true) (zk (zk (zk (zk (zv (.bool true) (zv (.bool true) (zk (zk (zk (zk (zv (.bool true) (wl_nil (then_at rfl (wp_cond_true ky (wp_seq (wl_region (zv (.bool false) (wl_nil (then_at rfl ?_))))))))))))))))))))))))))
    refine wp_ret ?_
    repeat first|refine tr ?_|refine block_ret ?_
    have p99 := of_decide_eq_false q4
    have p100 := of_decide_eq_false q5
    have p101 := of_decide_eq_true q6
    have hw : wi l.v 1 1073741824 = false := by rw [wi_dec]; exact decide_eq_false (by omega)
    have hno : mayL l = false := by unfold mayL; simp only [hw, Bool.and_false, Bool.false_and]
    exact bodyPost_ret (v := .bool false) ky rfl ⟨by rw [hno], h3.old.old⟩}
   refine zu (.bool true) (run_geZ (k := .i64) (a := l.u) (b := 3) ky ky true q5) (zv (.bool true) (zv (.bool true) (zk (zk (zk (zv (.bool true) (zv (.bool true) (zk (zk (zk (zv (.bool true) (zv (.bool true) (zk (zk (zk (zk (zv (.bool true) (zv (.bool true) (zk (zk (zk (zk (zv (.bool true) ?_)))))))))))))))))))))))
   refine wl_nil (then_at rfl (wp_cond_true ky (wp_seq (wl_region (zv (.bool false) (wl_nil (then_at rfl (wp_ret ?_))))))))
   repeat first|refine tr ?_|refine block_ret ?_
   have p102 := of_decide_eq_false q4
   have p103 := of_decide_eq_true q5
   have hw : wi l.u 0 2 = false := by rw [wi_dec]; exact decide_eq_false (by omega)
   have hno : mayL l = false := by unfold mayL; simp only [hw, Bool.and_false, Bool.false_and]
   exact bodyPost_ret (v := .bool false) ky rfl ⟨by rw [hno], h3.old.old⟩}
  refine zu (.bool true) (run_ltZ (k := .i64) (a := l.u) (b := 0) ky ky true q4) (zv (.bool true) (zk (zk (zk (zv (.bool true) (zv (.bool true) (zk (zk (zk (zv (.bool true) (zv (.bool true) (zk (zk (zk (zv (.bool true) (zv (.bool true) (zk (zk (zk (zk (zv (.bool true) (zv (.bool true) (zk ?_)))))))))))))))))))))))
  refine zk (zk (zk (zv (.bool true) (wl_nil (then_at rfl (wp_cond_true ky (wp_seq (wl_region (zv (.bool false) (wl_nil (then_at rfl (wp_ret ?_))))))))))))
  repeat first|refine tr ?_|refine block_ret ?_
  have p104 := of_decide_eq_true q4
  have hw : wi l.u 0 2 = false := by rw [wi_dec]; exact decide_eq_false (by omega)
  have hno : mayL l = false := by unfold mayL; simp only [hw, Bool.and_false, Bool.false_and]
  exact bodyPost_ret (v := .bool false) ky rfl ⟨by rw [hno], h3.old.old⟩
end Go.Proofs.Ytiogegoepgkjlaa
