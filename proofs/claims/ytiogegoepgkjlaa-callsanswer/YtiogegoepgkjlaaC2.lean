/-
  CheckList, Equal, SameList, listBytes.
-/
import Derived.Test.YtiogegoepgkjlaaC1
set_option maxRecDepth 100000
set_option linter.unusedVariables false
namespace Go.Proofs.Ytiogegoepgkjlaa
open Go.RowKit

/-- from a device on, rising -/
def rise : Int → List Mb → Bool
  | _, [] => true
  | k, m :: r => wi m.dv k 1 && [m.sg, m.dh].all kk && rise (m.dv + 1) r
/-- may a list be? -/
def mayL (l : Li) : Bool := wi l.u 0 2 && wi l.v 1 1073741824 && [l.ac, l.sg].all kk && rise 0 l.ds
def chkL (l : Li) : Nat := if mayL l then 0 else 2
theorem rise_at {k : Int} {ds : List Mb} {i : Nat} {m : Mb} (h : ds[i]? = some m) : rise k (ds.drop i) = (wi m.dv k 1 && [m.sg, m.dh].all kk && rise (m.dv + 1) (ds.drop (i + 1))) := by
  have hi := (List.getElem?_eq_some_iff.1 h).1
  rw [List.drop_eq_getElem_cons hi]
  rw [(List.getElem?_eq_some_iff.1 h).2]
  rfl
/-- the device ahead -/
def ahK (ds : List Mb) : Nat → Int
  | 0 => -1
  | i + 1 => (ds.getD i mb0).dv
theorem rise_len : ∀ (ds : List Mb) (k : Int), 0 ≤ k → rise k ds = true → ds.length = 0 ∨ (ds.length : Int) ≤ 2 - k
  | [], _, _, _ => .inl rfl
  | m :: r, k, h0, h => by
    right
    unfold rise at h
    simp only [Bool.and_eq_true] at h
    have h1 := wi_le h.1.1
    rcases rise_len r (m.dv + 1) (by omega) h.2 with e | e
    · simp only [List.length_cons]; omega
    · simp only [List.length_cons]; omega
theorem kk_le {s : ByteArray} (h : kk s = true) : 1 ≤ s.size ∧ s.size ≤ 1000 := by
  have := wi_le (show wi s.size 1 1000 = true from h)
  omega
theorem rise_mem : ∀ (ds : List Mb) (k : Int), 0 ≤ k → rise k ds = true → ∀ m ∈ ds, 0 ≤ m.dv ∧ m.dv ≤ 1 ∧ 1 ≤ m.sg.size ∧ m.sg.size ≤ 1000 ∧ 1 ≤ m.dh.size ∧ m.dh.size ≤ 1000
  | [], _, _, _, m, hm => by cases hm
  | x :: r, k, h0, h, m, hm => by
    unfold rise at h
    simp only [Bool.and_eq_true] at h
    have h1 := wi_le h.1.1
    rcases List.mem_cons.1 hm with rfl | hm
    · have h2 := h.1.2
      simp only [List.all_cons, List.all_nil, Bool.and_true, Bool.and_eq_true] at h2
      have h3 := kk_le h2.1; have h4 := kk_le h2.2
      exact ⟨by omega, by omega, h3.1, h3.2, h4.1, h4.2⟩
    · exact rise_mem r (x.dv + 1) (by omega) h.2 m hm
/-- what is so of a list that may be -/
structure MayL (l : Li) : Prop where
  u0 : 0 ≤ l.u
  u1 : l.u ≤ 2
  v0 : 1 ≤ l.v
  v1 : l.v ≤ 1073741824
  ac1 : 1 ≤ l.ac.size
  ac : l.ac.size ≤ 1000
  sg1 : 1 ≤ l.sg.size
  sg : l.sg.size ≤ 1000
  dl : l.ds.length ≤ 2
  dm : ∀ m ∈ l.ds, 0 ≤ m.dv ∧ m.dv ≤ 1 ∧ 1 ≤ m.sg.size ∧ m.sg.size ≤ 1000 ∧ 1 ≤ m.dh.size ∧ m.dh.size ≤ 1000
theorem mayL_iff {l : Li} (h : mayL l = true) : MayL l := by
  unfold mayL at h
  simp only [Bool.and_eq_true, List.all_cons, List.all_nil, Bool.and_true] at h
  obtain ⟨⟨⟨h1, h2⟩, h3, h4⟩, h5⟩ := h
  have a1 := wi_le h1; have a2 := wi_le h2; have a3 := kk_le h3; have a4 := kk_le h4
  have a5 := rise_len _ 0 (by omega) h5
  exact ⟨by omega, by omega, by omega, by omega, a3.1, a3.2, a4.1, a4.2, by omega, fun m hm => rise_mem _ 0 (by omega) h5 m hm⟩
theorem MayL.at {l : Li} (h : MayL l) {i : Nat} (hi : i < l.ds.length) : 0 ≤ (l.ds.getD i mb0).dv ∧ (l.ds.getD i mb0).dv ≤ 1 ∧ 1 ≤ (l.ds.getD i mb0).sg.size ∧ (l.ds.getD i mb0).sg.size ≤ 1000 ∧ 1 ≤ (l.ds.getD i mb0).dh.size ∧ (l.ds.getD i mb0).dh.size ≤ 1000 :=
  h.dm _ (List.mem_of_getElem? (gd_at mb0 hi))
def hdL (l : Li) : ByteArray := (nbT 1 l.u.toNat ++ nbT 4 l.v.toNat) ++ layT [l.ac] 1
def dvT (m : Mb) : ByteArray := nbT 1 m.dv.toNat ++ layT [m.sg, m.dh] 2
def txS (b : ByteArray) (ds : List Mb) : Nat → ByteArray
  | 0 => b
  | k + 1 => txS b ds k ++ dvT (ds.getD k mb0)
/-- a list's bytes -/
def lisB (l : Li) : ByteArray := txS (hdL l ++ nbT 1 l.ds.length) l.ds l.ds.length ++ layT [l.sg] 1
theorem hdL_size {l : Li} (h : MayL l) : (hdL l).size ≤ 1009 := by
  unfold hdL
  have h3 := lay1_le h.ac
  simp only [ByteArray.size_append, nbT_size (k := 1) (by decide) (by decide), nbT_size (k := 4) (by decide) (by decide)]
  omega
theorem dvT_size {m : Mb} (h1 : m.sg.size ≤ 1000) (h2 : m.dh.size ≤ 1000) : (dvT m).size ≤ 2009 := by
  unfold dvT
  have h3 := lay2_le h1 h2
  simp only [ByteArray.size_append, nbT_size (k := 1) (by decide) (by decide)]
  omega
theorem txS_size {l : Li} (h : MayL l) : ∀ k, k ≤ l.ds.length → (txS (hdL l ++ nbT 1 l.ds.length) l.ds k).size ≤ 1010 + k * 2009
  | 0, _ => by
    have := hdL_size h
    simp only [txS, ByteArray.size_append, nbT_size (k := 1) (by decide) (by decide)]
    omega
  | k + 1, hk => by
    have h1 := txS_size h k (by omega)
    have h2 := h.at (i := k) (by omega)
    have h3 := dvT_size h2.2.2.2.1 h2.2.2.2.2.2
    simp only [txS, ByteArray.size_append]
    omega
theorem lisB_size {l : Li} (h : MayL l) : (lisB l).size ≤ 6032 := by
  have h1 := txS_size h l.ds.length (Nat.le_refl _)
  have h2 := h.dl
  have h3 := lay1_le h.sg
  unfold lisB
  rw [ByteArray.size_append]
  omega
def lbA (l : Li) : ByteArray := if mayL l then lisB l else { data := #[] }
def sameL (a b : Li) : Bool := decide (a.u = b.u) && decide (a.v = b.v) && decide (a.ac = b.ac) && decide (a.ds = b.ds) && decide (a.sg = b.sg)
theorem sameL_eq (a b : Li) : sameL a b = decide (a = b) := by
  obtain ⟨a1, a2, a3, a4, a5⟩ := a
  obtain ⟨b1, b2, b3, b4, b5⟩ := b
  rw [Bool.eq_iff_iff]
  simp [sameL, and_assoc]
theorem eq_nol {α : Type} [DecidableEq α] {xs ys : List α} (h : decide (xs.length = ys.length) = false) : decide (xs = ys) = false := decide_eq_false fun e => of_decide_eq_false h (by rw [e])
theorem eq_noa {α : Type} [DecidableEq α] {xs ys : List α} {i : Nat} {d : α} (h : decide (xs.getD i d = ys.getD i d) = false) : decide (xs = ys) = false := decide_eq_false fun e => of_decide_eq_false h (by rw [e])
theorem eq_all {α : Type} [DecidableEq α] {xs ys : List α} (d : α) (h : decide (xs.length = ys.length) = true) (ha : ∀ j, j < xs.length → xs.getD j d = ys.getD j d) : decide (xs = ys) = true := decide_eq_true (by
  refine List.ext_getElem (of_decide_eq_true h) fun i h1 h2 => ?_
  have := ha i h1
  rwa [List.getD_eq_getElem?_getD, List.getD_eq_getElem?_getD, List.getElem?_eq_getElem h1, List.getElem?_eq_getElem h2] at this)
set_option maxHeartbeats 2000000 in
theorem chk_any {w : World} (l : Li) {o : Option Addr} {c : Nat} (hP : At w o (mcl l.ds)) :
    Calls Try.prog 14 #[.agg (liC l (.slice o l.ds.length c))] w fun e w' => e = .returned (iN .i64 (chkL l)) ∧ Below w.heap.size w w' := by
  have H0 := HA.start w
  go_enter Try.func14, Try.ntmps14
  refine wp_seq (wl_region (wl_make (c := liC l (.slice o l.ds.length c)) H0 25 ky ky ?_))
  intro q1 w2 (h3 : HA (bs w) [(q1, 25, liC l (.slice o l.ds.length c))] w2)
  refine zv (iN .i64 0) (wl_nil (then_at rfl (wp_seq (wp_seq (wl_region (zv (.pointer (some ⟨q1, 0, none⟩)) (zu (.int .i64 l.u) (run_load1 (fun w => Try.isAgg3 w) ky (((h3.get 0 rfl).cell 0).trans rfl)) ?_)))))))
  rcases q4 : wi l.u 0 2 with _ | _
  {refine zl (.bool false) h3 enter42 _ (((wi_any l.u 0 2).mono fun _ _ hh => ⟨by rw [hh.1, q4], hh.2⟩)) (fun w5 h6 => (zv (.bool true) (zv (.bool true) (zk (zk (zk (zk (zv (.bool true) (zv (.bool true) (zk (zk (zk (zk (zk (zk (zk (zv (.bool true) (wl_nil (then_at rfl (wp_cond_true ky (wp_seq (wl_region (zv (iN .i64 2) (wl_nil (then_at rfl (wp_ret ?_))))))))))))))))))))))))))
   repeat first|refine tr ?_|refine block_ret ?_
   exact bodyPost_ret (v := iN .i64 2) ky rfl ⟨by rw [show chkL l = 2 from by unfold chkL mayL; rw [q4]; rfl], h6.old.old⟩}
  refine zl (.bool true) h3 enter42 _ (((wi_any l.u 0 2).mono fun _ _ hh => ⟨by rw [hh.1, q4], hh.2⟩)) (fun w7 h8 => (zv (.bool false) (zv (.bool false) (zv (.pointer (some ⟨q1, 1, none⟩)) (zu (.int .i64 l.v) (run_load1 (fun w => Try.isAgg3 w) ky (((h8.get 0 rfl).cell 1).trans rfl)) ?_)))))
  rcases q9 : wi l.v 1 1073741824 with _ | _
  {refine zl (.bool false) h8 enter42 _ (((wi_any l.v 1 1073741824).mono fun _ _ hh => ⟨by rw [hh.1, q9], hh.2⟩)) (fun w10 h11 => (zv (.bool true) (zv (.bool true) (zv (.bool true) (zk (zk (zk (zk (zk (zk (zk (zv (.bool true) (wl_nil (then_at rfl (wp_cond_true ky (wp_seq (wl_region (zv (iN .i64 2) (wl_nil (then_at rfl (wp_ret ?_)))))))))))))))))))))
   repeat first|refine tr ?_|refine block_ret ?_
   exact bodyPost_ret (v := iN .i64 2) ky rfl ⟨by rw [show chkL l = 2 from by unfold chkL mayL; rw [q4, q9]; rfl], h11.old.old⟩}
  refine zl (.bool true) h8 enter42 _ (((wi_any l.v 1 1073741824).mono fun _ _ hh => ⟨by rw [hh.1, q9], hh.2⟩)) (fun w12 h13 => (zv (.bool false) (zv (.bool false) (zv (.bool false) (zv (.pointer (some ⟨q1, 2, none⟩)) (zu (.string l.ac) (run_load1 (fun w => Try.isAgg9 w) ky (((h13.get 0 rfl).cell 2).trans rfl)) (zv (.pointer (some ⟨q1, 4, none⟩)) (zu (.string l.sg) (run_load1 (fun w => Try.isAgg9 w) ky (((h13.get 0 rfl).cell 4).trans rfl)) (wl_mks (n := 2) (m := 2) (c := #[.string l.ac, .string l.sg]) h13 9 ky ky ?_)))))))))
  intro q14 w15 (h16 : HA (bs w) [(q14, 9, #[.string l.ac, .string l.sg]), (q1, 25, liC l (.slice o l.ds.length c))] w15)
  rcases q17 : [l.ac, l.sg].all kk with _ | _
  {refine zl (.bool false) h16 enter43 #[.slice (some ⟨q14, 0, none⟩) 2 2] (((areK_any [l.ac, l.sg] (own_tx h16 0 [l.ac, l.sg] rfl) (by simp)).mono fun _ _ hh => ⟨by rw [hh.1, q17], hh.2⟩)) (fun w18 h19 => (zv (.bool true) (zv (.bool true) (wl_nil (then_at rfl (wp_cond_true ky (wp_seq (wl_region (zv (iN .i64 2) (wl_nil (then_at rfl (wp_ret ?_))))))))))))
   repeat first|refine tr ?_|refine block_ret ?_
   exact bodyPost_ret (v := iN .i64 2) ky rfl ⟨by rw [show chkL l = 2 from by unfold chkL mayL; rw [q4, q9, q17]; rfl], h19.old.old⟩}
  refine zl (.bool true) h16 enter43 #[.slice (some ⟨q14, 0, none⟩) 2 2] (((areK_any [l.ac, l.sg] (own_tx h16 0 [l.ac, l.sg] rfl) (by simp)).mono fun _ _ hh => ⟨by rw [hh.1, q17], hh.2⟩)) (fun w20 h21 => (zv (.bool false) (zv (.bool false) (wl_nil (then_at rfl (wp_cond_false ky (wp_skip (then_at rfl (wp_seq (wl_region (zv (.int .i64 (-1)) (wl_nil (then_at rfl (wp_seq (wp_seq (wl_region (zv (.pointer (some ⟨q1, 3, none⟩)) (zu (.slice o l.ds.length c) (run_load1 (fun w => Try.isAgg23 w) ky (((h21.get 1 rfl).cell 3).trans rfl)) (zv (iN .i64 l.ds.length) (zv (iN .i64 0) (wl_nil (then_at rfl (wp_block ?_)))))))))))))))))))))))
  refine wp_count (fun i A w' => ∃ u22 : Nat → Value, A = ⟨(.agg (liC l (.slice o l.ds.length c)) :: pt q1 :: u22 2 :: .int .i64 (ahK l.ds i) :: un :: u22 5 :: pt q1 :: .int .i64 l.u :: .bool true :: .bool false :: .bool false :: .pointer (some ⟨q1, 1, none⟩) :: .int .i64 l.v :: .bool true :: .bool false :: .bool false :: .bool false :: .pointer (some ⟨q1, 2, none⟩) :: .string l.ac :: .pointer (some ⟨q1, 4, none⟩) :: .string l.sg :: .slice (some ⟨q14, 0, none⟩) 2 2 :: .bool true :: .bool false :: .bool false :: .pointer (some ⟨q1, 3, none⟩) :: .slice o l.ds.length c :: iN .i64 l.ds.length :: iN .i64 i :: u22 29 :: u22 30 :: u22 31 :: u22 32 :: u22 33 :: u22 34 :: u22 35 :: u22 36 :: u22 37 :: u22 38 :: u22 39 :: u22 40 :: u22 41 :: u22 42 :: u22 43 :: u22 44 :: u22 45 :: u22 46 :: u22 47 :: u22 48 :: u22 49 :: List.replicate 0 un).toArray, []⟩ ∧ HA (bs w) [(q14, 9, #[.string l.ac, .string l.sg]), (q1, 25, liC l (.slice o l.ds.length c))] w' ∧ (rise 0 l.ds = rise (ahK l.ds i + 1) (l.ds.drop i) ∧ -1 ≤ ahK l.ds i ∧ ahK l.ds i ≤ 1 ∧ ((i : Nat) : Int) ≤ ahK l.ds i + 1)) l.ds.length ?_ ?_ ?_
  {exact exu ky ⟨h21, ⟨rfl, by show (-1 : Int) ≤ -1; decide, by show (-1 : Int) ≤ 1; decide, by show (0 : Int) ≤ -1 + 1; decide⟩⟩}
  {rintro i hk _ w23 ⟨u22, rfl, h24, ⟨hr, hk0, hk1, hk2⟩⟩
   obtain ⟨ma, hma, hAa⟩ := hP.ex (by rw [mcl_len]; omega)
   have hR := rise_at (k := ahK l.ds i + 1) (gd_at mb0 hk)
   refine wp_seq (wl_region (zu (.bool true) (run_lss (k := .i64) (a := i) (b := l.ds.length) ky ky true (decide_eq_true (by omega))) (wl_nil (then_at rfl (wp_seq (wp_cond_true ky (wp_skip (then_at rfl (wp_seq (wp_block (wp_seq (wl_region (zu (.pointer (some (ma.add (i * 3)))) (run_addr23 (a := ma) (n := l.ds.length) (m := c) (i := i) hma ky ky hk) ?_)))))))))))))
   refine wl_val (.agg (mbC (l.ds.getD i mb0))) ky ((run_ld23 (hAa.keep h24.old.old) hk ky)) ?_
   refine wl_make (c := #[iN .i64 0, .string ({ data := #[] }), .string ({ data := #[] })]) h24 67 ky ky ?_
   intro q25 w26 (h27 : HA (bs w) [(q25, 67, #[iN .i64 0, .string ({ data := #[] }), .string ({ data := #[] })]), (q14, 9, #[.string l.ac, .string l.sg]), (q1, 25, liC l (.slice o l.ds.length c))] w26)
   refine wl_fill (c' := mbC (l.ds.getD i mb0)) h27 0 rfl ky ky ky rfl ky ky (fun w28 h29 => (wl_nil (then_at rfl (wp_seq (wp_seq (wl_region (zv (.pointer (some ⟨q25, 0, none⟩)) (zu (.int .i64 ((l.ds.getD i mb0).dv)) (run_load1 (fun w => Try.isAgg3 w) ky (((h29.get 0 rfl).cell 0).trans rfl)) (zv (.int .i64 (ahK l.ds i)) (zu (.int .i64 ((ahK l.ds i) + 1)) (run_addZ (a := ahK l.ds i) (b := 1) ky ky (by omega)) ?_))))))))))
   rcases q30 : wi ((l.ds.getD i mb0).dv) ((ahK l.ds i) + 1) 1 with _ | _
   {refine zl (.bool false) h29 enter42 _ (((wi_any ((l.ds.getD i mb0).dv) ((ahK l.ds i) + 1) 1).mono fun _ _ hh => ⟨by rw [hh.1, q30], hh.2⟩)) (fun w31 h32 => (zv (.bool true) (zv (.bool true) (zk (zk (zk (zk (zk (zk (zk (zv (.bool true) (wl_nil (then_at rfl (wp_cond_true ky (wp_seq (wl_region (zv (iN .i64 2) (wl_nil (then_at rfl (wp_ret ?_))))))))))))))))))))
    repeat first|refine tr ?_|refine block_ret ?_
    exact bodyPost_ret (v := iN .i64 2) ky rfl ⟨by rw [show chkL l = 2 from by unfold chkL mayL; rw [q4, q9, q17, hr, hR, q30]; rfl], h32.old.old⟩}
   refine zl (.bool true) h29 enter42 _ (((wi_any ((l.ds.getD i mb0).dv) ((ahK l.ds i) + 1) 1).mono fun _ _ hh => ⟨by rw [hh.1, q30], hh.2⟩)) (fun w33 h34 => (zv (.bool false) (zv (.bool false) (zv (.pointer (some ⟨q25, 1, none⟩)) (zu (.string ((l.ds.getD i mb0).sg)) (run_load1 (fun w => Try.isAgg9 w) ky (((h34.get 0 rfl).cell 1).trans rfl)) (zv (.pointer (some ⟨q25, 2, none⟩)) (zu (.string ((l.ds.getD i mb0).dh)) (run_load1 (fun w => Try.isAgg9 w) ky (((h34.get 0 rfl).cell 2).trans rfl)) (wl_mks (n := 2) (m := 2) (c := #[.string ((l.ds.getD i mb0).sg), .string ((l.ds.getD i mb0).dh)]) h34 9 ky ky ?_))))))))
   intro q35 w36 (h37 : HA (bs w) [(q35, 9, #[.string ((l.ds.getD i mb0).sg), .string ((l.ds.getD i mb0).dh)]), (q25, 67, mbC (l.ds.getD i mb0)), (q14, 9, #[.string l.ac, .string l.sg]), (q1, 25, liC l (.slice o l.ds.length c))] w36)
   rcases q38 : [(l.ds.getD i mb0).sg, (l.ds.getD i mb0).dh].all kk with _ | _
   {refine zl (.bool false) h37 enter43 #[.slice (some ⟨q35, 0, none⟩) 2 2] (((areK_any [(l.ds.getD i mb0).sg, (l.ds.getD i mb0).dh] (own_tx h37 0 [(l.ds.getD i mb0).sg, (l.ds.getD i mb0).dh] rfl) (by simp)).mono fun _ _ hh => ⟨by rw [hh.1, q38], hh.2⟩)) (fun w39 h40 => (zv (.bool true) (zv (.bool true) (wl_nil (then_at rfl (wp_cond_true ky (wp_seq (wl_region (zv (iN .i64 2) (wl_nil (then_at rfl (wp_ret ?_))))))))))))
    repeat first|refine tr ?_|refine block_ret ?_
    exact bodyPost_ret (v := iN .i64 2) ky rfl ⟨by rw [show chkL l = 2 from by unfold chkL mayL; rw [q4, q9, q17, hr, hR, q30, q38]; rfl], h40.old.old⟩}
   refine zl (.bool true) h37 enter43 #[.slice (some ⟨q35, 0, none⟩) 2 2] (((areK_any [(l.ds.getD i mb0).sg, (l.ds.getD i mb0).dh] (own_tx h37 0 [(l.ds.getD i mb0).sg, (l.ds.getD i mb0).dh] rfl) (by simp)).mono fun _ _ hh => ⟨by rw [hh.1, q38], hh.2⟩)) (fun w41 h42 => (zv (.bool false) (zv (.bool false) (wl_nil (then_at rfl (wp_cond_false ky (wp_skip (then_at rfl (wl_region (zv (.pointer (some ⟨q25, 0, none⟩)) (zu (.int .i64 ((l.ds.getD i mb0).dv)) (run_load1 (fun w => Try.isAgg3 w) ky (((h42.get 1 rfl).cell 0).trans rfl)) (zv (.int .i64 ((l.ds.getD i mb0).dv)) (wl_nil (block_normal (then_at rfl (wl_region (zu (iN .i64 (i + 1)) (run_add (k := .i64) (a := i) (b := 1) ky ky (by first | omega | (simp only [top]; omega))) (zv (iN .i64 (i + 1)) (wl_nil ?_)))))))))))))))))))
   exact then_I (exu ky ⟨(HA.sub h42 (List.Sublist.cons _ (List.Sublist.cons _ (List.Sublist.cons_cons _ (List.Sublist.cons_cons _ (List.Sublist.slnil)))))), ⟨by rw [hr, hR, q30, q38]; rfl, by have h9 := wi_le q30; show (-1 : Int) ≤ (l.ds.getD i mb0).dv; omega, by have h9 := wi_le q30; show (l.ds.getD i mb0).dv ≤ 1; omega, by have h9 := wi_le q30; show ((i + 1 : Nat) : Int) ≤ (l.ds.getD i mb0).dv + 1; omega⟩⟩)}
  {rintro _ w43 ⟨u22, rfl, h44, ⟨hr, hk0, hk1, hk2⟩⟩
   refine wp_seq (wl_region (zu (.bool false) (run_lss (k := .i64) (a := l.ds.length) (b := l.ds.length) ky ky false (decide_eq_false (by omega))) (wl_nil (then_at rfl (wp_seq (wp_cond_false ky ?_))))))
   refine wp_exit ?_
   repeat first | refine then_exit ?_ | refine block_exit ?_ | refine block_exit_ne (by decide) ?_
   refine then_at rfl (wp_seq (wl_region ?_))
   refine zv (iN .i64 0) (wl_nil (then_at rfl (wp_ret ?_)))
   repeat first|refine tr ?_|refine block_ret ?_
   exact bodyPost_ret (v := iN .i64 0) ky rfl ⟨by rw [show chkL l = 0 from by unfold chkL mayL; rw [q4, q9, q17, hr, List.drop_length]; rfl], h44.old.old⟩}
set_option maxHeartbeats 2000000 in
theorem eqs_any {w : World} (xs ys : List ByteArray) {o o2 : Option Addr} {c c2 : Nat} (hP : At w o (scl xs)) (hP2 : At w o2 (scl ys)) (hl : xs.length ≤ 1000000) :
    Calls Try.prog 41 #[.slice o xs.length c, .slice o2 ys.length c2] w fun e w' => e = .returned (.bool (decide (xs = ys))) ∧ Below w.heap.size w w' := by
  have H0 := HA.start w
  go_enter Try.func41, Try.ntmps41
  refine wp_seq (wl_region (zv (.bool false) (wl_nil (then_at rfl (wp_seq (wp_seq (wl_region (zv (.slice o xs.length c) (zv (iN .i64 xs.length) (zv (.slice o2 ys.length c2) (zv (iN .i64 ys.length) ?_)))))))))))
  rcases q1 : decide (xs.length = ys.length) with _ | _
  {refine zu (.bool true) (run_neN (k := .i64) (a := xs.length) (b := ys.length) ky ky false q1) (wl_nil (then_at rfl (wp_cond_true ky (wp_seq (wl_region (zv (.bool false) (wl_nil (then_at rfl (wp_ret ?_)))))))))
   repeat first|refine tr ?_|refine block_ret ?_
   exact bodyPost_ret (v := .bool false) ky rfl ⟨by rw [eq_nol q1], H0.old.old⟩}
  refine zu (.bool false) (run_neN (k := .i64) (a := xs.length) (b := ys.length) ky ky true q1) (wl_nil (then_at rfl (wp_cond_false ky (wp_skip (then_at rfl (wp_seq (wp_seq (wl_region (zv (.slice o xs.length c) (zv (iN .i64 xs.length) (zv (iN .i64 0) (wl_nil (then_at rfl (wp_block ?_))))))))))))))
  refine wp_count (fun i A w' => ∃ u2 : Nat → Value, A = ⟨(.slice o xs.length c :: .slice o2 ys.length c2 :: un :: un :: u2 4 :: u2 5 :: .slice o xs.length c :: iN .i64 xs.length :: .slice o2 ys.length c2 :: iN .i64 ys.length :: .bool false :: .slice o xs.length c :: iN .i64 xs.length :: iN .i64 i :: u2 14 :: u2 15 :: u2 16 :: u2 17 :: u2 18 :: u2 19 :: u2 20 :: u2 21 :: u2 22 :: u2 23 :: u2 24 :: u2 25 :: List.replicate 0 un).toArray, []⟩ ∧ HA (bs w) [] w' ∧ (∀ j, j < i → xs.getD j ByteArray.empty = ys.getD j ByteArray.empty)) xs.length ?_ ?_ ?_
  {exact exu ky ⟨H0, fun j h => absurd h (Nat.not_lt_zero j)⟩}
  {rintro i hk _ w3 ⟨u2, rfl, h4, hall⟩
   have hk2 : i < ys.length := by have := of_decide_eq_true q1; omega
   obtain ⟨ma, hma, hAa⟩ := hP.ex (by rw [scl_len]; omega)
   obtain ⟨mb, hmb, hAb⟩ := hP2.ex (by rw [scl_len]; omega)
   refine wp_seq (wl_region (zu (.bool true) (run_lss (k := .i64) (a := i) (b := xs.length) ky ky true (decide_eq_true (by omega))) (wl_nil (then_at rfl (wp_seq (wp_cond_true ky (wp_skip (then_at rfl (wp_seq (wp_block (wp_seq (wl_region (zv (iN .i64 i) (zv (iN .i64 i) (wl_nil (then_at rfl (wp_seq ?_)))))))))))))))))
   rcases q5 : decide (xs.getD i ByteArray.empty = ys.getD i ByteArray.empty) with _ | _
   {refine wp_region_wx (HA (bs w) []) (fun AQ w' => AQ = ⟨(.slice o xs.length c :: .slice o2 ys.length c2 :: un :: un :: u2 4 :: iN .i64 i :: .slice o xs.length c :: iN .i64 xs.length :: .slice o2 ys.length c2 :: iN .i64 ys.length :: .bool false :: .slice o xs.length c :: iN .i64 xs.length :: iN .i64 i :: .bool true :: iN .i64 i :: .slice o xs.length c :: iN .i64 i :: .pointer (some (ma.add (i * 1))) :: .string (xs.getD i ByteArray.empty) :: .slice o2 ys.length c2 :: iN .i64 i :: .pointer (some (mb.add (i * 1))) :: .string (ys.getD i ByteArray.empty) :: .bool true :: u2 25 :: List.replicate 0 un).toArray, []⟩ ∧ HA (bs w) [] w') 9 ky ky ky ky ky (h4.drew) ?_ ?_
    {have h6 := h4.drew
     refine zp 0 (.slice o xs.length c) (zp 1 (iN .i64 i) (zq 2 (.pointer (some (ma.add (i * 1)))) rfl (fun _ => (run_addr28 (a := ma) (n := xs.length) (m := c) (i := i) hma ky ky hk)) (zx 3 (.string (xs.getD i ByteArray.empty)) rfl (fun w' h' => (run_ld28 (hAa.keep h'.old.old) hk ky)) (zp 4 (.slice o2 ys.length c2) (zp 5 (iN .i64 i) (zq 6 (.pointer (some (mb.add (i * 1)))) rfl (fun _ => (run_addr28 (a := mb) (n := ys.length) (m := c2) (i := i) hmb ky ky hk2)) (zx 7 (.string (ys.getD i ByteArray.empty)) rfl (fun w' h' => (run_ld28 (hAb.keep h'.old.old) hk2 ky)) (zq 8 (.bool true) rfl (fun _ => (run_nes (s := xs.getD i ByteArray.empty) (t := ys.getD i ByteArray.empty) ky ky true ((q5).trans rfl))) ?_))))))))
     refine wx_end fun w7 hbx _ => ?_
     have h8 := HA.keep _ _ h6 hbx
     exact ⟨by kernel_rfl, h8⟩}
    {rintro _ w9 ⟨rfl, h10⟩
     refine then_at rfl ?_
     refine wp_cond_true ky (wp_seq (wl_region (zv (.bool false) (wl_nil (then_at rfl (wp_ret ?_))))))
     repeat first|refine tr ?_|refine block_ret ?_
     exact bodyPost_ret (v := .bool false) ky rfl ⟨by rw [eq_noa (d := ByteArray.empty) q5], h10.old.old⟩}}
   refine wp_region_wxh h4 (fun AQ w' => AQ = ⟨(.slice o xs.length c :: .slice o2 ys.length c2 :: un :: un :: u2 4 :: iN .i64 i :: .slice o xs.length c :: iN .i64 xs.length :: .slice o2 ys.length c2 :: iN .i64 ys.length :: .bool false :: .slice o xs.length c :: iN .i64 xs.length :: iN .i64 i :: .bool true :: iN .i64 i :: .slice o xs.length c :: iN .i64 i :: .pointer (some (ma.add (i * 1))) :: .string (xs.getD i ByteArray.empty) :: .slice o2 ys.length c2 :: iN .i64 i :: .pointer (some (mb.add (i * 1))) :: .string (ys.getD i ByteArray.empty) :: .bool false :: u2 25 :: List.replicate 0 un).toArray, []⟩ ∧ HA (bs w) [] w') 9 ky ky ky ky ky ?_ ?_
   {have h11 := h4.drew
    refine zp 0 (.slice o xs.length c) (zp 1 (iN .i64 i) (zq 2 (.pointer (some (ma.add (i * 1)))) rfl (fun _ => (run_addr28 (a := ma) (n := xs.length) (m := c) (i := i) hma ky ky hk)) (zx 3 (.string (xs.getD i ByteArray.empty)) rfl (fun w' h' => (run_ld28 (hAa.keep h'.old.old) hk ky)) (zp 4 (.slice o2 ys.length c2) (zp 5 (iN .i64 i) (zq 6 (.pointer (some (mb.add (i * 1)))) rfl (fun _ => (run_addr28 (a := mb) (n := ys.length) (m := c2) (i := i) hmb ky ky hk2)) (zx 7 (.string (ys.getD i ByteArray.empty)) rfl (fun w' h' => (run_ld28 (hAb.keep h'.old.old) hk2 ky)) (zq 8 (.bool false) rfl (fun _ => (run_nes (s := xs.getD i ByteArray.empty) (t := ys.getD i ByteArray.empty) ky ky false ((q5).trans rfl))) ?_))))))))
    refine wx_end fun w12 hbx _ => ?_
    have h13 := HA.keep _ _ h11 hbx
    exact ⟨by kernel_rfl, h13⟩}
   {rintro _ w14 ⟨rfl, h15⟩
    refine then_at rfl ?_
    refine wp_cond_false ky (wp_skip (block_normal (then_at rfl (wl_region (zu (iN .i64 (i + 1)) (run_add (k := .i64) (a := i) (b := 1) ky ky (by first | omega | (simp only [top]; omega))) (zv (iN .i64 (i + 1)) (wl_nil ?_)))))))
    exact then_I (exu ky ⟨h15, fun j hj => (Nat.lt_succ_iff_lt_or_eq.1 hj).elim (hall j) (fun e => by rw [e]; exact of_decide_eq_true q5)⟩)}}
  {rintro _ w16 ⟨u2, rfl, h17, hall⟩
   refine wp_seq (wl_region (zu (.bool false) (run_lss (k := .i64) (a := xs.length) (b := xs.length) ky ky false (decide_eq_false (by omega))) (wl_nil (then_at rfl (wp_seq (wp_cond_false ky ?_))))))
   refine wp_exit ?_
   repeat first | refine then_exit ?_ | refine block_exit ?_ | refine block_exit_ne (by decide) ?_
   refine then_at rfl (wp_seq (wl_region ?_))
   refine zv (.bool true) (wl_nil (then_at rfl (wp_ret ?_)))
   repeat first|refine tr ?_|refine block_ret ?_
   exact bodyPost_ret (v := .bool true) ky rfl ⟨by rw [eq_all ByteArray.empty q1 hall], h17.old.old⟩}
set_option maxHeartbeats 2000000 in
theorem eqm_any {w : World} (xs ys : List Mb) {o o2 : Option Addr} {c c2 : Nat} (hP : At w o (mcl xs)) (hP2 : At w o2 (mcl ys)) (hl : xs.length ≤ 1000000) :
    Calls Try.prog 45 #[.slice o xs.length c, .slice o2 ys.length c2] w fun e w' => e = .returned (.bool (decide (xs = ys))) ∧ Below w.heap.size w w' := by
  have H0 := HA.start w
  go_enter Try.func45, Try.ntmps45
  refine wp_seq (wl_region (zv (.bool false) (wl_nil (then_at rfl (wp_seq (wp_seq (wl_region (zv (.slice o xs.length c) (zv (iN .i64 xs.length) (zv (.slice o2 ys.length c2) (zv (iN .i64 ys.length) ?_)))))))))))
  rcases q1 : decide (xs.length = ys.length) with _ | _
  {refine zu (.bool true) (run_neN (k := .i64) (a := xs.length) (b := ys.length) ky ky false q1) (wl_nil (then_at rfl (wp_cond_true ky (wp_seq (wl_region (zv (.bool false) (wl_nil (then_at rfl (wp_ret ?_)))))))))
   repeat first|refine tr ?_|refine block_ret ?_
   exact bodyPost_ret (v := .bool false) ky rfl ⟨by rw [eq_nol q1], H0.old.old⟩}
  refine zu (.bool false) (run_neN (k := .i64) (a := xs.length) (b := ys.length) ky ky true q1) (wl_nil (then_at rfl (wp_cond_false ky (wp_skip (then_at rfl (wp_seq (wp_seq (wl_region (zv (.slice o xs.length c) (zv (iN .i64 xs.length) (zv (iN .i64 0) (wl_nil (then_at rfl (wp_block ?_))))))))))))))
  refine wp_count (fun i A w' => ∃ u2 : Nat → Value, A = ⟨(.slice o xs.length c :: .slice o2 ys.length c2 :: un :: un :: u2 4 :: u2 5 :: .slice o xs.length c :: iN .i64 xs.length :: .slice o2 ys.length c2 :: iN .i64 ys.length :: .bool false :: .slice o xs.length c :: iN .i64 xs.length :: iN .i64 i :: u2 14 :: u2 15 :: u2 16 :: u2 17 :: u2 18 :: u2 19 :: u2 20 :: u2 21 :: u2 22 :: u2 23 :: u2 24 :: u2 25 :: List.replicate 0 un).toArray, []⟩ ∧ HA (bs w) [] w' ∧ (∀ j, j < i → xs.getD j mb0 = ys.getD j mb0)) xs.length ?_ ?_ ?_
  {exact exu ky ⟨H0, fun j h => absurd h (Nat.not_lt_zero j)⟩}
  {rintro i hk _ w3 ⟨u2, rfl, h4, hall⟩
   have hk2 : i < ys.length := by have := of_decide_eq_true q1; omega
   obtain ⟨ma, hma, hAa⟩ := hP.ex (by rw [mcl_len]; omega)
   obtain ⟨mb, hmb, hAb⟩ := hP2.ex (by rw [mcl_len]; omega)
   refine wp_seq (wl_region (zu (.bool true) (run_lss (k := .i64) (a := i) (b := xs.length) ky ky true (decide_eq_true (by omega))) (wl_nil (then_at rfl (wp_seq (wp_cond_true ky (wp_skip (then_at rfl (wp_seq (wp_block (wp_seq (wl_region (zv (iN .i64 i) (zv (iN .i64 i) (wl_nil (then_at rfl (wp_seq ?_)))))))))))))))))
   rcases q5 : decide (((xs.getD i mb0) : Mb) = (ys.getD i mb0)) with _ | _
   {refine wp_region_wx (HA (bs w) []) (fun AQ w' => AQ = ⟨(.slice o xs.length c :: .slice o2 ys.length c2 :: un :: un :: u2 4 :: iN .i64 i :: .slice o xs.length c :: iN .i64 xs.length :: .slice o2 ys.length c2 :: iN .i64 ys.length :: .bool false :: .slice o xs.length c :: iN .i64 xs.length :: iN .i64 i :: .bool true :: iN .i64 i :: .slice o xs.length c :: iN .i64 i :: .pointer (some (ma.add (i * 3))) :: .agg (mbC (xs.getD i mb0)) :: .slice o2 ys.length c2 :: iN .i64 i :: .pointer (some (mb.add (i * 3))) :: .agg (mbC (ys.getD i mb0)) :: .bool true :: u2 25 :: List.replicate 0 un).toArray, []⟩ ∧ HA (bs w) [] w') 9 ky ky ky ky ky (h4.drew) ?_ ?_
    {have h6 := h4.drew
     refine zp 0 (.slice o xs.length c) (zp 1 (iN .i64 i) (zq 2 (.pointer (some (ma.add (i * 3)))) rfl (fun _ => (run_addr23 (a := ma) (n := xs.length) (m := c) (i := i) hma ky ky hk)) (zx 3 (.agg (mbC (xs.getD i mb0))) rfl (fun w' h' => (run_ld23 (hAa.keep h'.old.old) hk ky)) (zp 4 (.slice o2 ys.length c2) (zp 5 (iN .i64 i) (zq 6 (.pointer (some (mb.add (i * 3)))) rfl (fun _ => (run_addr23 (a := mb) (n := ys.length) (m := c2) (i := i) hmb ky ky hk2)) (zx 7 (.agg (mbC (ys.getD i mb0))) rfl (fun w' h' => (run_ld23 (hAb.keep h'.old.old) hk2 ky)) (zq 8 (.bool true) rfl (fun _ => (run_neM (a := (xs.getD i mb0)) (b := (ys.getD i mb0)) ky ky false q5)) ?_))))))))
     refine wx_end fun w7 hbx _ => ?_
     have h8 := HA.keep _ _ h6 hbx
     exact ⟨by kernel_rfl, h8⟩}
    {rintro _ w9 ⟨rfl, h10⟩
     refine then_at rfl ?_
     refine wp_cond_true ky (wp_seq (wl_region (zv (.bool false) (wl_nil (then_at rfl (wp_ret ?_))))))
     repeat first|refine tr ?_|refine block_ret ?_
     exact bodyPost_ret (v := .bool false) ky rfl ⟨by rw [eq_noa (d := mb0) q5], h10.old.old⟩}}
   refine wp_region_wxh h4 (fun AQ w' => AQ = ⟨(.slice o xs.length c :: .slice o2 ys.length c2 :: un :: un :: u2 4 :: iN .i64 i :: .slice o xs.length c :: iN .i64 xs.length :: .slice o2 ys.length c2 :: iN .i64 ys.length :: .bool false :: .slice o xs.length c :: iN .i64 xs.length :: iN .i64 i :: .bool true :: iN .i64 i :: .slice o xs.length c :: iN .i64 i :: .pointer (some (ma.add (i * 3))) :: .agg (mbC (xs.getD i mb0)) :: .slice o2 ys.length c2 :: iN .i64 i :: .pointer (some (mb.add (i * 3))) :: .agg (mbC (ys.getD i mb0)) :: .bool false :: u2 25 :: List.replicate 0 un).toArray, []⟩ ∧ HA (bs w) [] w') 9 ky ky ky ky ky ?_ ?_
   {have h11 := h4.drew
    refine zp 0 (.slice o xs.length c) (zp 1 (iN .i64 i) (zq 2 (.pointer (some (ma.add (i * 3)))) rfl (fun _ => (run_addr23 (a := ma) (n := xs.length) (m := c) (i := i) hma ky ky hk)) (zx 3 (.agg (mbC (xs.getD i mb0))) rfl (fun w' h' => (run_ld23 (hAa.keep h'.old.old) hk ky)) (zp 4 (.slice o2 ys.length c2) (zp 5 (iN .i64 i) (zq 6 (.pointer (some (mb.add (i * 3)))) rfl (fun _ => (run_addr23 (a := mb) (n := ys.length) (m := c2) (i := i) hmb ky ky hk2)) (zx 7 (.agg (mbC (ys.getD i mb0))) rfl (fun w' h' => (run_ld23 (hAb.keep h'.old.old) hk2 ky)) (zq 8 (.bool false) rfl (fun _ => (run_neM (a := (xs.getD i mb0)) (b := (ys.getD i mb0)) ky ky true q5)) ?_))))))))
    refine wx_end fun w12 hbx _ => ?_
    have h13 := HA.keep _ _ h11 hbx
    exact ⟨by kernel_rfl, h13⟩}
   {rintro _ w14 ⟨rfl, h15⟩
    refine then_at rfl ?_
    refine wp_cond_false ky (wp_skip (block_normal (then_at rfl (wl_region (zu (iN .i64 (i + 1)) (run_add (k := .i64) (a := i) (b := 1) ky ky (by first | omega | (simp only [top]; omega))) (zv (iN .i64 (i + 1)) (wl_nil ?_)))))))
    exact then_I (exu ky ⟨h15, fun j hj => (Nat.lt_succ_iff_lt_or_eq.1 hj).elim (hall j) (fun e => by rw [e]; exact of_decide_eq_true q5)⟩)}}
  {rintro _ w16 ⟨u2, rfl, h17, hall⟩
   refine wp_seq (wl_region (zu (.bool false) (run_lss (k := .i64) (a := xs.length) (b := xs.length) ky ky false (decide_eq_false (by omega))) (wl_nil (then_at rfl (wp_seq (wp_cond_false ky ?_))))))
   refine wp_exit ?_
   repeat first | refine then_exit ?_ | refine block_exit ?_ | refine block_exit_ne (by decide) ?_
   refine then_at rfl (wp_seq (wl_region ?_))
   refine zv (.bool true) (wl_nil (then_at rfl (wp_ret ?_)))
   repeat first|refine tr ?_|refine block_ret ?_
   exact bodyPost_ret (v := .bool true) ky rfl ⟨by rw [eq_all mb0 q1 hall], h17.old.old⟩}
set_option maxHeartbeats 2000000 in
theorem eqi_any {w : World} (xs ys : List It) {o o2 : Option Addr} {c c2 : Nat} (hP : At w o (icl xs)) (hP2 : At w o2 (icl ys)) (hl : xs.length ≤ 1000000) :
    Calls Try.prog 58 #[.slice o xs.length c, .slice o2 ys.length c2] w fun e w' => e = .returned (.bool (decide (xs = ys))) ∧ Below w.heap.size w w' := by
  have H0 := HA.start w
  go_enter Try.func58, Try.ntmps58
  refine wp_seq (wl_region (zv (.bool false) (wl_nil (then_at rfl (wp_seq (wp_seq (wl_region (zv (.slice o xs.length c) (zv (iN .i64 xs.length) (zv (.slice o2 ys.length c2) (zv (iN .i64 ys.length) ?_)))))))))))
  rcases q1 : decide (xs.length = ys.length) with _ | _
  {refine zu (.bool true) (run_neN (k := .i64) (a := xs.length) (b := ys.length) ky ky false q1) (wl_nil (then_at rfl (wp_cond_true ky (wp_seq (wl_region (zv (.bool false) (wl_nil (then_at rfl (wp_ret ?_)))))))))
   repeat first|refine tr ?_|refine block_ret ?_
   exact bodyPost_ret (v := .bool false) ky rfl ⟨by rw [eq_nol q1], H0.old.old⟩}
  refine zu (.bool false) (run_neN (k := .i64) (a := xs.length) (b := ys.length) ky ky true q1) (wl_nil (then_at rfl (wp_cond_false ky (wp_skip (then_at rfl (wp_seq (wp_seq (wl_region (zv (.slice o xs.length c) (zv (iN .i64 xs.length) (zv (iN .i64 0) (wl_nil (then_at rfl (wp_block ?_))))))))))))))
  refine wp_count (fun i A w' => ∃ u2 : Nat → Value, A = ⟨(.slice o xs.length c :: .slice o2 ys.length c2 :: un :: un :: u2 4 :: u2 5 :: .slice o xs.length c :: iN .i64 xs.length :: .slice o2 ys.length c2 :: iN .i64 ys.length :: .bool false :: .slice o xs.length c :: iN .i64 xs.length :: iN .i64 i :: u2 14 :: u2 15 :: u2 16 :: u2 17 :: u2 18 :: u2 19 :: u2 20 :: u2 21 :: u2 22 :: u2 23 :: u2 24 :: u2 25 :: List.replicate 0 un).toArray, []⟩ ∧ HA (bs w) [] w' ∧ (∀ j, j < i → xs.getD j it0 = ys.getD j it0)) xs.length ?_ ?_ ?_
  {exact exu ky ⟨H0, fun j h => absurd h (Nat.not_lt_zero j)⟩}
  {rintro i hk _ w3 ⟨u2, rfl, h4, hall⟩
   have hk2 : i < ys.length := by have := of_decide_eq_true q1; omega
   obtain ⟨ma, hma, hAa⟩ := hP.ex (by rw [icl_len]; omega)
   obtain ⟨mb, hmb, hAb⟩ := hP2.ex (by rw [icl_len]; omega)
   refine wp_seq (wl_region (zu (.bool true) (run_lss (k := .i64) (a := i) (b := xs.length) ky ky true (decide_eq_true (by omega))) (wl_nil (then_at rfl (wp_seq (wp_cond_true ky (wp_skip (then_at rfl (wp_seq (wp_block (wp_seq (wl_region (zv (iN .i64 i) (zv (iN .i64 i) (wl_nil (then_at rfl (wp_seq ?_)))))))))))))))))
   rcases q5 : decide (((xs.getD i it0) : It) = (ys.getD i it0)) with _ | _
   {refine wp_region_wx (HA (bs w) []) (fun AQ w' => AQ = ⟨(.slice o xs.length c :: .slice o2 ys.length c2 :: un :: un :: u2 4 :: iN .i64 i :: .slice o xs.length c :: iN .i64 xs.length :: .slice o2 ys.length c2 :: iN .i64 ys.length :: .bool false :: .slice o xs.length c :: iN .i64 xs.length :: iN .i64 i :: .bool true :: iN .i64 i :: .slice o xs.length c :: iN .i64 i :: .pointer (some (ma.add (i * 4))) :: .agg (itC (xs.getD i it0)) :: .slice o2 ys.length c2 :: iN .i64 i :: .pointer (some (mb.add (i * 4))) :: .agg (itC (ys.getD i it0)) :: .bool true :: u2 25 :: List.replicate 0 un).toArray, []⟩ ∧ HA (bs w) [] w') 9 ky ky ky ky ky (h4.drew) ?_ ?_
    {have h6 := h4.drew
     refine zp 0 (.slice o xs.length c) (zp 1 (iN .i64 i) (zq 2 (.pointer (some (ma.add (i * 4)))) rfl (fun _ => (run_addr45 (a := ma) (n := xs.length) (m := c) (i := i) hma ky ky hk)) (zx 3 (.agg (itC (xs.getD i it0))) rfl (fun w' h' => (run_ld45 (hAa.keep h'.old.old) hk ky)) (zp 4 (.slice o2 ys.length c2) (zp 5 (iN .i64 i) (zq 6 (.pointer (some (mb.add (i * 4)))) rfl (fun _ => (run_addr45 (a := mb) (n := ys.length) (m := c2) (i := i) hmb ky ky hk2)) (zx 7 (.agg (itC (ys.getD i it0))) rfl (fun w' h' => (run_ld45 (hAb.keep h'.old.old) hk2 ky)) (zq 8 (.bool true) rfl (fun _ => (run_neI (a := (xs.getD i it0)) (b := (ys.getD i it0)) ky ky false q5)) ?_))))))))
     refine wx_end fun w7 hbx _ => ?_
     have h8 := HA.keep _ _ h6 hbx
     exact ⟨by kernel_rfl, h8⟩}
    {rintro _ w9 ⟨rfl, h10⟩
     refine then_at rfl ?_
     refine wp_cond_true ky (wp_seq (wl_region (zv (.bool false) (wl_nil (then_at rfl (wp_ret ?_))))))
     repeat first|refine tr ?_|refine block_ret ?_
     exact bodyPost_ret (v := .bool false) ky rfl ⟨by rw [eq_noa (d := it0) q5], h10.old.old⟩}}
   refine wp_region_wxh h4 (fun AQ w' => AQ = ⟨(.slice o xs.length c :: .slice o2 ys.length c2 :: un :: un :: u2 4 :: iN .i64 i :: .slice o xs.length c :: iN .i64 xs.length :: .slice o2 ys.length c2 :: iN .i64 ys.length :: .bool false :: .slice o xs.length c :: iN .i64 xs.length :: iN .i64 i :: .bool true :: iN .i64 i :: .slice o xs.length c :: iN .i64 i :: .pointer (some (ma.add (i * 4))) :: .agg (itC (xs.getD i it0)) :: .slice o2 ys.length c2 :: iN .i64 i :: .pointer (some (mb.add (i * 4))) :: .agg (itC (ys.getD i it0)) :: .bool false :: u2 25 :: List.replicate 0 un).toArray, []⟩ ∧ HA (bs w) [] w') 9 ky ky ky ky ky ?_ ?_
   {have h11 := h4.drew
    refine zp 0 (.slice o xs.length c) (zp 1 (iN .i64 i) (zq 2 (.pointer (some (ma.add (i * 4)))) rfl (fun _ => (run_addr45 (a := ma) (n := xs.length) (m := c) (i := i) hma ky ky hk)) (zx 3 (.agg (itC (xs.getD i it0))) rfl (fun w' h' => (run_ld45 (hAa.keep h'.old.old) hk ky)) (zp 4 (.slice o2 ys.length c2) (zp 5 (iN .i64 i) (zq 6 (.pointer (some (mb.add (i * 4)))) rfl (fun _ => (run_addr45 (a := mb) (n := ys.length) (m := c2) (i := i) hmb ky ky hk2)) (zx 7 (.agg (itC (ys.getD i it0))) rfl (fun w' h' => (run_ld45 (hAb.keep h'.old.old) hk2 ky)) (zq 8 (.bool false) rfl (fun _ => (run_neI (a := (xs.getD i it0)) (b := (ys.getD i it0)) ky ky true q5)) ?_))))))))
    refine wx_end fun w12 hbx _ => ?_
    have h13 := HA.keep _ _ h11 hbx
    exact ⟨by kernel_rfl, h13⟩}
   {rintro _ w14 ⟨rfl, h15⟩
    refine then_at rfl ?_
    refine wp_cond_false ky (wp_skip (block_normal (then_at rfl (wl_region (zu (iN .i64 (i + 1)) (run_add (k := .i64) (a := i) (b := 1) ky ky (by first | omega | (simp only [top]; omega))) (zv (iN .i64 (i + 1)) (wl_nil ?_)))))))
    exact then_I (exu ky ⟨h15, fun j hj => (Nat.lt_succ_iff_lt_or_eq.1 hj).elim (hall j) (fun e => by rw [e]; exact of_decide_eq_true q5)⟩)}}
  {rintro _ w16 ⟨u2, rfl, h17, hall⟩
   refine wp_seq (wl_region (zu (.bool false) (run_lss (k := .i64) (a := xs.length) (b := xs.length) ky ky false (decide_eq_false (by omega))) (wl_nil (then_at rfl (wp_seq (wp_cond_false ky ?_))))))
   refine wp_exit ?_
   repeat first | refine then_exit ?_ | refine block_exit ?_ | refine block_exit_ne (by decide) ?_
   refine then_at rfl (wp_seq (wl_region ?_))
   refine zv (.bool true) (wl_nil (then_at rfl (wp_ret ?_)))
   repeat first|refine tr ?_|refine block_ret ?_
   exact bodyPost_ret (v := .bool true) ky rfl ⟨by rw [eq_all it0 q1 hall], h17.old.old⟩}
set_option maxHeartbeats 2000000 in
theorem sml_any {w : World} (a b : Li) {o o2 : Option Addr} {c c2 : Nat} (hP : At w o (mcl a.ds)) (hP2 : At w o2 (mcl b.ds)) (hl : a.ds.length ≤ 1000000) :
    Calls Try.prog 16 #[.agg (liC a (.slice o a.ds.length c)), .agg (liC b (.slice o2 b.ds.length c2))] w fun e w' => e = .returned (.bool (sameL a b)) ∧ Below w.heap.size w w' := by
  have H0 := HA.start w
  go_enter Try.func16, Try.ntmps16
  refine wp_seq (wl_region (wl_make (c := liC a (.slice o a.ds.length c)) H0 25 ky ky ?_))
  intro q1 w2 (h3 : HA (bs w) [(q1, 25, liC a (.slice o a.ds.length c))] w2)
  refine wl_make (c := liC b (.slice o2 b.ds.length c2)) h3 25 ky ky ?_
  intro q4 w5 (h6 : HA (bs w) [(q4, 25, liC b (.slice o2 b.ds.length c2)), (q1, 25, liC a (.slice o a.ds.length c))] w5)
  refine zv (.bool false) (wl_nil (then_at rfl (wp_seq (wl_region (zv (.pointer (some ⟨q1, 0, none⟩)) (zu (.int .i64 a.u) (run_load1 (fun w => Try.isAgg3 w) ky (((h6.get 1 rfl).cell 0).trans rfl)) (zv (.pointer (some ⟨q4, 0, none⟩)) (zu (.int .i64 b.u) (run_load1 (fun w => Try.isAgg3 w) ky (((h6.get 0 rfl).cell 0).trans rfl)) ?_))))))))
  rcases q7 : decide (a.u = b.u) with _ | _
  {refine zu (.bool false) (run_eqZ (k := .i64) (a := a.u) (b := b.u) ky ky false q7) (zv (.bool false) (zk (zk (zk (zk (zk (zv (.bool false) (zv (.bool false) (zk (zk (zk (zk (zk (zv (.bool false) (zv (.bool false) (zk (zk (zk (zk (zk (zv (.bool false) (zv (.bool false) (zk ?_)))))))))))))))))))))))
   refine zk (zk (zk (zk (zv (.bool false) (zv (.bool false) (wl_nil (then_at rfl (wp_ret ?_))))))))
   repeat first|refine tr ?_|refine block_ret ?_
   exact bodyPost_ret (v := .bool false) ky rfl ⟨by rw [(show sameL a b = false from by unfold sameL; rw [q7]; first | done | rfl)], h6.old.old⟩}
  refine zu (.bool true) (run_eqZ (k := .i64) (a := a.u) (b := b.u) ky ky true q7) (zv (.bool true) (zv (.pointer (some ⟨q1, 1, none⟩)) (zu (.int .i64 a.v) (run_load1 (fun w => Try.isAgg3 w) ky (((h6.get 1 rfl).cell 1).trans rfl)) (zv (.pointer (some ⟨q4, 1, none⟩)) (zu (.int .i64 b.v) (run_load1 (fun w => Try.isAgg3 w) ky (((h6.get 0 rfl).cell 1).trans rfl)) ?_)))))
  rcases q8 : decide (a.v = b.v) with _ | _
  {refine zu (.bool false) (run_eqZ (k := .i64) (a := a.v) (b := b.v) ky ky false q8) (zv (.bool false) (zv (.bool false) (zk (zk (zk (zk (zk (zv (.bool false) (zv (.bool false) (zk (zk (zk (zk (zk (zv (.bool false) (zv (.bool false) (zk (zk (zk (zk (zk (zv (.bool false) (zv (.bool false) ?_)))))))))))))))))))))))
   refine wl_nil (then_at rfl (wp_ret ?_))
   repeat first|refine tr ?_|refine block_ret ?_
   exact bodyPost_ret (v := .bool false) ky rfl ⟨by rw [(show sameL a b = false from by unfold sameL; rw [q7, q8]; first | done | rfl)], h6.old.old⟩}
  refine zu (.bool true) (run_eqZ (k := .i64) (a := a.v) (b := b.v) ky ky true q8) (zv (.bool true) (zv (.bool true) (zv (.pointer (some ⟨q1, 2, none⟩)) (zu (.string a.ac) (run_load1 (fun w => Try.isAgg9 w) ky (((h6.get 1 rfl).cell 2).trans rfl)) (zv (.pointer (some ⟨q4, 2, none⟩)) (zu (.string b.ac) (run_load1 (fun w => Try.isAgg9 w) ky (((h6.get 0 rfl).cell 2).trans rfl)) ?_))))))
  rcases q9 : decide (a.ac = b.ac) with _ | _
  {refine zu (.bool false) (run_eqs (s := a.ac) (t := b.ac) ky ky false q9) (zv (.bool false) (zv (.bool false) (zk (zk (zk (zk (zk (zv (.bool false) (zv (.bool false) (zk (zk (zk (zk (zk (zv (.bool false) (zv (.bool false) (wl_nil (then_at rfl (wp_ret ?_)))))))))))))))))))
   repeat first|refine tr ?_|refine block_ret ?_
   exact bodyPost_ret (v := .bool false) ky rfl ⟨by rw [(show sameL a b = false from by unfold sameL; rw [q7, q8, q9]; first | done | rfl)], h6.old.old⟩}
  refine zu (.bool true) (run_eqs (s := a.ac) (t := b.ac) ky ky true q9) (zv (.bool true) (zv (.bool true) (zv (.pointer (some ⟨q1, 3, none⟩)) (zu (.slice o a.ds.length c) (run_load1 (fun w => Try.isAgg23 w) ky (((h6.get 1 rfl).cell 3).trans rfl)) (zv (.pointer (some ⟨q4, 3, none⟩)) (zu (.slice o2 b.ds.length c2) (run_load1 (fun w => Try.isAgg23 w) ky (((h6.get 0 rfl).cell 3).trans rfl)) ?_))))))
  rcases q10 : decide (a.ds = b.ds) with _ | _
  {refine zl (.bool false) h6 enter45 #[.slice o a.ds.length c, .slice o2 b.ds.length c2] (((eqm_any a.ds b.ds (hP.keep h6.old.old) (hP2.keep h6.old.old) hl).mono fun _ _ hh => ⟨by rw [hh.1, q10], hh.2⟩)) (fun w11 h12 => (zv (.bool false) (zv (.bool false) (zk (zk (zk (zk (zk (zv (.bool false) (zv (.bool false) (wl_nil (then_at rfl (wp_ret ?_)))))))))))))
   repeat first|refine tr ?_|refine block_ret ?_
   exact bodyPost_ret (v := .bool false) ky rfl ⟨by rw [(show sameL a b = false from by unfold sameL; rw [q7, q8, q9, q10]; first | done | rfl)], h12.old.old⟩}
  refine zl (.bool true) h6 enter45 #[.slice o a.ds.length c, .slice o2 b.ds.length c2] (((eqm_any a.ds b.ds (hP.keep h6.old.old) (hP2.keep h6.old.old) hl).mono fun _ _ hh => ⟨by rw [hh.1, q10], hh.2⟩)) (fun w13 h14 => (zv (.bool true) (zv (.bool true) (zv (.pointer (some ⟨q1, 4, none⟩)) (zu (.string a.sg) (run_load1 (fun w => Try.isAgg9 w) ky (((h14.get 1 rfl).cell 4).trans rfl)) (zv (.pointer (some ⟨q4, 4, none⟩)) (zu (.string b.sg) (run_load1 (fun w => Try.isAgg9 w) ky (((h14.get 0 rfl).cell 4).trans rfl)) ?_)))))))
  rcases q15 : decide (a.sg = b.sg) with _ | _
  {refine zu (.bool false) (run_eqs (s := a.sg) (t := b.sg) ky ky false q15) (zv (.bool false) (zv (.bool false) (wl_nil (then_at rfl (wp_ret ?_)))))
   repeat first|refine tr ?_|refine block_ret ?_
   exact bodyPost_ret (v := .bool false) ky rfl ⟨by rw [(show sameL a b = false from by unfold sameL; rw [q7, q8, q9, q10, q15]; first | done | rfl)], h14.old.old⟩}
  refine zu (.bool true) (run_eqs (s := a.sg) (t := b.sg) ky ky true q15) (zv (.bool true) (zv (.bool true) (wl_nil (then_at rfl (wp_ret ?_)))))
  repeat first|refine tr ?_|refine block_ret ?_
  exact bodyPost_ret (v := .bool true) ky rfl ⟨by rw [(show sameL a b = true from by unfold sameL; rw [q7, q8, q9, q10, q15]; first | done | rfl)], h14.old.old⟩
set_option maxHeartbeats 4000000 in
theorem lb_any {w : World} (l : Li) {o : Option Addr} {c : Nat} (hP : At w o (mcl l.ds)) :
    Calls Try.prog 67 #[.agg (liC l (.slice o l.ds.length c))] w fun e w' => e = .returned (.string (lbA l)) ∧ Below w.heap.size w w' := by
  have H0 := HA.start w
  go_enter Try.func67, Try.ntmps67
  refine wp_seq (wl_region (wl_make (c := liC l (.slice o l.ds.length c)) H0 25 ky ky ?_))
  intro q1 w2 (h3 : HA (bs w) [(q1, 25, liC l (.slice o l.ds.length c))] w2)
  refine zv (.string ({ data := #[] })) (wl_nil (then_at rfl (wp_seq (wp_seq (wl_region (wl_load h3 0 rfl ky ky Try.underlying25 rfl ky ?_))))))
  rcases q4 : mayL l with _ | _
  {refine zl (iN .i64 2) h3 enter14 #[.agg (liC l (.slice o l.ds.length c))] (((chk_any l (hP.keep h3.old.old)).mono fun _ _ hh => ⟨by rw [hh.1, show chkL l = 2 from by unfold chkL; rw [q4]; rfl], hh.2⟩)) (fun w5 h6 => (zu (.bool true) (run_nei (k := .i64) (a := 2) (b := 0) ky ky true (by decide)) (wl_nil (then_at rfl (wp_cond_true ky (wp_seq (wl_region (zv (.string ({ data := #[] })) (wl_nil (then_at rfl (wp_ret ?_)))))))))))
   repeat first|refine tr ?_|refine block_ret ?_
   exact bodyPost_ret (v := .string { data := #[] }) ky rfl ⟨by rw [show lbA l = { data := #[] } from by unfold lbA; rw [q4]; rfl], h6.old.old⟩}
  have hM := mayL_iff q4
  refine zl (iN .i64 0) h3 enter14 #[.agg (liC l (.slice o l.ds.length c))] (((chk_any l (hP.keep h3.old.old)).mono fun _ _ hh => ⟨by rw [hh.1, show chkL l = 0 from by unfold chkL; rw [q4]; rfl], hh.2⟩)) (fun w7 h8 => (zu (.bool false) (run_nei (k := .i64) (a := 0) (b := 0) ky ky false (by decide)) (wl_nil (then_at rfl (wp_cond_false ky (wp_skip (then_at rfl (wp_seq ?_))))))))
  refine wp_region_wxh h8 (fun AQ w' => ∃ (q12 : Nat), AQ = ⟨(.agg (liC l (.slice o l.ds.length c)) :: pt q1 :: .string ({ data := #[] }) :: .string ((nbT 1 l.u.toNat ++ nbT 4 l.v.toNat) ++ layT [l.ac] 1) :: un :: un :: .agg (liC l (.slice o l.ds.length c)) :: iN .i64 0 :: .bool false :: pt q1 :: .int .i64 l.u :: .string (nbT 1 l.u.toNat) :: .pointer (some ⟨q1, 1, none⟩) :: .int .i64 l.v :: .string (nbT 4 l.v.toNat) :: .string (nbT 1 l.u.toNat ++ nbT 4 l.v.toNat) :: .pointer (some ⟨q1, 2, none⟩) :: .string l.ac :: .slice (some ⟨q12, 0, none⟩) 1 1 :: .string (layT [l.ac] 1) :: .string ((nbT 1 l.u.toNat ++ nbT 4 l.v.toNat) ++ layT [l.ac] 1) :: List.replicate 32 un).toArray, []⟩ ∧ HA (bs w) [(q12, 9, #[.string l.ac]), (q1, 25, liC l (.slice o l.ds.length c))] w') 13 ky ky ky ky ky ?_ ?_
  {have h9 := h8.drew
   refine zp 0 (.pointer (some ⟨q1, 0, none⟩)) (zx 1 (.int .i64 l.u) rfl (fun w' h' => run_load1 (fun w => Try.isAgg3 w) ky (((h'.get 0 rfl).cell 0).trans rfl)) (zc 2 (.string (nbT 1 l.u.toNat)) rfl enter63 _ (fun w' h' => nu_any 1 l.u hM.u0 (by have := hM.u1; omega)) (zp 3 (.pointer (some ⟨q1, 1, none⟩)) (zx 4 (.int .i64 l.v) rfl (fun w' h' => run_load1 (fun w => Try.isAgg3 w) ky (((h'.get 0 rfl).cell 1).trans rfl)) (zc 5 (.string (nbT 4 l.v.toNat)) rfl enter63 _ (fun w' h' => nu_any 4 l.v (by have := hM.v0; omega) (by have := hM.v1; omega)) (zq 6 (.string (nbT 1 l.u.toNat ++ nbT 4 l.v.toNat)) rfl (fun _ => (run_cat (s := nbT 1 l.u.toNat) (t := nbT 4 l.v.toNat) ky ky (by simp only [nbT_size (k := 1) (by decide) (by decide), nbT_size (k := 4) (by decide) (by decide)]; omega))) (zp 7 (.pointer (some ⟨q1, 2, none⟩)) (zx 8 (.string l.ac) rfl (fun w' h' => run_load1 (fun w => Try.isAgg9 w) ky (((h'.get 0 rfl).cell 2).trans rfl)) (wx_one 9 ky ?_)))))))))
   refine ex_makeT (c := #[.string l.ac]) rfl ky h9 9 (fun q => .slice (some ⟨q, 0, none⟩) 1 1) (fun _ => ky) ?_
   intro q12 w10 (h11 : HA (bs w) [(q12, 9, #[.string l.ac]), (q1, 25, liC l (.slice o l.ds.length c))] w10)
   refine ⟨_, .inr rfl, (HA.sub h11 (List.Sublist.cons _ (List.Sublist.cons_cons _ (List.Sublist.refl _)))), ?_⟩
   refine wx_one 10 ky ?_
   refine ex_callx rfl ky h11 enter66 #[.slice (some ⟨q12, 0, none⟩) 1 1] ky (fun w13 h14 => la_any [l.ac] (own_tx h14 0 [l.ac] rfl) (m := 1000) (by decide) (ss1 hM.ac) (by simp)) ?_
   rintro w13 h14 _ w16 ⟨rfl, hb15⟩
   have h17 := HA.keep _ _ h14 hb15
   refine ⟨_, rfl, _, .inl ky, h17, ?_⟩
   refine zq 11 (.string ((nbT 1 l.u.toNat ++ nbT 4 l.v.toNat) ++ layT [l.ac] 1)) rfl (fun _ => (run_cat (s := (nbT 1 l.u.toNat ++ nbT 4 l.v.toNat)) (t := layT [l.ac] 1) ky ky (by have h3 := lay1_le hM.ac; simp only [ByteArray.size_append, nbT_size (k := 1) (by decide) (by decide), nbT_size (k := 4) (by decide) (by decide)]; omega))) (zp 12 (.string ((nbT 1 l.u.toNat ++ nbT 4 l.v.toNat) ++ layT [l.ac] 1)) ?_)
   refine wx_end fun w18 hbx _ => ?_
   have h19 := HA.keep _ _ h17 hbx
   exact ⟨q12, by kernel_rfl, h19⟩}
  {rintro _ w20 ⟨q12, rfl, h21⟩
   refine then_at rfl (wp_seq (wl_region ?_))
   refine zv (.string ((nbT 1 l.u.toNat ++ nbT 4 l.v.toNat) ++ layT [l.ac] 1)) (zv (.pointer (some ⟨q1, 3, none⟩)) (zu (.slice o l.ds.length c) (run_load1 (fun w => Try.isAgg23 w) ky (((h21.get 1 rfl).cell 3).trans rfl)) (zv (iN .i64 l.ds.length) (zl (.string (nbT 1 l.ds.length)) h21 enter63 _ (nu_any 1 ((l.ds.length : Nat) : Int) (by omega) (by have := hM.dl; omega)) (fun w22 h23 => (zu (.string (((nbT 1 l.u.toNat ++ nbT 4 l.v.toNat) ++ layT [l.ac] 1) ++ nbT 1 l.ds.length)) (run_cat (s := ((nbT 1 l.u.toNat ++ nbT 4 l.v.toNat) ++ layT [l.ac] 1)) (t := nbT 1 l.ds.length) ky ky (by have h3 := lay1_le hM.ac; simp only [ByteArray.size_append, nbT_size (k := 1) (by decide) (by decide), nbT_size (k := 4) (by decide) (by decide)]; omega)) (zv (.string (((nbT 1 l.u.toNat ++ nbT 4 l.v.toNat) ++ layT [l.ac] 1) ++ nbT 1 l.ds.length)) (wl_nil (then_at rfl (wp_seq (wp_seq (wl_region (zv (.pointer (some ⟨q1, 3, none⟩)) (zu (.slice o l.ds.length c) (run_load1 (fun w => Try.isAgg23 w) ky (((h23.get 1 rfl).cell 3).trans rfl)) (zv (iN .i64 l.ds.length) (zv (iN .i64 0) (wl_nil (then_at rfl (wp_block ?_)))))))))))))))))))
   refine wp_count (fun i A w' => ∃ u24 : Nat → Value, A = ⟨(.agg (liC l (.slice o l.ds.length c)) :: pt q1 :: .string ({ data := #[] }) :: .string (txS (hdL l ++ nbT 1 l.ds.length) l.ds i) :: un :: u24 5 :: .agg (liC l (.slice o l.ds.length c)) :: iN .i64 0 :: .bool false :: pt q1 :: .int .i64 l.u :: .string (nbT 1 l.u.toNat) :: .pointer (some ⟨q1, 1, none⟩) :: .int .i64 l.v :: .string (nbT 4 l.v.toNat) :: .string (nbT 1 l.u.toNat ++ nbT 4 l.v.toNat) :: .pointer (some ⟨q1, 2, none⟩) :: .string l.ac :: .slice (some ⟨q12, 0, none⟩) 1 1 :: .string (layT [l.ac] 1) :: .string ((nbT 1 l.u.toNat ++ nbT 4 l.v.toNat) ++ layT [l.ac] 1) :: .string ((nbT 1 l.u.toNat ++ nbT 4 l.v.toNat) ++ layT [l.ac] 1) :: .pointer (some ⟨q1, 3, none⟩) :: .slice o l.ds.length c :: iN .i64 l.ds.length :: .string (nbT 1 l.ds.length) :: .string (((nbT 1 l.u.toNat ++ nbT 4 l.v.toNat) ++ layT [l.ac] 1) ++ nbT 1 l.ds.length) :: .pointer (some ⟨q1, 3, none⟩) :: .slice o l.ds.length c :: iN .i64 l.ds.length :: iN .i64 i :: u24 31 :: u24 32 :: u24 33 :: u24 34 :: u24 35 :: u24 36 :: u24 37 :: u24 38 :: u24 39 :: u24 40 :: u24 41 :: u24 42 :: u24 43 :: u24 44 :: u24 45 :: u24 46 :: List.replicate 6 un).toArray, []⟩ ∧ HA (bs w) [(q12, 9, #[.string l.ac]), (q1, 25, liC l (.slice o l.ds.length c))] w') l.ds.length ?_ ?_ ?_
   {exact exu ky h23}
   {rintro i hk _ w25 ⟨u24, rfl, h26⟩
    obtain ⟨ma, hma, hAa⟩ := hP.ex (by rw [mcl_len]; omega)
    have hdl := hM.dl
    refine wp_seq (wl_region (zu (.bool true) (run_lss (k := .i64) (a := i) (b := l.ds.length) ky ky true (decide_eq_true (by omega))) (wl_nil (then_at rfl (wp_seq (wp_cond_true ky (wp_skip (then_at rfl (wp_seq (wp_block (wp_seq (wl_region (zu (.pointer (some (ma.add (i * 3)))) (run_addr23 (a := ma) (n := l.ds.length) (m := c) (i := i) hma ky ky hk) ?_)))))))))))))
    refine wl_val (.agg (mbC (l.ds.getD i mb0))) ky ((run_ld23 (hAa.keep h26.old.old) hk ky)) ?_
    refine wl_make (c := #[iN .i64 0, .string ({ data := #[] }), .string ({ data := #[] })]) h26 67 ky ky ?_
    intro q27 w28 (h29 : HA (bs w) [(q27, 67, #[iN .i64 0, .string ({ data := #[] }), .string ({ data := #[] })]), (q12, 9, #[.string l.ac]), (q1, 25, liC l (.slice o l.ds.length c))] w28)
    refine wl_fill (c' := mbC (l.ds.getD i mb0)) h29 0 rfl ky ky ky rfl ky ky (fun w30 h31 => (wl_nil (then_at rfl ?_)))
    refine wp_region_wxo 0 (.string (txS (hdL l ++ nbT 1 l.ds.length) l.ds i)) rfl ky ky (S := HA (bs w) [(q27, 67, mbC (l.ds.getD i mb0)), (q12, 9, #[.string l.ac]), (q1, 25, liC l (.slice o l.ds.length c))]) (J := fun AQ w' => ∃ (q35 : Nat), AQ = ⟨(.agg (liC l (.slice o l.ds.length c)) :: pt q1 :: .string ({ data := #[] }) :: .string (txS (hdL l ++ nbT 1 l.ds.length) l.ds i ++ (nbT 1 ((l.ds.getD i mb0).dv).toNat ++ layT [(l.ds.getD i mb0).sg, (l.ds.getD i mb0).dh] 2)) :: un :: pt q27 :: .agg (liC l (.slice o l.ds.length c)) :: iN .i64 0 :: .bool false :: pt q1 :: .int .i64 l.u :: .string (nbT 1 l.u.toNat) :: .pointer (some ⟨q1, 1, none⟩) :: .int .i64 l.v :: .string (nbT 4 l.v.toNat) :: .string (nbT 1 l.u.toNat ++ nbT 4 l.v.toNat) :: .pointer (some ⟨q1, 2, none⟩) :: .string l.ac :: .slice (some ⟨q12, 0, none⟩) 1 1 :: .string (layT [l.ac] 1) :: .string ((nbT 1 l.u.toNat ++ nbT 4 l.v.toNat) ++ layT [l.ac] 1) :: .string ((nbT 1 l.u.toNat ++ nbT 4 l.v.toNat) ++ layT [l.ac] 1) :: .pointer (some ⟨q1, 3, none⟩) :: .slice o l.ds.length c :: iN .i64 l.ds.length :: .string (nbT 1 l.ds.length) :: .string (((nbT 1 l.u.toNat ++ nbT 4 l.v.toNat) ++ layT [l.ac] 1) ++ nbT 1 l.ds.length) :: .pointer (some ⟨q1, 3, none⟩) :: .slice o l.ds.length c :: iN .i64 l.ds.length :: iN .i64 i :: .bool true :: .pointer (some (ma.add (i * 3))) :: .agg (mbC (l.ds.getD i mb0)) :: .string (txS (hdL l ++ nbT 1 l.ds.length) l.ds i) :: pt q27 :: .int .i64 ((l.ds.getD i mb0).dv) :: .string (nbT 1 ((l.ds.getD i mb0).dv).toNat) :: .pointer (some ⟨q27, 1, none⟩) :: .string ((l.ds.getD i mb0).sg) :: .pointer (some ⟨q27, 2, none⟩) :: .string ((l.ds.getD i mb0).dh) :: .slice (some ⟨q35, 0, none⟩) 2 2 :: .string (layT [(l.ds.getD i mb0).sg, (l.ds.getD i mb0).dh] 2) :: .string (nbT 1 ((l.ds.getD i mb0).dv).toNat ++ layT [(l.ds.getD i mb0).sg, (l.ds.getD i mb0).dh] 2) :: .string (txS (hdL l ++ nbT 1 l.ds.length) l.ds i ++ (nbT 1 ((l.ds.getD i mb0).dv).toNat ++ layT [(l.ds.getD i mb0).sg, (l.ds.getD i mb0).dh] 2)) :: u24 46 :: List.replicate 6 un).toArray, []⟩ ∧ HA (bs w) [(q35, 9, #[.string ((l.ds.getD i mb0).sg), .string ((l.ds.getD i mb0).dh)]), (q27, 67, mbC (l.ds.getD i mb0)), (q12, 9, #[.string l.ac]), (q1, 25, liC l (.slice o l.ds.length c))] w') (n := 13) ky ky ky ky ky (h31.drew) ?_ ?_
    {have h32 := h31.drew
     refine zp 0 (.string (txS (hdL l ++ nbT 1 l.ds.length) l.ds i)) (zp 1 (.pointer (some ⟨q27, 0, none⟩)) (zx 2 (.int .i64 ((l.ds.getD i mb0).dv)) rfl (fun w' h' => run_load1 (fun w => Try.isAgg3 w) ky (((h'.get 0 rfl).cell 0).trans rfl)) (zc 3 (.string (nbT 1 ((l.ds.getD i mb0).dv).toNat)) rfl enter63 _ (fun w' h' => nu_any 1 ((l.ds.getD i mb0).dv) (hM.at hk).1 (by have := (hM.at hk).2.1; omega)) (zp 4 (.pointer (some ⟨q27, 1, none⟩)) (zx 5 (.string ((l.ds.getD i mb0).sg)) rfl (fun w' h' => run_load1 (fun w => Try.isAgg9 w) ky (((h'.get 0 rfl).cell 1).trans rfl)) (zp 6 (.pointer (some ⟨q27, 2, none⟩)) (zx 7 (.string ((l.ds.getD i mb0).dh)) rfl (fun w' h' => run_load1 (fun w => Try.isAgg9 w) ky (((h'.get 0 rfl).cell 2).trans rfl)) (wx_one 8 ky ?_))))))))
     refine ex_makeT (c := #[.string ((l.ds.getD i mb0).sg), .string ((l.ds.getD i mb0).dh)]) rfl ky h32 9 (fun q => .slice (some ⟨q, 0, none⟩) 2 2) (fun _ => ky) ?_
     intro q35 w33 (h34 : HA (bs w) [(q35, 9, #[.string ((l.ds.getD i mb0).sg), .string ((l.ds.getD i mb0).dh)]), (q27, 67, mbC (l.ds.getD i mb0)), (q12, 9, #[.string l.ac]), (q1, 25, liC l (.slice o l.ds.length c))] w33)
     refine ⟨_, .inr rfl, (HA.sub h34 (List.Sublist.cons _ (List.Sublist.cons_cons _ (List.Sublist.cons_cons _ (List.Sublist.cons_cons _ (List.Sublist.refl _)))))), ?_⟩
     refine wx_one 9 ky ?_
     refine ex_callx rfl ky h34 enter66 #[.slice (some ⟨q35, 0, none⟩) 2 2] ky (fun w36 h37 => la_any [(l.ds.getD i mb0).sg, (l.ds.getD i mb0).dh] (own_tx h37 0 [(l.ds.getD i mb0).sg, (l.ds.getD i mb0).dh] rfl) (m := 1000) (by decide) (ss2 (hM.at hk).2.2.2.1 (hM.at hk).2.2.2.2.2) (by simp)) ?_
     rintro w36 h37 _ w39 ⟨rfl, hb38⟩
     have h40 := HA.keep _ _ h37 hb38
     refine ⟨_, rfl, _, .inl ky, h40, ?_⟩
     refine zq 10 (.string (nbT 1 ((l.ds.getD i mb0).dv).toNat ++ layT [(l.ds.getD i mb0).sg, (l.ds.getD i mb0).dh] 2)) rfl (fun _ => (run_cat (s := nbT 1 ((l.ds.getD i mb0).dv).toNat) (t := layT [(l.ds.getD i mb0).sg, (l.ds.getD i mb0).dh] 2) ky ky (by have h9 := hM.at hk; have h10 := lay2_le h9.2.2.2.1 h9.2.2.2.2.2; simp only [nbT_size (k := 1) (by decide) (by decide)]; omega))) (zq 11 (.string (txS (hdL l ++ nbT 1 l.ds.length) l.ds i ++ (nbT 1 ((l.ds.getD i mb0).dv).toNat ++ layT [(l.ds.getD i mb0).sg, (l.ds.getD i mb0).dh] 2))) rfl (fun _ => (run_cat (s := txS (hdL l ++ nbT 1 l.ds.length) l.ds i) (t := (nbT 1 ((l.ds.getD i mb0).dv).toNat ++ layT [(l.ds.getD i mb0).sg, (l.ds.getD i mb0).dh] 2)) ky ky (by have h7 := txS_size hM i (by omega); have h8 := hM.dl; have h9 := hM.at hk; have h10 := lay2_le h9.2.2.2.1 h9.2.2.2.2.2; simp only [ByteArray.size_append, nbT_size (k := 1) (by decide) (by decide)]; omega))) (zp 12 (.string (txS (hdL l ++ nbT 1 l.ds.length) l.ds i ++ (nbT 1 ((l.ds.getD i mb0).dv).toNat ++ layT [(l.ds.getD i mb0).sg, (l.ds.getD i mb0).dh] 2))) ?_))
     refine wx_end fun w41 hbx _ => ?_
     have h42 := HA.keep _ _ h40 hbx
     exact ⟨q35, by kernel_rfl, h42⟩}
    {rintro _ w43 ⟨q35, rfl, h44⟩
     refine block_normal (then_at rfl (wl_region (zu (iN .i64 (i + 1)) (run_add (k := .i64) (a := i) (b := 1) ky ky (by first | omega | (simp only [top]; omega))) (zv (iN .i64 (i + 1)) (wl_nil ?_)))))
     exact then_I (exu ky (HA.sub h44 (List.Sublist.cons _ (List.Sublist.cons _ (List.Sublist.cons_cons _ (List.Sublist.cons_cons _ (List.Sublist.slnil)))))))}}
   {rintro _ w45 ⟨u24, rfl, h46⟩
    refine wp_seq (wl_region (zu (.bool false) (run_lss (k := .i64) (a := l.ds.length) (b := l.ds.length) ky ky false (decide_eq_false (by omega))) (wl_nil (then_at rfl (wp_seq (wp_cond_false ky ?_))))))
    refine wp_exit ?_
    repeat first | refine then_exit ?_ | refine block_exit ?_ | refine block_exit_ne (by decide) ?_
    refine then_at rfl (wp_seq (wl_region ?_))
    refine zv (.string (txS (hdL l ++ nbT 1 l.ds.length) l.ds l.ds.length)) (zv (.pointer (some ⟨q1, 4, none⟩)) (zu (.string l.sg) (run_load1 (fun w => Try.isAgg9 w) ky (((h46.get 1 rfl).cell 4).trans rfl)) (wl_mks (n := 1) (m := 1) (c := #[.string l.sg]) h46 9 ky ky ?_)))
    intro q47 w48 (h49 : HA (bs w) [(q47, 9, #[.string l.sg]), (q12, 9, #[.string l.ac]), (q1, 25, liC l (.slice o l.ds.length c))] w48)
    refine zl (.string (layT [l.sg] 1)) h49 enter66 #[.slice (some ⟨q47, 0, none⟩) 1 1] (la_any [l.sg] (own_tx h49 0 [l.sg] rfl) (m := 1000) (by decide) (ss1 hM.sg) (by simp)) (fun w50 h51 => (zu (.string (txS (hdL l ++ nbT 1 l.ds.length) l.ds l.ds.length ++ layT [l.sg] 1)) (run_cat (s := txS (hdL l ++ nbT 1 l.ds.length) l.ds l.ds.length) (t := layT [l.sg] 1) ky ky (by have h4 := lay1_le hM.sg; have h7 := txS_size hM l.ds.length (Nat.le_refl _); have h8 := hM.dl; omega)) (zv (.string (txS (hdL l ++ nbT 1 l.ds.length) l.ds l.ds.length ++ layT [l.sg] 1)) (wl_nil (then_at rfl (wp_ret ?_))))))
    repeat first|refine tr ?_|refine block_ret ?_
    exact bodyPost_ret (v := .string (lisB l)) ky rfl ⟨by rw [show lbA l = lisB l from by unfold lbA; rw [q4]; rfl], h51.old.old⟩}}
end Go.Proofs.Ytiogegoepgkjlaa
