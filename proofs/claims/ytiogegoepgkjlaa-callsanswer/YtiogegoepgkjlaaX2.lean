/-
  number, laid, signedText, EncodeBundle.
-/
import Derived.Test.YtiogegoepgkjlaaX1
set_option maxRecDepth 100000
set_option linter.unusedVariables false
namespace Go.Proofs.Ytiogegoepgkjlaa
open Go.RowKit

/-- a number, in so many bytes -/
def nbT (k n : Nat) : ByteArray := ⟨(Wi.be n (Wi.wd k)).toArray⟩
theorem nbT_size {k : Nat} (h1 : 1 ≤ k) (h8 : k ≤ 8) (n : Nat) : (nbT k n).size = k := by
  show ((Wi.be n (Wi.wd k)).toArray).size = k
  rw [List.size_toArray, Wi.be_length]
  unfold Wi.wd
  rw [if_neg (by omega), if_neg (by omega)]
  rfl
set_option maxHeartbeats 2000000 in
theorem number_n {w : World} (k n : Nat) (hn : n < 9223372036854775808) :
    Calls Try.prog 108 #[iN .i64 k, iN .i64 n] w fun e w' => e = .returned (.string (nbT k n)) ∧ Below w.heap.size w w' := by
  have H0 := HA.start w
  go_enter Try.func108, Try.ntmps108
  refine wp_seq (wl_region (zv (.string ({ data := #[] })) (wl_nil (then_at rfl (wp_seq (wl_region (zv (iN .i64 k) (zv (iN .i64 n) (zu (iN .u64 n) (run_conv .u64 Try.underlying3 Try.underlying22 ky (by simp only [top]; omega)) (zl (.string (nbT k n)) H0 enter96 _ (Wi.PutNumber_any w { data := #[] } k n (by decide)) (fun w1 h2 => (zv (.string (nbT k n)) (wl_nil (then_at rfl (wp_ret ?_)))))))))))))))
  repeat first|refine tr ?_|refine block_ret ?_
  exact bodyPost_ret (v := .string (nbT k n)) ky rfl ⟨rfl, h2.old.old⟩
theorem number_any {w : World} (k : Nat) {v : Int} (h0 : 0 ≤ v) (hv : v < 9223372036854775808) :
    Calls Try.prog 108 #[iN .i64 k, .int .i64 v] w fun e w' => e = .returned (.string (nbT k v.toNat)) ∧ Below w.heap.size w w' := by
  obtain ⟨n, rfl⟩ := Int.eq_ofNat_of_zero_le h0
  exact number_n k n (by omega)
set_option maxHeartbeats 2000000 in
theorem laid_any {w : World} (ss : List ByteArray) (o : Option Addr) (c : Nat) (hp : ss = [] ∨ ∃ pq cs, o = some ⟨pq, 0, none⟩ ∧ PreS cs ss ∧ Blk w pq 9 cs) {m : Nat} (hm0 : m ≤ 100000) (hss : ∀ i, (ss.getD i ByteArray.empty).size ≤ m) (hsl : ss.length ≤ 100) :
    Calls Try.prog 109 #[.slice o ss.length c] w fun e w' => e = .returned (.string (layT ss ss.length)) ∧ Below w.heap.size w w' := by
  have H0 := HA.start w
  go_enter Try.func109, Try.ntmps109
  refine wp_seq (wl_region (zv (.string ({ data := #[] })) (wl_nil (then_at rfl (wp_seq (wl_region (zv (.string ({ data := #[] })) (wl_nil (then_at rfl (wp_seq (wp_seq (wl_region (zv (.slice o ss.length c) (zv (iN .i64 ss.length) (zv (iN .i64 0) (wl_nil (then_at rfl (wp_block ?_))))))))))))))))))
  refine wp_count (fun i AQ w' => ∃ u1 : Nat → Value, AQ = ⟨(.slice o ss.length c :: un :: .string ({ data := #[] }) :: .string (layT ss i) :: un :: u1 5 :: .slice o ss.length c :: iN .i64 ss.length :: iN .i64 i :: u1 9 :: u1 10 :: u1 11 :: u1 12 :: u1 13 :: u1 14 :: u1 15 :: List.replicate 1 un).toArray, []⟩ ∧ HA (bs w) [] w') ss.length ?_ ?_ ?_
  {exact exu ky H0}
  {rintro i hk _ w2 ⟨u1, rfl, hT⟩
   obtain ⟨pq, cs, rfl, hps, hm⟩ := hp.resolve_left (by intro e; rw [e] at hk; simp at hk)
   refine wp_seq (wl_region (zu (.bool true) (run_lss (k := .i64) (a := i) (b := ss.length) ky ky true (decide_eq_true (by omega))) (wl_nil (then_at rfl (wp_seq (wp_cond_true ky (wp_skip (then_at rfl (wp_seq (wp_block (wp_seq (wl_region (zu (.pointer (some ⟨pq, i, none⟩)) (run_addr_slice (q := pq) (n := ss.length) (m := c) (a := i) Try.underlying28 (fun w => Try.sizeOf9 w) ky ky (by omega)) (zu (.string (ss.getD i ByteArray.empty)) (run_load1 (fun w => Try.isAgg9 w) ky (((hm.keep hT.old.old).cell i).trans (hps i hk))) (zv (.string (ss.getD i ByteArray.empty)) (wl_nil (then_at rfl (wl_region (zv (.string (layT ss i)) (zv (.string (ss.getD i ByteArray.empty)) (zl (.string (layT ss (i + 1))) hT enter97 #[.string (layT ss i), .string (ss.getD i ByteArray.empty)] (Wi.PutText_any w2 (layT ss i) (ss.getD i ByteArray.empty) (by have := layT_size hss i; have : i * (m + 4) ≤ 100 * (m + 4) := Nat.mul_le_mul_right _ (by omega); omega) (by have := hss i; omega)) (fun w3 h4 => (zv (.string (layT ss (i + 1))) (wl_nil (block_normal (then_at rfl (wl_region (zu (iN .i64 (i + 1)) (run_add (k := .i64) (a := i) (b := 1) ky ky (by simp only [top]; omega)) (zv (iN .i64 (i + 1)) (wl_nil ?_))))))))))))))))))))))))))))))
   exact then_I (exu ky h4)}
  {rintro _ w5 ⟨u1, rfl, hT⟩
   refine wp_seq (wl_region (zu (.bool false) (run_lss (k := .i64) (a := ss.length) (b := ss.length) ky ky false (decide_eq_false (by omega))) (wl_nil (then_at rfl (wp_seq (wp_cond_false ky ?_))))))
   refine wp_exit ?_
   repeat first | refine then_exit ?_ | refine block_exit ?_ | refine block_exit_ne (by decide) ?_
   refine then_at rfl (wp_seq (wl_region ?_))
   refine zv (.string (layT ss ss.length)) (zv (.string (layT ss ss.length)) (wl_nil (then_at rfl (wp_ret ?_))))
   repeat first|refine tr ?_|refine block_ret ?_
   exact bodyPost_ret (v := .string (layT ss ss.length)) ky rfl ⟨rfl, hT.old.old⟩}
theorem wo_le {s : ByteArray} (h : wo s = true) : 1 ≤ s.size ∧ s.size ≤ 16384 := by
  unfold wo wi at h
  simp only [Bool.and_eq_true, decide_eq_true_eq] at h
  omega
theorem wi_le {v lo hi : Int} (h : wi v lo hi = true) : lo ≤ v ∧ v ≤ hi := by
  unfold wi at h
  simpa only [Bool.and_eq_true, decide_eq_true_eq] using h
/-- what is so of a bundle that may be -/
structure MayX (x : Bu) : Prop where
  u0 : 0 ≤ x.u
  u1 : x.u ≤ 2
  d0 : 0 ≤ x.d
  d1 : x.d ≤ 1
  p0 : 1 ≤ x.pi
  p1 : x.pi ≤ 1073741824
  o0 : 0 ≤ x.oi
  o1 : x.oi ≤ 1073741824
  sg1 : 1 ≤ x.sg.size
  sg : x.sg.size ≤ 16384
  dh1 : 1 ≤ x.dh.size
  dh : x.dh.size ≤ 16384
  pr1 : 1 ≤ x.pr.size
  pr : x.pr.size ≤ 16384
  ps1 : 1 ≤ x.ps.size
  ps : x.ps.size ≤ 16384
  on : x.on.size ≤ 16384
  once : (x.oi = 0 ∧ x.on = { data := #[] }) ∨ (1 ≤ x.oi ∧ 1 ≤ x.on.size)
theorem mayX_iff {x : Bu} (h : mayX x = true) : MayX x := by
  unfold mayX at h
  simp only [Bool.and_eq_true, Bool.or_eq_true, decide_eq_true_eq] at h
  obtain ⟨⟨⟨⟨h1, h2⟩, h3⟩, ⟨⟨h4, h5⟩, h6⟩, h7⟩, h8⟩ := h
  have h8' : (x.oi = 0 ∧ x.on = { data := #[] }) ∨ (wi x.oi 1 1073741824 = true ∧ wo x.on = true) := h8.imp (fun e => by
    constructor
    · rw [e]; rfl
    · rw [e]; rfl) id
  have a1 := wi_le h1; have a2 := wi_le h2; have a3 := wi_le h3
  have a4 := wo_le h4; have a5 := wo_le h5; have a6 := wo_le h6; have a7 := wo_le h7
  have z : ({ data := #[] } : ByteArray).size = 0 := rfl
  rcases h8' with ⟨e1, e2⟩ | ⟨b1, b2⟩
  · exact ⟨a1.1, a1.2, a2.1, a2.2, a3.1, a3.2, by omega, by omega, a4.1, a4.2, a5.1, a5.2, a6.1, a6.2, a7.1, a7.2, by rw [e2, z]; omega, .inl ⟨e1, e2⟩⟩
  · have c1 := wi_le b1; have c2 := wo_le b2
    exact ⟨a1.1, a1.2, a2.1, a2.2, a3.1, a3.2, by omega, by omega, a4.1, a4.2, a5.1, a5.2, a6.1, a6.2, a7.1, a7.2, c2.2, .inr ⟨by omega, by omega⟩⟩
/-- a bundle's bytes -/
def encB (x : Bu) : ByteArray := ((((((nbT 1 x.u.toNat ++ nbT 1 x.d.toNat) ++ layT [x.sg, x.dh] 2) ++ nbT 4 x.pi.toNat) ++ layT [x.pr, x.ps] 2) ++ nbT 4 x.oi.toNat) ++ layT [x.on] 1)
theorem lay1_le {s : ByteArray} {m : Nat} (h : s.size ≤ m) : (layT [s] 1).size ≤ m + 4 := by
  have := layT_size (ss := [s]) (m := m) (ss1 h) 1
  omega
theorem lay2_le {s u : ByteArray} {m : Nat} (h : s.size ≤ m) (h2 : u.size ≤ m) : (layT [s, u] 2).size ≤ 2 * (m + 4) := layT_size (ss := [s, u]) (m := m) (ss2 h h2) 2
theorem encB_size {x : Bu} (hM : MayX x) : (encB x).size ≤ 100000 := by
  unfold encB
  have h1 := lay2_le hM.sg hM.dh; have h2 := lay2_le hM.pr hM.ps; have h3 := lay1_le hM.on
  simp only [ByteArray.size_append, nbT_size (k := 1) (by decide) (by decide), nbT_size (k := 4) (by decide) (by decide)]
  omega
set_option maxHeartbeats 2000000 in
theorem enc_n {w : World} (x : Bu) (hx : mayX x = false) :
    Calls Try.prog 95 #[.agg (buC x)] w fun e w' => e = .returned (.tuple #[.string { data := #[] }, iN .i64 2]) ∧ Below w.heap.size w w' := by
  have H0 := HA.start w
  go_enter Try.func95, Try.ntmps95
  refine wp_seq (wl_region (wl_make (c := buC x) H0 27 ky ky ?_))
  intro q1 w2 (h3 : HA (bs w) [(q1, 27, buC x)] w2)
  refine zv (.string ({ data := #[] })) (zv (iN .i64 0) (wl_nil (then_at rfl (wp_seq (wp_seq (wl_region (wl_load h3 0 rfl ky ky Try.underlying27 rfl ky (zl (.bool false) h3 enter107 _ (mayX_any x hx) (fun w4 h5 => (zv (.bool true) (wl_nil (then_at rfl (wp_cond_true ky (wp_seq (wl_region (zv (.string ({ data := #[] })) (zv (iN .i64 2) (wl_nil (then_at rfl (wp_ret ?_))))))))))))))))))))
  repeat first|refine tr ?_|refine block_ret ?_
  exact bodyPost_ret (v := .tuple #[.string { data := #[] }, iN .i64 2]) ky rfl ⟨rfl, h5.old.old⟩
def eB1 (x : Bu) : ByteArray := (nbT 1 x.u.toNat ++ nbT 1 x.d.toNat)
def eB2 (x : Bu) : ByteArray := eB1 x ++ layT [x.sg, x.dh] 2
def eB3 (x : Bu) : ByteArray := eB2 x ++ nbT 4 x.pi.toNat
def eB4 (x : Bu) : ByteArray := eB3 x ++ layT [x.pr, x.ps] 2
def eB5 (x : Bu) : ByteArray := eB4 x ++ nbT 4 x.oi.toNat
def eB6 (x : Bu) : ByteArray := eB5 x ++ layT [x.on] 1
theorem eBz {x : Bu} (hM : MayX x) : ((nbT 1 x.u.toNat).size = 1 ∧ (nbT 1 x.d.toNat).size = 1 ∧ (nbT 4 x.pi.toNat).size = 4 ∧ (nbT 4 x.oi.toNat).size = 4) ∧ ((layT [x.sg, x.dh] 2).size ≤ 40000 ∧ (layT [x.pr, x.ps] 2).size ≤ 40000 ∧ (layT [x.on] 1).size ≤ 40000) ∧ (eB1 x).size ≤ 200000 ∧ (eB2 x).size ≤ 200000 ∧ (eB3 x).size ≤ 200000 ∧ (eB4 x).size ≤ 200000 ∧ (eB5 x).size ≤ 200000 := by
  have h1 := lay2_le hM.sg hM.dh; have h2 := lay2_le hM.pr hM.ps; have h3 := lay1_le hM.on
  have a1 := nbT_size (k := 1) (by decide) (by decide) x.u.toNat; have a2 := nbT_size (k := 1) (by decide) (by decide) x.d.toNat; have a3 := nbT_size (k := 4) (by decide) (by decide) x.pi.toNat; have a4 := nbT_size (k := 4) (by decide) (by decide) x.oi.toNat
  simp only [eB1, eB2, eB3, eB4, eB5, ByteArray.size_append]
  omega
set_option maxHeartbeats 2000000 in
theorem enc_y {w : World} (x : Bu) (hx : mayX x = true) (hM : MayX x) :
    Calls Try.prog 95 #[.agg (buC x)] w fun e w' => e = .returned (.tuple #[.string (encB x), iN .i64 0]) ∧ Below w.heap.size w w' := by
  have H0 := HA.start w
  go_enter Try.func95, Try.ntmps95
  refine wp_seq (wl_region (wl_make (c := buC x) H0 27 ky ky ?_))
  intro q1 w2 (h3 : HA (bs w) [(q1, 27, buC x)] w2)
  refine zv (.string ({ data := #[] })) (zv (iN .i64 0) (wl_nil (then_at rfl (wp_seq (wp_seq (wl_region (wl_load h3 0 rfl ky ky Try.underlying27 rfl ky (zl (.bool true) h3 enter107 _ (mayX_any x hx) (fun w4 h5 => (zv (.bool false) (wl_nil (then_at rfl (wp_cond_false ky (wp_skip (then_at rfl (wp_seq ?_))))))))))))))))
  refine wp_region_wxh h5 (fun AQ w' => ∃ (q9 : Nat) (q17 : Nat) (q25 : Nat), AQ = ⟨(.agg (buC x) :: pt q1 :: .string (eB6 x) :: iN .i64 0 :: .agg (buC x) :: .bool true :: .bool false :: pt q1 :: .int .i64 x.u :: .string (nbT 1 x.u.toNat) :: .pointer (some ⟨q1, 1, none⟩) :: .int .i64 x.d :: .string (nbT 1 x.d.toNat) :: .string (eB1 x) :: .pointer (some ⟨q1, 2, none⟩) :: .string x.sg :: .pointer (some ⟨q1, 3, none⟩) :: .string x.dh :: .slice (some ⟨q9, 0, none⟩) 2 2 :: .string (layT [x.sg, x.dh] 2) :: .string (eB2 x) :: .pointer (some ⟨q1, 4, none⟩) :: .int .i64 x.pi :: .string (nbT 4 x.pi.toNat) :: .string (eB3 x) :: .pointer (some ⟨q1, 5, none⟩) :: .string x.pr :: .pointer (some ⟨q1, 6, none⟩) :: .string x.ps :: .slice (some ⟨q17, 0, none⟩) 2 2 :: .string (layT [x.pr, x.ps] 2) :: .string (eB4 x) :: .pointer (some ⟨q1, 7, none⟩) :: .int .i64 x.oi :: .string (nbT 4 x.oi.toNat) :: .string (eB5 x) :: .pointer (some ⟨q1, 8, none⟩) :: .string x.on :: .slice (some ⟨q25, 0, none⟩) 1 1 :: .string (layT [x.on] 1) :: .string (eB6 x) :: List.replicate 0 un).toArray, []⟩ ∧ HA (bs w) [(q25, 9, #[.string x.on]), (q17, 9, #[.string x.pr, .string x.ps]), (q9, 9, #[.string x.sg, .string x.dh]), (q1, 27, buC x)] w') 36 ky ky ky ky ky ?_ ?_
  {have h6 := h5.drew
   refine zp 0 (.pointer (some ⟨q1, 0, none⟩)) (zx 1 (.int .i64 x.u) rfl (fun w' h' => run_load1 (fun w => Try.isAgg3 w) ky (((h'.get 0 rfl).cell 0).trans rfl)) (zc 2 (.string (nbT 1 x.u.toNat)) rfl enter108 _ (fun w' h' => number_any 1 hM.u0 (by have := hM.u1; omega)) (zp 3 (.pointer (some ⟨q1, 1, none⟩)) (zx 4 (.int .i64 x.d) rfl (fun w' h' => run_load1 (fun w => Try.isAgg3 w) ky (((h'.get 0 rfl).cell 1).trans rfl)) (zc 5 (.string (nbT 1 x.d.toNat)) rfl enter108 _ (fun w' h' => number_any 1 hM.d0 (by have := hM.d1; omega)) (zq 6 (.string (eB1 x)) rfl (fun _ => (run_cat (s := nbT 1 x.u.toNat) (t := nbT 1 x.d.toNat) ky ky (by have := eBz hM; omega))) (zp 7 (.pointer (some ⟨q1, 2, none⟩)) (zx 8 (.string x.sg) rfl (fun w' h' => run_load1 (fun w => Try.isAgg9 w) ky (((h'.get 0 rfl).cell 2).trans rfl)) (zp 9 (.pointer (some ⟨q1, 3, none⟩)) (zx 10 (.string x.dh) rfl (fun w' h' => run_load1 (fun w => Try.isAgg9 w) ky (((h'.get 0 rfl).cell 3).trans rfl)) (zp 14 (.pointer (some ⟨q1, 4, none⟩)) (zx 15 (.int .i64 x.pi) rfl (fun w' h' => run_load1 (fun w => Try.isAgg3 w) ky (((h'.get 0 rfl).cell 4).trans rfl)) (zp 18 (.pointer (some ⟨q1, 5, none⟩)) (zx 19 (.string x.pr) rfl (fun w' h' => run_load1 (fun w => Try.isAgg9 w) ky (((h'.get 0 rfl).cell 5).trans rfl)) (zp 20 (.pointer (some ⟨q1, 6, none⟩)) (zx 21 (.string x.ps) rfl (fun w' h' => run_load1 (fun w => Try.isAgg9 w) ky (((h'.get 0 rfl).cell 6).trans rfl)) (zp 25 (.pointer (some ⟨q1, 7, none⟩)) (zx 26 (.int .i64 x.oi) rfl (fun w' h' => run_load1 (fun w => Try.isAgg3 w) ky (((h'.get 0 rfl).cell 7).trans rfl)) (zp 29 (.pointer (some ⟨q1, 8, none⟩)) (zx 30 (.string x.on) rfl (fun w' h' => run_load1 (fun w => Try.isAgg9 w) ky (((h'.get 0 rfl).cell 8).trans rfl)) ?_))))))))))))))))))))
   refine wx_three 11 22 31 ky ?_ ?_ ?_
   {refine ex_makeT (c := #[.string x.sg, .string x.dh]) rfl ky h6 9 (fun q => .slice (some ⟨q, 0, none⟩) 2 2) (fun _ => ky) ?_
    intro q9 w7 (h8 : HA (bs w) [(q9, 9, #[.string x.sg, .string x.dh]), (q1, 27, buC x)] w7)
    refine ⟨_, .inr rfl, (HA.sub h8 (List.Sublist.cons _ (List.Sublist.cons_cons _ (List.Sublist.refl _)))), ?_⟩
    refine wx_three 12 22 31 ky ?_ ?_ ?_
    {refine ex_callx rfl ky h8 enter109 #[.slice (some ⟨q9, 0, none⟩) 2 2] ky (fun w10 h11 => laid_any [x.sg, x.dh] _ _ (.inr ⟨q9, _, rfl, PreS.strc [x.sg, x.dh], h11.get 0 rfl⟩) (m := 16384) (by decide) (ss2 hM.sg hM.dh) (by simp)) ?_
     rintro w10 h11 _ w13 ⟨rfl, hb12⟩
     have h14 := HA.keep _ _ h11 hb12
     refine ⟨_, rfl, _, .inr rfl, (HA.sub h14 (List.Sublist.cons _ (List.Sublist.cons_cons _ (List.Sublist.refl _)))), ?_⟩
     refine zq 13 (.string (eB2 x)) rfl (fun _ => (run_cat (s := (eB1 x)) (t := layT [x.sg, x.dh] 2) ky ky (by have := eBz hM; omega))) (zc 16 (.string (nbT 4 x.pi.toNat)) rfl enter108 _ (fun w' h' => number_any 4 (by have := hM.p0; omega) (by have := hM.p1; omega)) (zq 17 (.string (eB3 x)) rfl (fun _ => (run_cat (s := (eB2 x)) (t := nbT 4 x.pi.toNat) ky ky (by have := eBz hM; omega))) ?_))
     refine wx_two 22 31 ky ?_ ?_
     {refine ex_makeT (c := #[.string x.pr, .string x.ps]) rfl ky h14 9 (fun q => .slice (some ⟨q, 0, none⟩) 2 2) (fun _ => ky) ?_
      intro q17 w15 (h16 : HA (bs w) [(q17, 9, #[.string x.pr, .string x.ps]), (q9, 9, #[.string x.sg, .string x.dh]), (q1, 27, buC x)] w15)
      refine ⟨_, .inr rfl, (HA.sub h16 (List.Sublist.cons _ (List.Sublist.cons _ (List.Sublist.cons_cons _ (List.Sublist.refl _))))), ?_⟩
      refine wx_two 23 31 ky ?_ ?_
      {refine ex_callx rfl ky h16 enter109 #[.slice (some ⟨q17, 0, none⟩) 2 2] ky (fun w18 h19 => laid_any [x.pr, x.ps] _ _ (.inr ⟨q17, _, rfl, PreS.strc [x.pr, x.ps], h19.get 0 rfl⟩) (m := 16384) (by decide) (ss2 hM.pr hM.ps) (by simp)) ?_
       rintro w18 h19 _ w21 ⟨rfl, hb20⟩
       have h22 := HA.keep _ _ h19 hb20
       refine ⟨_, rfl, _, .inr rfl, (HA.sub h22 (List.Sublist.cons _ (List.Sublist.cons _ (List.Sublist.cons_cons _ (List.Sublist.refl _))))), ?_⟩
       refine zq 24 (.string (eB4 x)) rfl (fun _ => (run_cat (s := (eB3 x)) (t := layT [x.pr, x.ps] 2) ky ky (by have := eBz hM; omega))) (zc 27 (.string (nbT 4 x.oi.toNat)) rfl enter108 _ (fun w' h' => number_any 4 hM.o0 (by have := hM.o1; omega)) (zq 28 (.string (eB5 x)) rfl (fun _ => (run_cat (s := (eB4 x)) (t := nbT 4 x.oi.toNat) ky ky (by have := eBz hM; omega))) (wx_one 31 ky ?_)))
       refine ex_makeT (c := #[.string x.on]) rfl ky h22 9 (fun q => .slice (some ⟨q, 0, none⟩) 1 1) (fun _ => ky) ?_
       intro q25 w23 (h24 : HA (bs w) [(q25, 9, #[.string x.on]), (q17, 9, #[.string x.pr, .string x.ps]), (q9, 9, #[.string x.sg, .string x.dh]), (q1, 27, buC x)] w23)
       refine ⟨_, .inr rfl, (HA.sub h24 (List.Sublist.cons _ (List.Sublist.cons _ (List.Sublist.cons _ (List.Sublist.cons_cons _ (List.Sublist.refl _)))))), ?_⟩
       refine wx_one 32 ky ?_
       refine ex_callx rfl ky h24 enter109 #[.slice (some ⟨q25, 0, none⟩) 1 1] ky (fun w26 h27 => laid_any [x.on] _ _ (.inr ⟨q25, _, rfl, PreS.strc [x.on], h27.get 0 rfl⟩) (m := 16384) (by decide) (ss1 hM.on) (by simp)) ?_
       rintro w26 h27 _ w29 ⟨rfl, hb28⟩
       have h30 := HA.keep _ _ h27 hb28
       refine ⟨_, rfl, _, .inl ky, h30, ?_⟩
       refine zq 33 (.string (eB6 x)) rfl (fun _ => (run_cat (s := (eB5 x)) (t := layT [x.on] 1) ky ky (by have := eBz hM; omega))) (zp 34 (.string (eB6 x)) (zp 35 (iN .i64 0) ?_))
       refine wx_end fun w31 hbx _ => ?_
       have h32 := HA.keep _ _ h30 hbx
       exact ⟨q9, q17, q25, by kernel_rfl, h32⟩}
      {refine ex_makeT (c := #[.string x.on]) rfl ky h16 9 (fun q => .slice (some ⟨q, 0, none⟩) 1 1) (fun _ => ky) ?_
       intro q35 w33 (h34 : HA (bs w) [(q35, 9, #[.string x.on]), (q17, 9, #[.string x.pr, .string x.ps]), (q9, 9, #[.string x.sg, .string x.dh]), (q1, 27, buC x)] w33)
       refine ⟨_, .inr rfl, (HA.sub h34 (List.Sublist.cons _ (List.Sublist.cons _ (List.Sublist.cons _ (List.Sublist.cons_cons _ (List.Sublist.refl _)))))), ?_⟩
       refine wx_one 23 ky ?_
       refine ex_callx rfl ky h34 enter109 #[.slice (some ⟨q17, 0, none⟩) 2 2] ky (fun w36 h37 => laid_any [x.pr, x.ps] _ _ (.inr ⟨q17, _, rfl, PreS.strc [x.pr, x.ps], h37.get 1 rfl⟩) (m := 16384) (by decide) (ss2 hM.pr hM.ps) (by simp)) ?_
       rintro w36 h37 _ w39 ⟨rfl, hb38⟩
       have h40 := HA.keep _ _ h37 hb38
       refine ⟨_, rfl, _, .inr rfl, (HA.sub h40 (List.Sublist.cons _ (List.Sublist.cons _ (List.Sublist.cons _ (List.Sublist.cons_cons _ (List.Sublist.refl _)))))), ?_⟩
       refine zq 24 (.string (eB4 x)) rfl (fun _ => (run_cat (s := (eB3 x)) (t := layT [x.pr, x.ps] 2) ky ky (by have := eBz hM; omega))) (zc 27 (.string (nbT 4 x.oi.toNat)) rfl enter108 _ (fun w' h' => number_any 4 hM.o0 (by have := hM.o1; omega)) (zq 28 (.string (eB5 x)) rfl (fun _ => (run_cat (s := (eB4 x)) (t := nbT 4 x.oi.toNat) ky ky (by have := eBz hM; omega))) (wx_one 32 ky ?_)))
       refine ex_callx rfl ky h40 enter109 #[.slice (some ⟨q35, 0, none⟩) 1 1] ky (fun w41 h42 => laid_any [x.on] _ _ (.inr ⟨q35, _, rfl, PreS.strc [x.on], h42.get 0 rfl⟩) (m := 16384) (by decide) (ss1 hM.on) (by simp)) ?_
       rintro w41 h42 _ w44 ⟨rfl, hb43⟩
       have h45 := HA.keep _ _ h42 hb43
       refine ⟨_, rfl, _, .inl ky, h45, ?_⟩
       refine zq 33 (.string (eB6 x)) rfl (fun _ => (run_cat (s := (eB5 x)) (t := layT [x.on] 1) ky ky (by have := eBz hM; omega))) (zp 34 (.string (eB6 x)) (zp 35 (iN .i64 0) ?_))
       refine wx_end fun w46 hbx _ => ?_
       have h47 := HA.keep _ _ h45 hbx
       exact ⟨q9, q17, q35, by kernel_rfl, h47⟩}}
     {refine ex_makeT (c := #[.string x.on]) rfl ky h14 9 (fun q => .slice (some ⟨q, 0, none⟩) 1 1) (fun _ => ky) ?_
      intro q50 w48 (h49 : HA (bs w) [(q50, 9, #[.string x.on]), (q9, 9, #[.string x.sg, .string x.dh]), (q1, 27, buC x)] w48)
      refine ⟨_, .inr rfl, (HA.sub h49 (List.Sublist.cons _ (List.Sublist.cons _ (List.Sublist.cons_cons _ (List.Sublist.refl _))))), ?_⟩
      refine wx_one 22 ky ?_
      refine ex_makeT (c := #[.string x.pr, .string x.ps]) rfl ky h49 9 (fun q => .slice (some ⟨q, 0, none⟩) 2 2) (fun _ => ky) ?_
      intro q53 w51 (h52 : HA (bs w) [(q53, 9, #[.string x.pr, .string x.ps]), (q50, 9, #[.string x.on]), (q9, 9, #[.string x.sg, .string x.dh]), (q1, 27, buC x)] w51)
      refine ⟨_, .inr rfl, (HA.sub h52 (List.Sublist.cons _ (List.Sublist.cons _ (List.Sublist.cons _ (List.Sublist.cons_cons _ (List.Sublist.refl _)))))), ?_⟩
      refine wx_one 23 ky ?_
      refine ex_callx rfl ky h52 enter109 #[.slice (some ⟨q53, 0, none⟩) 2 2] ky (fun w54 h55 => laid_any [x.pr, x.ps] _ _ (.inr ⟨q53, _, rfl, PreS.strc [x.pr, x.ps], h55.get 0 rfl⟩) (m := 16384) (by decide) (ss2 hM.pr hM.ps) (by simp)) ?_
      rintro w54 h55 _ w57 ⟨rfl, hb56⟩
      have h58 := HA.keep _ _ h55 hb56
      refine ⟨_, rfl, _, .inr rfl, (HA.sub h58 (List.Sublist.cons _ (List.Sublist.cons _ (List.Sublist.cons _ (List.Sublist.cons_cons _ (List.Sublist.refl _)))))), ?_⟩
      refine zq 24 (.string (eB4 x)) rfl (fun _ => (run_cat (s := (eB3 x)) (t := layT [x.pr, x.ps] 2) ky ky (by have := eBz hM; omega))) (zc 27 (.string (nbT 4 x.oi.toNat)) rfl enter108 _ (fun w' h' => number_any 4 hM.o0 (by have := hM.o1; omega)) (zq 28 (.string (eB5 x)) rfl (fun _ => (run_cat (s := (eB4 x)) (t := nbT 4 x.oi.toNat) ky ky (by have := eBz hM; omega))) (wx_one 32 ky ?_)))
      refine ex_callx rfl ky h58 enter109 #[.slice (some ⟨q50, 0, none⟩) 1 1] ky (fun w59 h60 => laid_any [x.on] _ _ (.inr ⟨q50, _, rfl, PreS.strc [x.on], h60.get 1 rfl⟩) (m := 16384) (by decide) (ss1 hM.on) (by simp)) ?_
      rintro w59 h60 _ w62 ⟨rfl, hb61⟩
      have h63 := HA.keep _ _ h60 hb61
      refine ⟨_, rfl, _, .inl ky, h63, ?_⟩
      refine zq 33 (.string (eB6 x)) rfl (fun _ => (run_cat (s := (eB5 x)) (t := layT [x.on] 1) ky ky (by have := eBz hM; omega))) (zp 34 (.string (eB6 x)) (zp 35 (iN .i64 0) ?_))
      refine wx_end fun w64 hbx _ => ?_
      have h65 := HA.keep _ _ h63 hbx
      exact ⟨q9, q53, q50, by kernel_rfl, (HA.perm h65 (List.Perm.swap _ _ _))⟩}}
    {refine ex_makeT (c := #[.string x.pr, .string x.ps]) rfl ky h8 9 (fun q => .slice (some ⟨q, 0, none⟩) 2 2) (fun _ => ky) ?_
     intro q68 w66 (h67 : HA (bs w) [(q68, 9, #[.string x.pr, .string x.ps]), (q9, 9, #[.string x.sg, .string x.dh]), (q1, 27, buC x)] w66)
     refine ⟨_, .inr rfl, (HA.sub h67 (List.Sublist.cons _ (List.Sublist.cons _ (List.Sublist.cons_cons _ (List.Sublist.refl _))))), ?_⟩
     refine wx_two 12 31 ky ?_ ?_
     {refine ex_callx rfl ky h67 enter109 #[.slice (some ⟨q9, 0, none⟩) 2 2] ky (fun w69 h70 => laid_any [x.sg, x.dh] _ _ (.inr ⟨q9, _, rfl, PreS.strc [x.sg, x.dh], h70.get 1 rfl⟩) (m := 16384) (by decide) (ss2 hM.sg hM.dh) (by simp)) ?_
      rintro w69 h70 _ w72 ⟨rfl, hb71⟩
      have h73 := HA.keep _ _ h70 hb71
      refine ⟨_, rfl, _, .inr rfl, (HA.sub h73 (List.Sublist.cons _ (List.Sublist.cons _ (List.Sublist.cons_cons _ (List.Sublist.refl _))))), ?_⟩
      refine zq 13 (.string (eB2 x)) rfl (fun _ => (run_cat (s := (eB1 x)) (t := layT [x.sg, x.dh] 2) ky ky (by have := eBz hM; omega))) (zc 16 (.string (nbT 4 x.pi.toNat)) rfl enter108 _ (fun w' h' => number_any 4 (by have := hM.p0; omega) (by have := hM.p1; omega)) (zq 17 (.string (eB3 x)) rfl (fun _ => (run_cat (s := (eB2 x)) (t := nbT 4 x.pi.toNat) ky ky (by have := eBz hM; omega))) ?_))
      refine wx_two 23 31 ky ?_ ?_
      {refine ex_callx rfl ky h73 enter109 #[.slice (some ⟨q68, 0, none⟩) 2 2] ky (fun w74 h75 => laid_any [x.pr, x.ps] _ _ (.inr ⟨q68, _, rfl, PreS.strc [x.pr, x.ps], h75.get 0 rfl⟩) (m := 16384) (by decide) (ss2 hM.pr hM.ps) (by simp)) ?_
       rintro w74 h75 _ w77 ⟨rfl, hb76⟩
       have h78 := HA.keep _ _ h75 hb76
       refine ⟨_, rfl, _, .inr rfl, (HA.sub h78 (List.Sublist.cons _ (List.Sublist.cons _ (List.Sublist.cons_cons _ (List.Sublist.refl _))))), ?_⟩
       refine zq 24 (.string (eB4 x)) rfl (fun _ => (run_cat (s := (eB3 x)) (t := layT [x.pr, x.ps] 2) ky ky (by have := eBz hM; omega))) (zc 27 (.string (nbT 4 x.oi.toNat)) rfl enter108 _ (fun w' h' => number_any 4 hM.o0 (by have := hM.o1; omega)) (zq 28 (.string (eB5 x)) rfl (fun _ => (run_cat (s := (eB4 x)) (t := nbT 4 x.oi.toNat) ky ky (by have := eBz hM; omega))) (wx_one 31 ky ?_)))
       refine ex_makeT (c := #[.string x.on]) rfl ky h78 9 (fun q => .slice (some ⟨q, 0, none⟩) 1 1) (fun _ => ky) ?_
       intro q81 w79 (h80 : HA (bs w) [(q81, 9, #[.string x.on]), (q68, 9, #[.string x.pr, .string x.ps]), (q9, 9, #[.string x.sg, .string x.dh]), (q1, 27, buC x)] w79)
       refine ⟨_, .inr rfl, (HA.sub h80 (List.Sublist.cons _ (List.Sublist.cons _ (List.Sublist.cons _ (List.Sublist.cons_cons _ (List.Sublist.refl _)))))), ?_⟩
       refine wx_one 32 ky ?_
       refine ex_callx rfl ky h80 enter109 #[.slice (some ⟨q81, 0, none⟩) 1 1] ky (fun w82 h83 => laid_any [x.on] _ _ (.inr ⟨q81, _, rfl, PreS.strc [x.on], h83.get 0 rfl⟩) (m := 16384) (by decide) (ss1 hM.on) (by simp)) ?_
       rintro w82 h83 _ w85 ⟨rfl, hb84⟩
       have h86 := HA.keep _ _ h83 hb84
       refine ⟨_, rfl, _, .inl ky, h86, ?_⟩
       refine zq 33 (.string (eB6 x)) rfl (fun _ => (run_cat (s := (eB5 x)) (t := layT [x.on] 1) ky ky (by have := eBz hM; omega))) (zp 34 (.string (eB6 x)) (zp 35 (iN .i64 0) ?_))
       refine wx_end fun w87 hbx _ => ?_
       have h88 := HA.keep _ _ h86 hbx
       exact ⟨q9, q68, q81, by kernel_rfl, h88⟩}
      {refine ex_makeT (c := #[.string x.on]) rfl ky h73 9 (fun q => .slice (some ⟨q, 0, none⟩) 1 1) (fun _ => ky) ?_
       intro q91 w89 (h90 : HA (bs w) [(q91, 9, #[.string x.on]), (q68, 9, #[.string x.pr, .string x.ps]), (q9, 9, #[.string x.sg, .string x.dh]), (q1, 27, buC x)] w89)
       refine ⟨_, .inr rfl, (HA.sub h90 (List.Sublist.cons _ (List.Sublist.cons _ (List.Sublist.cons _ (List.Sublist.cons_cons _ (List.Sublist.refl _)))))), ?_⟩
       refine wx_one 23 ky ?_
       refine ex_callx rfl ky h90 enter109 #[.slice (some ⟨q68, 0, none⟩) 2 2] ky (fun w92 h93 => laid_any [x.pr, x.ps] _ _ (.inr ⟨q68, _, rfl, PreS.strc [x.pr, x.ps], h93.get 1 rfl⟩) (m := 16384) (by decide) (ss2 hM.pr hM.ps) (by simp)) ?_
       rintro w92 h93 _ w95 ⟨rfl, hb94⟩
       have h96 := HA.keep _ _ h93 hb94
       refine ⟨_, rfl, _, .inr rfl, (HA.sub h96 (List.Sublist.cons _ (List.Sublist.cons _ (List.Sublist.cons _ (List.Sublist.cons_cons _ (List.Sublist.refl _)))))), ?_⟩
       refine zq 24 (.string (eB4 x)) rfl (fun _ => (run_cat (s := (eB3 x)) (t := layT [x.pr, x.ps] 2) ky ky (by have := eBz hM; omega))) (zc 27 (.string (nbT 4 x.oi.toNat)) rfl enter108 _ (fun w' h' => number_any 4 hM.o0 (by have := hM.o1; omega)) (zq 28 (.string (eB5 x)) rfl (fun _ => (run_cat (s := (eB4 x)) (t := nbT 4 x.oi.toNat) ky ky (by have := eBz hM; omega))) (wx_one 32 ky ?_)))
       refine ex_callx rfl ky h96 enter109 #[.slice (some ⟨q91, 0, none⟩) 1 1] ky (fun w97 h98 => laid_any [x.on] _ _ (.inr ⟨q91, _, rfl, PreS.strc [x.on], h98.get 0 rfl⟩) (m := 16384) (by decide) (ss1 hM.on) (by simp)) ?_
       rintro w97 h98 _ w100 ⟨rfl, hb99⟩
       have h101 := HA.keep _ _ h98 hb99
       refine ⟨_, rfl, _, .inl ky, h101, ?_⟩
       refine zq 33 (.string (eB6 x)) rfl (fun _ => (run_cat (s := (eB5 x)) (t := layT [x.on] 1) ky ky (by have := eBz hM; omega))) (zp 34 (.string (eB6 x)) (zp 35 (iN .i64 0) ?_))
       refine wx_end fun w102 hbx _ => ?_
       have h103 := HA.keep _ _ h101 hbx
       exact ⟨q9, q68, q91, by kernel_rfl, h103⟩}}
     {refine ex_makeT (c := #[.string x.on]) rfl ky h67 9 (fun q => .slice (some ⟨q, 0, none⟩) 1 1) (fun _ => ky) ?_
      intro q106 w104 (h105 : HA (bs w) [(q106, 9, #[.string x.on]), (q68, 9, #[.string x.pr, .string x.ps]), (q9, 9, #[.string x.sg, .string x.dh]), (q1, 27, buC x)] w104)
      refine ⟨_, .inr rfl, (HA.sub h105 (List.Sublist.cons _ (List.Sublist.cons _ (List.Sublist.cons _ (List.Sublist.cons_cons _ (List.Sublist.refl _)))))), ?_⟩
      refine wx_one 12 ky ?_
      refine ex_callx rfl ky h105 enter109 #[.slice (some ⟨q9, 0, none⟩) 2 2] ky (fun w107 h108 => laid_any [x.sg, x.dh] _ _ (.inr ⟨q9, _, rfl, PreS.strc [x.sg, x.dh], h108.get 2 rfl⟩) (m := 16384) (by decide) (ss2 hM.sg hM.dh) (by simp)) ?_
      rintro w107 h108 _ w110 ⟨rfl, hb109⟩
      have h111 := HA.keep _ _ h108 hb109
      refine ⟨_, rfl, _, .inr rfl, (HA.sub h111 (List.Sublist.cons _ (List.Sublist.cons _ (List.Sublist.cons _ (List.Sublist.cons_cons _ (List.Sublist.refl _)))))), ?_⟩
      refine zq 13 (.string (eB2 x)) rfl (fun _ => (run_cat (s := (eB1 x)) (t := layT [x.sg, x.dh] 2) ky ky (by have := eBz hM; omega))) (zc 16 (.string (nbT 4 x.pi.toNat)) rfl enter108 _ (fun w' h' => number_any 4 (by have := hM.p0; omega) (by have := hM.p1; omega)) (zq 17 (.string (eB3 x)) rfl (fun _ => (run_cat (s := (eB2 x)) (t := nbT 4 x.pi.toNat) ky ky (by have := eBz hM; omega))) (wx_one 23 ky ?_)))
      refine ex_callx rfl ky h111 enter109 #[.slice (some ⟨q68, 0, none⟩) 2 2] ky (fun w112 h113 => laid_any [x.pr, x.ps] _ _ (.inr ⟨q68, _, rfl, PreS.strc [x.pr, x.ps], h113.get 1 rfl⟩) (m := 16384) (by decide) (ss2 hM.pr hM.ps) (by simp)) ?_
      rintro w112 h113 _ w115 ⟨rfl, hb114⟩
      have h116 := HA.keep _ _ h113 hb114
      refine ⟨_, rfl, _, .inr rfl, (HA.sub h116 (List.Sublist.cons _ (List.Sublist.cons _ (List.Sublist.cons _ (List.Sublist.cons_cons _ (List.Sublist.refl _)))))), ?_⟩
      refine zq 24 (.string (eB4 x)) rfl (fun _ => (run_cat (s := (eB3 x)) (t := layT [x.pr, x.ps] 2) ky ky (by have := eBz hM; omega))) (zc 27 (.string (nbT 4 x.oi.toNat)) rfl enter108 _ (fun w' h' => number_any 4 hM.o0 (by have := hM.o1; omega)) (zq 28 (.string (eB5 x)) rfl (fun _ => (run_cat (s := (eB4 x)) (t := nbT 4 x.oi.toNat) ky ky (by have := eBz hM; omega))) (wx_one 32 ky ?_)))
      refine ex_callx rfl ky h116 enter109 #[.slice (some ⟨q106, 0, none⟩) 1 1] ky (fun w117 h118 => laid_any [x.on] _ _ (.inr ⟨q106, _, rfl, PreS.strc [x.on], h118.get 0 rfl⟩) (m := 16384) (by decide) (ss1 hM.on) (by simp)) ?_
      rintro w117 h118 _ w120 ⟨rfl, hb119⟩
      have h121 := HA.keep _ _ h118 hb119
      refine ⟨_, rfl, _, .inl ky, h121, ?_⟩
      refine zq 33 (.string (eB6 x)) rfl (fun _ => (run_cat (s := (eB5 x)) (t := layT [x.on] 1) ky ky (by have := eBz hM; omega))) (zp 34 (.string (eB6 x)) (zp 35 (iN .i64 0) ?_))
      refine wx_end fun w122 hbx _ => ?_
      have h123 := HA.keep _ _ h121 hbx
      exact ⟨q9, q68, q106, by kernel_rfl, h123⟩}}
    {refine ex_makeT (c := #[.string x.on]) rfl ky h8 9 (fun q => .slice (some ⟨q, 0, none⟩) 1 1) (fun _ => ky) ?_
     intro q126 w124 (h125 : HA (bs w) [(q126, 9, #[.string x.on]), (q9, 9, #[.string x.sg, .string x.dh]), (q1, 27, buC x)] w124)
     refine ⟨_, .inr rfl, (HA.sub h125 (List.Sublist.cons _ (List.Sublist.cons _ (List.Sublist.cons_cons _ (List.Sublist.refl _))))), ?_⟩
     refine wx_two 12 22 ky ?_ ?_
     {refine ex_callx rfl ky h125 enter109 #[.slice (some ⟨q9, 0, none⟩) 2 2] ky (fun w127 h128 => laid_any [x.sg, x.dh] _ _ (.inr ⟨q9, _, rfl, PreS.strc [x.sg, x.dh], h128.get 1 rfl⟩) (m := 16384) (by decide) (ss2 hM.sg hM.dh) (by simp)) ?_
      rintro w127 h128 _ w130 ⟨rfl, hb129⟩
      have h131 := HA.keep _ _ h128 hb129
      refine ⟨_, rfl, _, .inr rfl, (HA.sub h131 (List.Sublist.cons _ (List.Sublist.cons _ (List.Sublist.cons_cons _ (List.Sublist.refl _))))), ?_⟩
      refine zq 13 (.string (eB2 x)) rfl (fun _ => (run_cat (s := (eB1 x)) (t := layT [x.sg, x.dh] 2) ky ky (by have := eBz hM; omega))) (zc 16 (.string (nbT 4 x.pi.toNat)) rfl enter108 _ (fun w' h' => number_any 4 (by have := hM.p0; omega) (by have := hM.p1; omega)) (zq 17 (.string (eB3 x)) rfl (fun _ => (run_cat (s := (eB2 x)) (t := nbT 4 x.pi.toNat) ky ky (by have := eBz hM; omega))) (wx_one 22 ky ?_)))
      refine ex_makeT (c := #[.string x.pr, .string x.ps]) rfl ky h131 9 (fun q => .slice (some ⟨q, 0, none⟩) 2 2) (fun _ => ky) ?_
      intro q134 w132 (h133 : HA (bs w) [(q134, 9, #[.string x.pr, .string x.ps]), (q126, 9, #[.string x.on]), (q9, 9, #[.string x.sg, .string x.dh]), (q1, 27, buC x)] w132)
      refine ⟨_, .inr rfl, (HA.sub h133 (List.Sublist.cons _ (List.Sublist.cons _ (List.Sublist.cons _ (List.Sublist.cons_cons _ (List.Sublist.refl _)))))), ?_⟩
      refine wx_one 23 ky ?_
      refine ex_callx rfl ky h133 enter109 #[.slice (some ⟨q134, 0, none⟩) 2 2] ky (fun w135 h136 => laid_any [x.pr, x.ps] _ _ (.inr ⟨q134, _, rfl, PreS.strc [x.pr, x.ps], h136.get 0 rfl⟩) (m := 16384) (by decide) (ss2 hM.pr hM.ps) (by simp)) ?_
      rintro w135 h136 _ w138 ⟨rfl, hb137⟩
      have h139 := HA.keep _ _ h136 hb137
      refine ⟨_, rfl, _, .inr rfl, (HA.sub h139 (List.Sublist.cons _ (List.Sublist.cons _ (List.Sublist.cons _ (List.Sublist.cons_cons _ (List.Sublist.refl _)))))), ?_⟩
      refine zq 24 (.string (eB4 x)) rfl (fun _ => (run_cat (s := (eB3 x)) (t := layT [x.pr, x.ps] 2) ky ky (by have := eBz hM; omega))) (zc 27 (.string (nbT 4 x.oi.toNat)) rfl enter108 _ (fun w' h' => number_any 4 hM.o0 (by have := hM.o1; omega)) (zq 28 (.string (eB5 x)) rfl (fun _ => (run_cat (s := (eB4 x)) (t := nbT 4 x.oi.toNat) ky ky (by have := eBz hM; omega))) (wx_one 32 ky ?_)))
      refine ex_callx rfl ky h139 enter109 #[.slice (some ⟨q126, 0, none⟩) 1 1] ky (fun w140 h141 => laid_any [x.on] _ _ (.inr ⟨q126, _, rfl, PreS.strc [x.on], h141.get 1 rfl⟩) (m := 16384) (by decide) (ss1 hM.on) (by simp)) ?_
      rintro w140 h141 _ w143 ⟨rfl, hb142⟩
      have h144 := HA.keep _ _ h141 hb142
      refine ⟨_, rfl, _, .inl ky, h144, ?_⟩
      refine zq 33 (.string (eB6 x)) rfl (fun _ => (run_cat (s := (eB5 x)) (t := layT [x.on] 1) ky ky (by have := eBz hM; omega))) (zp 34 (.string (eB6 x)) (zp 35 (iN .i64 0) ?_))
      refine wx_end fun w145 hbx _ => ?_
      have h146 := HA.keep _ _ h144 hbx
      exact ⟨q9, q134, q126, by kernel_rfl, (HA.perm h146 (List.Perm.swap _ _ _))⟩}
     {refine ex_makeT (c := #[.string x.pr, .string x.ps]) rfl ky h125 9 (fun q => .slice (some ⟨q, 0, none⟩) 2 2) (fun _ => ky) ?_
      intro q149 w147 (h148 : HA (bs w) [(q149, 9, #[.string x.pr, .string x.ps]), (q126, 9, #[.string x.on]), (q9, 9, #[.string x.sg, .string x.dh]), (q1, 27, buC x)] w147)
      refine ⟨_, .inr rfl, (HA.sub h148 (List.Sublist.cons _ (List.Sublist.cons _ (List.Sublist.cons _ (List.Sublist.cons_cons _ (List.Sublist.refl _)))))), ?_⟩
      refine wx_one 12 ky ?_
      refine ex_callx rfl ky h148 enter109 #[.slice (some ⟨q9, 0, none⟩) 2 2] ky (fun w150 h151 => laid_any [x.sg, x.dh] _ _ (.inr ⟨q9, _, rfl, PreS.strc [x.sg, x.dh], h151.get 2 rfl⟩) (m := 16384) (by decide) (ss2 hM.sg hM.dh) (by simp)) ?_
      rintro w150 h151 _ w153 ⟨rfl, hb152⟩
      have h154 := HA.keep _ _ h151 hb152
      refine ⟨_, rfl, _, .inr rfl, (HA.sub h154 (List.Sublist.cons _ (List.Sublist.cons _ (List.Sublist.cons _ (List.Sublist.cons_cons _ (List.Sublist.refl _)))))), ?_⟩
      refine zq 13 (.string (eB2 x)) rfl (fun _ => (run_cat (s := (eB1 x)) (t := layT [x.sg, x.dh] 2) ky ky (by have := eBz hM; omega))) (zc 16 (.string (nbT 4 x.pi.toNat)) rfl enter108 _ (fun w' h' => number_any 4 (by have := hM.p0; omega) (by have := hM.p1; omega)) (zq 17 (.string (eB3 x)) rfl (fun _ => (run_cat (s := (eB2 x)) (t := nbT 4 x.pi.toNat) ky ky (by have := eBz hM; omega))) (wx_one 23 ky ?_)))
      refine ex_callx rfl ky h154 enter109 #[.slice (some ⟨q149, 0, none⟩) 2 2] ky (fun w155 h156 => laid_any [x.pr, x.ps] _ _ (.inr ⟨q149, _, rfl, PreS.strc [x.pr, x.ps], h156.get 0 rfl⟩) (m := 16384) (by decide) (ss2 hM.pr hM.ps) (by simp)) ?_
      rintro w155 h156 _ w158 ⟨rfl, hb157⟩
      have h159 := HA.keep _ _ h156 hb157
      refine ⟨_, rfl, _, .inr rfl, (HA.sub h159 (List.Sublist.cons _ (List.Sublist.cons _ (List.Sublist.cons _ (List.Sublist.cons_cons _ (List.Sublist.refl _)))))), ?_⟩
      refine zq 24 (.string (eB4 x)) rfl (fun _ => (run_cat (s := (eB3 x)) (t := layT [x.pr, x.ps] 2) ky ky (by have := eBz hM; omega))) (zc 27 (.string (nbT 4 x.oi.toNat)) rfl enter108 _ (fun w' h' => number_any 4 hM.o0 (by have := hM.o1; omega)) (zq 28 (.string (eB5 x)) rfl (fun _ => (run_cat (s := (eB4 x)) (t := nbT 4 x.oi.toNat) ky ky (by have := eBz hM; omega))) (wx_one 32 ky ?_)))
      refine ex_callx rfl ky h159 enter109 #[.slice (some ⟨q126, 0, none⟩) 1 1] ky (fun w160 h161 => laid_any [x.on] _ _ (.inr ⟨q126, _, rfl, PreS.strc [x.on], h161.get 1 rfl⟩) (m := 16384) (by decide) (ss1 hM.on) (by simp)) ?_
      rintro w160 h161 _ w163 ⟨rfl, hb162⟩
      have h164 := HA.keep _ _ h161 hb162
      refine ⟨_, rfl, _, .inl ky, h164, ?_⟩
      refine zq 33 (.string (eB6 x)) rfl (fun _ => (run_cat (s := (eB5 x)) (t := layT [x.on] 1) ky ky (by have := eBz hM; omega))) (zp 34 (.string (eB6 x)) (zp 35 (iN .i64 0) ?_))
      refine wx_end fun w165 hbx _ => ?_
      have h166 := HA.keep _ _ h164 hbx
      exact ⟨q9, q149, q126, by kernel_rfl, (HA.perm h166 (List.Perm.swap _ _ _))⟩}}}
   {refine ex_makeT (c := #[.string x.pr, .string x.ps]) rfl ky h6 9 (fun q => .slice (some ⟨q, 0, none⟩) 2 2) (fun _ => ky) ?_
    intro q169 w167 (h168 : HA (bs w) [(q169, 9, #[.string x.pr, .string x.ps]), (q1, 27, buC x)] w167)
    refine ⟨_, .inr rfl, (HA.sub h168 (List.Sublist.cons _ (List.Sublist.cons_cons _ (List.Sublist.refl _)))), ?_⟩
    refine wx_two 11 31 ky ?_ ?_
    {refine ex_makeT (c := #[.string x.sg, .string x.dh]) rfl ky h168 9 (fun q => .slice (some ⟨q, 0, none⟩) 2 2) (fun _ => ky) ?_
     intro q172 w170 (h171 : HA (bs w) [(q172, 9, #[.string x.sg, .string x.dh]), (q169, 9, #[.string x.pr, .string x.ps]), (q1, 27, buC x)] w170)
     refine ⟨_, .inr rfl, (HA.sub h171 (List.Sublist.cons _ (List.Sublist.cons _ (List.Sublist.cons_cons _ (List.Sublist.refl _))))), ?_⟩
     refine wx_two 12 31 ky ?_ ?_
     {refine ex_callx rfl ky h171 enter109 #[.slice (some ⟨q172, 0, none⟩) 2 2] ky (fun w173 h174 => laid_any [x.sg, x.dh] _ _ (.inr ⟨q172, _, rfl, PreS.strc [x.sg, x.dh], h174.get 0 rfl⟩) (m := 16384) (by decide) (ss2 hM.sg hM.dh) (by simp)) ?_
      rintro w173 h174 _ w176 ⟨rfl, hb175⟩
      have h177 := HA.keep _ _ h174 hb175
      refine ⟨_, rfl, _, .inr rfl, (HA.sub h177 (List.Sublist.cons _ (List.Sublist.cons _ (List.Sublist.cons_cons _ (List.Sublist.refl _))))), ?_⟩
      refine zq 13 (.string (eB2 x)) rfl (fun _ => (run_cat (s := (eB1 x)) (t := layT [x.sg, x.dh] 2) ky ky (by have := eBz hM; omega))) (zc 16 (.string (nbT 4 x.pi.toNat)) rfl enter108 _ (fun w' h' => number_any 4 (by have := hM.p0; omega) (by have := hM.p1; omega)) (zq 17 (.string (eB3 x)) rfl (fun _ => (run_cat (s := (eB2 x)) (t := nbT 4 x.pi.toNat) ky ky (by have := eBz hM; omega))) ?_))
      refine wx_two 23 31 ky ?_ ?_
      {refine ex_callx rfl ky h177 enter109 #[.slice (some ⟨q169, 0, none⟩) 2 2] ky (fun w178 h179 => laid_any [x.pr, x.ps] _ _ (.inr ⟨q169, _, rfl, PreS.strc [x.pr, x.ps], h179.get 1 rfl⟩) (m := 16384) (by decide) (ss2 hM.pr hM.ps) (by simp)) ?_
       rintro w178 h179 _ w181 ⟨rfl, hb180⟩
       have h182 := HA.keep _ _ h179 hb180
       refine ⟨_, rfl, _, .inr rfl, (HA.sub h182 (List.Sublist.cons _ (List.Sublist.cons _ (List.Sublist.cons_cons _ (List.Sublist.refl _))))), ?_⟩
       refine zq 24 (.string (eB4 x)) rfl (fun _ => (run_cat (s := (eB3 x)) (t := layT [x.pr, x.ps] 2) ky ky (by have := eBz hM; omega))) (zc 27 (.string (nbT 4 x.oi.toNat)) rfl enter108 _ (fun w' h' => number_any 4 hM.o0 (by have := hM.o1; omega)) (zq 28 (.string (eB5 x)) rfl (fun _ => (run_cat (s := (eB4 x)) (t := nbT 4 x.oi.toNat) ky ky (by have := eBz hM; omega))) (wx_one 31 ky ?_)))
       refine ex_makeT (c := #[.string x.on]) rfl ky h182 9 (fun q => .slice (some ⟨q, 0, none⟩) 1 1) (fun _ => ky) ?_
       intro q185 w183 (h184 : HA (bs w) [(q185, 9, #[.string x.on]), (q172, 9, #[.string x.sg, .string x.dh]), (q169, 9, #[.string x.pr, .string x.ps]), (q1, 27, buC x)] w183)
       refine ⟨_, .inr rfl, (HA.sub h184 (List.Sublist.cons _ (List.Sublist.cons _ (List.Sublist.cons _ (List.Sublist.cons_cons _ (List.Sublist.refl _)))))), ?_⟩
       refine wx_one 32 ky ?_
       refine ex_callx rfl ky h184 enter109 #[.slice (some ⟨q185, 0, none⟩) 1 1] ky (fun w186 h187 => laid_any [x.on] _ _ (.inr ⟨q185, _, rfl, PreS.strc [x.on], h187.get 0 rfl⟩) (m := 16384) (by decide) (ss1 hM.on) (by simp)) ?_
       rintro w186 h187 _ w189 ⟨rfl, hb188⟩
       have h190 := HA.keep _ _ h187 hb188
       refine ⟨_, rfl, _, .inl ky, h190, ?_⟩
       refine zq 33 (.string (eB6 x)) rfl (fun _ => (run_cat (s := (eB5 x)) (t := layT [x.on] 1) ky ky (by have := eBz hM; omega))) (zp 34 (.string (eB6 x)) (zp 35 (iN .i64 0) ?_))
       refine wx_end fun w191 hbx _ => ?_
       have h192 := HA.keep _ _ h190 hbx
       exact ⟨q172, q169, q185, by kernel_rfl, (HA.perm h192 (List.Perm.cons _ (List.Perm.swap _ _ _)))⟩}
      {refine ex_makeT (c := #[.string x.on]) rfl ky h177 9 (fun q => .slice (some ⟨q, 0, none⟩) 1 1) (fun _ => ky) ?_
       intro q195 w193 (h194 : HA (bs w) [(q195, 9, #[.string x.on]), (q172, 9, #[.string x.sg, .string x.dh]), (q169, 9, #[.string x.pr, .string x.ps]), (q1, 27, buC x)] w193)
       refine ⟨_, .inr rfl, (HA.sub h194 (List.Sublist.cons _ (List.Sublist.cons _ (List.Sublist.cons _ (List.Sublist.cons_cons _ (List.Sublist.refl _)))))), ?_⟩
       refine wx_one 23 ky ?_
       refine ex_callx rfl ky h194 enter109 #[.slice (some ⟨q169, 0, none⟩) 2 2] ky (fun w196 h197 => laid_any [x.pr, x.ps] _ _ (.inr ⟨q169, _, rfl, PreS.strc [x.pr, x.ps], h197.get 2 rfl⟩) (m := 16384) (by decide) (ss2 hM.pr hM.ps) (by simp)) ?_
       rintro w196 h197 _ w199 ⟨rfl, hb198⟩
       have h200 := HA.keep _ _ h197 hb198
       refine ⟨_, rfl, _, .inr rfl, (HA.sub h200 (List.Sublist.cons _ (List.Sublist.cons _ (List.Sublist.cons _ (List.Sublist.cons_cons _ (List.Sublist.refl _)))))), ?_⟩
       refine zq 24 (.string (eB4 x)) rfl (fun _ => (run_cat (s := (eB3 x)) (t := layT [x.pr, x.ps] 2) ky ky (by have := eBz hM; omega))) (zc 27 (.string (nbT 4 x.oi.toNat)) rfl enter108 _ (fun w' h' => number_any 4 hM.o0 (by have := hM.o1; omega)) (zq 28 (.string (eB5 x)) rfl (fun _ => (run_cat (s := (eB4 x)) (t := nbT 4 x.oi.toNat) ky ky (by have := eBz hM; omega))) (wx_one 32 ky ?_)))
       refine ex_callx rfl ky h200 enter109 #[.slice (some ⟨q195, 0, none⟩) 1 1] ky (fun w201 h202 => laid_any [x.on] _ _ (.inr ⟨q195, _, rfl, PreS.strc [x.on], h202.get 0 rfl⟩) (m := 16384) (by decide) (ss1 hM.on) (by simp)) ?_
       rintro w201 h202 _ w204 ⟨rfl, hb203⟩
       have h205 := HA.keep _ _ h202 hb203
       refine ⟨_, rfl, _, .inl ky, h205, ?_⟩
       refine zq 33 (.string (eB6 x)) rfl (fun _ => (run_cat (s := (eB5 x)) (t := layT [x.on] 1) ky ky (by have := eBz hM; omega))) (zp 34 (.string (eB6 x)) (zp 35 (iN .i64 0) ?_))
       refine wx_end fun w206 hbx _ => ?_
       have h207 := HA.keep _ _ h205 hbx
       exact ⟨q172, q169, q195, by kernel_rfl, (HA.perm h207 (List.Perm.cons _ (List.Perm.swap _ _ _)))⟩}}
     {refine ex_makeT (c := #[.string x.on]) rfl ky h171 9 (fun q => .slice (some ⟨q, 0, none⟩) 1 1) (fun _ => ky) ?_
      intro q210 w208 (h209 : HA (bs w) [(q210, 9, #[.string x.on]), (q172, 9, #[.string x.sg, .string x.dh]), (q169, 9, #[.string x.pr, .string x.ps]), (q1, 27, buC x)] w208)
      refine ⟨_, .inr rfl, (HA.sub h209 (List.Sublist.cons _ (List.Sublist.cons _ (List.Sublist.cons _ (List.Sublist.cons_cons _ (List.Sublist.refl _)))))), ?_⟩
      refine wx_one 12 ky ?_
      refine ex_callx rfl ky h209 enter109 #[.slice (some ⟨q172, 0, none⟩) 2 2] ky (fun w211 h212 => laid_any [x.sg, x.dh] _ _ (.inr ⟨q172, _, rfl, PreS.strc [x.sg, x.dh], h212.get 1 rfl⟩) (m := 16384) (by decide) (ss2 hM.sg hM.dh) (by simp)) ?_
      rintro w211 h212 _ w214 ⟨rfl, hb213⟩
      have h215 := HA.keep _ _ h212 hb213
      refine ⟨_, rfl, _, .inr rfl, (HA.sub h215 (List.Sublist.cons _ (List.Sublist.cons _ (List.Sublist.cons _ (List.Sublist.cons_cons _ (List.Sublist.refl _)))))), ?_⟩
      refine zq 13 (.string (eB2 x)) rfl (fun _ => (run_cat (s := (eB1 x)) (t := layT [x.sg, x.dh] 2) ky ky (by have := eBz hM; omega))) (zc 16 (.string (nbT 4 x.pi.toNat)) rfl enter108 _ (fun w' h' => number_any 4 (by have := hM.p0; omega) (by have := hM.p1; omega)) (zq 17 (.string (eB3 x)) rfl (fun _ => (run_cat (s := (eB2 x)) (t := nbT 4 x.pi.toNat) ky ky (by have := eBz hM; omega))) (wx_one 23 ky ?_)))
      refine ex_callx rfl ky h215 enter109 #[.slice (some ⟨q169, 0, none⟩) 2 2] ky (fun w216 h217 => laid_any [x.pr, x.ps] _ _ (.inr ⟨q169, _, rfl, PreS.strc [x.pr, x.ps], h217.get 2 rfl⟩) (m := 16384) (by decide) (ss2 hM.pr hM.ps) (by simp)) ?_
      rintro w216 h217 _ w219 ⟨rfl, hb218⟩
      have h220 := HA.keep _ _ h217 hb218
      refine ⟨_, rfl, _, .inr rfl, (HA.sub h220 (List.Sublist.cons _ (List.Sublist.cons _ (List.Sublist.cons _ (List.Sublist.cons_cons _ (List.Sublist.refl _)))))), ?_⟩
      refine zq 24 (.string (eB4 x)) rfl (fun _ => (run_cat (s := (eB3 x)) (t := layT [x.pr, x.ps] 2) ky ky (by have := eBz hM; omega))) (zc 27 (.string (nbT 4 x.oi.toNat)) rfl enter108 _ (fun w' h' => number_any 4 hM.o0 (by have := hM.o1; omega)) (zq 28 (.string (eB5 x)) rfl (fun _ => (run_cat (s := (eB4 x)) (t := nbT 4 x.oi.toNat) ky ky (by have := eBz hM; omega))) (wx_one 32 ky ?_)))
      refine ex_callx rfl ky h220 enter109 #[.slice (some ⟨q210, 0, none⟩) 1 1] ky (fun w221 h222 => laid_any [x.on] _ _ (.inr ⟨q210, _, rfl, PreS.strc [x.on], h222.get 0 rfl⟩) (m := 16384) (by decide) (ss1 hM.on) (by simp)) ?_
      rintro w221 h222 _ w224 ⟨rfl, hb223⟩
      have h225 := HA.keep _ _ h222 hb223
      refine ⟨_, rfl, _, .inl ky, h225, ?_⟩
      refine zq 33 (.string (eB6 x)) rfl (fun _ => (run_cat (s := (eB5 x)) (t := layT [x.on] 1) ky ky (by have := eBz hM; omega))) (zp 34 (.string (eB6 x)) (zp 35 (iN .i64 0) ?_))
      refine wx_end fun w226 hbx _ => ?_
      have h227 := HA.keep _ _ h225 hbx
      exact ⟨q172, q169, q210, by kernel_rfl, (HA.perm h227 (List.Perm.cons _ (List.Perm.swap _ _ _)))⟩}}
    {refine ex_makeT (c := #[.string x.on]) rfl ky h168 9 (fun q => .slice (some ⟨q, 0, none⟩) 1 1) (fun _ => ky) ?_
     intro q230 w228 (h229 : HA (bs w) [(q230, 9, #[.string x.on]), (q169, 9, #[.string x.pr, .string x.ps]), (q1, 27, buC x)] w228)
     refine ⟨_, .inr rfl, (HA.sub h229 (List.Sublist.cons _ (List.Sublist.cons _ (List.Sublist.cons_cons _ (List.Sublist.refl _))))), ?_⟩
     refine wx_one 11 ky ?_
     refine ex_makeT (c := #[.string x.sg, .string x.dh]) rfl ky h229 9 (fun q => .slice (some ⟨q, 0, none⟩) 2 2) (fun _ => ky) ?_
     intro q233 w231 (h232 : HA (bs w) [(q233, 9, #[.string x.sg, .string x.dh]), (q230, 9, #[.string x.on]), (q169, 9, #[.string x.pr, .string x.ps]), (q1, 27, buC x)] w231)
     refine ⟨_, .inr rfl, (HA.sub h232 (List.Sublist.cons _ (List.Sublist.cons _ (List.Sublist.cons _ (List.Sublist.cons_cons _ (List.Sublist.refl _)))))), ?_⟩
     refine wx_one 12 ky ?_
     refine ex_callx rfl ky h232 enter109 #[.slice (some ⟨q233, 0, none⟩) 2 2] ky (fun w234 h235 => laid_any [x.sg, x.dh] _ _ (.inr ⟨q233, _, rfl, PreS.strc [x.sg, x.dh], h235.get 0 rfl⟩) (m := 16384) (by decide) (ss2 hM.sg hM.dh) (by simp)) ?_
     rintro w234 h235 _ w237 ⟨rfl, hb236⟩
     have h238 := HA.keep _ _ h235 hb236
     refine ⟨_, rfl, _, .inr rfl, (HA.sub h238 (List.Sublist.cons _ (List.Sublist.cons _ (List.Sublist.cons _ (List.Sublist.cons_cons _ (List.Sublist.refl _)))))), ?_⟩
     refine zq 13 (.string (eB2 x)) rfl (fun _ => (run_cat (s := (eB1 x)) (t := layT [x.sg, x.dh] 2) ky ky (by have := eBz hM; omega))) (zc 16 (.string (nbT 4 x.pi.toNat)) rfl enter108 _ (fun w' h' => number_any 4 (by have := hM.p0; omega) (by have := hM.p1; omega)) (zq 17 (.string (eB3 x)) rfl (fun _ => (run_cat (s := (eB2 x)) (t := nbT 4 x.pi.toNat) ky ky (by have := eBz hM; omega))) (wx_one 23 ky ?_)))
     refine ex_callx rfl ky h238 enter109 #[.slice (some ⟨q169, 0, none⟩) 2 2] ky (fun w239 h240 => laid_any [x.pr, x.ps] _ _ (.inr ⟨q169, _, rfl, PreS.strc [x.pr, x.ps], h240.get 2 rfl⟩) (m := 16384) (by decide) (ss2 hM.pr hM.ps) (by simp)) ?_
     rintro w239 h240 _ w242 ⟨rfl, hb241⟩
     have h243 := HA.keep _ _ h240 hb241
     refine ⟨_, rfl, _, .inr rfl, (HA.sub h243 (List.Sublist.cons _ (List.Sublist.cons _ (List.Sublist.cons _ (List.Sublist.cons_cons _ (List.Sublist.refl _)))))), ?_⟩
     refine zq 24 (.string (eB4 x)) rfl (fun _ => (run_cat (s := (eB3 x)) (t := layT [x.pr, x.ps] 2) ky ky (by have := eBz hM; omega))) (zc 27 (.string (nbT 4 x.oi.toNat)) rfl enter108 _ (fun w' h' => number_any 4 hM.o0 (by have := hM.o1; omega)) (zq 28 (.string (eB5 x)) rfl (fun _ => (run_cat (s := (eB4 x)) (t := nbT 4 x.oi.toNat) ky ky (by have := eBz hM; omega))) (wx_one 32 ky ?_)))
     refine ex_callx rfl ky h243 enter109 #[.slice (some ⟨q230, 0, none⟩) 1 1] ky (fun w244 h245 => laid_any [x.on] _ _ (.inr ⟨q230, _, rfl, PreS.strc [x.on], h245.get 1 rfl⟩) (m := 16384) (by decide) (ss1 hM.on) (by simp)) ?_
     rintro w244 h245 _ w247 ⟨rfl, hb246⟩
     have h248 := HA.keep _ _ h245 hb246
     refine ⟨_, rfl, _, .inl ky, h248, ?_⟩
     refine zq 33 (.string (eB6 x)) rfl (fun _ => (run_cat (s := (eB5 x)) (t := layT [x.on] 1) ky ky (by have := eBz hM; omega))) (zp 34 (.string (eB6 x)) (zp 35 (iN .i64 0) ?_))
     refine wx_end fun w249 hbx _ => ?_
     have h250 := HA.keep _ _ h248 hbx
     exact ⟨q233, q169, q230, by kernel_rfl, (HA.perm h250 (List.Perm.trans (List.Perm.swap _ _ _) (List.Perm.cons _ (List.Perm.swap _ _ _))))⟩}}
   {refine ex_makeT (c := #[.string x.on]) rfl ky h6 9 (fun q => .slice (some ⟨q, 0, none⟩) 1 1) (fun _ => ky) ?_
    intro q253 w251 (h252 : HA (bs w) [(q253, 9, #[.string x.on]), (q1, 27, buC x)] w251)
    refine ⟨_, .inr rfl, (HA.sub h252 (List.Sublist.cons _ (List.Sublist.cons_cons _ (List.Sublist.refl _)))), ?_⟩
    refine wx_two 11 22 ky ?_ ?_
    {refine ex_makeT (c := #[.string x.sg, .string x.dh]) rfl ky h252 9 (fun q => .slice (some ⟨q, 0, none⟩) 2 2) (fun _ => ky) ?_
     intro q256 w254 (h255 : HA (bs w) [(q256, 9, #[.string x.sg, .string x.dh]), (q253, 9, #[.string x.on]), (q1, 27, buC x)] w254)
     refine ⟨_, .inr rfl, (HA.sub h255 (List.Sublist.cons _ (List.Sublist.cons _ (List.Sublist.cons_cons _ (List.Sublist.refl _))))), ?_⟩
     refine wx_two 12 22 ky ?_ ?_
     {refine ex_callx rfl ky h255 enter109 #[.slice (some ⟨q256, 0, none⟩) 2 2] ky (fun w257 h258 => laid_any [x.sg, x.dh] _ _ (.inr ⟨q256, _, rfl, PreS.strc [x.sg, x.dh], h258.get 0 rfl⟩) (m := 16384) (by decide) (ss2 hM.sg hM.dh) (by simp)) ?_
      rintro w257 h258 _ w260 ⟨rfl, hb259⟩
      have h261 := HA.keep _ _ h258 hb259
      refine ⟨_, rfl, _, .inr rfl, (HA.sub h261 (List.Sublist.cons _ (List.Sublist.cons _ (List.Sublist.cons_cons _ (List.Sublist.refl _))))), ?_⟩
      refine zq 13 (.string (eB2 x)) rfl (fun _ => (run_cat (s := (eB1 x)) (t := layT [x.sg, x.dh] 2) ky ky (by have := eBz hM; omega))) (zc 16 (.string (nbT 4 x.pi.toNat)) rfl enter108 _ (fun w' h' => number_any 4 (by have := hM.p0; omega) (by have := hM.p1; omega)) (zq 17 (.string (eB3 x)) rfl (fun _ => (run_cat (s := (eB2 x)) (t := nbT 4 x.pi.toNat) ky ky (by have := eBz hM; omega))) (wx_one 22 ky ?_)))
      refine ex_makeT (c := #[.string x.pr, .string x.ps]) rfl ky h261 9 (fun q => .slice (some ⟨q, 0, none⟩) 2 2) (fun _ => ky) ?_
      intro q264 w262 (h263 : HA (bs w) [(q264, 9, #[.string x.pr, .string x.ps]), (q256, 9, #[.string x.sg, .string x.dh]), (q253, 9, #[.string x.on]), (q1, 27, buC x)] w262)
      refine ⟨_, .inr rfl, (HA.sub h263 (List.Sublist.cons _ (List.Sublist.cons _ (List.Sublist.cons _ (List.Sublist.cons_cons _ (List.Sublist.refl _)))))), ?_⟩
      refine wx_one 23 ky ?_
      refine ex_callx rfl ky h263 enter109 #[.slice (some ⟨q264, 0, none⟩) 2 2] ky (fun w265 h266 => laid_any [x.pr, x.ps] _ _ (.inr ⟨q264, _, rfl, PreS.strc [x.pr, x.ps], h266.get 0 rfl⟩) (m := 16384) (by decide) (ss2 hM.pr hM.ps) (by simp)) ?_
      rintro w265 h266 _ w268 ⟨rfl, hb267⟩
      have h269 := HA.keep _ _ h266 hb267
      refine ⟨_, rfl, _, .inr rfl, (HA.sub h269 (List.Sublist.cons _ (List.Sublist.cons _ (List.Sublist.cons _ (List.Sublist.cons_cons _ (List.Sublist.refl _)))))), ?_⟩
      refine zq 24 (.string (eB4 x)) rfl (fun _ => (run_cat (s := (eB3 x)) (t := layT [x.pr, x.ps] 2) ky ky (by have := eBz hM; omega))) (zc 27 (.string (nbT 4 x.oi.toNat)) rfl enter108 _ (fun w' h' => number_any 4 hM.o0 (by have := hM.o1; omega)) (zq 28 (.string (eB5 x)) rfl (fun _ => (run_cat (s := (eB4 x)) (t := nbT 4 x.oi.toNat) ky ky (by have := eBz hM; omega))) (wx_one 32 ky ?_)))
      refine ex_callx rfl ky h269 enter109 #[.slice (some ⟨q253, 0, none⟩) 1 1] ky (fun w270 h271 => laid_any [x.on] _ _ (.inr ⟨q253, _, rfl, PreS.strc [x.on], h271.get 2 rfl⟩) (m := 16384) (by decide) (ss1 hM.on) (by simp)) ?_
      rintro w270 h271 _ w273 ⟨rfl, hb272⟩
      have h274 := HA.keep _ _ h271 hb272
      refine ⟨_, rfl, _, .inl ky, h274, ?_⟩
      refine zq 33 (.string (eB6 x)) rfl (fun _ => (run_cat (s := (eB5 x)) (t := layT [x.on] 1) ky ky (by have := eBz hM; omega))) (zp 34 (.string (eB6 x)) (zp 35 (iN .i64 0) ?_))
      refine wx_end fun w275 hbx _ => ?_
      have h276 := HA.keep _ _ h274 hbx
      exact ⟨q256, q264, q253, by kernel_rfl, (HA.perm h276 (List.Perm.trans (List.Perm.cons _ (List.Perm.swap _ _ _)) (List.Perm.swap _ _ _)))⟩}
     {refine ex_makeT (c := #[.string x.pr, .string x.ps]) rfl ky h255 9 (fun q => .slice (some ⟨q, 0, none⟩) 2 2) (fun _ => ky) ?_
      intro q279 w277 (h278 : HA (bs w) [(q279, 9, #[.string x.pr, .string x.ps]), (q256, 9, #[.string x.sg, .string x.dh]), (q253, 9, #[.string x.on]), (q1, 27, buC x)] w277)
      refine ⟨_, .inr rfl, (HA.sub h278 (List.Sublist.cons _ (List.Sublist.cons _ (List.Sublist.cons _ (List.Sublist.cons_cons _ (List.Sublist.refl _)))))), ?_⟩
      refine wx_one 12 ky ?_
      refine ex_callx rfl ky h278 enter109 #[.slice (some ⟨q256, 0, none⟩) 2 2] ky (fun w280 h281 => laid_any [x.sg, x.dh] _ _ (.inr ⟨q256, _, rfl, PreS.strc [x.sg, x.dh], h281.get 1 rfl⟩) (m := 16384) (by decide) (ss2 hM.sg hM.dh) (by simp)) ?_
      rintro w280 h281 _ w283 ⟨rfl, hb282⟩
      have h284 := HA.keep _ _ h281 hb282
      refine ⟨_, rfl, _, .inr rfl, (HA.sub h284 (List.Sublist.cons _ (List.Sublist.cons _ (List.Sublist.cons _ (List.Sublist.cons_cons _ (List.Sublist.refl _)))))), ?_⟩
      refine zq 13 (.string (eB2 x)) rfl (fun _ => (run_cat (s := (eB1 x)) (t := layT [x.sg, x.dh] 2) ky ky (by have := eBz hM; omega))) (zc 16 (.string (nbT 4 x.pi.toNat)) rfl enter108 _ (fun w' h' => number_any 4 (by have := hM.p0; omega) (by have := hM.p1; omega)) (zq 17 (.string (eB3 x)) rfl (fun _ => (run_cat (s := (eB2 x)) (t := nbT 4 x.pi.toNat) ky ky (by have := eBz hM; omega))) (wx_one 23 ky ?_)))
      refine ex_callx rfl ky h284 enter109 #[.slice (some ⟨q279, 0, none⟩) 2 2] ky (fun w285 h286 => laid_any [x.pr, x.ps] _ _ (.inr ⟨q279, _, rfl, PreS.strc [x.pr, x.ps], h286.get 0 rfl⟩) (m := 16384) (by decide) (ss2 hM.pr hM.ps) (by simp)) ?_
      rintro w285 h286 _ w288 ⟨rfl, hb287⟩
      have h289 := HA.keep _ _ h286 hb287
      refine ⟨_, rfl, _, .inr rfl, (HA.sub h289 (List.Sublist.cons _ (List.Sublist.cons _ (List.Sublist.cons _ (List.Sublist.cons_cons _ (List.Sublist.refl _)))))), ?_⟩
      refine zq 24 (.string (eB4 x)) rfl (fun _ => (run_cat (s := (eB3 x)) (t := layT [x.pr, x.ps] 2) ky ky (by have := eBz hM; omega))) (zc 27 (.string (nbT 4 x.oi.toNat)) rfl enter108 _ (fun w' h' => number_any 4 hM.o0 (by have := hM.o1; omega)) (zq 28 (.string (eB5 x)) rfl (fun _ => (run_cat (s := (eB4 x)) (t := nbT 4 x.oi.toNat) ky ky (by have := eBz hM; omega))) (wx_one 32 ky ?_)))
      refine ex_callx rfl ky h289 enter109 #[.slice (some ⟨q253, 0, none⟩) 1 1] ky (fun w290 h291 => laid_any [x.on] _ _ (.inr ⟨q253, _, rfl, PreS.strc [x.on], h291.get 2 rfl⟩) (m := 16384) (by decide) (ss1 hM.on) (by simp)) ?_
      rintro w290 h291 _ w293 ⟨rfl, hb292⟩
      have h294 := HA.keep _ _ h291 hb292
      refine ⟨_, rfl, _, .inl ky, h294, ?_⟩
      refine zq 33 (.string (eB6 x)) rfl (fun _ => (run_cat (s := (eB5 x)) (t := layT [x.on] 1) ky ky (by have := eBz hM; omega))) (zp 34 (.string (eB6 x)) (zp 35 (iN .i64 0) ?_))
      refine wx_end fun w295 hbx _ => ?_
      have h296 := HA.keep _ _ h294 hbx
      exact ⟨q256, q279, q253, by kernel_rfl, (HA.perm h296 (List.Perm.trans (List.Perm.cons _ (List.Perm.swap _ _ _)) (List.Perm.swap _ _ _)))⟩}}
    {refine ex_makeT (c := #[.string x.pr, .string x.ps]) rfl ky h252 9 (fun q => .slice (some ⟨q, 0, none⟩) 2 2) (fun _ => ky) ?_
     intro q299 w297 (h298 : HA (bs w) [(q299, 9, #[.string x.pr, .string x.ps]), (q253, 9, #[.string x.on]), (q1, 27, buC x)] w297)
     refine ⟨_, .inr rfl, (HA.sub h298 (List.Sublist.cons _ (List.Sublist.cons _ (List.Sublist.cons_cons _ (List.Sublist.refl _))))), ?_⟩
     refine wx_one 11 ky ?_
     refine ex_makeT (c := #[.string x.sg, .string x.dh]) rfl ky h298 9 (fun q => .slice (some ⟨q, 0, none⟩) 2 2) (fun _ => ky) ?_
     intro q302 w300 (h301 : HA (bs w) [(q302, 9, #[.string x.sg, .string x.dh]), (q299, 9, #[.string x.pr, .string x.ps]), (q253, 9, #[.string x.on]), (q1, 27, buC x)] w300)
     refine ⟨_, .inr rfl, (HA.sub h301 (List.Sublist.cons _ (List.Sublist.cons _ (List.Sublist.cons _ (List.Sublist.cons_cons _ (List.Sublist.refl _)))))), ?_⟩
     refine wx_one 12 ky ?_
     refine ex_callx rfl ky h301 enter109 #[.slice (some ⟨q302, 0, none⟩) 2 2] ky (fun w303 h304 => laid_any [x.sg, x.dh] _ _ (.inr ⟨q302, _, rfl, PreS.strc [x.sg, x.dh], h304.get 0 rfl⟩) (m := 16384) (by decide) (ss2 hM.sg hM.dh) (by simp)) ?_
     rintro w303 h304 _ w306 ⟨rfl, hb305⟩
     have h307 := HA.keep _ _ h304 hb305
     refine ⟨_, rfl, _, .inr rfl, (HA.sub h307 (List.Sublist.cons _ (List.Sublist.cons _ (List.Sublist.cons _ (List.Sublist.cons_cons _ (List.Sublist.refl _)))))), ?_⟩
     refine zq 13 (.string (eB2 x)) rfl (fun _ => (run_cat (s := (eB1 x)) (t := layT [x.sg, x.dh] 2) ky ky (by have := eBz hM; omega))) (zc 16 (.string (nbT 4 x.pi.toNat)) rfl enter108 _ (fun w' h' => number_any 4 (by have := hM.p0; omega) (by have := hM.p1; omega)) (zq 17 (.string (eB3 x)) rfl (fun _ => (run_cat (s := (eB2 x)) (t := nbT 4 x.pi.toNat) ky ky (by have := eBz hM; omega))) (wx_one 23 ky ?_)))
     refine ex_callx rfl ky h307 enter109 #[.slice (some ⟨q299, 0, none⟩) 2 2] ky (fun w308 h309 => laid_any [x.pr, x.ps] _ _ (.inr ⟨q299, _, rfl, PreS.strc [x.pr, x.ps], h309.get 1 rfl⟩) (m := 16384) (by decide) (ss2 hM.pr hM.ps) (by simp)) ?_
     rintro w308 h309 _ w311 ⟨rfl, hb310⟩
     have h312 := HA.keep _ _ h309 hb310
     refine ⟨_, rfl, _, .inr rfl, (HA.sub h312 (List.Sublist.cons _ (List.Sublist.cons _ (List.Sublist.cons _ (List.Sublist.cons_cons _ (List.Sublist.refl _)))))), ?_⟩
     refine zq 24 (.string (eB4 x)) rfl (fun _ => (run_cat (s := (eB3 x)) (t := layT [x.pr, x.ps] 2) ky ky (by have := eBz hM; omega))) (zc 27 (.string (nbT 4 x.oi.toNat)) rfl enter108 _ (fun w' h' => number_any 4 hM.o0 (by have := hM.o1; omega)) (zq 28 (.string (eB5 x)) rfl (fun _ => (run_cat (s := (eB4 x)) (t := nbT 4 x.oi.toNat) ky ky (by have := eBz hM; omega))) (wx_one 32 ky ?_)))
     refine ex_callx rfl ky h312 enter109 #[.slice (some ⟨q253, 0, none⟩) 1 1] ky (fun w313 h314 => laid_any [x.on] _ _ (.inr ⟨q253, _, rfl, PreS.strc [x.on], h314.get 2 rfl⟩) (m := 16384) (by decide) (ss1 hM.on) (by simp)) ?_
     rintro w313 h314 _ w316 ⟨rfl, hb315⟩
     have h317 := HA.keep _ _ h314 hb315
     refine ⟨_, rfl, _, .inl ky, h317, ?_⟩
     refine zq 33 (.string (eB6 x)) rfl (fun _ => (run_cat (s := (eB5 x)) (t := layT [x.on] 1) ky ky (by have := eBz hM; omega))) (zp 34 (.string (eB6 x)) (zp 35 (iN .i64 0) ?_))
     refine wx_end fun w318 hbx _ => ?_
     have h319 := HA.keep _ _ h317 hbx
     exact ⟨q302, q299, q253, by kernel_rfl, (HA.perm h319 (List.Perm.trans (List.Perm.cons _ (List.Perm.swap _ _ _)) (List.Perm.trans (List.Perm.swap _ _ _) (List.Perm.cons _ (List.Perm.swap _ _ _)))))⟩}}}
  {rintro _ w320 ⟨q9, q17, q25, rfl, h321⟩
   refine then_at rfl ?_
   refine wp_ret ?_
   repeat first|refine tr ?_|refine block_ret ?_
   exact bodyPost_ret (v := .tuple #[.string (encB x), iN .i64 0]) ky rfl ⟨rfl, h321.old.old⟩}
/-- what EncodeBundle answers -/
def encA (x : Bu) : ByteArray × Nat := if mayX x then (encB x, 0) else ({ data := #[] }, 2)
theorem enc_any {w : World} (x : Bu) :
    Calls Try.prog 95 #[.agg (buC x)] w fun e w' => e = .returned (.tuple #[.string (encA x).1, iN .i64 (encA x).2]) ∧ Below w.heap.size w w' := by
  unfold encA
  rcases h : mayX x with _ | _
  · exact enc_n x h
  · exact enc_y x h (mayX_iff h)
end Go.Proofs.Ytiogegoepgkjlaa
