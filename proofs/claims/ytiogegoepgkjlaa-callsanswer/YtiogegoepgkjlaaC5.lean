/-
  EncodeCall; takers and their closures; listOf, bundleOf.
-/
import Derived.Test.YtiogegoepgkjlaaC4b
set_option maxRecDepth 100000
set_option linter.unusedVariables false
namespace Go.Proofs.Ytiogegoepgkjlaa
open Go.RowKit

theorem perm_mv (A B C : BL) : (A ++ (B ++ C)).Perm (B ++ (A ++ C)) := by
  rw [← List.append_assoc, ← List.append_assoc]
  exact List.Perm.append_right _ List.perm_append_comm
theorem HA.join {z : Base} {L N : BL} {M : ML} {w w' : World} (H : HA z L w) (K : HA ⟨w, M⟩ N w') : HA ⟨z.w, M ++ z.M⟩ (N ++ L) w' := by
  have H' := H.keep _ _ K.old.old
  have hz := H.size
  refine ⟨⟨H'.old.old, fun m hm => ?_, fun m hm => ?_, ?_⟩, fun x hx => ?_, fun x hx => ?_, ?_⟩
  · rcases List.mem_append.1 hm with hm | hm
    · exact K.old.maps m hm
    · exact H'.old.maps m hm
  · rcases List.mem_append.1 hm with hm | hm
    · exact Nat.le_trans hz (K.old.mown m hm)
    · exact H.old.mown m hm
  · rw [List.map_append, List.nodup_append]
    refine ⟨K.old.mnd, H.old.mnd, fun a ha b hb e => ?_⟩
    obtain ⟨m, hm, rfl⟩ := List.mem_map.1 ha
    obtain ⟨n, hn, rfl⟩ := List.mem_map.1 hb
    have h1 := lt_of_block (H.old.maps n hn)
    have h2 := K.old.mown m hm
    simp only at h2
    omega
  · rcases List.mem_append.1 hx with hx | hx
    · exact K.blk x hx
    · exact H'.blk x hx
  · rcases List.mem_append.1 hx with hx | hx
    · exact Nat.le_trans hz (K.own x hx)
    · exact H.own x hx
  · rw [List.map_append, List.nodup_append]
    refine ⟨K.nd, H.nd, fun a ha b hb e => ?_⟩
    obtain ⟨m, hm, rfl⟩ := List.mem_map.1 ha
    obtain ⟨n, hn, rfl⟩ := List.mem_map.1 hb
    have h1 := (H.blk n hn).lt
    have h2 : w.heap.size ≤ m.1 := K.own m hm
    omega
theorem HA.join_n {z : Base} {L N : BL} {w w' : World} (n : Nat) (H : HA z L w) (K : HA (bs w) N w') : HA z (L.take n ++ (N ++ L.drop n)) w' := by
  have h : HA z (N ++ L) w' := HA.join H K
  have p := (perm_mv (L.take n) N (L.drop n)).symm
  rw [List.take_append_drop] at p
  exact h.perm p
set_option maxHeartbeats 2000000 in
theorem ec_any {w : World} (c : Ca) {o p : Option Addr} {k m : Nat} (hP : At w o (mcl c.li.ds)) (hQ : At w p (scl c.on)) (hl1 : c.li.ds.length ≤ 1000000) (hl2 : c.on.length ≤ 1000000) (id : Nat) :
    Calls Try.prog 8 #[iN .u64 id, .agg (caC c (.slice o c.li.ds.length k) (.slice p c.on.length m))] w fun e w' => e = .returned (.tuple #[.string (encC id c).1, iN .i64 (encC id c).2]) ∧ Below w.heap.size w w' := by
  have H0 := HA.start w
  go_enter Try.func8, Try.ntmps8
  refine wp_seq (wl_region (wl_make (c := caC c (.slice o c.li.ds.length k) (.slice p c.on.length m)) H0 30 ky ky ?_))
  intro q1 w2 (h3 : HA (bs w) [(q1, 30, caC c (.slice o c.li.ds.length k) (.slice p c.on.length m))] w2)
  refine zv (.string ({ data := #[] })) (zv (iN .i64 0) (wl_nil (then_at rfl (wp_seq (wp_seq (wl_region (wl_load h3 0 rfl ky ky Try.underlying30 rfl ky ?_)))))))
  rcases q4 : mayC c with _ | _
  {refine zl (.bool false) h3 enter33 #[.agg (caC c (.slice o c.li.ds.length k) (.slice p c.on.length m))] (((mayC_any c (hP.keep h3.old.old) (hQ.keep h3.old.old) hl1 hl2).mono fun _ _ hh => ⟨by rw [hh.1, q4], hh.2⟩)) (fun w5 h6 => (zv (.bool true) (wl_nil (then_at rfl (wp_cond_true ky (wp_seq (wl_region (zv (.string ({ data := #[] })) (zv (iN .i64 2) (wl_nil (then_at rfl (wp_ret ?_))))))))))))
   repeat first|refine tr ?_|refine block_ret ?_
   exact bodyPost_ret (v := .tuple #[.string { data := #[] }, iN .i64 2]) ky rfl ⟨by rw [show encC id c = ({ data := #[] }, 2) from by unfold encC; rw [q4]; rfl], h6.old.old⟩}
  have hO := mayC_ok q4
  refine zl (.bool true) h3 enter33 #[.agg (caC c (.slice o c.li.ds.length k) (.slice p c.on.length m))] (((mayC_any c (hP.keep h3.old.old) (hQ.keep h3.old.old) hl1 hl2).mono fun _ _ hh => ⟨by rw [hh.1, q4], hh.2⟩)) (fun w7 h8 => (zv (.bool false) (wl_nil (then_at rfl (wp_cond_false ky (wp_skip (then_at rfl (wp_seq (wl_region (zv (iN .u64 id) (wl_load h8 0 rfl ky ky Try.underlying30 rfl ky (zl (.string (calB id c)) h8 enter35 #[iN .u64 id, .agg (caC c (.slice o c.li.ds.length k) (.slice p c.on.length m))] (cb_any c (hP.keep h8.old.old) (hQ.keep h8.old.old) hl1 hl2 hO id) (fun w9 h10 => (zl (.tuple #[.string ((bdA (calB id c)).1), iN .i64 ((bdA (calB id c)).2)]) h10 enter34 _ (bd_any (calB id c)) (fun w11 h12 => (zv (.string ((bdA (calB id c)).1)) (zv (iN .i64 ((bdA (calB id c)).2)) (zv (.string ((bdA (calB id c)).1)) (zv (iN .i64 ((bdA (calB id c)).2)) (wl_nil (then_at rfl (wp_ret ?_))))))))))))))))))))))
  repeat first|refine tr ?_|refine block_ret ?_
  exact bodyPost_ret (v := .tuple #[.string (bdA (calB id c)).1, iN .i64 (bdA (calB id c)).2]) ky rfl ⟨by rw [show encC id c = bdA (calB id c) from by unfold encC; rw [q4]; rfl], h12.old.old⟩
theorem ec_E {w : World} (c : Ca) {o p : Option Addr} {k m : Nat} (hP : At w o (mcl c.li.ds)) (hQ : At w p (scl c.on)) (hl1 : c.li.ds.length ≤ 1000000) (hl2 : c.on.length ≤ 1000000) {id : Nat} {y : ByteArray} {n : Nat} (he : encC id c = (y, n)) :
    Calls Try.prog 8 #[iN .u64 id, .agg (caC c (.slice o c.li.ds.length k) (.slice p c.on.length m))] w fun e w' => e = .returned (.tuple #[.string y, iN .i64 n]) ∧ Below w.heap.size w w' := by
  have h := ec_any c hP hQ hl1 hl2 id (k := k) (m := m)
  rw [he] at h
  exact h
set_option maxHeartbeats 2000000 in
theorem tkn_E {z : Base} {L : BL} {w : World} {rb b d : Nat} {cur : List UInt8} {v : Value} {bs : List UInt8} (hS : Rs.RdS d cur v bs) (H0 : HA z ((rb, 111, #[pt b]) :: (b, 123, #[.bool true, v]) :: (d, 5, bc cur) :: L) w) {x : Nat} {ob : Bool} {r : List UInt8} {m : Nat} (hm1 : 1 ≤ m) (hm8 : m ≤ 8) (hxl : x < 4294967296) (hx : Rs.nxn m bs = (x, ob, r)) :
    Calls Try.prog 84 #[iN .i64 m, pt rb] w fun e w' => e = .returned (iN .i64 x) ∧ ∃ v', Rs.RdS d cur v' r ∧ HA z ((rb, 111, #[pt b]) :: (b, 123, #[.bool true, v']) :: (d, 5, bc cur) :: L) w' := by
  go_enter Try.func84, Try.ntmps84
  refine wp_seq (wl_region (zv (iN .i64 0) (wl_nil (then_at rfl (wp_seq (wl_region (zu (.pointer (some ⟨b, 0, none⟩)) (run_load1 (fun w => Try.isAgg111 w) ky (((H0.get 0 rfl).cell 0).trans rfl)) (zv (iN .i64 m) ?_))))))))
  refine wl_callx ky enter85 #[.pointer (some ⟨b, 0, none⟩), iN .i64 m] ky (Rs.Number_E hS (HA.perm H0 (List.Perm.trans (List.Perm.swap _ _ _) (List.Perm.cons _ (List.Perm.swap _ _ _)))) hm1 hm8 hx) ?_
  rintro _ w4 ⟨rfl, v1, hS3, h2⟩
  refine ⟨_, rfl, ?_⟩
  have h5 := h2
  refine zv (.tuple #[iN .u64 x, .bool ob]) (zv (iN .u64 x) (zv (.bool ob) (zv (iN .u64 x) (zv (.bool ob) (wl_nil (then_at rfl (wp_seq (wl_region (zv (iN .u64 x) (zu (iN .i64 x) (run_conv .i64 Try.underlying22 Try.underlying3 ky (by simp only [top]; omega)) (zv (iN .i64 x) (wl_nil (then_at rfl (wp_ret ?_))))))))))))))
  repeat first|refine tr ?_|refine block_ret ?_
  exact bodyPost_ret (v := iN .i64 x) ky rfl ⟨rfl, _, hS3, (h5.perm (List.Perm.trans (List.Perm.cons _ (List.Perm.swap _ _ _)) (List.Perm.swap _ _ _)))⟩
set_option maxHeartbeats 2000000 in
theorem tkw_E {z : Base} {L : BL} {w : World} {rb b d : Nat} {cur : List UInt8} {v : Value} {bs : List UInt8} (hS : Rs.RdS d cur v bs) (H0 : HA z ((rb, 111, #[pt b]) :: (b, 123, #[.bool true, v]) :: (d, 5, bc cur) :: L) w) {x : Nat} {ob : Bool} {r : List UInt8} (hx : Rs.nxn 8 bs = (x, ob, r)) :
    Calls Try.prog 86 #[pt rb] w fun e w' => e = .returned (iN .u64 x) ∧ ∃ v', Rs.RdS d cur v' r ∧ HA z ((rb, 111, #[pt b]) :: (b, 123, #[.bool true, v']) :: (d, 5, bc cur) :: L) w' := by
  go_enter Try.func86, Try.ntmps86
  refine wp_seq (wl_region (zv (iN .u64 0) (wl_nil (then_at rfl (wp_seq (wl_region (zu (.pointer (some ⟨b, 0, none⟩)) (run_load1 (fun w => Try.isAgg111 w) ky (((H0.get 0 rfl).cell 0).trans rfl)) ?_)))))))
  refine wl_callx ky enter85 #[.pointer (some ⟨b, 0, none⟩), iN .i64 8] ky (Rs.Number_E hS (HA.perm H0 (List.Perm.trans (List.Perm.swap _ _ _) (List.Perm.cons _ (List.Perm.swap _ _ _)))) (by decide) (by decide) hx) ?_
  rintro _ w4 ⟨rfl, v1, hS3, h2⟩
  refine ⟨_, rfl, ?_⟩
  have h5 := h2
  refine zv (.tuple #[iN .u64 x, .bool ob]) (zv (iN .u64 x) (zv (.bool ob) (zv (iN .u64 x) (zv (.bool ob) (wl_nil (then_at rfl (wp_seq (wl_region (zv (iN .u64 x) (zv (iN .u64 x) (wl_nil (then_at rfl (wp_ret ?_)))))))))))))
  repeat first|refine tr ?_|refine block_ret ?_
  exact bodyPost_ret (v := iN .u64 x) ky rfl ⟨rfl, _, hS3, (h5.perm (List.Perm.trans (List.Perm.cons _ (List.Perm.swap _ _ _)) (List.Perm.swap _ _ _)))⟩
set_option maxHeartbeats 2000000 in
theorem tkt_E {z : Base} {L : BL} {w : World} {rb b d : Nat} {cur : List UInt8} {v : Value} {bs : List UInt8} (hS : Rs.RdS d cur v bs) (H0 : HA z ((rb, 111, #[pt b]) :: (b, 123, #[.bool true, v]) :: (d, 5, bc cur) :: L) w) {x : ByteArray} {ob : Bool} {r : List UInt8} (hx : Rs.nxt 16384 bs = (x, ob, r)) :
    Calls Try.prog 87 #[pt rb] w fun e w' => e = .returned (.string x) ∧ ∃ v', Rs.RdS d cur v' r ∧ HA z ((rb, 111, #[pt b]) :: (b, 123, #[.bool true, v']) :: (d, 5, bc cur) :: L) w' := by
  go_enter Try.func87, Try.ntmps87
  refine wp_seq (wl_region (zv (.string ({ data := #[] })) (wl_nil (then_at rfl (wp_seq (wl_region (zu (.pointer (some ⟨b, 0, none⟩)) (run_load1 (fun w => Try.isAgg111 w) ky (((H0.get 0 rfl).cell 0).trans rfl)) ?_)))))))
  refine wl_callx ky enter88 #[.pointer (some ⟨b, 0, none⟩), iN .i64 16384] ky (Rs.Text_E hS (HA.perm H0 (List.Perm.trans (List.Perm.swap _ _ _) (List.Perm.cons _ (List.Perm.swap _ _ _)))) (by decide) hx) ?_
  rintro _ w4 ⟨rfl, v1, hS3, h2⟩
  refine ⟨_, rfl, ?_⟩
  have h5 := h2
  refine zv (.tuple #[.string x, .bool ob]) (zv (.string x) (zv (.bool ob) (zv (.string x) (zv (.bool ob) (wl_nil (then_at rfl (wp_seq (wl_region (zv (.string x) (zv (.string x) (wl_nil (then_at rfl (wp_ret ?_)))))))))))))
  repeat first|refine tr ?_|refine block_ret ?_
  exact bodyPost_ret (v := .string x) ky rfl ⟨rfl, _, hS3, (h5.perm (List.Perm.trans (List.Perm.cons _ (List.Perm.swap _ _ _)) (List.Perm.swap _ _ _)))⟩
set_option maxHeartbeats 2000000 in
theorem tak_h {z : Base} {L : BL} {w : World} (H0 : HA z L w) (s : ByteArray) (hs : s.size ≤ 140737488351232) :
    Calls Try.prog 46 #[.string s] w fun e w' => ∃ rb b d cur v, e = .returned (.tuple #[.func (.func 84) #[] #[pt rb], .func (.func 86) #[] #[pt rb], .func (.func 87) #[] #[pt rb]]) ∧ Rs.RdS d cur v (bl s) ∧ HA z ((rb, 111, #[pt b]) :: (b, 123, #[.bool true, v]) :: (d, 5, bc cur) :: L) w' := by
  go_enter Try.func46, Try.ntmps46
  refine wp_seq (wl_region (zv (.nilFunc) (zv (.nilFunc) (zv (.nilFunc) (wl_nil (then_at rfl (wp_seq (wl_region (zv (.string s) ?_)))))))))
  refine wl_callx ky enter83 _ ky (Rs.New_h H0 s hs) ?_
  rintro _ w7 ⟨b1, d2, cur3, v4, rfl, hS5, h6⟩
  refine ⟨_, rfl, ?_⟩
  have h8 := h6
  refine wl_make (c := #[.pointer none]) h8 111 ky ky ?_
  intro q9 w10 (h11 : HA z ((q9, 111, #[.pointer none]) :: (b1, 123, #[.bool true, v4]) :: (d2, 5, bc cur3) :: L) w10)
  refine wl_putv (v := .pointer (some ⟨b1, 0, none⟩)) h11 0 rfl 0 (by show 0 < 1; decide) ky (fun w => Try.sizeOf111 w) ky ky ky (fun w12 h13 => (wl_nil (then_at rfl (wp_seq (wl_region (zv (.func (.func 84) #[] #[.pointer (some ⟨q9, 0, none⟩)]) (zv (.func (.func 84) #[] #[.pointer (some ⟨q9, 0, none⟩)]) (wl_nil (then_at rfl (wp_seq (wl_region (zv (.func (.func 86) #[] #[.pointer (some ⟨q9, 0, none⟩)]) (zv (.func (.func 86) #[] #[.pointer (some ⟨q9, 0, none⟩)]) (wl_nil (then_at rfl (wp_seq (wl_region (zv (.func (.func 87) #[] #[.pointer (some ⟨q9, 0, none⟩)]) (zv (.func (.func 87) #[] #[.pointer (some ⟨q9, 0, none⟩)]) (wl_nil (then_at rfl (wp_seq (wl_region (zv (.func (.func 84) #[] #[.pointer (some ⟨q9, 0, none⟩)]) (zv (.func (.func 86) #[] #[.pointer (some ⟨q9, 0, none⟩)]) (zv (.func (.func 87) #[] #[.pointer (some ⟨q9, 0, none⟩)]) (zv (.func (.func 84) #[] #[.pointer (some ⟨q9, 0, none⟩)]) (zv (.func (.func 86) #[] #[.pointer (some ⟨q9, 0, none⟩)]) (zv (.func (.func 87) #[] #[.pointer (some ⟨q9, 0, none⟩)]) (wl_nil (then_at rfl (wp_ret ?_))))))))))))))))))))))))))))))))
  repeat first|refine tr ?_|refine block_ret ?_
  exact bodyPost_ret (v := .tuple #[.func (.func 84) #[] #[pt q9], .func (.func 86) #[] #[pt q9], .func (.func 87) #[] #[pt q9]]) ky rfl ⟨q9, b1, d2, cur3, v4, rfl, hS5, h13⟩
theorem info67z : (Try.prog.info? 67).map (fun i => (i.zero, i.size, i.bytes)) = some (some (.agg #[iN .i64 0, .string { data := #[] }, .string { data := #[] }]), 3, 40) := by kernel_rfl
theorem info9z : (Try.prog.info? 9).map (fun i => (i.zero, i.size, i.bytes)) = some (some (.string { data := #[] }), 1, 16) := by kernel_rfl
theorem info62z : (Try.prog.info? 62).map (fun i => (i.zero, i.size, i.bytes)) = some (some (.agg #[iN .u64 0, iN .i64 0, iN .u64 0, .string { data := #[] }]), 4, 40) := by kernel_rfl
/-- what is read of devices -/
def dvs : Nat → List UInt8 → List Mb → List Mb × List UInt8
  | 0, us, ds => (ds, us)
  | n + 1, us, ds => dvs n (Rs.nxt 16384 (Rs.nxt 16384 (Rs.nxn 1 us).2.2).2.2).2.2 (ds ++ [⟨(((Rs.nxn 1 us).1 : Nat) : Int), (Rs.nxt 16384 (Rs.nxn 1 us).2.2).1, (Rs.nxt 16384 (Rs.nxt 16384 (Rs.nxn 1 us).2.2).2.2).1⟩])
theorem dvs_z (us : List UInt8) (ds : List Mb) : dvs 0 us ds = (ds, us) := rfl
theorem dvs_s (n : Nat) (us : List UInt8) (ds : List Mb) : dvs (n + 1) us ds = dvs n (Rs.nxt 16384 (Rs.nxt 16384 (Rs.nxn 1 us).2.2).2.2).2.2 (ds ++ [⟨(((Rs.nxn 1 us).1 : Nat) : Int), (Rs.nxt 16384 (Rs.nxn 1 us).2.2).1, (Rs.nxt 16384 (Rs.nxt 16384 (Rs.nxn 1 us).2.2).2.2).1⟩]) := rfl
theorem nxn_lt1 (bs : List UInt8) : (Rs.nxn 1 bs).1 < 256 := by
  unfold Rs.nxn
  split
  · have h1 := Wi.val_lt (bs.take 1)
    have h2 : (bs.take 1).length ≤ 1 := List.length_take_le _ _
    have h3 : 256 ^ (bs.take 1).length ≤ 256 ^ 1 := Nat.pow_le_pow_right (by decide) h2
    show Wi.val (bs.take 1) < 256
    omega
  · show (0 : Nat) < 256
    decide
/-- what a list's bytes may be -/
def rdL (bs : List UInt8) : Li × List UInt8 :=
  (⟨((Rs.nxn 1 bs).1 : Nat), ((Rs.nxn 4 (Rs.nxn 1 bs).2.2).1 : Nat), (Rs.nxt 16384 (Rs.nxn 4 (Rs.nxn 1 bs).2.2).2.2).1, (dvs (Rs.nxn 1 (Rs.nxt 16384 (Rs.nxn 4 (Rs.nxn 1 bs).2.2).2.2).2.2).1 (Rs.nxn 1 (Rs.nxt 16384 (Rs.nxn 4 (Rs.nxn 1 bs).2.2).2.2).2.2).2.2 []).1, (Rs.nxt 16384 (dvs (Rs.nxn 1 (Rs.nxt 16384 (Rs.nxn 4 (Rs.nxn 1 bs).2.2).2.2).2.2).1 (Rs.nxn 1 (Rs.nxt 16384 (Rs.nxn 4 (Rs.nxn 1 bs).2.2).2.2).2.2).2.2 []).2).1⟩, (Rs.nxt 16384 (dvs (Rs.nxn 1 (Rs.nxt 16384 (Rs.nxn 4 (Rs.nxn 1 bs).2.2).2.2).2.2).1 (Rs.nxn 1 (Rs.nxt 16384 (Rs.nxn 4 (Rs.nxn 1 bs).2.2).2.2).2.2).2.2 []).2).2.2)
def lisR (s : ByteArray) : Li := (rdL (bl s)).1
set_option maxHeartbeats 4000000 in
theorem lo_any {w : World} (s : ByteArray) (hs : s.size ≤ 140737488351232) :
    Calls Try.prog 47 #[.string s] w fun e w' => ∃ sv Lr, e = .returned (.agg (liC (lisR s) sv)) ∧ Row 67 3 sv (lisR s).ds.length (mcl (lisR s).ds) Lr ∧ HA (bs w) Lr w' := by
  have H0 := HA.start w
  go_enter Try.func47, Try.ntmps47
  refine wp_seq (wl_region (wl_make (c := #[iN .i64 0, iN .i64 0, .string ({ data := #[] }), .slice none 0 0, .string ({ data := #[] })]) H0 25 ky ky ?_))
  intro q1 w2 (h3 : HA (bs w) [(q1, 25, #[iN .i64 0, iN .i64 0, .string ({ data := #[] }), .slice none 0 0, .string ({ data := #[] })])] w2)
  refine wl_nil (then_at rfl (wp_seq (wl_region (zv (.string s) ?_))))
  refine wl_callx ky enter46 _ ky (tak_h h3 s hs) ?_
  rintro _ w11 ⟨rb4, b5, d6, cur7, v8, rfl, hS9, h10⟩
  refine ⟨_, rfl, ?_⟩
  have h12 := h10
  refine zv (.tuple #[.func (.func 84) #[] #[pt rb4], .func (.func 86) #[] #[pt rb4], .func (.func 87) #[] #[pt rb4]]) (zv (.func (.func 84) #[] #[pt rb4]) (zv (.func (.func 86) #[] #[pt rb4]) (zv (.func (.func 87) #[] #[pt rb4]) (zv (.func (.func 84) #[] #[pt rb4]) (zv (.func (.func 86) #[] #[pt rb4]) (zv (.func (.func 87) #[] #[pt rb4]) (wl_nil (then_at rfl (wp_seq (wl_region (zv (.func (.func 84) #[] #[pt rb4]) ?_)))))))))))
  obtain ⟨x13, o14, r15, i16⟩ : ∃ x o r, Rs.nxn 1 (bl s) = (x, o, r) := ⟨_, _, _, rfl⟩
  refine wl_callvx (cap := #[.pointer (some ⟨rb4, 0, none⟩)]) (args := #[iN .i64 1, .pointer (some ⟨rb4, 0, none⟩)]) ky enter84 ky ky (tkn_E hS9 h12 (by decide) (by decide) (Rs.nxn_lt (by decide) i16) i16) ?_
  rintro _ w20 ⟨rfl, v17, hS19, h18⟩
  refine ⟨_, rfl, ?_⟩
  have h21 := h18
  refine zv (.func (.func 84) #[] #[pt rb4]) ?_
  obtain ⟨x22, o23, r24, i25⟩ : ∃ x o r, Rs.nxn 4 r15 = (x, o, r) := ⟨_, _, _, rfl⟩
  refine wl_callvx (cap := #[.pointer (some ⟨rb4, 0, none⟩)]) (args := #[iN .i64 4, .pointer (some ⟨rb4, 0, none⟩)]) ky enter84 ky ky (tkn_E hS19 h21 (by decide) (by decide) (Rs.nxn_lt (by decide) i25) i25) ?_
  rintro _ w29 ⟨rfl, v26, hS28, h27⟩
  refine ⟨_, rfl, ?_⟩
  have h30 := h27
  refine zv (.func (.func 87) #[] #[pt rb4]) ?_
  obtain ⟨x31, o32, r33, i34⟩ : ∃ x o r, Rs.nxt 16384 r24 = (x, o, r) := ⟨_, _, _, rfl⟩
  refine wl_callvx (cap := #[.pointer (some ⟨rb4, 0, none⟩)]) (args := #[.pointer (some ⟨rb4, 0, none⟩)]) ky enter87 ky ky (tkt_E hS28 h30 i34) ?_
  rintro _ w38 ⟨rfl, v35, hS37, h36⟩
  refine ⟨_, rfl, ?_⟩
  have h39 := h36
  refine zv (.agg #[iN .i64 x13, iN .i64 x22, .string x31, .slice none 0 0, .string ({ data := #[] })]) (wl_make (c := #[iN .i64 0, iN .i64 0, .string ({ data := #[] }), .slice none 0 0, .string ({ data := #[] })]) h39 25 ky ky ?_)
  intro q40 w41 (h42 : HA (bs w) [(q40, 25, #[iN .i64 0, iN .i64 0, .string ({ data := #[] }), .slice none 0 0, .string ({ data := #[] })]), (rb4, 111, #[pt b5]), (b5, 123, #[.bool true, v35]), (d6, 5, bc cur7), (q1, 25, #[iN .i64 0, iN .i64 0, .string ({ data := #[] }), .slice none 0 0, .string ({ data := #[] })])] w41)
  refine wl_fill (c' := #[iN .i64 x13, iN .i64 x22, .string x31, .slice none 0 0, .string ({ data := #[] })]) h42 0 rfl ky ky ky rfl ky ky (fun w43 h44 => (wl_nil (then_at rfl (wp_seq (wp_seq (wl_region (zv (.func (.func 84) #[] #[pt rb4]) ?_)))))))
  obtain ⟨x45, o46, r47, i48⟩ : ∃ x o r, Rs.nxn 1 r33 = (x, o, r) := ⟨_, _, _, rfl⟩
  refine wl_callvx (cap := #[.pointer (some ⟨rb4, 0, none⟩)]) (args := #[iN .i64 1, .pointer (some ⟨rb4, 0, none⟩)]) ky enter84 ky ky (tkn_E hS37 (HA.perm h44 (List.Perm.trans (List.Perm.swap _ _ _) (List.Perm.trans (List.Perm.cons _ (List.Perm.swap _ _ _)) (List.Perm.cons _ (List.Perm.cons _ (List.Perm.swap _ _ _)))))) (by decide) (by decide) (Rs.nxn_lt (by decide) i48) i48) ?_
  rintro _ w52 ⟨rfl, v49, hS51, h50⟩
  refine ⟨_, rfl, ?_⟩
  have h53 := h50
  refine zv (iN .i64 0) (wl_nil (then_at rfl ?_))
  obtain ⟨R54, hQ55⟩ : ∃ R1, dvs x45 r47 [] = R1 := ⟨_, rfl⟩
  have h255 : x45 ≤ 255 := by have h9 := nxn_lt1 r33; rw [i48] at h9; omega
  refine wp_block ?_
  refine wp_while (fun mq AQ w' => ∃ (n i : Nat) (us : List UInt8) (acc : List Mb) (v : Value) (pp : Option Addr) (cp : Nat) (Lp : BL) (u56 : Nat → Value), mq = n + 1 ∧ AQ = ⟨(.string s :: un :: pt q1 :: .func (.func 84) #[] #[pt rb4] :: .func (.func 86) #[] #[pt rb4] :: .func (.func 87) #[] #[pt rb4] :: pt q40 :: .tuple #[.func (.func 84) #[] #[pt rb4], .func (.func 86) #[] #[pt rb4], .func (.func 87) #[] #[pt rb4]] :: .string s :: .tuple #[.func (.func 84) #[] #[pt rb4], .func (.func 86) #[] #[pt rb4], .func (.func 87) #[] #[pt rb4]] :: .func (.func 84) #[] #[pt rb4] :: .func (.func 86) #[] #[pt rb4] :: .func (.func 87) #[] #[pt rb4] :: .func (.func 84) #[] #[pt rb4] :: iN .i64 x13 :: .func (.func 84) #[] #[pt rb4] :: iN .i64 x22 :: .func (.func 87) #[] #[pt rb4] :: .string x31 :: .agg #[iN .i64 x13, iN .i64 x22, .string x31, .slice none 0 0, .string ({ data := #[] })] :: .func (.func 84) #[] #[pt rb4] :: iN .i64 x45 :: iN .i64 i :: u56 23 :: u56 24 :: u56 25 :: u56 26 :: u56 27 :: u56 28 :: u56 29 :: u56 30 :: u56 31 :: u56 32 :: u56 33 :: u56 34 :: u56 35 :: u56 36 :: List.replicate 4 un).toArray, []⟩ ∧ dvs n us acc = R54 ∧ i + n = x45 ∧ acc.length + n ≤ 255 ∧ Rs.RdS d6 cur7 v us ∧ Row 67 3 (.slice pp acc.length cp) acc.length (mcl acc) Lp ∧ HA (bs w) ([(rb4, 111, #[pt b5]), (b5, 123, #[.bool true, v]), (d6, 5, bc cur7), (q40, 25, #[iN .i64 x13, iN .i64 x22, .string x31, .slice pp acc.length cp, .string { data := #[] }]), (q1, 25, #[iN .i64 0, iN .i64 0, .string ({ data := #[] }), .slice none 0 0, .string ({ data := #[] })])] ++ (Lp ++ [])) w') (x45 + 1) ?_ ?_
  {exact ⟨x45, 0, r47, [], v49, none, 0, [], exm rfl ky ⟨hQ55, Nat.zero_add _, (by simp only [List.length_nil]; omega), hS51, Row.nil 67 3, h53⟩⟩}
  rintro _ _ w57 ⟨n, i, us, acc, v, pp, cp, Lp, u56, rfl, rfl, hR1, hin, hnl, hS, hRow, hL⟩
  have hL2 := hL
  rcases n with _ | n
  {refine wp_seq (wl_region (zu (.bool false) (run_lss (k := .i64) (a := i) (b := x45) ky ky false (decide_eq_false (by omega))) (wl_nil (then_at rfl (wp_seq (wp_cond_false ky ?_))))))
   refine wp_exit ?_
   repeat first | refine then_exit ?_ | refine block_exit ?_ | refine block_exit_ne (by decide) ?_
   refine then_at rfl (wp_seq ?_)
   have hR2 : R54 = (acc, us) := hR1.symm.trans (dvs_z _ _)
   rw [hR2] at hQ55
   refine wl_region (zv (.func (.func 87) #[] #[pt rb4]) ?_)
   obtain ⟨x58, o59, r60, i61⟩ : ∃ x o r, Rs.nxt 16384 us = (x, o, r) := ⟨_, _, _, rfl⟩
   refine wl_callvx (cap := #[.pointer (some ⟨rb4, 0, none⟩)]) (args := #[.pointer (some ⟨rb4, 0, none⟩)]) ky enter87 ky ky (tkt_E hS hL2 i61) ?_
   rintro _ w65 ⟨rfl, v62, hS64, h63⟩
   refine ⟨_, rfl, ?_⟩
   have h66 := h63
   refine zv (.pointer (some ⟨q40, 4, none⟩)) (wl_putv (v := .string x58) h66 3 rfl 4 (by show 4 < 5; decide) ky (fun w => Try.sizeOf9 w) ky ky ky (fun w67 h68 => (wl_nil (then_at rfl (wp_seq (wl_region (wl_load h68 3 rfl ky ky Try.underlying25 rfl ky (wl_fill (c' := #[iN .i64 x13, iN .i64 x22, .string x31, .slice pp acc.length cp, .string x58]) h68 4 rfl ky ky ky rfl ky ky (fun w69 h70 => (wl_nil (then_at rfl (wp_ret ?_))))))))))))
   repeat first|refine tr ?_|refine block_ret ?_
   have hrd : lisR s = (⟨((x13 : Nat) : Int), ((x22 : Nat) : Int), x31, acc, x58⟩ : Li) := by unfold lisR rdL; simp only [i16, i25, i34, i48, hQ55, i61]
   exact bodyPost_ret (v := .agg (#[iN .i64 x13, iN .i64 x22, .string x31, .slice pp acc.length cp, .string x58])) (res_cell (p := 2) ky ky (h70.get 4 rfl) Try.underlying25 rfl ky) rfl ⟨.slice pp acc.length cp, Lp, by rw [hrd]; rfl, by rw [hrd]; exact hRow, h70.sub (List.Sublist.cons _ (List.Sublist.cons _ (List.Sublist.cons _ (List.Sublist.cons _ (List.Sublist.cons _ (List.sublist_append_left _ _))))))⟩}
  refine wp_seq (wl_region (zu (.bool true) (run_lss (k := .i64) (a := i) (b := x45) ky ky true (decide_eq_true (by omega))) (wl_nil (then_at rfl (wp_seq (wp_cond_true ky (wp_skip (then_at rfl (wp_seq (wp_block ?_))))))))))
  refine wp_region_wx (fun w' => Blk w' q40 25 (#[iN .i64 x13, iN .i64 x22, .string x31, .slice pp acc.length cp, .string { data := #[] }])) (fun AQ w' => ∃ (v72 : Value) (v79 : Value) (v86 : Value) (pn104 : Option Addr) (cn105 : Nat) (La99 : BL) (q95 : Nat), AQ = ⟨(.string s :: un :: pt q1 :: .func (.func 84) #[] #[pt rb4] :: .func (.func 86) #[] #[pt rb4] :: .func (.func 87) #[] #[pt rb4] :: pt q40 :: .tuple #[.func (.func 84) #[] #[pt rb4], .func (.func 86) #[] #[pt rb4], .func (.func 87) #[] #[pt rb4]] :: .string s :: .tuple #[.func (.func 84) #[] #[pt rb4], .func (.func 86) #[] #[pt rb4], .func (.func 87) #[] #[pt rb4]] :: .func (.func 84) #[] #[pt rb4] :: .func (.func 86) #[] #[pt rb4] :: .func (.func 87) #[] #[pt rb4] :: .func (.func 84) #[] #[pt rb4] :: iN .i64 x13 :: .func (.func 84) #[] #[pt rb4] :: iN .i64 x22 :: .func (.func 87) #[] #[pt rb4] :: .string x31 :: .agg #[iN .i64 x13, iN .i64 x22, .string x31, .slice none 0 0, .string ({ data := #[] })] :: .func (.func 84) #[] #[pt rb4] :: iN .i64 x45 :: iN .i64 i :: .bool true :: .pointer (some ⟨q40, 3, none⟩) :: .slice pp acc.length cp :: .func (.func 84) #[] #[pt rb4] :: iN .i64 ((Rs.nxn 1 us).1) :: .func (.func 87) #[] #[pt rb4] :: .string ((Rs.nxt 16384 (Rs.nxn 1 us).2.2).1) :: .func (.func 87) #[] #[pt rb4] :: .string ((Rs.nxt 16384 (Rs.nxt 16384 (Rs.nxn 1 us).2.2).2.2).1) :: .agg #[iN .i64 ((Rs.nxn 1 us).1), .string ((Rs.nxt 16384 (Rs.nxn 1 us).2.2).1), .string ((Rs.nxt 16384 (Rs.nxt 16384 (Rs.nxn 1 us).2.2).2.2).1)] :: .slice (some ⟨q95, 0, none⟩) 1 1 :: .slice pn104 (acc.length + 1) cn105 :: .pointer (some ⟨q40, 3, none⟩) :: u56 36 :: List.replicate 4 un).toArray, []⟩ ∧ Rs.RdS d6 cur7 v72 ((Rs.nxn 1 us).2.2) ∧ Rs.RdS d6 cur7 v79 ((Rs.nxt 16384 (Rs.nxn 1 us).2.2).2.2) ∧ Rs.RdS d6 cur7 v86 ((Rs.nxt 16384 (Rs.nxt 16384 (Rs.nxn 1 us).2.2).2.2).2.2) ∧ Row 67 3 (.slice pn104 (acc.length + 1) cn105) (acc.length + 1) (mcl acc ++ [.int .i64 (((Rs.nxn 1 us).1 : Nat) : Int), .string (Rs.nxt 16384 (Rs.nxn 1 us).2.2).1, .string (Rs.nxt 16384 (Rs.nxt 16384 (Rs.nxn 1 us).2.2).2.2).1]) La99 ∧ HA (bs w) ((rb4, 111, #[pt b5]) :: (b5, 123, #[.bool true, v86]) :: (d6, 5, bc cur7) :: (q40, 25, #[iN .i64 x13, iN .i64 x22, .string x31, .slice pn104 (acc.length + 1) cn105, .string ({ data := #[] })]) :: (q1, 25, #[iN .i64 0, iN .i64 0, .string ({ data := #[] }), .slice none 0 0, .string ({ data := #[] })]) :: (La99 ++ [])) w') 13 ky ky ky ky ky ((hL2.drew).get 3 rfl) ?_ ?_
  {have h71 := hL2.drew
   refine zp 0 (.pointer (some ⟨q40, 3, none⟩)) (zx 1 (.slice pp acc.length cp) rfl (fun w' h' => run_load1 (fun w => Try.isAgg23 w) ky ((h'.cell 3).trans rfl)) (zp 2 (.func (.func 84) #[] #[pt rb4]) (zp 4 (.func (.func 87) #[] #[pt rb4]) (zp 6 (.func (.func 87) #[] #[pt rb4]) (wx_one 3 ky ?_)))))
   refine ex_callvx (cap := #[.pointer (some ⟨rb4, 0, none⟩)]) (args := #[iN .i64 1, .pointer (some ⟨rb4, 0, none⟩)]) rfl ky h71 enter84 ky ky (fun w75 h76 => tkn_E hS h76 (by decide) (by decide) (Rs.nxn_lt (by decide) rfl) rfl) ?_
   rintro w75 h76 _ w77 ⟨rfl, v72, hS74, h73⟩
   have h78 := h73
   refine ⟨_, rfl, _, .inr rfl, (h78.get 3 rfl), ?_⟩
   refine wx_one 5 ky ?_
   refine ex_callvx (cap := #[.pointer (some ⟨rb4, 0, none⟩)]) (args := #[.pointer (some ⟨rb4, 0, none⟩)]) rfl ky h78 enter87 ky ky (fun w82 h83 => tkt_E hS74 h83 rfl) ?_
   rintro w82 h83 _ w84 ⟨rfl, v79, hS81, h80⟩
   have h85 := h80
   refine ⟨_, rfl, _, .inr rfl, (h85.get 3 rfl), ?_⟩
   refine wx_one 7 ky ?_
   refine ex_callvx (cap := #[.pointer (some ⟨rb4, 0, none⟩)]) (args := #[.pointer (some ⟨rb4, 0, none⟩)]) rfl ky h85 enter87 ky ky (fun w89 h90 => tkt_E hS81 h90 rfl) ?_
   rintro w89 h90 _ w91 ⟨rfl, v86, hS88, h87⟩
   have h92 := h87
   refine ⟨_, rfl, _, .inr rfl, (h92.get 3 rfl), ?_⟩
   refine zp 8 (.agg #[iN .i64 ((Rs.nxn 1 us).1), .string ((Rs.nxt 16384 (Rs.nxn 1 us).2.2).1), .string ((Rs.nxt 16384 (Rs.nxt 16384 (Rs.nxn 1 us).2.2).2.2).1)]) (wx_one 9 ky ?_)
   refine ex_makeT (c := #[iN .i64 ((Rs.nxn 1 us).1), .string ((Rs.nxt 16384 (Rs.nxn 1 us).2.2).1), .string ((Rs.nxt 16384 (Rs.nxt 16384 (Rs.nxn 1 us).2.2).2.2).1)]) rfl ky h92 67 (fun q => .slice (some ⟨q, 0, none⟩) 1 1) (fun _ => ky) ?_
   intro q95 w93 (h94 : HA (bs w) ((q95, 67, #[iN .i64 ((Rs.nxn 1 us).1), .string ((Rs.nxt 16384 (Rs.nxn 1 us).2.2).1), .string ((Rs.nxt 16384 (Rs.nxt 16384 (Rs.nxn 1 us).2.2).2.2).1)]) :: (rb4, 111, #[pt b5]) :: (b5, 123, #[.bool true, v86]) :: (d6, 5, bc cur7) :: (q40, 25, #[iN .i64 x13, iN .i64 x22, .string x31, .slice pp acc.length cp, .string { data := #[] }]) :: (q1, 25, #[iN .i64 0, iN .i64 0, .string ({ data := #[] }), .slice none 0 0, .string ({ data := #[] })]) :: (Lp ++ [])) w93)
   refine ⟨_, .inr rfl, (h94.get 4 rfl), ?_⟩
   refine wx_one 10 ky ?_
   refine ex_doT rfl ky h94 fun w96 h97 => ?_
   obtain ⟨va98, wa103, La99, hrun102, hRa100, ha101⟩ := row_more (t := 23) hRow ((show HA (bs w) (((q95, 67, #[iN .i64 ((Rs.nxn 1 us).1), .string ((Rs.nxt 16384 (Rs.nxn 1 us).2.2).1), .string ((Rs.nxt 16384 (Rs.nxt 16384 (Rs.nxn 1 us).2.2).2.2).1)]) :: [(rb4, 111, #[pt b5]), (b5, 123, #[.bool true, v86]), (d6, 5, bc cur7), (q40, 25, #[iN .i64 x13, iN .i64 x22, .string x31, .slice pp acc.length cp, .string { data := #[] }]), (q1, 25, #[iN .i64 0, iN .i64 0, .string ({ data := #[] }), .slice none 0 0, .string ({ data := #[] })])]) ++ (Lp ++ [])) w96 from h97).perm (List.Perm.cons _ (perm_mv [(rb4, 111, #[pt b5]), (b5, 123, #[.bool true, v86]), (d6, 5, bc cur7), (q40, 25, #[iN .i64 x13, iN .i64 x22, .string x31, .slice pp acc.length cp, .string { data := #[] }]), (q1, 25, #[iN .i64 0, iN .i64 0, .string ({ data := #[] }), .slice none 0 0, .string ({ data := #[] })])] Lp []))) (by decide) (.agg #[iN .i64 0, .string { data := #[] }, .string { data := #[] }]) 40 23 Try.underlying23 info67z rfl (by decide) rfl ky (by unfold maxLen; omega) (by omega)
   obtain ⟨pn104, cn105, hvnpn104⟩ := hRa100.form
   subst hvnpn104
   have h106 := ha101.perm (perm_mv [(rb4, 111, #[pt b5]), (b5, 123, #[.bool true, v86]), (d6, 5, bc cur7), (q40, 25, #[iN .i64 x13, iN .i64 x22, .string x31, .slice pp acc.length cp, .string { data := #[] }]), (q1, 25, #[iN .i64 0, iN .i64 0, .string ({ data := #[] }), .slice none 0 0, .string ({ data := #[] })])] La99 []).symm
   refine ⟨_, _, run_app_ops ky ky hrun102, _, .inr rfl, (h106.get 3 rfl), ?_⟩
   refine zp 11 (.pointer (some ⟨q40, 3, none⟩)) (wx_one 12 ky ?_)
   refine ex_skipT rfl ky h106 fun w107 h108 => ⟨_, run_storev (q := q40) (i := 3) (v := .slice pn104 (acc.length + 1) cn105) (fun w => Try.sizeOf23 w) ky ky ky (by rw [(h108.get 3 rfl).cell]; rfl) ((h108.get 3 rfl).free _ (by show 3 < 5; decide)), ?_⟩
   have h109 := h108.put 3 rfl 3 (.slice pn104 (acc.length + 1) cn105)
   refine ⟨(fun _ => True), .inl ky, trivial, ?_⟩
   refine wx_end fun w110 hbx _ => ?_
   have h111 := HA.keep _ _ h109 hbx
   exact ⟨v72, v79, v86, pn104, cn105, La99, q95, by kernel_rfl, hS74, hS81, hS88, hRa100, h111⟩}
  {rintro _ w112 ⟨v72, v79, v86, pn104, cn105, La99, q95, rfl, hS74, hS81, hS88, hRa100, h113⟩
   refine block_normal (then_at rfl (wl_region (zu (iN .i64 (i + 1)) (run_add (k := .i64) (a := i) (b := 1) ky ky (by first | omega | (simp only [top]; omega))) (zv (iN .i64 (i + 1)) (wl_nil ?_)))))
   exact then_I ⟨n + 1, (by omega), n, i + 1, (Rs.nxt 16384 (Rs.nxt 16384 (Rs.nxn 1 us).2.2).2.2).2.2, acc ++ [⟨(((Rs.nxn 1 us).1 : Nat) : Int), (Rs.nxt 16384 (Rs.nxn 1 us).2.2).1, (Rs.nxt 16384 (Rs.nxt 16384 (Rs.nxn 1 us).2.2).2.2).1⟩], v86, pn104, cn105, La99, exm rfl ky ⟨by rw [← hR1, dvs_s], by omega, by rw [List.length_append, List.length_singleton]; omega, hS88, by rw [mcl_snoc, List.length_append, List.length_singleton]; exact hRa100, by rw [List.length_append, List.length_singleton]; exact h113⟩⟩}
set_option maxHeartbeats 2000000 in
theorem bo_any {w : World} (s : ByteArray) (hs : s.size ≤ 140737488351232) :
    Calls Try.prog 48 #[.string s] w fun e w' => e = .returned (.agg (buC (decA s).1)) ∧ Below w.heap.size w w' := by
  have H0 := HA.start w
  go_enter Try.func48, Try.ntmps48
  refine wp_seq (wl_region (wl_make (c := #[iN .i64 0, iN .i64 0, .string ({ data := #[] }), .string ({ data := #[] }), iN .i64 0, .string ({ data := #[] }), .string ({ data := #[] }), iN .i64 0, .string ({ data := #[] })]) H0 27 ky ky ?_))
  intro q1 w2 (h3 : HA (bs w) [(q1, 27, #[iN .i64 0, iN .i64 0, .string ({ data := #[] }), .string ({ data := #[] }), iN .i64 0, .string ({ data := #[] }), .string ({ data := #[] }), iN .i64 0, .string ({ data := #[] })])] w2)
  refine wl_nil (then_at rfl (wp_seq (wl_region (zv (.string s) (zl (.tuple #[.agg (buC (decA s).1), iN .i64 ((decA s).2)]) h3 enter89 _ (dec_any s hs) (fun w4 h5 => (zv (.tuple #[.agg (buC (decA s).1), iN .i64 ((decA s).2)]) (zv (.agg (buC (decA s).1)) (zv (iN .i64 ((decA s).2)) (wl_make (c := #[iN .i64 0, iN .i64 0, .string ({ data := #[] }), .string ({ data := #[] }), iN .i64 0, .string ({ data := #[] }), .string ({ data := #[] }), iN .i64 0, .string ({ data := #[] })]) h5 27 ky ky ?_))))))))))
  intro q6 w7 (h8 : HA (bs w) [(q6, 27, #[iN .i64 0, iN .i64 0, .string ({ data := #[] }), .string ({ data := #[] }), iN .i64 0, .string ({ data := #[] }), .string ({ data := #[] }), iN .i64 0, .string ({ data := #[] })]), (q1, 27, #[iN .i64 0, iN .i64 0, .string ({ data := #[] }), .string ({ data := #[] }), iN .i64 0, .string ({ data := #[] }), .string ({ data := #[] }), iN .i64 0, .string ({ data := #[] })])] w7)
  refine wl_fill (c' := buC (decA s).1) h8 0 rfl ky ky ky rfl ky ky (fun w9 h10 => (zv (iN .i64 ((decA s).2)) (wl_nil (then_at rfl (wp_seq (wl_region (wl_load h10 0 rfl ky ky Try.underlying27 rfl ky (wl_fill (c' := buC (decA s).1) h10 1 rfl ky ky ky rfl ky ky (fun w11 h12 => (wl_nil (then_at rfl (wp_ret ?_))))))))))))
  repeat first|refine tr ?_|refine block_ret ?_
  exact bodyPost_ret (v := .agg (buC (decA s).1)) (res_cell (p := 2) ky ky (h12.get 1 rfl) Try.underlying27 rfl ky) rfl ⟨rfl, h12.old.old⟩
end Go.Proofs.Ytiogegoepgkjlaa
