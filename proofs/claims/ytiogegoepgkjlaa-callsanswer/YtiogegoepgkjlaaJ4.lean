/-
  The reference's reader, few, some, unlist.
-/
import Derived.Test.YtiogegoepgkjlaaJ3
set_option maxRecDepth 100000
set_option linter.unusedVariables false
set_option linter.unusedSimpArgs false
namespace Go.Proofs.Ytiogegoepgkjlaa
open Go.RowKit

/-- what a reader of the reference has still to read -/
def RR (s : ByteArray) (us : List UInt8) : Prop := bl s = us ∧ s.size ≤ 140737488351232
theorem rN_F {z : Base} {L : BL} {w : World} {b : Nat} {s : ByteArray} {us : List UInt8} (hS : RR s us) (H : HA z ((b, 116, #[.string s]) :: L) w) {m : Nat} (h1 : 1 ≤ m) (h8 : m ≤ 8) {x : Nat} {o : Bool} {r : List UInt8} (h : Rs.nxn m us = (x, o, r)) :
    Calls Try.prog 50 #[pt b, iN .i64 m] w fun e w' => e = .returned (.tuple #[iN .u64 x, .bool o]) ∧ ∃ s', RR s' r ∧ HA z ((b, 116, #[.string s']) :: L) w' := by
  obtain ⟨rfl, hs⟩ := hS
  refine (Rs.rN_E H h1 h8 h).mono ?_
  rintro e w' ⟨he, s', h2, h3, h4⟩
  exact ⟨he, s', ⟨h2, Nat.le_trans h3 hs⟩, h4⟩
theorem rT_F {z : Base} {L : BL} {w : World} {b : Nat} {s : ByteArray} {us : List UInt8} (hS : RR s us) (H : HA z ((b, 116, #[.string s]) :: L) w) {m : Nat} (hm : m ≤ 16384) {x : ByteArray} {o : Bool} {r : List UInt8} (h : Rs.nxt m us = (x, o, r)) :
    Calls Try.prog 91 #[pt b, iN .i64 m] w fun e w' => e = .returned (.tuple #[.string x, .bool o]) ∧ ∃ s', RR s' r ∧ HA z ((b, 116, #[.string s']) :: L) w' := by
  obtain ⟨rfl, hs⟩ := hS
  unfold Rs.nxt at h
  split at h
  · next hc =>
    obtain ⟨rfl, g⟩ := Prod.mk.inj h
    obtain ⟨rfl, rfl⟩ := Prod.mk.inj g
    rw [bl_len] at hc
    refine (Wi.rText_yes w b m s ((H.get 0 rfl).cell 0) ((H.get 0 rfl).free 0 Nat.zero_lt_one) hs hc.1 hc.2.1 hc.2.2 (by omega)).mono ?_
    rintro e w' ⟨rfl, rfl⟩
    refine ⟨?_, s.extract (4 + Wi.val (s.data.toList.take 4)) s.size, ⟨Wi.ext_drop s _, ?_⟩, H.put 0 rfl 0 (.string (s.extract (4 + Wi.val (s.data.toList.take 4)) s.size))⟩
    · refine congrArg (fun q => Ending.returned (.tuple #[.string q, .bool true])) ?_
      apply ByteArray.ext
      apply Array.ext'
      rw [Wi.ext_mid]
      rfl
    · rw [ByteArray.size_extract]; omega
  · next hc =>
    obtain ⟨rfl, g⟩ := Prod.mk.inj h
    obtain ⟨rfl, rfl⟩ := Prod.mk.inj g
    rw [bl_len] at hc
    refine (Wi.rText_no w b m s ((H.get 0 rfl).cell 0) hs (by omega) (by omega) (show _ ∨ _ ∨ (m : Int) < Wi.val ((bl s).take 4) ∨ s.size < 4 + Wi.val ((bl s).take 4) by omega)).mono ?_
    rintro e w' ⟨rfl, rfl⟩
    exact ⟨rfl, s, ⟨rfl, hs⟩, H⟩
set_option maxHeartbeats 2000000 in
theorem rfew_E {z : Base} {L : BL} {w : World} {b : Nat} {s : ByteArray} {us : List UInt8} (hS : RR s us) (H0 : HA z ((b, 116, #[.string s]) :: L) w) {m : Nat} {x : Nat} {ob : Bool} {r : List UInt8} (hm1 : 1 ≤ m) (hm8 : m ≤ 4) (hxl : x < 4294967296) (hx : Rs.nxn m us = (x, ob, r)) :
    Calls Try.prog 51 #[pt b, iN .i64 m] w fun e w' => e = .returned (iN .i64 x) ∧ ∃ s', RR s' r ∧ HA z ((b, 116, #[.string s']) :: L) w' := by
  go_enter Try.func51, Try.ntmps51
  refine wp_seq (wl_region (zv (iN .i64 0) (wl_nil (then_at rfl (wp_seq (wl_region (zv (.pointer (some ⟨b, 0, none⟩)) (zv (iN .i64 m) ?_))))))))
  refine wl_callx ky enter50 _ ky (rN_F hS H0 hm1 (by omega) hx) ?_
  rintro _ w4 ⟨rfl, s1, hS3, h2⟩
  refine ⟨_, rfl, ?_⟩
  have h5 := h2
  refine zv (.tuple #[iN .u64 x, .bool ob]) (zv (iN .u64 x) (zv (.bool ob) (zv (iN .u64 x) (zv (.bool ob) (wl_nil (then_at rfl (wp_seq (wl_region (zv (iN .u64 x) (zu (iN .i64 x) (run_conv .i64 Try.underlying22 Try.underlying3 ky (by simp only [top]; omega)) (zv (iN .i64 x) (wl_nil (then_at rfl (wp_ret ?_))))))))))))))
  repeat first|refine tr ?_|refine block_ret ?_
  exact bodyPost_ret (v := iN .i64 x) ky rfl ⟨rfl, _, hS3, h5⟩
set_option maxHeartbeats 2000000 in
theorem rsom_E {z : Base} {L : BL} {w : World} {b : Nat} {s : ByteArray} {us : List UInt8} (hS : RR s us) (H0 : HA z ((b, 116, #[.string s]) :: L) w) {m : Nat} {x : ByteArray} {ob : Bool} {r : List UInt8} (hm8 : m ≤ 16384) (hx : Rs.nxt m us = (x, ob, r)) :
    Calls Try.prog 53 #[pt b, iN .i64 m] w fun e w' => e = .returned (.string x) ∧ ∃ s', RR s' r ∧ HA z ((b, 116, #[.string s']) :: L) w' := by
  go_enter Try.func53, Try.ntmps53
  refine wp_seq (wl_region (zv (.string ({ data := #[] })) (wl_nil (then_at rfl (wp_seq (wl_region (zv (.pointer (some ⟨b, 0, none⟩)) (zv (iN .i64 m) ?_))))))))
  refine wl_callx ky enter91 _ ky (rT_F hS H0 hm8 hx) ?_
  rintro _ w4 ⟨rfl, s1, hS3, h2⟩
  refine ⟨_, rfl, ?_⟩
  have h5 := h2
  refine zv (.tuple #[.string x, .bool ob]) (zv (.string x) (zv (.bool ob) (zv (.string x) (zv (.bool ob) (wl_nil (then_at rfl (wp_seq (wl_region (zv (.string x) (zv (.string x) (wl_nil (then_at rfl (wp_ret ?_)))))))))))))
  repeat first|refine tr ?_|refine block_ret ?_
  exact bodyPost_ret (v := .string x) ky rfl ⟨rfl, _, hS3, h5⟩
/-- what is read of devices -/
def dvr : Nat → List UInt8 → List Mb → List Mb × List UInt8
  | 0, us, ds => (ds, us)
  | n + 1, us, ds => dvr n (Rs.nxt 1000 (Rs.nxt 1000 (Rs.nxn 1 us).2.2).2.2).2.2 (ds ++ [⟨(((Rs.nxn 1 us).1 : Nat) : Int), (Rs.nxt 1000 (Rs.nxn 1 us).2.2).1, (Rs.nxt 1000 (Rs.nxt 1000 (Rs.nxn 1 us).2.2).2.2).1⟩])
theorem dvr_z (us : List UInt8) (ds : List Mb) : dvr 0 us ds = (ds, us) := rfl
theorem dvr_s (n : Nat) (us : List UInt8) (ds : List Mb) : dvr (n + 1) us ds = dvr n (Rs.nxt 1000 (Rs.nxt 1000 (Rs.nxn 1 us).2.2).2.2).2.2 (ds ++ [⟨(((Rs.nxn 1 us).1 : Nat) : Int), (Rs.nxt 1000 (Rs.nxn 1 us).2.2).1, (Rs.nxt 1000 (Rs.nxt 1000 (Rs.nxn 1 us).2.2).2.2).1⟩]) := rfl
/-- what a list's bytes may be -/
def rdLr (bs : List UInt8) : Li := ⟨((Rs.nxn 1 bs).1 : Nat), ((Rs.nxn 4 (Rs.nxn 1 bs).2.2).1 : Nat), (Rs.nxt 1000 (Rs.nxn 4 (Rs.nxn 1 bs).2.2).2.2).1, (dvr (min (Rs.nxn 1 (Rs.nxt 1000 (Rs.nxn 4 (Rs.nxn 1 bs).2.2).2.2).2.2).1 10) (Rs.nxn 1 (Rs.nxt 1000 (Rs.nxn 4 (Rs.nxn 1 bs).2.2).2.2).2.2).2.2 []).1, (Rs.nxt 1000 (dvr (min (Rs.nxn 1 (Rs.nxt 1000 (Rs.nxn 4 (Rs.nxn 1 bs).2.2).2.2).2.2).1 10) (Rs.nxn 1 (Rs.nxt 1000 (Rs.nxn 4 (Rs.nxn 1 bs).2.2).2.2).2.2).2.2 []).2).1⟩
def lisRr (s : ByteArray) : Li := rdLr (bl s)
set_option maxHeartbeats 4000000 in
theorem rlo_any {w : World} (s : ByteArray) (hs : s.size ≤ 140737488351232) :
    Calls Try.prog 52 #[.string s] w fun e w' => ∃ sv Lr, e = .returned (.agg (liC (lisRr s) sv)) ∧ Row 67 3 sv (lisRr s).ds.length (mcl (lisRr s).ds) Lr ∧ HA (bs w) Lr w' := by
  have H0 := HA.start w
  go_enter Try.func52, Try.ntmps52
  refine wp_seq (wl_region (wl_make (c := #[iN .i64 0, iN .i64 0, .string ({ data := #[] }), .slice none 0 0, .string ({ data := #[] })]) H0 25 ky ky ?_))
  intro q1 w2 (h3 : HA (bs w) [(q1, 25, #[iN .i64 0, iN .i64 0, .string ({ data := #[] }), .slice none 0 0, .string ({ data := #[] })])] w2)
  refine wl_nil (then_at rfl (wp_seq (wl_region (zv (.string s) ?_))))
  refine wl_callx ky enter49 _ ky (rNew_h h3 s) ?_
  rintro _ w6 ⟨b4, rfl, h5⟩
  refine ⟨_, rfl, ?_⟩
  have h7 := h5
  have hS8 : RR s (bl s) := ⟨rfl, hs⟩
  refine zv (.pointer (some ⟨b4, 0, none⟩)) (wl_nil (then_at rfl (wp_seq (wl_region (zv (.pointer (some ⟨b4, 0, none⟩)) ?_)))))
  obtain ⟨x9, o10, r11, i12⟩ : ∃ x o r, Rs.nxn 1 (bl s) = (x, o, r) := ⟨_, _, _, rfl⟩
  refine wl_callx ky enter51 _ ky (rfew_E hS8 h7 (by decide) (by decide) (Rs.nxn_lt (by decide) i12) i12) ?_
  rintro _ w16 ⟨rfl, s13, hS15, h14⟩
  refine ⟨_, rfl, ?_⟩
  have h17 := h14
  refine zv (.pointer (some ⟨b4, 0, none⟩)) ?_
  obtain ⟨x18, o19, r20, i21⟩ : ∃ x o r, Rs.nxn 4 r11 = (x, o, r) := ⟨_, _, _, rfl⟩
  refine wl_callx ky enter51 _ ky (rfew_E hS15 h17 (by decide) (by decide) (Rs.nxn_lt (by decide) i21) i21) ?_
  rintro _ w25 ⟨rfl, s22, hS24, h23⟩
  refine ⟨_, rfl, ?_⟩
  have h26 := h23
  refine zv (.pointer (some ⟨b4, 0, none⟩)) ?_
  obtain ⟨x27, o28, r29, i30⟩ : ∃ x o r, Rs.nxt 1000 r20 = (x, o, r) := ⟨_, _, _, rfl⟩
  refine wl_callx ky enter53 _ ky (rsom_E hS24 h26 (by decide) i30) ?_
  rintro _ w34 ⟨rfl, s31, hS33, h32⟩
  refine ⟨_, rfl, ?_⟩
  have h35 := h32
  refine zv (.agg #[iN .i64 x9, iN .i64 x18, .string x27, .slice none 0 0, .string ({ data := #[] })]) (wl_make (c := #[iN .i64 0, iN .i64 0, .string ({ data := #[] }), .slice none 0 0, .string ({ data := #[] })]) h35 25 ky ky ?_)
  intro q36 w37 (h38 : HA (bs w) [(q36, 25, #[iN .i64 0, iN .i64 0, .string ({ data := #[] }), .slice none 0 0, .string ({ data := #[] })]), (b4, 116, #[.string s31]), (q1, 25, #[iN .i64 0, iN .i64 0, .string ({ data := #[] }), .slice none 0 0, .string ({ data := #[] })])] w37)
  refine wl_fill (c' := #[iN .i64 x9, iN .i64 x18, .string x27, .slice none 0 0, .string ({ data := #[] })]) h38 0 rfl ky ky ky rfl ky ky (fun w39 h40 => (wl_nil (then_at rfl (wp_seq (wl_region (zv (.pointer (some ⟨b4, 0, none⟩)) ?_))))))
  obtain ⟨x41, o42, r43, i44⟩ : ∃ x o r, Rs.nxn 1 r29 = (x, o, r) := ⟨_, _, _, rfl⟩
  refine wl_callx ky enter51 #[.pointer (some ⟨b4, 0, none⟩), iN .i64 1] ky (rfew_E hS33 (HA.perm h40 (List.Perm.swap _ _ _)) (by decide) (by decide) (Rs.nxn_lt (by decide) i44) i44) ?_
  rintro _ w48 ⟨rfl, s45, hS47, h46⟩
  refine ⟨_, rfl, ?_⟩
  have h49 := h46
  refine zv (iN .i64 x41) (wl_nil (then_at rfl (wp_seq (wp_seq (wl_region (zv (iN .i64 0) (wl_nil (then_at rfl ?_))))))))
  obtain ⟨R50, hQ51⟩ : ∃ R1, dvr (min x41 10) r43 [] = R1 := ⟨_, rfl⟩
  refine wp_block ?_
  refine wp_while (fun mq AQ w' => ∃ (n i : Nat) (us : List UInt8) (acc : List Mb) (cs : ByteArray) (pp : Option Addr) (cp : Nat) (Lp : BL) (u52 : Nat → Value), mq = n + 1 ∧ AQ = ⟨(.string s :: un :: pt q1 :: pt b4 :: pt q36 :: iN .i64 x41 :: iN .i64 i :: u52 7 :: .string s :: pt b4 :: pt b4 :: iN .i64 x9 :: pt b4 :: iN .i64 x18 :: pt b4 :: .string x27 :: .agg #[iN .i64 x9, iN .i64 x18, .string x27, .slice none 0 0, .string ({ data := #[] })] :: pt b4 :: iN .i64 x41 :: u52 19 :: u52 20 :: u52 21 :: u52 22 :: u52 23 :: u52 24 :: u52 25 :: u52 26 :: u52 27 :: u52 28 :: u52 29 :: u52 30 :: u52 31 :: u52 32 :: u52 33 :: u52 34 :: u52 35 :: u52 36 :: u52 37 :: u52 38 :: u52 39 :: u52 40 :: u52 41 :: u52 42 :: List.replicate 4 un).toArray, []⟩ ∧ dvr n us acc = R50 ∧ i + n = min x41 10 ∧ acc.length + n ≤ 10 ∧ RR cs us ∧ Row 67 3 (.slice pp acc.length cp) acc.length (mcl acc) Lp ∧ HA (bs w) ([(b4, 116, #[.string cs]), (q36, 25, #[iN .i64 x9, iN .i64 x18, .string x27, .slice pp acc.length cp, .string { data := #[] }]), (q1, 25, #[iN .i64 0, iN .i64 0, .string ({ data := #[] }), .slice none 0 0, .string ({ data := #[] })])] ++ (Lp ++ [])) w') (min x41 10 + 1) ?_ ?_
  {exact ⟨min x41 10, 0, r43, [], s45, none, 0, [], exm rfl ky ⟨hQ51, Nat.zero_add _, (by simp only [List.length_nil]; omega), hS47, Row.nil 67 3, h49⟩⟩}
  rintro _ _ w53 ⟨n, i, us, acc, cs, pp, cp, Lp, u52, rfl, rfl, hR1, hin, hnl, hS, hRow, hL⟩
  have hL2 := hL
  rcases n with _ | n
  {rcases Nat.lt_or_ge i x41 with hc | hc
   {refine wp_seq (wp_seq (wl_region (zv (iN .i64 i) (zv (iN .i64 x41) (zu (.bool true) (run_lss (k := .i64) (a := i) (b := x41) ky ky true (decide_eq_true (by omega))) (zv (.bool true) (zv (iN .i64 i) (zu (.bool false) (run_lss (k := .i64) (a := i) (b := 10) ky ky false (decide_eq_false (by omega))) (zv (.bool false) (wl_nil (then_at rfl (wp_cond_false ky ?_))))))))))))
    refine wp_exit ?_
    repeat first | refine then_exit ?_ | refine block_exit ?_ | refine block_exit_ne (by decide) ?_
    have hR2 : R50 = (acc, us) := hR1.symm.trans (dvr_z _ _)
    rw [hR2] at hQ51
    refine then_at rfl (wp_seq (wl_region ?_))
    refine zv (.pointer (some ⟨b4, 0, none⟩)) ?_
    obtain ⟨x54, o55, r56, i57⟩ : ∃ x o r, Rs.nxt 1000 us = (x, o, r) := ⟨_, _, _, rfl⟩
    refine wl_callx ky enter53 _ ky (rsom_E hS hL2 (by decide) i57) ?_
    rintro _ w61 ⟨rfl, s58, hS60, h59⟩
    refine ⟨_, rfl, ?_⟩
    have h62 := h59
    refine zv (.pointer (some ⟨q36, 4, none⟩)) (wl_putv (v := .string x54) h62 1 rfl 4 (by show 4 < 5; decide) ky (fun w => Try.sizeOf9 w) ky ky ky (fun w63 h64 => (wl_nil (then_at rfl (wp_seq (wl_region (wl_load h64 1 rfl ky ky Try.underlying25 rfl ky (wl_fill (c' := #[iN .i64 x9, iN .i64 x18, .string x27, .slice pp acc.length cp, .string x54]) h64 2 rfl ky ky ky rfl ky ky (fun w65 h66 => (wl_nil (then_at rfl (wp_ret ?_))))))))))))
    repeat first|refine tr ?_|refine block_ret ?_
    have hrd : lisRr s = (⟨((x9 : Nat) : Int), ((x18 : Nat) : Int), x27, acc, x54⟩ : Li) := by unfold lisRr rdLr; simp only [i12, i21, i30, i44, hQ51, i57]
    exact bodyPost_ret (v := .agg (#[iN .i64 x9, iN .i64 x18, .string x27, .slice pp acc.length cp, .string x54])) (res_cell (p := 2) ky ky (h66.get 2 rfl) Try.underlying25 rfl ky) rfl ⟨.slice pp acc.length cp, Lp, by rw [hrd]; rfl, by rw [hrd]; exact hRow, h66.sub (List.Sublist.cons _ (List.Sublist.cons _ (List.Sublist.cons _ (List.sublist_append_left _ _))))⟩}
   refine wp_seq (wp_seq (wl_region (zv (iN .i64 i) (zv (iN .i64 x41) (zu (.bool false) (run_lss (k := .i64) (a := i) (b := x41) ky ky false (decide_eq_false (by omega))) (zv (.bool false) (zk (zk (zv (.bool false) (wl_nil (then_at rfl (wp_cond_false ky ?_))))))))))))
   refine wp_exit ?_
   repeat first | refine then_exit ?_ | refine block_exit ?_ | refine block_exit_ne (by decide) ?_
   have hR2 : R50 = (acc, us) := hR1.symm.trans (dvr_z _ _)
   rw [hR2] at hQ51
   refine then_at rfl (wp_seq (wl_region ?_))
   refine zv (.pointer (some ⟨b4, 0, none⟩)) ?_
   obtain ⟨x67, o68, r69, i70⟩ : ∃ x o r, Rs.nxt 1000 us = (x, o, r) := ⟨_, _, _, rfl⟩
   refine wl_callx ky enter53 _ ky (rsom_E hS hL2 (by decide) i70) ?_
   rintro _ w74 ⟨rfl, s71, hS73, h72⟩
   refine ⟨_, rfl, ?_⟩
   have h75 := h72
   refine zv (.pointer (some ⟨q36, 4, none⟩)) (wl_putv (v := .string x67) h75 1 rfl 4 (by show 4 < 5; decide) ky (fun w => Try.sizeOf9 w) ky ky ky (fun w76 h77 => (wl_nil (then_at rfl (wp_seq (wl_region (wl_load h77 1 rfl ky ky Try.underlying25 rfl ky (wl_fill (c' := #[iN .i64 x9, iN .i64 x18, .string x27, .slice pp acc.length cp, .string x67]) h77 2 rfl ky ky ky rfl ky ky (fun w78 h79 => (wl_nil (then_at rfl (wp_ret ?_))))))))))))
   repeat first|refine tr ?_|refine block_ret ?_
   have hrd : lisRr s = (⟨((x9 : Nat) : Int), ((x18 : Nat) : Int), x27, acc, x67⟩ : Li) := by unfold lisRr rdLr; simp only [i12, i21, i30, i44, hQ51, i70]
   exact bodyPost_ret (v := .agg (#[iN .i64 x9, iN .i64 x18, .string x27, .slice pp acc.length cp, .string x67])) (res_cell (p := 2) ky ky (h79.get 2 rfl) Try.underlying25 rfl ky) rfl ⟨.slice pp acc.length cp, Lp, by rw [hrd]; rfl, by rw [hrd]; exact hRow, h79.sub (List.Sublist.cons _ (List.Sublist.cons _ (List.Sublist.cons _ (List.sublist_append_left _ _))))⟩}
  refine wp_seq (wp_seq (wl_region (zv (iN .i64 i) (zv (iN .i64 x41) (zu (.bool true) (run_lss (k := .i64) (a := i) (b := x41) ky ky true (decide_eq_true (by omega))) (zv (.bool true) (zv (iN .i64 i) (zu (.bool true) (run_lss (k := .i64) (a := i) (b := 10) ky ky true (decide_eq_true (by omega))) (zv (.bool true) (wl_nil (then_at rfl (wp_cond_true ky (wp_skip (then_at rfl (wp_seq (wp_block (wp_seq (wl_region (zv (.pointer (some ⟨b4, 0, none⟩)) ?_)))))))))))))))))))
  refine wl_callx ky enter51 #[.pointer (some ⟨b4, 0, none⟩), iN .i64 1] ky (rfew_E hS hL2 (by decide) (by decide) (Rs.nxn_lt (by decide) rfl) rfl) ?_
  rintro _ w83 ⟨rfl, s80, hS82, h81⟩
  refine ⟨_, rfl, ?_⟩
  have h84 := h81
  refine zv (.agg #[iN .i64 ((Rs.nxn 1 us).1), .string ({ data := #[] }), .string ({ data := #[] })]) (wl_make (c := #[iN .i64 0, .string ({ data := #[] }), .string ({ data := #[] })]) h84 67 ky ky ?_)
  intro q85 w86 (h87 : HA (bs w) ((q85, 67, #[iN .i64 0, .string ({ data := #[] }), .string ({ data := #[] })]) :: (b4, 116, #[.string s80]) :: (q36, 25, #[iN .i64 x9, iN .i64 x18, .string x27, .slice pp acc.length cp, .string { data := #[] }]) :: (q1, 25, #[iN .i64 0, iN .i64 0, .string ({ data := #[] }), .slice none 0 0, .string ({ data := #[] })]) :: (Lp ++ [])) w86)
  refine wl_fill (c' := #[iN .i64 ((Rs.nxn 1 us).1), .string ({ data := #[] }), .string ({ data := #[] })]) h87 0 rfl ky ky ky rfl ky ky (fun w88 h89 => (wl_nil (then_at rfl (wp_seq (wl_region (zv (.pointer (some ⟨b4, 0, none⟩)) ?_))))))
  refine wl_callx ky enter53 #[.pointer (some ⟨b4, 0, none⟩), iN .i64 1000] ky (rsom_E hS82 (HA.perm h89 (List.Perm.swap _ _ _)) (by decide) rfl) ?_
  rintro _ w93 ⟨rfl, s90, hS92, h91⟩
  refine ⟨_, rfl, ?_⟩
  have h94 := h91
  refine zv (.pointer (some ⟨q85, 1, none⟩)) (wl_putv (v := .string ((Rs.nxt 1000 (Rs.nxn 1 us).2.2).1)) h94 1 rfl 1 (by show 1 < 3; decide) ky (fun w => Try.sizeOf9 w) ky ky ky (fun w95 h96 => (wl_nil (then_at rfl (wp_seq (wl_region (zv (.pointer (some ⟨b4, 0, none⟩)) ?_)))))))
  refine wl_callx ky enter53 #[.pointer (some ⟨b4, 0, none⟩), iN .i64 1000] ky (rsom_E hS92 h96 (by decide) rfl) ?_
  rintro _ w100 ⟨rfl, s97, hS99, h98⟩
  refine ⟨_, rfl, ?_⟩
  have h101 := h98
  refine zv (.pointer (some ⟨q85, 2, none⟩)) (wl_putv (v := .string ((Rs.nxt 1000 (Rs.nxt 1000 (Rs.nxn 1 us).2.2).2.2).1)) h101 1 rfl 2 (by show 2 < 3; decide) ky (fun w => Try.sizeOf9 w) ky ky ky (fun w102 h103 => (wl_nil (then_at rfl (wl_region (zv (.pointer (some ⟨q36, 3, none⟩)) (zu (.slice pp acc.length cp) (run_load1 (fun w => Try.isAgg23 w) ky (((h103.get 2 rfl).cell 3).trans rfl)) (wl_load h103 1 rfl ky ky Try.underlying67 rfl ky (wl_mks (n := 1) (m := 1) (c := #[iN .i64 ((Rs.nxn 1 us).1), .string ((Rs.nxt 1000 (Rs.nxn 1 us).2.2).1), .string ((Rs.nxt 1000 (Rs.nxt 1000 (Rs.nxn 1 us).2.2).2.2).1)]) h103 67 ky ky ?_)))))))))
  intro q104 w105 (h106 : HA (bs w) ((q104, 67, #[iN .i64 ((Rs.nxn 1 us).1), .string ((Rs.nxt 1000 (Rs.nxn 1 us).2.2).1), .string ((Rs.nxt 1000 (Rs.nxt 1000 (Rs.nxn 1 us).2.2).2.2).1)]) :: (b4, 116, #[.string s97]) :: (q85, 67, #[iN .i64 ((Rs.nxn 1 us).1), .string ((Rs.nxt 1000 (Rs.nxn 1 us).2.2).1), .string ((Rs.nxt 1000 (Rs.nxt 1000 (Rs.nxn 1 us).2.2).2.2).1)]) :: (q36, 25, #[iN .i64 x9, iN .i64 x18, .string x27, .slice pp acc.length cp, .string { data := #[] }]) :: (q1, 25, #[iN .i64 0, iN .i64 0, .string ({ data := #[] }), .slice none 0 0, .string ({ data := #[] })]) :: (Lp ++ [])) w105)
  obtain ⟨va107, wa112, La108, hrun111, hRa109, ha110⟩ := row_more (t := 23) hRow ((show HA (bs w) (((q104, 67, #[iN .i64 ((Rs.nxn 1 us).1), .string ((Rs.nxt 1000 (Rs.nxn 1 us).2.2).1), .string ((Rs.nxt 1000 (Rs.nxt 1000 (Rs.nxn 1 us).2.2).2.2).1)]) :: [(b4, 116, #[.string s97]), (q85, 67, #[iN .i64 ((Rs.nxn 1 us).1), .string ((Rs.nxt 1000 (Rs.nxn 1 us).2.2).1), .string ((Rs.nxt 1000 (Rs.nxt 1000 (Rs.nxn 1 us).2.2).2.2).1)]), (q36, 25, #[iN .i64 x9, iN .i64 x18, .string x27, .slice pp acc.length cp, .string { data := #[] }]), (q1, 25, #[iN .i64 0, iN .i64 0, .string ({ data := #[] }), .slice none 0 0, .string ({ data := #[] })])]) ++ (Lp ++ [])) w105 from h106).perm (List.Perm.cons _ (perm_mv [(b4, 116, #[.string s97]), (q85, 67, #[iN .i64 ((Rs.nxn 1 us).1), .string ((Rs.nxt 1000 (Rs.nxn 1 us).2.2).1), .string ((Rs.nxt 1000 (Rs.nxt 1000 (Rs.nxn 1 us).2.2).2.2).1)]), (q36, 25, #[iN .i64 x9, iN .i64 x18, .string x27, .slice pp acc.length cp, .string { data := #[] }]), (q1, 25, #[iN .i64 0, iN .i64 0, .string ({ data := #[] }), .slice none 0 0, .string ({ data := #[] })])] Lp []))) (by decide) (.agg #[iN .i64 0, .string { data := #[] }, .string { data := #[] }]) 40 23 Try.underlying23 info67z rfl (by decide) rfl ky (by unfold maxLen; omega) (by omega)
  obtain ⟨pn113, cn114, hvnpn113⟩ := hRa109.form
  subst hvnpn113
  have h115 := ha110.perm (perm_mv [(b4, 116, #[.string s97]), (q85, 67, #[iN .i64 ((Rs.nxn 1 us).1), .string ((Rs.nxt 1000 (Rs.nxn 1 us).2.2).1), .string ((Rs.nxt 1000 (Rs.nxt 1000 (Rs.nxn 1 us).2.2).2.2).1)]), (q36, 25, #[iN .i64 x9, iN .i64 x18, .string x27, .slice pp acc.length cp, .string { data := #[] }]), (q1, 25, #[iN .i64 0, iN .i64 0, .string ({ data := #[] }), .slice none 0 0, .string ({ data := #[] })])] La108 []).symm
  refine wl_any (v := .slice pn113 (acc.length + 1) cn114) ky (run_app_ops ky ky hrun111) ?_
  refine zv (.pointer (some ⟨q36, 3, none⟩)) (wl_putv (v := .slice pn113 (acc.length + 1) cn114) h115 2 rfl 3 (by show 3 < 5; decide) ky (fun w => Try.sizeOf23 w) ky ky ky (fun w116 h117 => (wl_nil (block_normal (then_at rfl (wl_region (zv (iN .i64 i) (zu (iN .i64 (i + 1)) (run_add (k := .i64) (a := i) (b := 1) ky ky (by first | omega | (simp only [top]; omega))) (zv (iN .i64 (i + 1)) (wl_nil ?_))))))))))
  have h118 := h117.sub (List.Sublist.cons_cons _ (List.Sublist.cons _ (List.Sublist.cons_cons _ (List.Sublist.cons_cons _ (List.Sublist.refl _)))))
  exact then_I ⟨n + 1, (by omega), n, i + 1, (Rs.nxt 1000 (Rs.nxt 1000 (Rs.nxn 1 us).2.2).2.2).2.2, acc ++ [⟨(((Rs.nxn 1 us).1 : Nat) : Int), (Rs.nxt 1000 (Rs.nxn 1 us).2.2).1, (Rs.nxt 1000 (Rs.nxt 1000 (Rs.nxn 1 us).2.2).2.2).1⟩], s97, pn113, cn114, La108, exm rfl ky ⟨by rw [← hR1, dvr_s], by omega, by rw [List.length_append, List.length_singleton]; omega, hS99, by rw [mcl_snoc, List.length_append, List.length_singleton]; exact hRa109, by rw [List.length_append, List.length_singleton]; exact h118⟩⟩
end Go.Proofs.Ytiogegoepgkjlaa
