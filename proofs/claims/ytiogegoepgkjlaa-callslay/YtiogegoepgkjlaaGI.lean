/-
  The reference's reader, few, some, unlist.
-/
import Derived.Test.YtiogegoepgkjlaaJ3
set_option maxRecDepth 100000
set_option linter.unusedVariables false
set_option linter.unusedSimpArgs false
namespace Go.Proofs.Ytiogegoepgkjlaa
open Go.RowKit

/-- what a reader of the reference has still to read -/
def RR (s : ByteArray) (us : List UInt8) : Prop := bl s = us ∧ s.size ≤ 140737488351232
theorem rN_F {z : Base} {L : BL} {w : World} {b : Nat} {s : ByteArray} {us : List UInt8} (hS : RR s us) (H : HA z ((b, 116, #[.string s]) :: L) w) {m : Nat} (h1 : 1 ≤ m) (h8 : m ≤ 8) {x : Nat} {o : Bool} {r : List UInt8} (h : Rs.nxn m us = (x, o, r)) :
    Calls Try.prog 50 #[pt b, iN .i64 m] w fun e w' => e = .returned (.tuple #[iN .u64 x, .bool o]) ∧ ∃ s', RR s' r ∧ HA z ((b, 116, #[.string s']) :: L) w' := by
  obtain ⟨rfl, hs⟩ := hS
  refine (Rs.rN_E H h1 h8 h).mono ?_
  rintro e w' ⟨he, s', h2, h3, h4⟩
  exact ⟨he, s', ⟨h2, Nat.le_trans h3 hs⟩, h4⟩
theorem rT_F {z : Base} {L : BL} {w : World} {b : Nat} {s : ByteArray} {us : List UInt8} (hS : RR s us) (H : HA z ((b, 116, #[.string s]) :: L) w) {m : Nat} (hm : m ≤ 16384) {x : ByteArray} {o : Bool} {r : List UInt8} (h : Rs.nxt m us = (x, o, r)) :
    Calls Try.prog 91 #[pt b, iN .i64 m] w fun e w' => e = .returned (.tuple #[.string x, .bool o]) ∧ ∃ s', RR s' r ∧ HA z ((b, 116, #[.string s']) :: L) w' := by
  obtain ⟨rfl, hs⟩ := hS
  unfold Rs.nxt at h
  split at h
  · next hc =>
    obtain ⟨rfl, g⟩ := Prod.mk.inj h
    obtain ⟨rfl, rfl⟩ := Prod.mk.inj g
    rw [bl_len] at hc
    refine (Wi.rText_yes w b m s ((H.get 0 rfl).cell 0) ((H.get 0 rfl).free 0 Nat.zero_lt_one) hs hc.1 hc.2.1 hc.2.2 (by omega)).mono ?_
    rintro e w' ⟨rfl, rfl⟩
    refine ⟨?_, s.extract (4 + Wi.val (s.data.toList.take 4)) s.size, ⟨Wi.ext_drop s _, ?_⟩, H.put 0 rfl 0 (.string (s.extract (4 + Wi.val (s.data.toList.take 4)) s.size))⟩
    · refine congrArg (fun q => Ending.returned (.tuple #[.string q, .bool true])) ?_
      apply ByteArray.ext
      apply Array.ext'
      rw [Wi.ext_mid]
      rfl
    · rw [ByteArray.size_extract]; omega
  · next hc =>
    obtain ⟨rfl, g⟩ := Prod.mk.inj h
    obtain ⟨rfl, rfl⟩ := Prod.mk.inj g
    rw [bl_len] at hc
    refine (Wi.rText_no w b m s ((H.get 0 rfl).cell 0) hs (by omega) (by omega) (show _ ∨ _ ∨ (m : Int) < Wi.val ((bl s).take 4) ∨ s.size < 4 + Wi.val ((bl s).take 4) by omega)).mono ?_
    rintro e w' ⟨rfl, rfl⟩
    exact ⟨rfl, s, ⟨rfl, hs⟩, H⟩
set_option maxHeartbeats 2000000 in
theorem rfew_E {z : Base} {L : BL} {w : World} {b : Nat} {s : ByteArray} {us : List UInt8} (hS : RR s us) (H0 : HA z ((b, 116, #[.string s]) :: L) w) {m : Nat} {x : Nat} {ob : Bool} {r : List UInt8} (hm1 : 1 ≤ m) (hm8 : m ≤ 4) (hxl : x < 4294967296) (hx : Rs.nxn m us = (x, ob, r)) :
    Calls Try.prog 51 #[pt b, iN .i64 m] w fun e w' => e = .returned (iN .i64 x) ∧ ∃ s', RR s' r ∧ HA z ((b, 116, #[.string s']) :: L) w' := by
  go_enter Try.func51, Try.ntmps51
  refine wp_seq (wl_region (zv (iN .i64 0) (wl_nil (then_at rfl (wp_seq (wl_region (zv (.pointer (some ⟨b, 0, none⟩)) (zv (iN .i64 m) ?_))))))))
  refine wl_callx ky enter50 _ ky (rN_F hS H0 hm1 (by omega) hx) ?_
  rintro _ w4 ⟨rfl, s1, hS3, h2⟩
  refine ⟨_, rfl, ?_⟩
  have h5 := h2
  refine zv (.tuple #[iN .u64 x, .bool ob]) (zv (iN .u64 x) (zv (.bool ob) (zv (iN .u64 x) (zv (.bool ob) (wl_nil (then_at rfl (wp_seq (wl_region (zv (iN .u64 x) (zu (iN .i64 x) (run_conv .i64 Try.underlying22 Try.underlying3 ky (by simp only [top]; omega)) (zv (iN .i64 x) (wl_nil (then_at rfl (wp_ret ?_))))))))))))))
  repeat first|refine tr ?_|refine block_ret ?_
  exact bodyPost_ret (v := iN .i64 x) ky rfl ⟨rfl, _, hS3, h5⟩
set_option maxHeartbeats 2000000 in
theorem rsom_E {z : Base} {L : BL} {w : World} {b : Nat} {s : ByteArray} {us : List UInt8} (hS : RR s us) (H0 : HA z ((b, 116, #[.string s]) :: L) w) {m : Nat} {x : ByteArray} {ob : Bool} {r : List UInt8} (hm8 : m ≤ 16384) (hx : Rs.nxt m us = (x, ob, r)) :
    Calls Try.prog 53 #[pt b, iN .i64 m] w fun e w' => e = .returned (.string x) ∧ ∃ s', RR s' r ∧ HA z ((b, 116, #[.string s']) :: L) w' := by
  go_enter Try.func53, Try.ntmps53
  refine wp_seq (wl_region (zv (.string ({ data := #[] })) (wl_nil (then_at rfl (wp_seq (wl_region (zv (.pointer (some ⟨b, 0, none⟩)) (zv (iN .i64 m) ?_))))))))
  refine wl_callx ky enter91 _ ky (rT_F hS H0 hm8 hx) ?_
  rintro _ w4 ⟨rfl, s1, hS3, h2⟩
  refine ⟨_, rfl, ?_⟩
  have h5 := h2
  refine zv (.tuple #[.string x, .bool ob]) (zv (.string x) (zv (.bool ob) (zv (.string x) (zv (.bool ob) (wl_nil (then_at rfl (wp_seq (wl_region (zv (.string x) (zv (.string x) (wl_nil (then_at rfl (wp_ret ?_)))))))))))))
  repeat first|refine tr ?_|refine block_ret ?_
  exact bodyPost_ret (v := .string x) ky rfl ⟨rfl, _, hS3, h5⟩
/-- what is read of devices -/
def dvr : Nat → List UInt8 → List Mb → List Mb × List UInt8
  | 0, us, ds => (ds, us)
  | n + 1, us, ds => dvr n (Rs.nxt 1000 (Rs.nxt 1000 (Rs.nxn 1 us).2.2).2.2).2.2 (ds ++ [⟨(((Rs.nxn 1 us).1 : Nat) : Int), (Rs.nxt 1000 (Rs.nxn 1 us).2.2).1, (Rs.nxt 1000 (Rs.nxt 1000 (Rs.nxn 1 us).2.2).2.2).1⟩])
theorem dvr_z (us : List UInt8) (ds : List Mb) : dvr 0 us ds = (ds, us) := rfl
theorem dvr_s (n : Nat) (us : List UInt8) (ds : List Mb) : dvr (n + 1) us ds = dvr n (Rs.nxt 1000 (Rs.nxt 1000 (Rs.nxn 1 us).2.2).2.2).2.2 (ds ++ [⟨(((Rs.nxn 1 us).1 : Nat) : Int), (Rs.nxt 1000 (Rs.nxn 1 us).2.2).1, (Rs.nxt 1000 (Rs.nxt 1000 (Rs.nxn 1 us).2.2).2.2).1⟩]) := rfl
/-- what a list's bytes may be -/
def rdLr (bs : List UInt8) : Li := ⟨((Rs.nxn 1 bs).1 : Nat), ((Rs.nxn 4 (Rs.nxn 1 bs).2.2).1 : Nat), (Rs.nxt 1000 (Rs.nxn 4 (Rs.nxn 1 bs).2.2).2.2).1, (dvr (min (Rs.nxn 1 (Rs.nxt 1000 (Rs.nxn 4 (Rs.nxn 1 bs).2.2).2.2).2.2).1 10) (Rs.nxn 1 (Rs.nxt 1000 (Rs.nxn 4 (Rs.nxn 1 bs).2.2).2.2).2.2).2.2 []).1, (Rs.nxt 1000 (dvr (min (Rs.nxn 1 (Rs.nxt 1000 (Rs.nxn 4 (Rs.nxn 1 bs).2.2).2.2).2.2).1 10) (Rs.nxn 1 (Rs.nxt 1000 (Rs.nxn 4 (Rs.nxn 1 bs).2.2).2.2).2.2).2.2 []).2).1⟩
def lisRr (s : ByteArray) : Li := rdLr (bl s)
set_option maxHeartbeats 4000000 in
theorem rlo_any {w : World} (s : ByteArray) (hs : s.size ≤ 140737488351232) :
    Calls Try.prog 52 #[.string s] w fun e w' => ∃ sv Lr, e = .returned (.agg (liC (lisRr s) sv)) ∧ Row 67 3 sv (lisRr s).ds.length (mcl (lisRr s).ds) Lr ∧ HA (bs w) Lr w' := by
  have H0 := HA.start w
  go_enter Try.func52, Try.ntmps52
  refine wp_seq (wl_region (wl_make (c := #[iN .i64 0, iN .i64 0, .string ({ data := #[] }), .slice none 0 0, .string ({ data := #[] })]) H0 25 ky ky ?_))
  intro q1 w2 (h3 : HA (bs w) [(q1, 25, #[iN .i64 0, iN .i64 0, .string ({ data := #[] }), .slice none 0 0, .string ({ data := #[] })])] w2)
  refine wl_nil (then_at rfl (wp_seq (wl_region (zv (.string s) ?_))))
  refine wl_callx ky enter49 _ ky (rNew_h h3 s) ?_
  rintro _ w6 ⟨b4, rfl, h5⟩
  refine ⟨_, rfl, ?_⟩
  have h7 := h5
  have hS8 : RR s (bl s) := ⟨rfl, hs⟩
  refine zv (.pointer (some ⟨b4, 0, none⟩)) (wl_nil (then_at rfl (wp_seq (wl_region (zv (.pointer (some ⟨b4, 0, none⟩)) ?_)))))
  obtain ⟨x9, o10, r11, i12⟩ : ∃ x o r, Rs.nxn 1 (bl s) = (x, o, r) := ⟨_, _, _, rfl⟩
  refine wl_callx ky enter51 _ ky (rfew_E hS8 h7 (by decide) (by decide) (Rs.nxn_lt (by decide) i12) i12) ?_
  rintro _ w16 ⟨rfl, s13, hS15, h14⟩
  refine ⟨_, rfl, ?_⟩
  have h17 := h14
  refine zv (.pointer (some ⟨b4, 0, none⟩)) ?_
  obtain ⟨x18, o19, r20, i21⟩ : ∃ x o r, Rs.nxn 4 r11 = (x, o, r) := ⟨_, _, _, rfl⟩
  refine wl_callx ky enter51 _ ky (rfew_E hS15 h17 (by decide) (by decide) (Rs.nxn_lt (by decide) i21) i21) ?_
  rintro _ w25 ⟨rfl, s22, hS24, h23⟩
  refine ⟨_, rfl, ?_⟩
  have h26 := h23
  refine zv (.pointer (some ⟨b4, 0, none⟩)) ?_
  obtain ⟨x27, o28, r29, i30⟩ : ∃ x o r, Rs.nxt 1000 r20 = (x, o, r) := ⟨_, _, _, rfl⟩
  refine wl_callx ky enter53 _ ky (rsom_E hS24 h26 (by decide) i30) ?_
  rintro _ w34 ⟨rfl, s31, hS33, h32⟩
  refine ⟨_, rfl, ?_⟩
  have h35 := h32
  refine zv (.agg #[iN .i64 x9, iN .i64 x18, .string x27, .slice none 0 0, .string ({ data := #[] })]) (wl_make (c := #[iN .i64 0, iN .i64 0, .string ({ data := #[] }), .slice none 0 0, .string ({ data := #[] })]) h35 25 ky ky ?_)
  intro q36 w37 (h38 : HA (bs w) [(q36, 25, #[iN .i64 0, iN .i64 0, .string ({ data := #[] }), .slice none 0 0, .string ({ data := #[] })]), (b4, 116, #[.string s31]), (q1, 25, #[iN .i64 0, iN .i64 0, .string ({ data := #[] }), .slice none 0 0, .string ({ data := #[] })])] w37)
  refine wl_fill (c' := #[iN .i64 x9, iN .i64 x18, .string x27, .slice none 0 0, .string ({ data := #[] })]) h38 0 rfl ky ky ky rfl ky ky (fun w39 h40 => (wl_nil (then_at rfl (wp_seq (wl_region (zv (.pointer (some ⟨b4, 0, none⟩)) ?_))))))
  obtain ⟨x41, o42, r43, i44⟩ : ∃ x o r, Rs.nxn 1 r29 = (x, o, r) := ⟨_, _, _, rfl⟩
  refine wl_callx ky enter51 #[.pointer (some ⟨b4, 0, none⟩), iN .i64 1] ky (rfew_E hS33 (HA.perm h40 (List.Perm.swap _ _ _)) (by decide) (by decide) (Rs.nxn_lt (by decide) i44) i44) ?_
  rintro _ w48 ⟨rfl, s45, hS47, h46⟩
  refine ⟨_, rfl, ?_⟩
  have h49 := h46
  refine zv (iN .i64 x41) (wl_nil (then_at rfl (wp_seq (wp_seq (wl_region (zv (iN .i64 0) (wl_nil (then_at rfl ?_))))))))
  obtain ⟨R50, hQ51⟩ : ∃ R1, dvr (min x41 10) r43 [] = R1 := ⟨_, rfl⟩
  refine wp_block ?_
  refine wp_while (fun mq AQ w' => ∃ (n i : Nat) (us : List UInt8) (acc : List Mb) (cs : ByteArray) (pp : Option Addr) (cp : Nat) (Lp : BL) (u52 : Nat → Value), mq = n + 1 ∧ AQ = ⟨(.string s :: un :: pt q1 :: pt b4 :: pt q36 :: iN .i64 x41 :: iN .i64 i :: u52 7 :: .string s :: pt b4 :: pt b4 :: iN .i64 x9 :: pt b4 :: iN .i64 x18 :: pt b4 :: .string x27 :: .agg #[iN .i64 x9, iN .i64 x18, .string x27, .slice none 0 0, .string ({ data := #[] })] :: pt b4 :: iN .i64 x41 :: u52 19 :: u52 20 :: u52 21 :: u52 22 :: u52 23 :: u52 24 :: u52 25 :: u52 26 :: u52 27 :: u52 28 :: u52 29 :: u52 30 :: u52 31 :: u52 32 :: u52 33 :: u52 34 :: u52 35 :: u52 36 :: u52 37 :: u52 38 :: u52 39 :: u52 40 :: u52 41 :: u52 42 :: List.replicate 4 un).toArray, []⟩ ∧ dvr n us acc = R50 ∧ i + n = min x41 10 ∧ acc.length + n ≤ 10 ∧ RR cs us ∧ Row 67 3 (.slice pp acc.length cp) acc.length (mcl acc) Lp ∧ HA (bs w) ([(b4, 116, #[.string cs]), (q36, 25, #[iN .i64 x9, iN .i64 x18, .string x27, .slice pp acc.length cp, .string { data := #[] }]), (q1, 25, #[iN .i64 0, iN .i64 0, .string ({ data := #[] }), .slice none 0 0, .string ({ data := #[] })])] ++ (Lp ++ [])) w') (min x41 10 + 1) ?_ ?_
  {exact ⟨min x41 10, 0, r43, [], s45, none, 0, [], exm rfl ky ⟨hQ51, Nat.zero_add _, (by simp only [List.length_nil]; omega), hS47, Row.nil 67 3, h49⟩⟩}
  rintro _ _ w53 ⟨n, i, us, acc, cs, pp, cp, Lp, u52, rfl, rfl, hR1, hin, hnl, hS, hRow, hL⟩
  have hL2 := hL
  rcases n with _ | n
  {rcases Nat.lt_or_ge i x41 with hc | hc
   {refine wp_seq (wp_seq (wl_region (zv (iN .i64 i) (zv (iN .i64 x41) (zu (.bool true) (run_lss (k := .i64) (a := i) (b := x41) ky ky true (decide_eq_true (by omega))) (zv (.bool true) (zv (iN .i64 i) (zu (.bool false) (run_lss (k := .i64) (a := i) (b := 10) ky ky false (decide_eq_false (by omega))) (zv (.bool false) (wl_nil (then_at rfl (wp_cond_false ky ?_))))))))))))
    refine wp_exit ?_
    repeat first | refine then_exit ?_ | refine block_exit ?_ | refine block_exit_ne (by decide) ?_
    have hR2 : R50 = (acc, us) := hR1.symm.trans (dvr_z _ _)
    rw [hR2] at hQ51
    refine then_at rfl (wp_seq (wl_region ?_))
    refine zv (.pointer (some ⟨b4, 0, none⟩)) ?_
    obtain ⟨x54, o55, r56, i57⟩ : ∃ x o r, Rs.nxt 1000 us = (x, o, r) := ⟨_, _, _, rfl⟩
    refine wl_callx ky enter53 _ ky (rsom_E hS hL2 (by decide) i57) ?_
    rintro _ w61 ⟨rfl, s58, hS60, h59⟩
    refine ⟨_, rfl, ?_⟩
    have h62 := h59
    refine zv (.pointer (some ⟨q36, 4, none⟩)) (wl_putv (v := .string x54) h62 1 rfl 4 (by show 4 < 5; decide) ky (fun w => Try.sizeOf9 w) ky ky ky (fun w63 h64 => (wl_nil (then_at rfl (wp_seq (wl_region (wl_load h64 1 rfl ky ky Try.underlying25 rfl ky (wl_fill (c' := #[iN .i64 x9, iN .i64 x18, .string x27, .slice pp acc.length cp, .string x54]) h64 2 rfl ky ky ky rfl ky ky (fun w65 h66 => (wl_nil (then_at rfl (wp_ret ?_))))))))))))
    repeat first|refine tr ?_|refine block_ret ?_
    have hrd : lisRr s = (⟨((x9 : Nat) : Int), ((x18 : Nat) : Int), x27, acc, x54⟩ : Li) := by unfold lisRr rdLr; simp only [i12, i21, i30, i44, hQ51, i57]
    exact bodyPost_ret (v := .agg (#[iN .i64 x9, iN .i64 x18, .string x27, .slice pp acc.length cp, .string x54])) (res_cell (p := 2) ky ky (h66.get 2 rfl) Try.underlying25 rfl ky) rfl ⟨.slice pp acc.length cp, Lp, by rw [hrd]; rfl, by rw [hrd]; exact hRow, h66.sub (List.Sublist.cons _ (List.Sublist.cons _ (List.Sublist.cons _ (List.sublist_append_left _ _))))⟩}
   refine wp_seq (wp_seq (wl_region (zv (iN .i64 i) (zv (iN .i64 x41) (zu (.bool false) (run_lss (k := .i64) (a := i) (b := x41) ky ky false (decide_eq_false (by omega))) (zv (.bool false) (zk (zk (zv (.bool false) (wl_nil (then_at rfl (wp_cond_false ky ?_))))))))))))
   refine wp_exit ?_
   repeat first | refine then_exit ?_ | refine block_exit ?_ | refine block_exit_ne (by decide) ?_
   have hR2 : R50 = (acc, us) := hR1.symm.trans (dvr_z _ _)
   rw [hR2] at hQ51
   refine then_at rfl (wp_seq (wl_region ?_))
   refine zv (.pointer (some ⟨b4, 0, none⟩)) ?_
   obtain ⟨x67, o68, r69, i70⟩ : ∃ x o r, Rs.nxt 1000 us = (x, o, r) := ⟨_, _, _, rfl⟩
   refine wl_callx ky enter53 _ ky (rsom_E hS hL2 (by decide) i70) ?_
   rintro _ w74 ⟨rfl, s71, hS73, h72⟩
   refine ⟨_, rfl, ?_⟩
   have h75 := h72
   refine zv (.pointer (some ⟨q36, 4, none⟩)) (wl_putv (v := .string x67) h75 1 rfl 4 (by show 4 < 5; decide) ky (fun w => Try.sizeOf9 w) ky ky ky (fun w76 h77 => (wl_nil (then_at rfl (wp_seq (wl_region (wl_load h77 1 rfl ky ky Try.underlying25 rfl ky (wl_fill (c' := #[iN .i64 x9, iN .i64 x18, .string x27, .slice pp acc.length cp, .string x67]) h77 2 rfl ky ky ky rfl ky ky (fun w78 h79 => (wl_nil (then_at rfl (wp_ret ?_))))))))))))
   repeat first|refine tr ?_|refine block_ret ?_
   have hrd : lisRr s = (⟨((x9 : Nat) : Int), ((x18 : Nat) : Int), x27, acc, x67⟩ : Li) := by unfold lisRr rdLr; simp only [i12, i21, i30, i44, hQ51, i70]
   exact bodyPost_ret (v := .agg (#[iN .i64 x9, iN .i64 x18, .string x27, .slice pp acc.length cp, .string x67])) (res_cell (p := 2) ky ky (h79.get 2 rfl) Try.underlying25 rfl ky) rfl ⟨.slice pp acc.length cp, Lp, by rw [hrd]; rfl, by rw [hrd]; exact hRow, h79.sub (List.Sublist.cons _ (List.Sublist.cons _ (List.Sublist.cons _ (List.sublist_append_left _ _))))⟩}
  refine wp_seq (wp_seq (wl_region (zv (iN .i64 i) (zv (iN .i64 x41) (zu (.bool true) (run_lss (k := .i64) (a := i) (b := x41) ky ky true (decide_eq_true (by omega))) (zv (.bool true) (zv (iN .i64 i) (zu (.bool true) (run_lss (k := .i64) (a := i) (b := 10) ky ky true (decide_eq_true (by omega))) (zv (.bool true) (wl_nil (then_at rfl (wp_cond_true ky (wp_skip (then_at rfl (wp_seq (wp_block (wp_seq (wl_region (zv (.pointer (some ⟨b4, 0, none⟩)) ?_)))))))))))))))))))
  refine wl_callx ky enter51 #[.pointer (some ⟨b4, 0, none⟩), iN .i64 1] ky (rfew_E hS hL2 (by decide) (by decide) (Rs.nxn_lt (by decide) rfl) rfl) ?_
  rintro _ w83 ⟨rfl, s80, hS82, h81⟩
  refine ⟨_, rfl, ?_⟩
  have h84 := h81
  refine zv (.agg #[iN .i64 ((Rs.nxn 1 us).1), .string ({ data := #[] }), .string ({ data := #[] })]) (wl_make (c := #[iN .i64 0, .string ({ data := #[] }), .string ({ data := #[] })]) h84 67 ky ky ?_)
  intro q85 w86 (h87 : HA (bs w) ((q85, 67, #[iN .i64 0, .string ({ data := #[] }), .string ({ data := #[] })]) :: (b4, 116, #[.string s80]) :: (q36, 25, #[iN .i64 x9, iN .i64 x18, .string x27, .slice pp acc.length cp, .string { data := #[] }]) :: (q1, 25, #[iN .i64 0, iN .i64 0, .string ({ data := #[] }), .slice none 0 0, .string ({ data := #[] })]) :: (Lp ++ [])) w86)
  refine wl_fill (c' := #[iN .i64 ((Rs.nxn 1 us).1), .string ({ data := #[] }), .string ({ data := #[] })]) h87 0 rfl ky ky ky rfl ky ky (fun w88 h89 => (wl_nil (then_at rfl (wp_seq (wl_region (zv (.pointer (some ⟨b4, 0, none⟩)) ?_))))))
  refine wl_callx ky enter53 #[.pointer (some ⟨b4, 0, none⟩), iN .i64 1000] ky (rsom_E hS82 (HA.perm h89 (List.Perm.swap _ _ _)) (by decide) rfl) ?_
  rintro _ w93 ⟨rfl, s90, hS92, h91⟩
  refine ⟨_, rfl, ?_⟩
  have h94 := h91
  refine zv (.pointer (some ⟨q85, 1, none⟩)) (wl_putv (v := .string ((Rs.nxt 1000 (Rs.nxn 1 us).2.2).1)) h94 1 rfl 1 (by show 1 < 3; decide) ky (fun w => Try.sizeOf9 w) ky ky ky (fun w95 h96 => (wl_nil (then_at rfl (wp_seq (wl_region (zv (.pointer (some ⟨b4, 0, none⟩)) ?_)))))))
  refine wl_callx ky enter53 #[.pointer (some ⟨b4, 0, none⟩), iN .i64 1000] ky (rsom_E hS92 h96 (by decide) rfl) ?_
  rintro _ w100 ⟨rfl, s97, hS99, h98⟩
  refine ⟨_, rfl, ?_⟩
  have h101 := h98
  refine zv (.pointer (some ⟨q85, 2, none⟩)) (wl_putv (v := .string ((Rs.nxt 1000 (Rs.nxt 1000 (Rs.nxn 1 us).2.2).2.2).1)) h101 1 rfl 2 (by show 2 < 3; decide) ky (fun w => Try.sizeOf9 w) ky ky ky (fun w102 h103 => (wl_nil (then_at rfl (wl_region (zv (.pointer (some ⟨q36, 3, none⟩)) (zu (.slice pp acc.length cp) (run_load1 (fun w => Try.isAgg23 w) ky (((h103.get 2 rfl).cell 3).trans rfl)) (wl_load h103 1 rfl ky ky Try.underlying67 rfl ky (wl_mks (n := 1) (m := 1) (c := #[iN .i64 ((Rs.nxn 1 us).1), .string ((Rs.nxt 1000 (Rs.nxn 1 us).2.2).1), .string ((Rs.nxt 1000 (Rs.nxt 1000 (Rs.nxn 1 us).2.2).2.2).1)]) h103 67 ky ky ?_)))))))))
  intro q104 w105 (h106 : HA (bs w) ((q104, 67, #[iN .i64 ((Rs.nxn 1 us).1), .string ((Rs.nxt 1000 (Rs.nxn 1 us).2.2).1), .string ((Rs.nxt 1000 (Rs.nxt 1000 (Rs.nxn 1 us).2.2).2.2).1)]) :: (b4, 116, #[.string s97]) :: (q85, 67, #[iN .i64 ((Rs.nxn 1 us).1), .string ((Rs.nxt 1000 (Rs.nxn 1 us).2.2).1), .string ((Rs.nxt 1000 (Rs.nxt 1000 (Rs.nxn 1 us).2.2).2.2).1)]) :: (q36, 25, #[iN .i64 x9, iN .i64 x18, .string x27, .slice pp acc.length cp, .string { data := #[] }]) :: (q1, 25, #[iN .i64 0, iN .i64 0, .string ({ data := #[] }), .slice none 0 0, .string ({ data := #[] })]) :: (Lp ++ [])) w105)
  obtain ⟨va107, wa112, La108, hrun111, hRa109, ha110⟩ := row_more (t := 23) hRow ((show HA (bs w) (((q104, 67, #[iN .i64 ((Rs.nxn 1 us).1), .string ((Rs.nxt 1000 (Rs.nxn 1 us).2.2).1), .string ((Rs.nxt 1000 (Rs.nxt 1000 (Rs.nxn 1 us).2.2).2.2).1)]) :: [(b4, 116, #[.string s97]), (q85, 67, #[iN .i64 ((Rs.nxn 1 us).1), .string ((Rs.nxt 1000 (Rs.nxn 1 us).2.2).1), .string ((Rs.nxt 1000 (Rs.nxt 1000 (Rs.nxn 1 us).2.2).2.2).1)]), (q36, 25, #[iN .i64 x9, iN .i64 x18, .string x27, .slice pp acc.length cp, .string { data := #[] }]), (q1, 25, #[iN .i64 0, iN .i64 0, .string ({ data := #[] }), .slice none 0 0, .string ({ data := #[] })])]) ++ (Lp ++ [])) w105 from h106).perm (List.Perm.cons _ (perm_mv [(b4, 116, #[.string s97]), (q85, 67, #[iN .i64 ((Rs.nxn 1 us).1), .string ((Rs.nxt 1000 (Rs.nxn 1 us).2.2).1), .string ((Rs.nxt 1000 (Rs.nxt 1000 (Rs.nxn 1 us).2.2).2.2).1)]), (q36, 25, #[iN .i64 x9, iN .i64 x18, .string x27, .slice pp acc.length cp, .string { data := #[] }]), (q1, 25, #[iN .i64 0, iN .i64 0, .string ({ data := #[] }), .slice none 0 0, .string ({ data := #[] })])] Lp []))) (by decide) (.agg #[iN .i64 0, .string { data := #[] }, .string { data := #[] }]) 40 23 Try.underlying23 info67z rfl (by decide) rfl ky (by unfold maxLen; omega) (by omega)
  obtain ⟨pn113, cn114, hvnpn113⟩ := hRa109.form
  subst hvnpn113
  have h115 := ha110.perm (perm_mv [(b4, 116, #[.string s97]), (q85, 67, #[iN .i64 ((Rs.nxn 1 us).1), .string ((Rs.nxt 1000 (Rs.nxn 1 us).2.2).1), .string ((Rs.nxt 1000 (Rs.nxt 1000 (Rs.nxn 1 us).2.2).2.2).1)]), (q36, 25, #[iN .i64 x9, iN .i64 x18, .string x27, .slice pp acc.length cp, .string { data := #[] }]), (q1, 25, #[iN .i64 0, iN .i64 0, .string ({ data := #[] }), .slice none 0 0, .string ({ data := #[] })])] La108 []).symm
  refine wl_any (v := .slice pn113 (acc.length + 1) cn114) ky (run_app_ops ky ky hrun111) ?_
  refine zv (.pointer (some ⟨q36, 3, none⟩)) (wl_putv (v := .slice pn113 (acc.length + 1) cn114) h115 2 rfl 3 (by show 3 < 5; decide) ky (fun w => Try.sizeOf23 w) ky ky ky (fun w116 h117 => (wl_nil (block_normal (then_at rfl (wl_region (zv (iN .i64 i) (zu (iN .i64 (i + 1)) (run_add (k := .i64) (a := i) (b := 1) ky ky (by first | omega | (simp only [top]; omega))) (zv (iN .i64 (i + 1)) (wl_nil ?_))))))))))
  have h118 := h117.sub (List.Sublist.cons_cons _ (List.Sublist.cons _ (List.Sublist.cons_cons _ (List.Sublist.cons_cons _ (List.Sublist.refl _)))))
  exact then_I ⟨n + 1, (by omega), n, i + 1, (Rs.nxt 1000 (Rs.nxt 1000 (Rs.nxn 1 us).2.2).2.2).2.2, acc ++ [⟨(((Rs.nxn 1 us).1 : Nat) : Int), (Rs.nxt 1000 (Rs.nxn 1 us).2.2).1, (Rs.nxt 1000 (Rs.nxt 1000 (Rs.nxn 1 us).2.2).2.2).1⟩], s97, pn113, cn114, La108, exm rfl ky ⟨by rw [← hR1, dvr_s], by omega, by rw [List.length_append, List.length_singleton]; omega, hS99, by rw [mcl_snoc, List.length_append, List.length_singleton]; exact hRa109, by rw [List.length_append, List.length_singleton]; exact h118⟩⟩
end Go.Proofs.Ytiogegoepgkjlaa

set_option linter.unusedVariables false
set_option linter.unusedSimpArgs false
namespace Go.Proofs.Ytiogegoepgkjlaa
open Go.RowKit

/-- what is read of texts -/
def txr : Nat → List UInt8 → List ByteArray → List ByteArray × List UInt8
  | 0, us, ss => (ss, us)
  | n + 1, us, ss => txr n (Rs.nxt 1000 us).2.2 (ss ++ [(Rs.nxt 1000 us).1])
theorem txr_z (us : List UInt8) (ss : List ByteArray) : txr 0 us ss = (ss, us) := rfl
theorem txr_s (n : Nat) (us : List UInt8) (ss : List ByteArray) : txr (n + 1) us ss = txr n (Rs.nxt 1000 us).2.2 (ss ++ [(Rs.nxt 1000 us).1]) := rfl
theorem dvr_len : ∀ (n : Nat) (us : List UInt8) (ds : List Mb), (dvr n us ds).1.length = ds.length + n
  | 0, _, _ => rfl
  | n + 1, us, ds => by rw [dvr_s, dvr_len n, List.length_append, List.length_singleton]; omega
theorem lisRr_len (s : ByteArray) : (lisRr s).ds.length ≤ 1000000 := by
  unfold lisRr rdLr
  rw [dvr_len]
  simp only [List.length_nil]
  omega
theorem lisr_bk {s : ByteArray} {l : Li} (h : lisRr s = l) : l.ds.length ≤ 1000000 := h ▸ lisRr_len s
/-- what is read of a call, its kind known -/
def rdKr (k : Nat) (bs : List UInt8) : Ca :=
  bif decide (k = 1) then ⟨((k : Nat) : Int), (((Rs.nxn 1 bs).1 : Nat) : Int), 0, ⟨0, 0, { data := #[] }, [], { data := #[] }⟩, ⟨0, 0, { data := #[] }, { data := #[] }, 0, { data := #[] }, { data := #[] }, 0, { data := #[] }⟩, [], 0, 0, 0, { data := #[] }, 0, { data := #[] }⟩ else bif decide (k = 2) then ⟨((k : Nat) : Int), (((Rs.nxn 1 bs).1 : Nat) : Int), (((Rs.nxn 1 (Rs.nxn 1 bs).2.2).1 : Nat) : Int), ⟨0, 0, { data := #[] }, [], { data := #[] }⟩, ⟨0, 0, { data := #[] }, { data := #[] }, 0, { data := #[] }, { data := #[] }, 0, { data := #[] }⟩, [], 0, 0, 0, { data := #[] }, 0, { data := #[] }⟩ else bif decide (k = 3) then ⟨((k : Nat) : Int), 0, 0, (lisRr (Rs.nxt 16384 bs).1), ⟨0, 0, { data := #[] }, { data := #[] }, 0, { data := #[] }, { data := #[] }, 0, { data := #[] }⟩, [], 0, 0, 0, { data := #[] }, 0, { data := #[] }⟩ else bif decide (k = 4) then ⟨((k : Nat) : Int), 0, 0, ⟨0, 0, { data := #[] }, [], { data := #[] }⟩, (decA (Rs.nxt 16384 bs).1).1, (txr (min (Rs.nxn 1 (Rs.nxn 4 (Rs.nxt 16384 bs).2.2).2.2).1 30) (Rs.nxn 1 (Rs.nxn 4 (Rs.nxt 16384 bs).2.2).2.2).2.2 []).1, 0, 0, 0, { data := #[] }, (((Rs.nxn 4 (Rs.nxt 16384 bs).2.2).1 : Nat) : Int), { data := #[] }⟩ else bif decide (k = 5) then ⟨((k : Nat) : Int), 0, 0, ⟨0, 0, { data := #[] }, [], { data := #[] }⟩, ⟨0, 0, { data := #[] }, { data := #[] }, 0, { data := #[] }, { data := #[] }, 0, { data := #[] }⟩, [], (((Rs.nxn 1 bs).1 : Nat) : Int), (Rs.nxn 8 (Rs.nxn 1 bs).2.2).1, 0, { data := #[] }, 0, (Rs.nxt 16384 (Rs.nxn 8 (Rs.nxn 1 bs).2.2).2.2).1⟩ else bif decide (k = 6) then ⟨((k : Nat) : Int), 0, 0, ⟨0, 0, { data := #[] }, [], { data := #[] }⟩, ⟨0, 0, { data := #[] }, { data := #[] }, 0, { data := #[] }, { data := #[] }, 0, { data := #[] }⟩, [], 0, 0, (Rs.nxn 8 bs).1, { data := #[] }, 0, { data := #[] }⟩ else bif decide (k = 7) then ⟨((k : Nat) : Int), 0, 0, ⟨0, 0, { data := #[] }, [], { data := #[] }⟩, ⟨0, 0, { data := #[] }, { data := #[] }, 0, { data := #[] }, { data := #[] }, 0, { data := #[] }⟩, [], 0, 0, (Rs.nxn 8 bs).1, { data := #[] }, 0, { data := #[] }⟩ else bif decide (k = 8) then ⟨((k : Nat) : Int), 0, 0, ⟨0, 0, { data := #[] }, [], { data := #[] }⟩, ⟨0, 0, { data := #[] }, { data := #[] }, 0, { data := #[] }, { data := #[] }, 0, { data := #[] }⟩, [], 0, 0, 0, (Rs.nxt 1000 bs).1, (((Rs.nxn 1 (Rs.nxt 1000 bs).2.2).1 : Nat) : Int), (Rs.nxt 16384 (Rs.nxn 1 (Rs.nxt 1000 bs).2.2).2.2).1⟩ else bif decide (k = 9) then ⟨((k : Nat) : Int), 0, 0, ⟨0, 0, { data := #[] }, [], { data := #[] }⟩, ⟨0, 0, { data := #[] }, { data := #[] }, 0, { data := #[] }, { data := #[] }, 0, { data := #[] }⟩, [], 0, 0, 0, (Rs.nxt 1000 bs).1, (((Rs.nxn 1 (Rs.nxt 1000 bs).2.2).1 : Nat) : Int), { data := #[] }⟩ else ⟨((k : Nat) : Int), 0, 0, ⟨0, 0, { data := #[] }, [], { data := #[] }⟩, ⟨0, 0, { data := #[] }, { data := #[] }, 0, { data := #[] }, { data := #[] }, 0, { data := #[] }⟩, [], 0, 0, 0, { data := #[] }, 0, { data := #[] }⟩
/-- what a call's bytes may be -/
def rdCr (bs : List UInt8) : Nat × Ca := ((Rs.nxn 8 bs).1, rdKr (Rs.nxn 1 (Rs.nxn 8 bs).2.2).1 (Rs.nxn 1 (Rs.nxn 8 bs).2.2).2.2)
def decCr (s : ByteArray) : Nat × Ca × Nat := bif decide ((encC (rdCr (bl s)).1 (rdCr (bl s)).2).2 = 0) && decide ((encC (rdCr (bl s)).1 (rdCr (bl s)).2).1 = s) then ((rdCr (bl s)).1, (rdCr (bl s)).2, 0) else (0, ca0, 4)
theorem decCr_y {s y : ByteArray} {id e : Nat} {c : Ca} (hrd : rdCr (bl s) = (id, c)) (hE : encC id c = (y, e)) (h1 : decide (e = 0) = true) (h2 : decide (y = s) = true) : decCr s = (id, c, 0) := by
  unfold decCr
  rw [hrd]
  show (bif decide ((encC id c).2 = 0) && decide ((encC id c).1 = s) then (id, c, 0) else (0, ca0, 4)) = _
  rw [hE]
  show (bif decide (e = 0) && decide (y = s) then (id, c, 0) else (0, ca0, 4)) = _
  rw [h1, h2]
  rfl
theorem decCr_n {s y : ByteArray} {id e : Nat} {c : Ca} (hrd : rdCr (bl s) = (id, c)) (hE : encC id c = (y, e)) (h : (decide (e = 0) && decide (y = s)) = false) : decCr s = (0, ca0, 4) := by
  unfold decCr
  rw [hrd]
  show (bif decide ((encC id c).2 = 0) && decide ((encC id c).1 = s) then (id, c, 0) else (0, ca0, 4)) = _
  rw [hE]
  show (bif decide (e = 0) && decide (y = s) then (id, c, 0) else (0, ca0, 4)) = _
  rw [h]
  rfl
theorem rdKr_1 {k : Nat} {bs : List UInt8} (k1 : decide (k = 1) = true) : rdKr k bs = ⟨((k : Nat) : Int), (((Rs.nxn 1 bs).1 : Nat) : Int), 0, ⟨0, 0, { data := #[] }, [], { data := #[] }⟩, ⟨0, 0, { data := #[] }, { data := #[] }, 0, { data := #[] }, { data := #[] }, 0, { data := #[] }⟩, [], 0, 0, 0, { data := #[] }, 0, { data := #[] }⟩ := by
  unfold rdKr
  rw [k1]
  rfl
theorem rdKr_2 {k : Nat} {bs : List UInt8} (k1 : decide (k = 1) = false) (k2 : decide (k = 2) = true) : rdKr k bs = ⟨((k : Nat) : Int), (((Rs.nxn 1 bs).1 : Nat) : Int), (((Rs.nxn 1 (Rs.nxn 1 bs).2.2).1 : Nat) : Int), ⟨0, 0, { data := #[] }, [], { data := #[] }⟩, ⟨0, 0, { data := #[] }, { data := #[] }, 0, { data := #[] }, { data := #[] }, 0, { data := #[] }⟩, [], 0, 0, 0, { data := #[] }, 0, { data := #[] }⟩ := by
  unfold rdKr
  rw [k1, k2]
  rfl
theorem rdKr_3 {k : Nat} {bs : List UInt8} (k1 : decide (k = 1) = false) (k2 : decide (k = 2) = false) (k3 : decide (k = 3) = true) : rdKr k bs = ⟨((k : Nat) : Int), 0, 0, (lisRr (Rs.nxt 16384 bs).1), ⟨0, 0, { data := #[] }, { data := #[] }, 0, { data := #[] }, { data := #[] }, 0, { data := #[] }⟩, [], 0, 0, 0, { data := #[] }, 0, { data := #[] }⟩ := by
  unfold rdKr
  rw [k1, k2, k3]
  rfl
theorem rdKr_4 {k : Nat} {bs : List UInt8} (k1 : decide (k = 1) = false) (k2 : decide (k = 2) = false) (k3 : decide (k = 3) = false) (k4 : decide (k = 4) = true) : rdKr k bs = ⟨((k : Nat) : Int), 0, 0, ⟨0, 0, { data := #[] }, [], { data := #[] }⟩, (decA (Rs.nxt 16384 bs).1).1, (txr (min (Rs.nxn 1 (Rs.nxn 4 (Rs.nxt 16384 bs).2.2).2.2).1 30) (Rs.nxn 1 (Rs.nxn 4 (Rs.nxt 16384 bs).2.2).2.2).2.2 []).1, 0, 0, 0, { data := #[] }, (((Rs.nxn 4 (Rs.nxt 16384 bs).2.2).1 : Nat) : Int), { data := #[] }⟩ := by
  unfold rdKr
  rw [k1, k2, k3, k4]
  rfl
theorem rdKr_5 {k : Nat} {bs : List UInt8} (k1 : decide (k = 1) = false) (k2 : decide (k = 2) = false) (k3 : decide (k = 3) = false) (k4 : decide (k = 4) = false) (k5 : decide (k = 5) = true) : rdKr k bs = ⟨((k : Nat) : Int), 0, 0, ⟨0, 0, { data := #[] }, [], { data := #[] }⟩, ⟨0, 0, { data := #[] }, { data := #[] }, 0, { data := #[] }, { data := #[] }, 0, { data := #[] }⟩, [], (((Rs.nxn 1 bs).1 : Nat) : Int), (Rs.nxn 8 (Rs.nxn 1 bs).2.2).1, 0, { data := #[] }, 0, (Rs.nxt 16384 (Rs.nxn 8 (Rs.nxn 1 bs).2.2).2.2).1⟩ := by
  unfold rdKr
  rw [k1, k2, k3, k4, k5]
  rfl
theorem rdKr_6 {k : Nat} {bs : List UInt8} (k1 : decide (k = 1) = false) (k2 : decide (k = 2) = false) (k3 : decide (k = 3) = false) (k4 : decide (k = 4) = false) (k5 : decide (k = 5) = false) (k6 : decide (k = 6) = true) : rdKr k bs = ⟨((k : Nat) : Int), 0, 0, ⟨0, 0, { data := #[] }, [], { data := #[] }⟩, ⟨0, 0, { data := #[] }, { data := #[] }, 0, { data := #[] }, { data := #[] }, 0, { data := #[] }⟩, [], 0, 0, (Rs.nxn 8 bs).1, { data := #[] }, 0, { data := #[] }⟩ := by
  unfold rdKr
  rw [k1, k2, k3, k4, k5, k6]
  rfl
theorem rdKr_7 {k : Nat} {bs : List UInt8} (k1 : decide (k = 1) = false) (k2 : decide (k = 2) = false) (k3 : decide (k = 3) = false) (k4 : decide (k = 4) = false) (k5 : decide (k = 5) = false) (k6 : decide (k = 6) = false) (k7 : decide (k = 7) = true) : rdKr k bs = ⟨((k : Nat) : Int), 0, 0, ⟨0, 0, { data := #[] }, [], { data := #[] }⟩, ⟨0, 0, { data := #[] }, { data := #[] }, 0, { data := #[] }, { data := #[] }, 0, { data := #[] }⟩, [], 0, 0, (Rs.nxn 8 bs).1, { data := #[] }, 0, { data := #[] }⟩ := by
  unfold rdKr
  rw [k1, k2, k3, k4, k5, k6, k7]
  rfl
theorem rdKr_8 {k : Nat} {bs : List UInt8} (k1 : decide (k = 1) = false) (k2 : decide (k = 2) = false) (k3 : decide (k = 3) = false) (k4 : decide (k = 4) = false) (k5 : decide (k = 5) = false) (k6 : decide (k = 6) = false) (k7 : decide (k = 7) = false) (k8 : decide (k = 8) = true) : rdKr k bs = ⟨((k : Nat) : Int), 0, 0, ⟨0, 0, { data := #[] }, [], { data := #[] }⟩, ⟨0, 0, { data := #[] }, { data := #[] }, 0, { data := #[] }, { data := #[] }, 0, { data := #[] }⟩, [], 0, 0, 0, (Rs.nxt 1000 bs).1, (((Rs.nxn 1 (Rs.nxt 1000 bs).2.2).1 : Nat) : Int), (Rs.nxt 16384 (Rs.nxn 1 (Rs.nxt 1000 bs).2.2).2.2).1⟩ := by
  unfold rdKr
  rw [k1, k2, k3, k4, k5, k6, k7, k8]
  rfl
theorem rdKr_9 {k : Nat} {bs : List UInt8} (k1 : decide (k = 1) = false) (k2 : decide (k = 2) = false) (k3 : decide (k = 3) = false) (k4 : decide (k = 4) = false) (k5 : decide (k = 5) = false) (k6 : decide (k = 6) = false) (k7 : decide (k = 7) = false) (k8 : decide (k = 8) = false) (k9 : decide (k = 9) = true) : rdKr k bs = ⟨((k : Nat) : Int), 0, 0, ⟨0, 0, { data := #[] }, [], { data := #[] }⟩, ⟨0, 0, { data := #[] }, { data := #[] }, 0, { data := #[] }, { data := #[] }, 0, { data := #[] }⟩, [], 0, 0, 0, (Rs.nxt 1000 bs).1, (((Rs.nxn 1 (Rs.nxt 1000 bs).2.2).1 : Nat) : Int), { data := #[] }⟩ := by
  unfold rdKr
  rw [k1, k2, k3, k4, k5, k6, k7, k8, k9]
  rfl
theorem rdKr_0 {k : Nat} {bs : List UInt8} (k1 : decide (k = 1) = false) (k2 : decide (k = 2) = false) (k3 : decide (k = 3) = false) (k4 : decide (k = 4) = false) (k5 : decide (k = 5) = false) (k6 : decide (k = 6) = false) (k7 : decide (k = 7) = false) (k8 : decide (k = 8) = false) (k9 : decide (k = 9) = false) : rdKr k bs = ⟨((k : Nat) : Int), 0, 0, ⟨0, 0, { data := #[] }, [], { data := #[] }⟩, ⟨0, 0, { data := #[] }, { data := #[] }, 0, { data := #[] }, { data := #[] }, 0, { data := #[] }⟩, [], 0, 0, 0, { data := #[] }, 0, { data := #[] }⟩ := by
  unfold rdKr
  rw [k1, k2, k3, k4, k5, k6, k7, k8, k9]
  rfl
open Rs
theorem nxt_less {m : Nat} {bs : List UInt8} (hm : m ≤ 16384) (h : (nxt 16384 bs).1.size ≤ m) : nxt m bs = nxt 16384 bs := by
  unfold nxt at h ⊢
  by_cases h1 : 4 ≤ bs.length ∧ Wi.val (bs.take 4) ≤ 16384 ∧ 4 + Wi.val (bs.take 4) ≤ bs.length
  · rw [if_pos h1] at h ⊢
    have h2 : (⟨(Wi.txt bs).toArray⟩ : ByteArray).size = Wi.val (bs.take 4) := Rs.txt_size h1.2.2
    rw [h2] at h
    rw [if_pos ⟨h1.1, h, h1.2.2⟩]
  · rw [if_neg h1, if_neg (fun h3 => h1 ⟨h3.1, by omega, h3.2.2⟩)]
theorem dvs_mem : ∀ (n : Nat) (us : List UInt8) (ds : List Mb) (m : Mb), m ∈ ds → m ∈ (dvs n us ds).1
  | 0, _, _, _, h => h
  | n + 1, us, ds, m, h => dvs_mem n _ _ m (List.mem_append_left _ h)
theorem dvr_eq : ∀ (n : Nat) (us : List UInt8) (ds : List Mb), (∀ m ∈ (dvs n us ds).1, m.sg.size ≤ 1000 ∧ m.dh.size ≤ 1000) → dvr n us ds = dvs n us ds
  | 0, _, _, _ => rfl
  | n + 1, us, ds, h => by
    have h1 := h _ (dvs_mem n _ _ _ (List.mem_append_right ds (List.mem_singleton.2 rfl)))
    have e1 := nxt_less (by decide) h1.1
    have e2 := nxt_less (by decide) h1.2
    rw [dvr_s, dvs_s, e1, e2]
    exact dvr_eq n _ _ h
theorem txs_len : ∀ (n : Nat) (us : List UInt8) (ss : List ByteArray), (txs n us ss).1.length = ss.length + n
  | 0, _, _ => rfl
  | n + 1, us, ss => by rw [txs_s, txs_len n, List.length_append, List.length_singleton]; omega
theorem txs_mem : ∀ (n : Nat) (us : List UInt8) (ss : List ByteArray) (m : ByteArray), m ∈ ss → m ∈ (txs n us ss).1
  | 0, _, _, _, h => h
  | n + 1, us, ss, m, h => txs_mem n _ _ m (List.mem_append_left _ h)
theorem txr_eq : ∀ (n : Nat) (us : List UInt8) (ss : List ByteArray), (∀ m ∈ (txs n us ss).1, m.size ≤ 1000) → txr n us ss = txs n us ss
  | 0, _, _, _ => rfl
  | n + 1, us, ss, h => by
    have h1 := h _ (txs_mem n _ _ _ (List.mem_append_right ss (List.mem_singleton.2 rfl)))
    have e1 := nxt_less (by decide) h1
    rw [txr_s, txs_s, e1]
    exact txr_eq n _ _ h
theorem lisRr_eq {s : ByteArray} {l : Li} (h : lisR s = l) (hM : MayL l) : lisRr s = l := by
  subst h
  have h1 := hM.ac; have h2 := hM.sg; have h3 := hM.dl; have h4 := hM.dm
  unfold lisRr lisR rdLr rdL at *
  simp only at h1 h2 h3 h4 ⊢
  rw [nxt_less (by decide) h1]
  rw [dvs_len] at h3
  simp only [List.length_nil] at h3
  rw [show ∀ x : Nat, x = (nxn 1 (nxt 16384 (nxn 4 (nxn 1 (bl s)).2.2).2.2).2.2).1 → min x 10 = x from fun x hx => by omega]
  · rw [dvr_eq _ _ _ (fun m hm => by have := h4 m hm; omega), nxt_less (by decide) h2]
  · rfl
theorem rdKr_eq {k : Nat} {bs : List UInt8} {c : Ca} {r : List UInt8} (h : rdK k bs = (c, r)) (hm : mayC c = true) : rdKr k bs = c := by
  rcases k1 : decide (k = 1) with _ | _; rotate_left
  · rw [rdK_1 k1] at h
    obtain ⟨rfl, _⟩ := Prod.mk.inj h
    rw [rdKr_1 k1]
  rcases k2 : decide (k = 2) with _ | _; rotate_left
  · rw [rdK_2 k1 k2] at h
    obtain ⟨rfl, _⟩ := Prod.mk.inj h
    rw [rdKr_2 k1 k2]
  rcases k3 : decide (k = 3) with _ | _; rotate_left
  · rw [rdK_3 k1 k2 k3] at h
    obtain ⟨rfl, _⟩ := Prod.mk.inj h
    rw [rdKr_3 k1 k2 k3]
    have e := of_decide_eq_true k3
    rw [mayC_k3 (decide_eq_false (show ¬ ((k : Nat) : Int) = 1 by omega)) (decide_eq_false (show ¬ ((k : Nat) : Int) = 2 by omega)) (decide_eq_true (show ((k : Nat) : Int) = 3 by omega))] at hm
    have hm := (and2 hm).1
    rw [lisRr_eq rfl (mayL_iff hm)]
  rcases k4 : decide (k = 4) with _ | _; rotate_left
  · rw [rdK_4 k1 k2 k3 k4] at h
    obtain ⟨rfl, _⟩ := Prod.mk.inj h
    rw [rdKr_4 k1 k2 k3 k4]
    have e := of_decide_eq_true k4
    rw [mayC_k4 (decide_eq_false (show ¬ ((k : Nat) : Int) = 1 by omega)) (decide_eq_false (show ¬ ((k : Nat) : Int) = 2 by omega)) (decide_eq_false (show ¬ ((k : Nat) : Int) = 3 by omega)) (decide_eq_true (show ((k : Nat) : Int) = 4 by omega))] at hm
    have hm := (and2 hm).1
    have hl := of_decide_eq_true (and2 (and2 hm).1).2
    have hk := List.all_eq_true.1 (and2 hm).2
    simp only at hl hk
    rw [txs_len] at hl
    simp only [List.length_nil] at hl
    rw [show min (Rs.nxn 1 (Rs.nxn 4 (Rs.nxt 16384 bs).2.2).2.2).1 30 = (Rs.nxn 1 (Rs.nxn 4 (Rs.nxt 16384 bs).2.2).2.2).1 by omega, txr_eq _ _ _ (fun m hm => (kk_le (hk m hm)).2)]
  rcases k5 : decide (k = 5) with _ | _; rotate_left
  · rw [rdK_5 k1 k2 k3 k4 k5] at h
    obtain ⟨rfl, _⟩ := Prod.mk.inj h
    rw [rdKr_5 k1 k2 k3 k4 k5]
  rcases k6 : decide (k = 6) with _ | _; rotate_left
  · rw [rdK_6 k1 k2 k3 k4 k5 k6] at h
    obtain ⟨rfl, _⟩ := Prod.mk.inj h
    rw [rdKr_6 k1 k2 k3 k4 k5 k6]
  rcases k7 : decide (k = 7) with _ | _; rotate_left
  · rw [rdK_7 k1 k2 k3 k4 k5 k6 k7] at h
    obtain ⟨rfl, _⟩ := Prod.mk.inj h
    rw [rdKr_7 k1 k2 k3 k4 k5 k6 k7]
  rcases k8 : decide (k = 8) with _ | _; rotate_left
  · rw [rdK_8 k1 k2 k3 k4 k5 k6 k7 k8] at h
    obtain ⟨rfl, _⟩ := Prod.mk.inj h
    rw [rdKr_8 k1 k2 k3 k4 k5 k6 k7 k8]
    have e := of_decide_eq_true k8
    rw [mayC_k8 (decide_eq_false (show ¬ ((k : Nat) : Int) = 1 by omega)) (decide_eq_false (show ¬ ((k : Nat) : Int) = 2 by omega)) (decide_eq_false (show ¬ ((k : Nat) : Int) = 3 by omega)) (decide_eq_false (show ¬ ((k : Nat) : Int) = 4 by omega)) (decide_eq_false (show ¬ ((k : Nat) : Int) = 5 by omega)) (decide_eq_false (show ¬ ((k : Nat) : Int) = 6 by omega)) (decide_eq_false (show ¬ ((k : Nat) : Int) = 7 by omega)) (decide_eq_true (show ((k : Nat) : Int) = 8 by omega))] at hm
    have hm := (and2 hm).1
    have hn := wi_le (and2 (and2 hm).1).2
    simp only at hn
    rw [nxt_less (m := 1000) (bs := bs) (by decide) (by omega)]
  rcases k9 : decide (k = 9) with _ | _; rotate_left
  · rw [rdK_9 k1 k2 k3 k4 k5 k6 k7 k8 k9] at h
    obtain ⟨rfl, _⟩ := Prod.mk.inj h
    rw [rdKr_9 k1 k2 k3 k4 k5 k6 k7 k8 k9]
    have e := of_decide_eq_true k9
    rw [mayC_k9 (decide_eq_false (show ¬ ((k : Nat) : Int) = 1 by omega)) (decide_eq_false (show ¬ ((k : Nat) : Int) = 2 by omega)) (decide_eq_false (show ¬ ((k : Nat) : Int) = 3 by omega)) (decide_eq_false (show ¬ ((k : Nat) : Int) = 4 by omega)) (decide_eq_false (show ¬ ((k : Nat) : Int) = 5 by omega)) (decide_eq_false (show ¬ ((k : Nat) : Int) = 6 by omega)) (decide_eq_false (show ¬ ((k : Nat) : Int) = 7 by omega)) (decide_eq_false (show ¬ ((k : Nat) : Int) = 8 by omega)) (decide_eq_true (show ((k : Nat) : Int) = 9 by omega))] at hm
    have hm := (and2 hm).1
    have hn := wi_le (and2 hm).1
    simp only at hn
    rw [nxt_less (m := 1000) (bs := bs) (by decide) (by omega)]
  · rw [rdK_0 k1 k2 k3 k4 k5 k6 k7 k8 k9] at h
    obtain ⟨rfl, _⟩ := Prod.mk.inj h
    rw [rdKr_0 k1 k2 k3 k4 k5 k6 k7 k8 k9]
theorem decCr_eq (s : ByteArray) : decCr s = decC s := by
  rcases decC_cases s with h | ⟨id, c, h, hid, hm, hz, he⟩
  · rw [h]
    unfold decCr
    rcases q : (decide ((encC (rdCr (bl s)).1 (rdCr (bl s)).2).2 = 0) && decide ((encC (rdCr (bl s)).1 (rdCr (bl s)).2).1 = s)) with _ | _
    · rfl
    · exfalso
      have h1 := of_decide_eq_true (and2 q).1
      have h2 := of_decide_eq_true (and2 q).2
      obtain ⟨g1, g2, g3⟩ := encC_inv (id := (rdCr (bl s)).1) (c := (rdCr (bl s)).2) (y := s) (Prod.ext h2 h1)
      have h4 := decC_enc g1 (nxn8_lt (bl s)) g2
      rw [show calB (nxn 8 (bl s)).1 (rdCr (bl s)).2 = s from g3, h] at h4
      have := congrArg (fun x => x.2.2) h4
      exact absurd (show (4 : Nat) = 0 from this) (by decide)
  · rw [h]
    have hrd := rdC_enc hm hid hz []
    rw [List.append_nil, he] at hrd
    have h1 := congrArg Prod.fst hrd
    have h2 := congrArg Prod.snd hrd
    have h3 : rdCr (bl s) = (id, c) := Prod.ext h1 (rdKr_eq h2 hm)
    exact decCr_y h3 ((encC_ok hm hz).trans (by rw [he])) rfl (decide_eq_true rfl)
end Go.Proofs.Ytiogegoepgkjlaa
