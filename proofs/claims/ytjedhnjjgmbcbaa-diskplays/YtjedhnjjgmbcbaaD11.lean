/-
  List.
-/
import Derived.Test.YtjedhnjjgmbcbaaDR
namespace Go.Proofs.Ytjedhnjjgmbcbaa
open Go.RowKit

def pfx (s p : ByteArray) : Bool := Lib.hasPrefix (bl s) (bl p)
/-- the names that begin so -/
def nmsP (fl : List Fl) (p : ByteArray) : List (List UInt8) := (fl.filter fun f => pfx f.nm p).map fun f => bl f.nm
def lstL (fs : List FA) (p : ByteArray) : List (List UInt8) := ((fs.filter fun x => pfx x.nm p).map fun x => bl x.nm).mergeSort leB
def listD (D : DS) (p : ByteArray) : List (List UInt8) := if D.down = true then [] else lstL D.fs p
theorem nmsP_snoc (pre : List Fl) (f : Fl) (p : ByteArray) : nmsP (pre ++ [f]) p = nmsP pre p ++ (if pfx f.nm p = true then [bl f.nm] else []) := by
  by_cases h : pfx f.nm p = true
  · simp [nmsP, h]
  · simp [nmsP, h]
theorem nmsP_len (pre : List Fl) (p : ByteArray) : (nmsP pre p).length ≤ pre.length := by
  unfold nmsP
  rw [List.length_map]
  exact List.length_filter_le _ _
theorem nms_sort {fl : List Fl} {fs : List FA} {pre : List Fl} {p : ByteArray} (h : fl.map ab = fs) (hp : (pre ++ []).Perm fl) : (nmsP pre p).mergeSort leB = lstL fs p := by
  rw [lstL]
  refine mergeSort_of_perm ?_
  have h1 : (nmsP pre p).Perm (nmsP fl p) := by
    rw [List.append_nil] at hp
    exact (hp.filter _).map _
  have h2 : nmsP fl p = (fs.filter fun x => pfx x.nm p).map fun x => bl x.nm := by
    rw [← h, nmsP, List.filter_map, List.map_map]
    rfl
  rw [← h2]
  exact h1
theorem HasPrefix_any (s p : ByteArray) (w : World) : Calls Try.prog 60 #[.string s, .string p] w fun e w' => e = .returned (.bool (pfx s p)) ∧ Below w.heap.size w w' :=
  (Try.strings_HasPrefix s p w).mono fun _ w' h => ⟨h.1, by rw [h.2]; exact Below.refl _ _⟩
theorem info9 : (Try.prog.info? 9).map (fun i => (i.zero, i.size, i.bytes)) = some (some (.string { data := #[] }), 1, 16) := by kernel_rfl
set_option linter.unusedVariables false in
set_option maxRecDepth 100000 in
set_option maxHeartbeats 2000000 in
theorem List_d {w0 : World} {M : ML} {d : Dk} {D : DS} {L : BL} {w : World} (hD : DH w0 M d D L w) (p : ByteArray) (hd : D.down = true) :
    Calls Try.prog 29 #[pt d.q, .string p] w fun e w' => ∃ v' Lr', e = .returned v' ∧ Row 9 1 v' (listD D p).length ((listD D p).map encStr) Lr' ∧ HA (bs w) Lr' w' := by
  obtain ⟨fl, nx, v, Lr, hfl, hK, hR, HH⟩ := hD
  have hm := HH.old.maps _ (List.mem_cons_self ..)
  have hq := HH.get 0 rfl
  rw [hd] at hq
  have H0 := HA.start w
  go_enter Try.func29, Try.ntmps29
  refine wp_seq ?_
  refine wl_region ?_
  refine wl_val (.slice none 0 0) (by kernel_rfl) (by kernel_rfl) ?_
  refine wl_nil ?_
  refine then_at (F := ⟨(pt d.q :: .string p :: un :: un :: .slice none 0 0 :: List.replicate 24 un).toArray, []⟩) (by kernel_rfl) ?_
  refine wp_seq ?_
  refine wp_seq ?_
  refine wl_region ?_
  refine wl_val (.pointer (some ⟨d.q, 0, none⟩)) (by kernel_rfl) (by kernel_rfl) ?_
  refine wl_call (v := .bool true) H0 (by kernel_rfl) enter59 #[.pointer (some ⟨d.q, 0, none⟩)] (by kernel_rfl) (dark_true (hq.keep H0.old.old)) ?_
  intro w1 h2
  refine wl_nil ?_
  refine then_at (F := ⟨(pt d.q :: .string p :: un :: un :: .slice none 0 0 :: un :: un :: pt d.q :: .bool true :: List.replicate 20 un).toArray, []⟩) (by kernel_rfl) ?_
  refine wp_cond_true (by kernel_rfl) ?_
  refine wp_seq ?_
  refine wl_region ?_
  refine wl_val (.slice none 0 0) (by kernel_rfl) (by kernel_rfl) ?_
  refine wl_nil ?_
  refine then_at (F := ⟨(pt d.q :: .string p :: un :: un :: .slice none 0 0 :: un :: un :: pt d.q :: .bool true :: List.replicate 20 un).toArray, []⟩) (by kernel_rfl) ?_
  refine wp_ret ?_
  repeat first | refine then_ret ?_ | refine block_ret ?_
  exact bodyPost_ret (v := .slice none 0 0) (by kernel_rfl) rfl ⟨_, [], rfl, by rw [listD, if_pos hd]; exact Row.nil 9 1, h2⟩
theorem HA.noM {w0 : World} {M : ML} {L : BL} {w : World} (h : HA ⟨w0, M⟩ L w) : HA (bs w0) L w := ⟨⟨h.old.old, fun _ h => (by cases h), fun _ h => (by cases h), List.nodup_nil⟩, h.blk, h.own, h.nd⟩
set_option linter.unusedVariables false in
set_option maxRecDepth 100000 in
set_option maxHeartbeats 2000000 in
theorem List_u {w0 : World} {M : ML} {d : Dk} {D : DS} {L : BL} {w : World} (hD : DH w0 M d D L w) (p : ByteArray) (hd : D.down = false) (hns0 : ∀ x ∈ D.fs, x.nm.size ≤ 64) (hct : D.fs.length ≤ 1000000) :
    Calls Try.prog 29 #[pt d.q, .string p] w fun e w' => ∃ v' Lr', e = .returned v' ∧ Row 9 1 v' (listD D p).length ((listD D p).map encStr) Lr' ∧ HA (bs w) Lr' w' := by
  obtain ⟨fl, nx, v, Lr, hfl, hK, hR, HH⟩ := hD
  have hm := HH.old.maps _ (List.mem_cons_self ..)
  have hq := HH.get 0 rfl
  rw [hd] at hq
  have hfn : fl.length = D.fs.length := by rw [← hfl, List.length_map]
  have hns : ∀ f ∈ fl, f.nm.size ≤ 64 := fun f hf => hns0 (ab f) (by rw [← hfl]; exact List.mem_map.2 ⟨f, hf, rfl⟩)
  have H0 := HA.start w
  go_enter Try.func29, Try.ntmps29
  refine wp_seq ?_
  refine wl_region ?_
  refine wl_val (.slice none 0 0) (by kernel_rfl) (by kernel_rfl) ?_
  refine wl_nil ?_
  refine then_at (F := ⟨(pt d.q :: .string p :: un :: un :: .slice none 0 0 :: List.replicate 24 un).toArray, []⟩) (by kernel_rfl) ?_
  refine wp_seq ?_
  refine wp_seq ?_
  refine wl_region ?_
  refine wl_val (.pointer (some ⟨d.q, 0, none⟩)) (by kernel_rfl) (by kernel_rfl) ?_
  refine wl_call (v := .bool false) H0 (by kernel_rfl) enter59 #[.pointer (some ⟨d.q, 0, none⟩)] (by kernel_rfl) (dark_false (hq.keep H0.old.old)) ?_
  intro w1 h2
  refine wl_nil ?_
  refine then_at (F := ⟨(pt d.q :: .string p :: un :: un :: .slice none 0 0 :: un :: un :: pt d.q :: .bool false :: List.replicate 20 un).toArray, []⟩) (by kernel_rfl) ?_
  refine wp_cond_false (by kernel_rfl) ?_
  refine wp_skip ?_
  refine then_at (F := ⟨(pt d.q :: .string p :: un :: un :: .slice none 0 0 :: un :: un :: pt d.q :: .bool false :: List.replicate 20 un).toArray, []⟩) (by kernel_rfl) ?_
  refine wp_seq ?_
  refine wl_region ?_
  refine wl_val (.slice none 0 0) (by kernel_rfl) (by kernel_rfl) ?_
  refine wl_nil ?_
  refine then_at (F := ⟨(pt d.q :: .string p :: un :: un :: .slice none 0 0 :: .slice none 0 0 :: un :: pt d.q :: .bool false :: List.replicate 20 un).toArray, []⟩) (by kernel_rfl) ?_
  refine wp_seq ?_
  refine wp_seq ?_
  refine wl_region ?_
  refine wl_val (.pointer (some ⟨d.q, 0, none⟩)) (by kernel_rfl) (by kernel_rfl) ?_
  refine wl_val (.pointer (some ⟨d.q, 0, none⟩)) (by kernel_rfl) (by kernel_rfl) ?_
  refine wl_val (.pointer (some ⟨d.q, 0, none⟩)) (by kernel_rfl) (by kernel_rfl) ?_
  refine wl_val (.map (some d.r)) (by kernel_rfl) (run_load1 (fun w => Try.isAgg59 w) (by kernel_rfl) (((hq.keep h2.old.old).cell 0).trans rfl)) ?_
  refine wl_any (by kernel_rfl) (run_range ((h2.old.old.block _ (lt_of_block hm)).trans hm) (by kernel_rfl)) ?_
  have h3 := h2.newM (.it d.r nx (bnA []) nx)
  have hge : w.heap.size ≤ w1.heap.size := h2.size
  have hrit : d.r ≠ w1.heap.size := by have := lt_of_block hm; simp only at this; omega
  generalize hit : w1.heap.size = it at h3 hge hrit ⊢
  change HA _ _ (w1.alloc (MO.it d.r nx #[] nx).obj) at h3
  generalize w1.alloc (MO.it d.r nx #[] nx).obj = w4 at h3 ⊢
  refine wl_nil ?_
  refine then_at (F := ⟨(pt d.q :: .string p :: un :: un :: .slice none 0 0 :: .slice none 0 0 :: un :: pt d.q :: .bool false :: pt d.q :: pt d.q :: pt d.q :: .map (some d.r) :: pt it :: List.replicate 15 un).toArray, []⟩) (by kernel_rfl) ?_
  refine wp_block ?_
  refine wp_while (fun mq A w' => ∃ (pre lft : List Fl) (vv : Value) (Lr2 : BL) (u5 : Nat → Value), mq = lft.length ∧ A = ⟨(pt d.q :: .string p :: un :: un :: .slice none 0 0 :: vv :: u5 6 :: pt d.q :: .bool false :: pt d.q :: pt d.q :: pt d.q :: .map (some d.r) :: pt it :: u5 14 :: u5 15 :: u5 16 :: u5 17 :: u5 18 :: u5 19 :: u5 20 :: u5 21 :: u5 22 :: u5 23 :: u5 24 :: u5 25 :: List.replicate 3 un).toArray, []⟩ ∧ (pre ++ lft).Perm fl ∧ Row 9 1 vv (nmsP pre p).length ((nmsP pre p).map encStr) Lr2 ∧ HA ⟨w, [(it, .it d.r nx (bnA pre) nx)]⟩ Lr2 w') fl.length ?_ ?_
  · exact ⟨[], fl, .slice none 0 0, [], fun ii => (([(6, undef), (14, undef), (15, undef), (16, undef), (17, undef), (18, undef), (19, undef), (20, undef), (21, undef), (22, undef), (23, undef), (24, undef), (25, undef)] : List (Nat × Value)).find? (·.1 == ii)).elim undef (·.2), rfl, by kernel_rfl, List.Perm.refl _, Row.nil 9 1, h3⟩
  rintro _ _ w6 ⟨pre, lft, vv, Lr2, u5, rfl, rfl, hp, hR2, hL⟩
  rcases lft with _ | ⟨g0, lf⟩
  · skip
    refine wp_seq ?_
    refine wl_region ?_
    refine wl_val (.tuple #[.bool false]) (by kernel_rfl) (run_next_end hp hK hL ((hL.old.old.block _ (lt_of_block hm)).trans hm) (by kernel_rfl)) ?_
    refine wl_val (.bool false) (by kernel_rfl) (by kernel_rfl) ?_
    refine wl_nil ?_
    refine then_at (F := ⟨(pt d.q :: .string p :: un :: un :: .slice none 0 0 :: vv :: u5 6 :: pt d.q :: .bool false :: pt d.q :: pt d.q :: pt d.q :: .map (some d.r) :: pt it :: .tuple #[.bool false] :: .bool false :: u5 16 :: u5 17 :: u5 18 :: u5 19 :: u5 20 :: u5 21 :: u5 22 :: u5 23 :: u5 24 :: u5 25 :: List.replicate 3 un).toArray, []⟩) (by kernel_rfl) ?_
    refine wp_seq ?_
    refine wp_cond_false (by kernel_rfl) ?_
    refine wp_exit ?_
    repeat first | refine then_exit ?_ | refine block_exit ?_ | refine block_exit_ne (by decide) ?_
    refine then_at (F := ⟨(pt d.q :: .string p :: un :: un :: .slice none 0 0 :: vv :: u5 6 :: pt d.q :: .bool false :: pt d.q :: pt d.q :: pt d.q :: .map (some d.r) :: pt it :: .tuple #[.bool false] :: .bool false :: u5 16 :: u5 17 :: u5 18 :: u5 19 :: u5 20 :: u5 21 :: u5 22 :: u5 23 :: u5 24 :: u5 25 :: List.replicate 3 un).toArray, []⟩) (by kernel_rfl) ?_
    refine wp_seq ?_
    refine wl_region ?_
    refine wl_val (vv) (by kernel_rfl) (by kernel_rfl) ?_
    refine wl_callx (by kernel_rfl) enter61 #[vv] (by kernel_rfl) (sort_row (L := []) hR2 (by simpa using hL) (by have := nmsP_len pre p; have := hp.length_eq; simp at this; omega)) ?_
    rintro _ w7 ⟨rfl, Lr4, hR4, hS⟩
    refine ⟨_, rfl, ?_⟩
    refine wl_nil ?_
    refine then_at (F := ⟨(pt d.q :: .string p :: un :: un :: .slice none 0 0 :: vv :: u5 6 :: pt d.q :: .bool false :: pt d.q :: pt d.q :: pt d.q :: .map (some d.r) :: pt it :: .tuple #[.bool false] :: .bool false :: u5 16 :: u5 17 :: u5 18 :: u5 19 :: u5 20 :: u5 21 :: u5 22 :: u5 23 :: u5 24 :: u5 25 :: vv :: .tuple #[] :: List.replicate 1 un).toArray, []⟩) (by kernel_rfl) ?_
    refine wp_seq ?_
    refine wl_region ?_
    refine wl_val (vv) (by kernel_rfl) (by kernel_rfl) ?_
    refine wl_val (vv) (by kernel_rfl) (by kernel_rfl) ?_
    refine wl_nil ?_
    refine then_at (F := ⟨(pt d.q :: .string p :: un :: un :: vv :: vv :: u5 6 :: pt d.q :: .bool false :: pt d.q :: pt d.q :: pt d.q :: .map (some d.r) :: pt it :: .tuple #[.bool false] :: .bool false :: u5 16 :: u5 17 :: u5 18 :: u5 19 :: u5 20 :: u5 21 :: u5 22 :: u5 23 :: u5 24 :: u5 25 :: vv :: .tuple #[] :: vv :: List.replicate 0 un).toArray, []⟩) (by kernel_rfl) ?_
    refine wp_ret ?_
    repeat first | refine then_ret ?_ | refine block_ret ?_
    exact bodyPost_ret (v := vv) (by kernel_rfl) rfl ⟨vv, Lr4, rfl, by rw [listD, if_neg (by rw [hd]; decide), ← nms_sort hfl hp, List.length_mergeSort]; exact hR4, HA.noM (by simpa using hS)⟩
  · have hlp := hp.length_eq
    rw [List.length_append, List.length_cons] at hlp
    have hnl := nmsP_len pre p
    refine wp_seq ?_
    refine wl_region ?_
    obtain ⟨A, f, B, wn, hAB, hrn, hn2, hmn⟩ := run_next_some (ρ := _) (x := _) (dst := _) (ty := _) (pos := _) (aft := _) (gd := _) hp hK hL ((hL.old.old.block _ (lt_of_block hm)).trans hm) hrit (by kernel_rfl)
    refine wl_any (by kernel_rfl) hrn ?_
    have hff : f ∈ fl := hp.mem_iff.1 (by rw [hAB]; simp)
    refine wl_val (.bool true) (by kernel_rfl) (by kernel_rfl) ?_
    refine wl_nil ?_
    refine then_at (F := ⟨(pt d.q :: .string p :: un :: un :: .slice none 0 0 :: vv :: u5 6 :: pt d.q :: .bool false :: pt d.q :: pt d.q :: pt d.q :: .map (some d.r) :: pt it :: .tuple #[.bool true, .string f.nm, pt f.p] :: .bool true :: u5 16 :: u5 17 :: u5 18 :: u5 19 :: u5 20 :: u5 21 :: u5 22 :: u5 23 :: u5 24 :: u5 25 :: List.replicate 3 un).toArray, []⟩) (by kernel_rfl) ?_
    refine wp_seq ?_
    refine wp_cond_true (by kernel_rfl) ?_
    refine wp_skip ?_
    refine then_at (F := ⟨(pt d.q :: .string p :: un :: un :: .slice none 0 0 :: vv :: u5 6 :: pt d.q :: .bool false :: pt d.q :: pt d.q :: pt d.q :: .map (some d.r) :: pt it :: .tuple #[.bool true, .string f.nm, pt f.p] :: .bool true :: u5 16 :: u5 17 :: u5 18 :: u5 19 :: u5 20 :: u5 21 :: u5 22 :: u5 23 :: u5 24 :: u5 25 :: List.replicate 3 un).toArray, []⟩) (by kernel_rfl) ?_
    refine wp_block ?_
    refine wp_seq ?_
    refine wl_region ?_
    refine wl_val (.tuple #[.string f.nm, .pointer (some ⟨f.p, 0, none⟩)]) (by kernel_rfl) (run_entry_f hff hK hn2 ((hn2.old.old.block _ (lt_of_block hm)).trans hm) (by kernel_rfl)) ?_
    refine wl_val (.string f.nm) (by kernel_rfl) (by kernel_rfl) ?_
    refine wl_val (.string f.nm) (by kernel_rfl) (by kernel_rfl) ?_
    refine wl_nil ?_
    refine then_at (F := ⟨(pt d.q :: .string p :: un :: un :: .slice none 0 0 :: vv :: .string f.nm :: pt d.q :: .bool false :: pt d.q :: pt d.q :: pt d.q :: .map (some d.r) :: pt it :: .tuple #[.bool true, .string f.nm, pt f.p] :: .bool true :: .tuple #[.string f.nm, pt f.p] :: .string f.nm :: u5 18 :: u5 19 :: u5 20 :: u5 21 :: u5 22 :: u5 23 :: u5 24 :: u5 25 :: List.replicate 3 un).toArray, []⟩) (by kernel_rfl) ?_
    refine wp_seq ?_
    rcases hpx : pfx f.nm p with _ | _
    · refine wl_region ?_
      refine wl_val (.string f.nm) (by kernel_rfl) (by kernel_rfl) ?_
      refine wl_val (.string p) (by kernel_rfl) (by kernel_rfl) ?_
      refine wl_call (v := .bool false) hn2 (by kernel_rfl) enter60 #[.string f.nm, .string p] (by kernel_rfl) (by have := HasPrefix_any f.nm p wn; rw [hpx] at this; exact this) ?_
      intro w8 h9
      refine wl_nil ?_
      refine then_at (F := ⟨(pt d.q :: .string p :: un :: un :: .slice none 0 0 :: vv :: .string f.nm :: pt d.q :: .bool false :: pt d.q :: pt d.q :: pt d.q :: .map (some d.r) :: pt it :: .tuple #[.bool true, .string f.nm, pt f.p] :: .bool true :: .tuple #[.string f.nm, pt f.p] :: .string f.nm :: .string f.nm :: .string p :: .bool false :: u5 21 :: u5 22 :: u5 23 :: u5 24 :: u5 25 :: List.replicate 3 un).toArray, []⟩) (by kernel_rfl) ?_
      refine wp_cond_false (by kernel_rfl) ?_
      refine wp_skip ?_
      refine block_normal ?_
      exact then_I ⟨(A ++ B).length, (by rw [show (g0 :: lf).length = (A ++ f :: B).length by rw [hAB]]; simp), pre ++ [f], A ++ B, vv, Lr2, fun ii => (([(6, .string f.nm), (14, .tuple #[.bool true, .string f.nm, .pointer (some ⟨f.p, 0, none⟩)]), (15, .bool true), (16, .tuple #[.string f.nm, .pointer (some ⟨f.p, 0, none⟩)]), (17, .string f.nm), (18, .string f.nm), (19, .string p), (20, .bool false), (21, u5 21), (22, u5 22), (23, u5 23), (24, u5 24), (25, u5 25)] : List (Nat × Value)).find? (·.1 == ii)).elim undef (·.2), rfl, by kernel_rfl, by rw [hAB] at hp; rw [List.append_assoc]; refine List.Perm.trans (List.Perm.append_left pre ?_) hp; show (f :: (A ++ B)).Perm (A ++ f :: B); exact List.perm_middle.symm, by rw [nmsP_snoc, hpx]; simpa using hR2, h9⟩
    · refine wl_region ?_
      refine wl_val (.string f.nm) (by kernel_rfl) (by kernel_rfl) ?_
      refine wl_val (.string p) (by kernel_rfl) (by kernel_rfl) ?_
      refine wl_call (v := .bool true) hn2 (by kernel_rfl) enter60 #[.string f.nm, .string p] (by kernel_rfl) (by have := HasPrefix_any f.nm p wn; rw [hpx] at this; exact this) ?_
      intro w10 h11
      refine wl_nil ?_
      refine then_at (F := ⟨(pt d.q :: .string p :: un :: un :: .slice none 0 0 :: vv :: .string f.nm :: pt d.q :: .bool false :: pt d.q :: pt d.q :: pt d.q :: .map (some d.r) :: pt it :: .tuple #[.bool true, .string f.nm, pt f.p] :: .bool true :: .tuple #[.string f.nm, pt f.p] :: .string f.nm :: .string f.nm :: .string p :: .bool true :: u5 21 :: u5 22 :: u5 23 :: u5 24 :: u5 25 :: List.replicate 3 un).toArray, []⟩) (by kernel_rfl) ?_
      refine wp_cond_true (by kernel_rfl) ?_
      refine wl_region ?_
      refine wl_val (vv) (by kernel_rfl) (by kernel_rfl) ?_
      refine wl_val (.string f.nm) (by kernel_rfl) (by kernel_rfl) ?_
      refine wl_call (v := .string f.nm) h11 (by kernel_rfl) enter46 #[.string f.nm] (by kernel_rfl) (sclone_any f.nm w10 (by have := hns f hff; omega)) ?_
      intro w12 h13
      refine wl_mks (n := 1) (m := 1) (c := #[.string f.nm]) h13 9 (by kernel_rfl) (by kernel_rfl) ?_
      intro q14 w15 (h16 : HA ⟨w, [(it, .it d.r nx (bnA (pre ++ [f])) nx)]⟩ ((q14, 9, #[.string f.nm]) :: Lr2) w15)
      refine wl_append (Lr := Lr2) (L := []) (m := 1) (c := 1) hR2 (by simpa using h16) (by decide) (.string { data := #[] }) 16 Try.underlying50 info9 rfl (by decide) (by kernel_rfl) (by kernel_rfl) (by kernel_rfl) rfl (by kernel_rfl) (by unfold maxLen; omega) (by omega) (by decide) ?_
      intro v3 w17 Lr3 hR3 h18
      refine wl_val (v3) (by kernel_rfl) (by kernel_rfl) ?_
      refine wl_nil ?_
      refine block_normal ?_
      exact then_I ⟨(A ++ B).length, (by rw [show (g0 :: lf).length = (A ++ f :: B).length by rw [hAB]]; simp), pre ++ [f], A ++ B, v3, (Lr3 ++ []), fun ii => (([(6, .string f.nm), (14, .tuple #[.bool true, .string f.nm, .pointer (some ⟨f.p, 0, none⟩)]), (15, .bool true), (16, .tuple #[.string f.nm, .pointer (some ⟨f.p, 0, none⟩)]), (17, .string f.nm), (18, .string f.nm), (19, .string p), (20, .bool true), (21, vv), (22, .string f.nm), (23, .string f.nm), (24, .slice (some ⟨q14, 0, none⟩) 1 1), (25, v3)] : List (Nat × Value)).find? (·.1 == ii)).elim undef (·.2), rfl, by kernel_rfl, by rw [hAB] at hp; rw [List.append_assoc]; refine List.Perm.trans (List.Perm.append_left pre ?_) hp; show (f :: (A ++ B)).Perm (A ++ f :: B); exact List.perm_middle.symm, by rw [List.append_nil]; rw [nmsP_snoc, if_pos hpx, List.length_append, List.map_append]; simpa [enc_nm] using hR3, h18⟩
theorem List_any {w0 : World} {M : ML} {d : Dk} {D : DS} {L : BL} {w : World} (hD : DH w0 M d D L w) (p : ByteArray) {U N : Nat} (hb : DB D U N) (hN : N ≤ 1000000) :
    Calls Try.prog 29 #[pt d.q, .string p] w fun e w' => ∃ v' Lr', e = .returned v' ∧ Row 9 1 v' (listD D p).length ((listD D p).map encStr) Lr' ∧ HA (bs w) Lr' w' := by
  cases hd : D.down with
  | true => exact List_d hD p hd
  | false => exact List_u hD p hd hb.nm (Nat.le_trans hb.ct hN)
end Go.Proofs.Ytjedhnjjgmbcbaa
