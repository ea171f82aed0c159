/-
  CallsBack.
-/
import Derived.Test.YtmidladenidngaaGH
namespace Go.Proofs.Ytmidladenidngaa
open Go.RowKit

def add0 (s : ByteArray) : ByteArray := s ++ { data := #[0] }
theorem add0_size (s : ByteArray) : (add0 s).size = s.size + 1 := by
  unfold add0
  rw [ByteArray.size_append]
  rfl
theorem callF_E {w : World} {x : Sp} {c : Ca} (hc : callF x = c) (hx : OkS x) :
    Calls Try.prog 28 #[.agg (spC x)] w fun e w' => ∃ sv so L1 L2, e = .returned (.agg (caC c sv so)) ∧ Row 67 3 sv c.li.ds.length (mcl c.li.ds) L1 ∧ Row 9 1 so c.on.length (scl c.on) L2 ∧ HA (bs w) (L1 ++ L2) w' := by
  subst hc
  exact callF_any x hx
set_option linter.unusedVariables false in
set_option maxRecDepth 100000 in
set_option maxHeartbeats 4000000 in
theorem back_core {w : World} (x : Sp) (hx : OkS x) {id : Nat} {c : Ca} {y z : ByteArray} {a : An} (hc : callF x = c) (hl1 : c.li.ds.length ≤ 1000000) (hl2 : c.on.length ≤ 1000000) (he : encC id c = (y, 0)) (hd : decC y = (id, c, 0)) (hcut : decC (y.extract 0 (y.size - 1)) = (0, ca0, 4)) (hmore : decC (add0 y) = (0, ca0, 4)) (hk : chkC c = 0) (y0 : ¬ y.size = 0) (y1 : y.size ≤ 16384) (hyc : (y.extract 0 (y.size - 1)).size ≤ 140737488351232) (hym : (add0 y).size ≤ 140737488351232) (ha : ansF x = a) (ga1 : a.li.ds.length ≤ 1000000) (ga2 : a.its.length ≤ 1000000) (hea : encN id a = (z, 0)) (hda : decN z = (id, a, 0)) (hcuta : decN (z.extract 0 (z.size - 1)) = (0, an0, 4)) (hmora : decN (add0 z) = (0, an0, 4)) (z0 : ¬ z.size = 0) (z1 : z.size ≤ 16384) (hzc : (z.extract 0 (z.size - 1)).size ≤ 140737488351232) (hzm : (add0 z).size ≤ 140737488351232) :
    Calls Try.prog 5 #[iN .u64 id, .agg (spC x)] w fun e w' => e = .returned (.bool true) ∧ Below w.heap.size w w' := by
  have H0 := HA.start w
  have hxk := hx.k
  have hxa := hx.a
  have hxb := hx.b
  have hxn := hx.n
  have hxs := hx.s
  go_enter Try.func5, Try.ntmps5
  refine wp_seq (wl_region ?_)
  refine wl_make (c := spC x) H0 56 ky ky ?_
  intro q1 w2 (h3 : HA (bs w) [(q1, 56, spC x)] w2)
  refine zv (.bool false) ?_
  refine wl_nil (then_at rfl (wp_seq (wl_region ?_)))
  refine wl_load h3 0 rfl ky ky Try.underlying56 rfl ky ?_
  refine wl_callx ky enter28 #[.agg (spC x)] ky (callF_E hc hx) ?_
  rintro _ w11 ⟨sv4, so5, La6, Lb7, rfl, hRa8, hRb9, h10⟩
  refine ⟨_, rfl, ?_⟩
  have h12 : HA (bs w) ((q1, 56, spC x) :: ((La6 ++ Lb7) ++ [])) w11 := (show HA (bs w) ((La6 ++ Lb7) ++ [(q1, 56, spC x)]) w11 from HA.join h3 h10).perm (perm_nil (La6 ++ Lb7) [(q1, 56, spC x)])
  obtain ⟨po13, pc14, hvpo13⟩ := hRa8.form
  subst hvpo13
  obtain ⟨po15, pc16, hvpo15⟩ := hRb9.form
  subst hvpo15
  refine wl_make (c := #[iN .i64 0, iN .i64 0, iN .i64 0, iN .i64 0, iN .i64 0, .string ({ data := #[] }), .slice none 0 0, .string ({ data := #[] }), iN .i64 0, iN .i64 0, .string ({ data := #[] }), .string ({ data := #[] }), iN .i64 0, .string ({ data := #[] }), .string ({ data := #[] }), iN .i64 0, .string ({ data := #[] }), .slice none 0 0, iN .i64 0, iN .u64 0, iN .u64 0, .string ({ data := #[] }), iN .i64 0, .string ({ data := #[] })]) h12 30 ky ky ?_
  intro q17 w18 (h19 : HA (bs w) ((q17, 30, #[iN .i64 0, iN .i64 0, iN .i64 0, iN .i64 0, iN .i64 0, .string ({ data := #[] }), .slice none 0 0, .string ({ data := #[] }), iN .i64 0, iN .i64 0, .string ({ data := #[] }), .string ({ data := #[] }), iN .i64 0, .string ({ data := #[] }), .string ({ data := #[] }), iN .i64 0, .string ({ data := #[] }), .slice none 0 0, iN .i64 0, iN .u64 0, iN .u64 0, .string ({ data := #[] }), iN .i64 0, .string ({ data := #[] })]) :: (q1, 56, spC x) :: ((La6 ++ Lb7) ++ [])) w18)
  refine wl_fill (c' := caC c (.slice po13 c.li.ds.length pc14) (.slice po15 c.on.length pc16)) h19 0 rfl ky ky ky rfl ky ky ?_
  intro w20 (h21 : HA (bs w) ((q17, 30, caC c (.slice po13 c.li.ds.length pc14) (.slice po15 c.on.length pc16)) :: (q1, 56, spC x) :: ((La6 ++ Lb7) ++ [])) w20)
  refine wl_nil (then_at rfl (wp_seq (wl_region ?_)))
  refine zv (iN .u64 id) ?_
  refine wl_load h21 0 rfl ky ky Try.underlying30 rfl ky ?_
  refine wl_call (v := .tuple #[.string y, iN .i64 0]) h21 ky enter8 #[iN .u64 id, .agg (caC c (.slice po13 c.li.ds.length pc14) (.slice po15 c.on.length pc16))] ky (ec_E c (At.row hRa8 (fun y hy => h21.blk y (by simp [hy]))) (At.row hRb9 (fun y hy => h21.blk y (by simp [hy]))) hl1 hl2 he) ?_
  intro w22 h23
  refine zv (.tuple #[.string y, iN .i64 0]) ?_
  refine zv (.string y) ?_
  refine zv (iN .i64 0) ?_
  refine zv (.string y) ?_
  refine zv (iN .i64 0) ?_
  refine wl_nil (then_at rfl (wp_seq (wl_region ?_)))
  refine zv (.string y) ?_
  refine wl_callx ky enter18 #[.string y] ky (dc_E hd (Nat.le_trans y1 (by decide))) ?_
  rintro _ w31 ⟨sv24, so25, La26, Lb27, rfl, hRa28, hRb29, h30⟩
  refine ⟨_, rfl, ?_⟩
  have h32 : HA (bs w) ((q17, 30, caC c (.slice po13 c.li.ds.length pc14) (.slice po15 c.on.length pc16)) :: (q1, 56, spC x) :: ((La26 ++ (Lb27 ++ [])) ++ ((La6 ++ Lb7) ++ []))) w31 := (show HA (bs w) ((La26 ++ (Lb27 ++ [])) ++ ([(q17, 30, caC c (.slice po13 c.li.ds.length pc14) (.slice po15 c.on.length pc16)), (q1, 56, spC x)] ++ ((La6 ++ Lb7) ++ []))) w31 from HA.join h23 h30).perm (perm_mv [(q17, 30, caC c (.slice po13 c.li.ds.length pc14) (.slice po15 c.on.length pc16)), (q1, 56, spC x)] (La26 ++ (Lb27 ++ [])) ((La6 ++ Lb7) ++ [])).symm
  obtain ⟨po33, pc34, hvpo33⟩ := hRa28.form
  subst hvpo33
  obtain ⟨po35, pc36, hvpo35⟩ := hRb29.form
  subst hvpo35
  refine zv (.tuple #[iN .u64 id, .agg (caC c (.slice po33 c.li.ds.length pc34) (.slice po35 c.on.length pc36)), iN .i64 0]) ?_
  refine zv (iN .u64 id) ?_
  refine zv (.agg (caC c (.slice po33 c.li.ds.length pc34) (.slice po35 c.on.length pc36))) ?_
  refine zv (iN .i64 0) ?_
  refine wl_make (c := #[iN .i64 0, iN .i64 0, iN .i64 0, iN .i64 0, iN .i64 0, .string ({ data := #[] }), .slice none 0 0, .string ({ data := #[] }), iN .i64 0, iN .i64 0, .string ({ data := #[] }), .string ({ data := #[] }), iN .i64 0, .string ({ data := #[] }), .string ({ data := #[] }), iN .i64 0, .string ({ data := #[] }), .slice none 0 0, iN .i64 0, iN .u64 0, iN .u64 0, .string ({ data := #[] }), iN .i64 0, .string ({ data := #[] })]) h32 30 ky ky ?_
  intro q37 w38 (h39 : HA (bs w) ((q37, 30, #[iN .i64 0, iN .i64 0, iN .i64 0, iN .i64 0, iN .i64 0, .string ({ data := #[] }), .slice none 0 0, .string ({ data := #[] }), iN .i64 0, iN .i64 0, .string ({ data := #[] }), .string ({ data := #[] }), iN .i64 0, .string ({ data := #[] }), .string ({ data := #[] }), iN .i64 0, .string ({ data := #[] }), .slice none 0 0, iN .i64 0, iN .u64 0, iN .u64 0, .string ({ data := #[] }), iN .i64 0, .string ({ data := #[] })]) :: (q17, 30, caC c (.slice po13 c.li.ds.length pc14) (.slice po15 c.on.length pc16)) :: (q1, 56, spC x) :: ((La26 ++ (Lb27 ++ [])) ++ ((La6 ++ Lb7) ++ []))) w38)
  refine zv (iN .u64 id) ?_
  refine wl_fill (c' := caC c (.slice po33 c.li.ds.length pc34) (.slice po35 c.on.length pc36)) h39 0 rfl ky ky ky rfl ky ky ?_
  intro w40 (h41 : HA (bs w) ((q37, 30, caC c (.slice po33 c.li.ds.length pc34) (.slice po35 c.on.length pc36)) :: (q17, 30, caC c (.slice po13 c.li.ds.length pc14) (.slice po15 c.on.length pc16)) :: (q1, 56, spC x) :: ((La26 ++ (Lb27 ++ [])) ++ ((La6 ++ Lb7) ++ []))) w40)
  refine zv (iN .i64 0) ?_
  refine wl_nil (then_at rfl (wp_seq (wp_seq (wl_region ?_))))
  refine zv (iN .i64 0) ?_
  refine zu (.bool false) (run_nei (k := .i64) (a := 0) (b := 0) ky ky false (by decide)) ?_
  refine zv (.bool false) ?_
  refine zv (iN .i64 0) ?_
  refine zu (.bool false) (run_nei (k := .i64) (a := 0) (b := 0) ky ky false (by decide)) ?_
  refine zv (.bool false) ?_
  refine zv (.bool false) ?_
  refine zv (iN .u64 id) ?_
  refine zv (iN .u64 id) ?_
  refine zu (.bool false) (run_nei (k := .u64) (a := id) (b := id) ky ky false (decide_eq_false (fun h => h rfl))) ?_
  refine zv (.bool false) ?_
  refine zv (.bool false) ?_
  refine wl_load h41 1 rfl ky ky Try.underlying30 rfl ky ?_
  refine wl_load h41 0 rfl ky ky Try.underlying30 rfl ky ?_
  refine wl_call (v := .bool true) h41 ky enter12 #[.agg (caC c (.slice po13 c.li.ds.length pc14) (.slice po15 c.on.length pc16)), .agg (caC c (.slice po33 c.li.ds.length pc34) (.slice po35 c.on.length pc36))] ky (((smc_any c c (At.row hRa8 (fun y hy => h41.blk y (by simp [hy]))) (At.row hRb9 (fun y hy => h41.blk y (by simp [hy]))) (At.row hRa28 (fun y hy => h41.blk y (by simp [hy]))) (At.row hRb29 (fun y hy => h41.blk y (by simp [hy]))) hl1 hl2).mono fun _ _ hh => ⟨by rw [hh.1, (sameC_eq c c).trans (decide_eq_true rfl)], hh.2⟩)) ?_
  intro w42 h43
  refine zv (.bool false) ?_
  refine zv (.bool false) ?_
  refine zv (.bool false) ?_
  refine wl_load h43 1 rfl ky ky Try.underlying30 rfl ky ?_
  refine wl_call (v := iN .i64 0) h43 ky enter10 #[.agg (caC c (.slice po13 c.li.ds.length pc14) (.slice po15 c.on.length pc16))] ky (((chkC_any c (At.row hRa8 (fun y hy => h43.blk y (by simp [hy]))) (At.row hRb9 (fun y hy => h43.blk y (by simp [hy]))) hl1 hl2).mono fun _ _ hh => ⟨by rw [hh.1, hk], hh.2⟩)) ?_
  intro w44 h45
  refine zu (.bool false) (run_nei (k := .i64) (a := 0) (b := 0) ky ky false (by decide)) ?_
  refine zv (.bool false) ?_
  refine zv (.bool false) ?_
  refine zv (.string y) ?_
  refine zu (iN .i64 y.size) (run_len (s := y) ky) ?_
  refine zu (.bool false) (run_eqi (k := .i64) (a := y.size) (b := 0) ky ky false (decide_eq_false y0)) ?_
  refine zv (.bool false) ?_
  refine wl_nil (then_at rfl ?_)
  refine wp_cond_false ky ?_
  refine wp_skip (then_at rfl (wp_seq ?_))
  have h46 : HA (bs w) [(q1, 56, spC x)] w44 := h45.sub (List.Sublist.cons _ (List.Sublist.cons _ (List.Sublist.cons_cons _ (List.nil_sublist _))))
  refine wl_region ?_
  refine zv (.string y) ?_
  refine zv (.string y) ?_
  refine zu (iN .i64 y.size) (run_len (s := y) ky) ?_
  refine zu (iN .i64 (y.size - 1)) (run_sub (k := .i64) (a := y.size) (b := 1) ky ky (by first | omega | (simp only [top]; omega)) (by first | omega | (simp only [top]; omega))) ?_
  refine zu (.string (y.extract 0 (y.size - 1))) (run_cut_hi (s := y) (b := y.size - 1) ky ky (by omega)) ?_
  refine wl_callx ky enter18 #[.string (y.extract 0 (y.size - 1))] ky (dc_E hcut hyc) ?_
  rintro _ w54 ⟨sv47, so48, La49, Lb50, rfl, hRa51, hRb52, h53⟩
  refine ⟨_, rfl, ?_⟩
  have h55 := HA.keep _ _ h46 h53.old.old
  refine zv (.tuple #[iN .u64 0, .agg (caC ca0 sv47 so48), iN .i64 4]) ?_
  refine zv (iN .u64 0) ?_
  refine zv (.agg (caC ca0 sv47 so48)) ?_
  refine zv (iN .i64 4) ?_
  refine zv (iN .i64 4) ?_
  refine wl_nil (then_at rfl (wp_seq (wl_region ?_)))
  refine zv (.string y) ?_
  refine zu (.string (add0 y)) (run_cat (s := y) (t := { data := #[0] }) ky ky (by have h2 : ({ data := #[0] } : ByteArray).size = 1 := rfl; omega)) ?_
  refine wl_callx ky enter18 #[.string (add0 y)] ky (dc_E hmore hym) ?_
  rintro _ w63 ⟨sv56, so57, La58, Lb59, rfl, hRa60, hRb61, h62⟩
  refine ⟨_, rfl, ?_⟩
  have h64 := HA.keep _ _ h55 h62.old.old
  refine zv (.tuple #[iN .u64 0, .agg (caC ca0 sv56 so57), iN .i64 4]) ?_
  refine zv (iN .u64 0) ?_
  refine zv (.agg (caC ca0 sv56 so57)) ?_
  refine zv (iN .i64 4) ?_
  refine zv (iN .i64 4) ?_
  refine wl_nil (then_at rfl (wp_seq (wp_seq (wl_region ?_))))
  refine zv (iN .i64 4) ?_
  refine zu (.bool false) (run_nei (k := .i64) (a := 4) (b := 4) ky ky false (by decide)) ?_
  refine zv (.bool false) ?_
  refine zv (iN .i64 4) ?_
  refine zu (.bool false) (run_nei (k := .i64) (a := 4) (b := 4) ky ky false (by decide)) ?_
  refine zv (.bool false) ?_
  refine wl_nil (then_at rfl ?_)
  refine wp_cond_false ky ?_
  refine wp_skip (then_at rfl (wp_seq ?_))
  refine wp_region_wx (HA (bs w) [(q1, 56, spC x)]) (fun AQ w' => ∃ (q68 : Nat), AQ = ⟨(iN .u64 id :: .agg (spC x) :: un :: pt q1 :: .bool false :: pt q17 :: .string y :: iN .i64 4 :: iN .u64 id :: pt q37 :: iN .i64 4 :: pt q68 :: un :: un :: .agg (spC x) :: .agg (caC c (.slice po13 c.li.ds.length pc14) (.slice po15 c.on.length pc16)) :: .tuple #[.string y, iN .i64 0] :: iN .u64 id :: .agg (caC c (.slice po13 c.li.ds.length pc14) (.slice po15 c.on.length pc16)) :: .tuple #[.string y, iN .i64 0] :: .string y :: iN .i64 0 :: .tuple #[iN .u64 id, .agg (caC c (.slice po33 c.li.ds.length pc34) (.slice po35 c.on.length pc36)), iN .i64 0] :: .string y :: .tuple #[iN .u64 id, .agg (caC c (.slice po33 c.li.ds.length pc34) (.slice po35 c.on.length pc36)), iN .i64 0] :: iN .u64 id :: .agg (caC c (.slice po33 c.li.ds.length pc34) (.slice po35 c.on.length pc36)) :: iN .i64 0 :: iN .i64 0 :: .bool false :: .bool false :: iN .i64 0 :: .bool false :: .bool false :: .bool false :: iN .u64 id :: iN .u64 id :: .bool false :: .bool false :: .bool false :: .agg (caC c (.slice po13 c.li.ds.length pc14) (.slice po15 c.on.length pc16)) :: .agg (caC c (.slice po33 c.li.ds.length pc34) (.slice po35 c.on.length pc36)) :: .bool true :: .bool false :: .bool false :: .bool false :: .agg (caC c (.slice po13 c.li.ds.length pc14) (.slice po15 c.on.length pc16)) :: iN .i64 0 :: .bool false :: .bool false :: .bool false :: .string y :: iN .i64 y.size :: .bool false :: .bool false :: .tuple #[iN .u64 0, .agg (caC ca0 sv47 so48), iN .i64 4] :: .string y :: .string y :: iN .i64 y.size :: iN .i64 (y.size - 1) :: .string (y.extract 0 (y.size - 1)) :: .tuple #[iN .u64 0, .agg (caC ca0 sv47 so48), iN .i64 4] :: iN .u64 0 :: .agg (caC ca0 sv47 so48) :: iN .i64 4 :: .tuple #[iN .u64 0, .agg (caC ca0 sv56 so57), iN .i64 4] :: .string y :: .string (add0 y) :: .tuple #[iN .u64 0, .agg (caC ca0 sv56 so57), iN .i64 4] :: iN .u64 0 :: .agg (caC ca0 sv56 so57) :: iN .i64 4 :: iN .i64 4 :: .bool false :: .bool false :: iN .i64 4 :: .bool false :: .bool false :: .pointer (some ⟨q1, 1, none⟩) :: iN .u8 x.a :: iN .u8 (x.a % 21) :: iN .i64 (x.a % 21) :: .pointer (some ⟨q1, 4, none⟩) :: .string x.s :: .pointer (some ⟨q1, 4, none⟩) :: .string x.s :: iN .i64 x.s.size :: iN .i64 (min x.s.size 4096) :: .string (x.s.extract 0 (min x.s.size 4096)) :: .agg #[iN .i64 0, iN .i64 0, iN .i64 0, .string ({ data := #[] }), .slice none 0 0, .string ({ data := #[] }), iN .i64 0, iN .i64 0, .string ({ data := #[] }), .string ({ data := #[] }), iN .i64 0, .string ({ data := #[] }), .string ({ data := #[] }), iN .i64 0, .string ({ data := #[] }), .slice none 0 0, .string (x.s.extract 0 (min x.s.size 4096)), iN .i64 (x.a % 21)] :: List.replicate 113 un).toArray, []⟩ ∧ HA (bs w) [(q68, 47, #[iN .i64 0, iN .i64 0, iN .i64 0, .string ({ data := #[] }), .slice none 0 0, .string ({ data := #[] }), iN .i64 0, iN .i64 0, .string ({ data := #[] }), .string ({ data := #[] }), iN .i64 0, .string ({ data := #[] }), .string ({ data := #[] }), iN .i64 0, .string ({ data := #[] }), .slice none 0 0, .string (x.s.extract 0 (min x.s.size 4096)), iN .i64 (x.a % 21)]), (q1, 56, spC x)] w') 14 ky ky ky ky ky (h64.drew) ?_ ?_
  · have h65 := h64.drew
    refine zp 0 (.pointer (some ⟨q1, 1, none⟩)) ?_
    refine wx_val (i := 1) (iN .u8 x.a) rfl rfl ky ky (fun w' h' => run_load1 (fun w => Try.isAgg5 w) ky (((h'.get 0 rfl).cell 1).trans rfl)) ?_
    refine wx_pure (i := 2) (iN .u8 (x.a % 21)) rfl rfl ky ky (fun _ => (run_rem (k := .u8) (a := x.a) (b := 21) ky ky (by omega))) ?_
    refine wx_pure (i := 3) (iN .i64 (x.a % 21)) rfl rfl ky ky (fun _ => (run_conv .i64 Try.underlying5 Try.underlying3 ky (by first | omega | (simp only [top]; omega)))) ?_
    refine zp 4 (.pointer (some ⟨q1, 4, none⟩)) ?_
    refine wx_val (i := 5) (.string x.s) rfl rfl ky ky (fun w' h' => run_load1 (fun w => Try.isAgg9 w) ky (((h'.get 0 rfl).cell 4).trans rfl)) ?_
    refine zp 6 (.pointer (some ⟨q1, 4, none⟩)) ?_
    refine wx_val (i := 7) (.string x.s) rfl rfl ky ky (fun w' h' => run_load1 (fun w => Try.isAgg9 w) ky (((h'.get 0 rfl).cell 4).trans rfl)) ?_
    refine wx_pure (i := 8) (iN .i64 x.s.size) rfl rfl ky ky (fun _ => (run_len (s := x.s) ky)) ?_
    refine wx_pure (i := 9) (iN .i64 (min x.s.size 4096)) rfl rfl ky ky (fun _ => (run_min (i := x.s.size) (j := 4096) ky ky)) ?_
    refine wx_pure (i := 10) (.string (x.s.extract 0 (min x.s.size 4096))) rfl rfl ky ky (fun _ => (run_cut_hi (s := x.s) (b := min x.s.size 4096) ky ky (by omega))) ?_
    refine zp 11 (.agg #[iN .i64 0, iN .i64 0, iN .i64 0, .string ({ data := #[] }), .slice none 0 0, .string ({ data := #[] }), iN .i64 0, iN .i64 0, .string ({ data := #[] }), .string ({ data := #[] }), iN .i64 0, .string ({ data := #[] }), .string ({ data := #[] }), iN .i64 0, .string ({ data := #[] }), .slice none 0 0, .string (x.s.extract 0 (min x.s.size 4096)), iN .i64 (x.a % 21)]) ?_
    refine wx_one 12 ky ?_
    refine ex_makeT (c := #[iN .i64 0, iN .i64 0, iN .i64 0, .string ({ data := #[] }), .slice none 0 0, .string ({ data := #[] }), iN .i64 0, iN .i64 0, .string ({ data := #[] }), .string ({ data := #[] }), iN .i64 0, .string ({ data := #[] }), .string ({ data := #[] }), iN .i64 0, .string ({ data := #[] }), .slice none 0 0, .string ({ data := #[] }), iN .i64 0]) rfl ky h65 47 (fun q => .pointer (some ⟨q, 0, none⟩)) (fun _ => ky) ?_
    intro q68 w66 (h67 : HA (bs w) [(q68, 47, #[iN .i64 0, iN .i64 0, iN .i64 0, .string ({ data := #[] }), .slice none 0 0, .string ({ data := #[] }), iN .i64 0, iN .i64 0, .string ({ data := #[] }), .string ({ data := #[] }), iN .i64 0, .string ({ data := #[] }), .string ({ data := #[] }), iN .i64 0, .string ({ data := #[] }), .slice none 0 0, .string ({ data := #[] }), iN .i64 0]), (q1, 56, spC x)] w66)
    refine ⟨_, .inr rfl, (HA.sub h67 (List.Sublist.cons _ (List.Sublist.cons_cons _ (List.Sublist.refl _)))), ?_⟩
    refine wx_one 13 ky ?_
    refine ex_puts (d := #[iN .i64 0, iN .i64 0, iN .i64 0, .string ({ data := #[] }), .slice none 0 0, .string ({ data := #[] }), iN .i64 0, iN .i64 0, .string ({ data := #[] }), .string ({ data := #[] }), iN .i64 0, .string ({ data := #[] }), .string ({ data := #[] }), iN .i64 0, .string ({ data := #[] }), .slice none 0 0, .string (x.s.extract 0 (min x.s.size 4096)), iN .i64 (x.a % 21)]) (c' := #[iN .i64 0, iN .i64 0, iN .i64 0, .string ({ data := #[] }), .slice none 0 0, .string ({ data := #[] }), iN .i64 0, iN .i64 0, .string ({ data := #[] }), .string ({ data := #[] }), iN .i64 0, .string ({ data := #[] }), .string ({ data := #[] }), iN .i64 0, .string ({ data := #[] }), .slice none 0 0, .string (x.s.extract 0 (min x.s.size 4096)), iN .i64 (x.a % 21)]) (off := 0) rfl ky h67 0 rfl ky ky ky ky ky ky ?_
    intro w72 (h71 : HA (bs w) [(q68, 47, #[iN .i64 0, iN .i64 0, iN .i64 0, .string ({ data := #[] }), .slice none 0 0, .string ({ data := #[] }), iN .i64 0, iN .i64 0, .string ({ data := #[] }), .string ({ data := #[] }), iN .i64 0, .string ({ data := #[] }), .string ({ data := #[] }), iN .i64 0, .string ({ data := #[] }), .slice none 0 0, .string (x.s.extract 0 (min x.s.size 4096)), iN .i64 (x.a % 21)]), (q1, 56, spC x)] w72)
    refine ⟨_, .inl ky, h71, ?_⟩
    refine wx_end fun w73 hbx _ => ?_
    have h74 := HA.keep _ _ h71 hbx
    exact ⟨q68, by kernel_rfl, h74⟩
  · rintro _ w75 ⟨q68, rfl, h76⟩
    refine then_at rfl (wp_seq ?_)
    refine wp_meet (fun AQ w' => ∃ (lv : Li) (pl : Option Addr) (cl : Nat) (Ll : BL) (u77 : Nat → Value), AQ = ⟨(iN .u64 id :: .agg (spC x) :: un :: pt q1 :: .bool false :: pt q17 :: .string y :: iN .i64 4 :: iN .u64 id :: pt q37 :: iN .i64 4 :: pt q68 :: un :: un :: .agg (spC x) :: .agg (caC c (.slice po13 c.li.ds.length pc14) (.slice po15 c.on.length pc16)) :: .tuple #[.string y, iN .i64 0] :: iN .u64 id :: .agg (caC c (.slice po13 c.li.ds.length pc14) (.slice po15 c.on.length pc16)) :: .tuple #[.string y, iN .i64 0] :: .string y :: iN .i64 0 :: .tuple #[iN .u64 id, .agg (caC c (.slice po33 c.li.ds.length pc34) (.slice po35 c.on.length pc36)), iN .i64 0] :: .string y :: .tuple #[iN .u64 id, .agg (caC c (.slice po33 c.li.ds.length pc34) (.slice po35 c.on.length pc36)), iN .i64 0] :: iN .u64 id :: .agg (caC c (.slice po33 c.li.ds.length pc34) (.slice po35 c.on.length pc36)) :: iN .i64 0 :: iN .i64 0 :: .bool false :: .bool false :: iN .i64 0 :: .bool false :: .bool false :: .bool false :: iN .u64 id :: iN .u64 id :: .bool false :: .bool false :: .bool false :: .agg (caC c (.slice po13 c.li.ds.length pc14) (.slice po15 c.on.length pc16)) :: .agg (caC c (.slice po33 c.li.ds.length pc34) (.slice po35 c.on.length pc36)) :: .bool true :: .bool false :: .bool false :: .bool false :: .agg (caC c (.slice po13 c.li.ds.length pc14) (.slice po15 c.on.length pc16)) :: iN .i64 0 :: .bool false :: .bool false :: .bool false :: .string y :: iN .i64 y.size :: .bool false :: .bool false :: .tuple #[iN .u64 0, .agg (caC ca0 sv47 so48), iN .i64 4] :: .string y :: .string y :: iN .i64 y.size :: iN .i64 (y.size - 1) :: .string (y.extract 0 (y.size - 1)) :: .tuple #[iN .u64 0, .agg (caC ca0 sv47 so48), iN .i64 4] :: iN .u64 0 :: .agg (caC ca0 sv47 so48) :: iN .i64 4 :: .tuple #[iN .u64 0, .agg (caC ca0 sv56 so57), iN .i64 4] :: .string y :: .string (add0 y) :: .tuple #[iN .u64 0, .agg (caC ca0 sv56 so57), iN .i64 4] :: iN .u64 0 :: .agg (caC ca0 sv56 so57) :: iN .i64 4 :: iN .i64 4 :: .bool false :: .bool false :: iN .i64 4 :: .bool false :: .bool false :: .pointer (some ⟨q1, 1, none⟩) :: iN .u8 x.a :: iN .u8 (x.a % 21) :: iN .i64 (x.a % 21) :: .pointer (some ⟨q1, 4, none⟩) :: .string x.s :: .pointer (some ⟨q1, 4, none⟩) :: .string x.s :: iN .i64 x.s.size :: iN .i64 (min x.s.size 4096) :: .string (x.s.extract 0 (min x.s.size 4096)) :: .agg #[iN .i64 0, iN .i64 0, iN .i64 0, .string ({ data := #[] }), .slice none 0 0, .string ({ data := #[] }), iN .i64 0, iN .i64 0, .string ({ data := #[] }), .string ({ data := #[] }), iN .i64 0, .string ({ data := #[] }), .string ({ data := #[] }), iN .i64 0, .string ({ data := #[] }), .slice none 0 0, .string (x.s.extract 0 (min x.s.size 4096)), iN .i64 (x.a % 21)] :: u77 90 :: u77 91 :: u77 92 :: u77 93 :: u77 94 :: u77 95 :: u77 96 :: List.replicate 106 un).toArray, []⟩ ∧ lv = lF x ∧ Row 67 3 (.slice pl lv.ds.length cl) lv.ds.length (mcl lv.ds) Ll ∧ HA (bs w) ((q68, 47, #[iN .i64 0, .int .i64 lv.u, .int .i64 lv.v, .string lv.ac, .slice pl lv.ds.length cl, .string lv.sg, iN .i64 0, iN .i64 0, .string ({ data := #[] }), .string ({ data := #[] }), iN .i64 0, .string ({ data := #[] }), .string ({ data := #[] }), iN .i64 0, .string ({ data := #[] }), .slice none 0 0, .string (x.s.extract 0 (min x.s.size 4096)), iN .i64 (x.a % 21)]) :: (q1, 56, spC x) :: (Ll ++ [])) w') ?_ ?_
    · refine wp_seq ?_
      refine wl_region ?_
      refine zv (.pointer (some ⟨q1, 0, none⟩)) ?_
      refine zu (iN .u8 x.k) (run_load1 (fun w => Try.isAgg5 w) ky (((h76.get 1 rfl).cell 0).trans rfl)) ?_
      refine zu (iN .u8 (x.k % 2)) (run_rem (k := .u8) (a := x.k) (b := 2) ky ky (by omega)) ?_
      rcases q78 : decide (x.k % 2 = 0) with _ | _
      · refine zu (.bool false) (run_eqi (k := .u8) (a := x.k % 2) (b := 0) ky ky false q78) ?_
        refine wl_nil (then_at rfl ?_)
        refine wp_cond_false ky ?_
        refine wp_skip ?_
        exact then_I ⟨⟨0, 0, { data := #[] }, [], { data := #[] }⟩, none, 0, [], fun ii => (([(90, .pointer (some ⟨q1, 0, none⟩)), (91, iN .u8 x.k), (92, iN .u8 (x.k % 2)), (93, .bool false)] : List (Nat × Value)).find? (·.1 == ii)).elim undef (·.2), by kernel_rfl, (by unfold lF; rw [q78]; rfl), Row.nil 67 3, h76⟩
      refine zu (.bool true) (run_eqi (k := .u8) (a := x.k % 2) (b := 0) ky ky true q78) ?_
      refine wl_nil (then_at rfl ?_)
      refine wp_cond_true ky ?_
      refine wl_region ?_
      refine wl_load h76 1 rfl ky ky Try.underlying56 rfl ky ?_
      refine wl_callx ky enter29 #[.agg (spC x)] ky (lisF_any x hx) ?_
      rintro _ w83 ⟨sv79, Lr80, rfl, hR81, h82⟩
      refine ⟨_, rfl, ?_⟩
      have h84 : HA (bs w) ((q68, 47, #[iN .i64 0, iN .i64 0, iN .i64 0, .string ({ data := #[] }), .slice none 0 0, .string ({ data := #[] }), iN .i64 0, iN .i64 0, .string ({ data := #[] }), .string ({ data := #[] }), iN .i64 0, .string ({ data := #[] }), .string ({ data := #[] }), iN .i64 0, .string ({ data := #[] }), .slice none 0 0, .string (x.s.extract 0 (min x.s.size 4096)), iN .i64 (x.a % 21)]) :: (q1, 56, spC x) :: (Lr80 ++ [])) w83 := (show HA (bs w) (Lr80 ++ [(q68, 47, #[iN .i64 0, iN .i64 0, iN .i64 0, .string ({ data := #[] }), .slice none 0 0, .string ({ data := #[] }), iN .i64 0, iN .i64 0, .string ({ data := #[] }), .string ({ data := #[] }), iN .i64 0, .string ({ data := #[] }), .string ({ data := #[] }), iN .i64 0, .string ({ data := #[] }), .slice none 0 0, .string (x.s.extract 0 (min x.s.size 4096)), iN .i64 (x.a % 21)]), (q1, 56, spC x)]) w83 from HA.join h76 h82).perm (perm_nil Lr80 [(q68, 47, #[iN .i64 0, iN .i64 0, iN .i64 0, .string ({ data := #[] }), .slice none 0 0, .string ({ data := #[] }), iN .i64 0, iN .i64 0, .string ({ data := #[] }), .string ({ data := #[] }), iN .i64 0, .string ({ data := #[] }), .string ({ data := #[] }), iN .i64 0, .string ({ data := #[] }), .slice none 0 0, .string (x.s.extract 0 (min x.s.size 4096)), iN .i64 (x.a % 21)]), (q1, 56, spC x)])
      obtain ⟨po85, pc86, hvpo85⟩ := hR81.form
      subst hvpo85
      refine zv (.pointer (some ⟨q68, 1, none⟩)) ?_
      refine wl_puts (d := liC (lisF x) (.slice po85 ((lisF x).ds).length pc86)) (c' := #[iN .i64 0, .int .i64 ((lisF x).u), .int .i64 ((lisF x).v), .string ((lisF x).ac), .slice po85 ((lisF x).ds).length pc86, .string ((lisF x).sg), iN .i64 0, iN .i64 0, .string ({ data := #[] }), .string ({ data := #[] }), iN .i64 0, .string ({ data := #[] }), .string ({ data := #[] }), iN .i64 0, .string ({ data := #[] }), .slice none 0 0, .string (x.s.extract 0 (min x.s.size 4096)), iN .i64 (x.a % 21)]) h84 0 rfl (off := 1) ky ky ky ky ky ky ky ?_
      intro w87 (h88 : HA (bs w) ((q68, 47, #[iN .i64 0, .int .i64 ((lisF x).u), .int .i64 ((lisF x).v), .string ((lisF x).ac), .slice po85 ((lisF x).ds).length pc86, .string ((lisF x).sg), iN .i64 0, iN .i64 0, .string ({ data := #[] }), .string ({ data := #[] }), iN .i64 0, .string ({ data := #[] }), .string ({ data := #[] }), iN .i64 0, .string ({ data := #[] }), .slice none 0 0, .string (x.s.extract 0 (min x.s.size 4096)), iN .i64 (x.a % 21)]) :: (q1, 56, spC x) :: (Lr80 ++ [])) w87)
      refine wl_nil ?_
      exact then_I ⟨lisF x, po85, pc86, Lr80, fun ii => (([(90, .pointer (some ⟨q1, 0, none⟩)), (91, iN .u8 x.k), (92, iN .u8 (x.k % 2)), (93, .bool true), (94, .agg (spC x)), (95, .agg (liC (lisF x) (.slice po85 ((lisF x).ds).length pc86))), (96, .pointer (some ⟨q68, 1, none⟩))] : List (Nat × Value)).find? (·.1 == ii)).elim undef (·.2), by kernel_rfl, (by unfold lF; rw [q78]; rfl), hR81, h88⟩
    · rintro _ w89 ⟨lv, pl, cl, Ll, u77, rfl, hlv, hRl, h90⟩
      refine wp_seq ?_
      refine wp_meet (fun AQ w' => ∃ (bv : Bu) (u91 : Nat → Value), AQ = ⟨(iN .u64 id :: .agg (spC x) :: un :: pt q1 :: .bool false :: pt q17 :: .string y :: iN .i64 4 :: iN .u64 id :: pt q37 :: iN .i64 4 :: pt q68 :: un :: un :: .agg (spC x) :: .agg (caC c (.slice po13 c.li.ds.length pc14) (.slice po15 c.on.length pc16)) :: .tuple #[.string y, iN .i64 0] :: iN .u64 id :: .agg (caC c (.slice po13 c.li.ds.length pc14) (.slice po15 c.on.length pc16)) :: .tuple #[.string y, iN .i64 0] :: .string y :: iN .i64 0 :: .tuple #[iN .u64 id, .agg (caC c (.slice po33 c.li.ds.length pc34) (.slice po35 c.on.length pc36)), iN .i64 0] :: .string y :: .tuple #[iN .u64 id, .agg (caC c (.slice po33 c.li.ds.length pc34) (.slice po35 c.on.length pc36)), iN .i64 0] :: iN .u64 id :: .agg (caC c (.slice po33 c.li.ds.length pc34) (.slice po35 c.on.length pc36)) :: iN .i64 0 :: iN .i64 0 :: .bool false :: .bool false :: iN .i64 0 :: .bool false :: .bool false :: .bool false :: iN .u64 id :: iN .u64 id :: .bool false :: .bool false :: .bool false :: .agg (caC c (.slice po13 c.li.ds.length pc14) (.slice po15 c.on.length pc16)) :: .agg (caC c (.slice po33 c.li.ds.length pc34) (.slice po35 c.on.length pc36)) :: .bool true :: .bool false :: .bool false :: .bool false :: .agg (caC c (.slice po13 c.li.ds.length pc14) (.slice po15 c.on.length pc16)) :: iN .i64 0 :: .bool false :: .bool false :: .bool false :: .string y :: iN .i64 y.size :: .bool false :: .bool false :: .tuple #[iN .u64 0, .agg (caC ca0 sv47 so48), iN .i64 4] :: .string y :: .string y :: iN .i64 y.size :: iN .i64 (y.size - 1) :: .string (y.extract 0 (y.size - 1)) :: .tuple #[iN .u64 0, .agg (caC ca0 sv47 so48), iN .i64 4] :: iN .u64 0 :: .agg (caC ca0 sv47 so48) :: iN .i64 4 :: .tuple #[iN .u64 0, .agg (caC ca0 sv56 so57), iN .i64 4] :: .string y :: .string (add0 y) :: .tuple #[iN .u64 0, .agg (caC ca0 sv56 so57), iN .i64 4] :: iN .u64 0 :: .agg (caC ca0 sv56 so57) :: iN .i64 4 :: iN .i64 4 :: .bool false :: .bool false :: iN .i64 4 :: .bool false :: .bool false :: .pointer (some ⟨q1, 1, none⟩) :: iN .u8 x.a :: iN .u8 (x.a % 21) :: iN .i64 (x.a % 21) :: .pointer (some ⟨q1, 4, none⟩) :: .string x.s :: .pointer (some ⟨q1, 4, none⟩) :: .string x.s :: iN .i64 x.s.size :: iN .i64 (min x.s.size 4096) :: .string (x.s.extract 0 (min x.s.size 4096)) :: .agg #[iN .i64 0, iN .i64 0, iN .i64 0, .string ({ data := #[] }), .slice none 0 0, .string ({ data := #[] }), iN .i64 0, iN .i64 0, .string ({ data := #[] }), .string ({ data := #[] }), iN .i64 0, .string ({ data := #[] }), .string ({ data := #[] }), iN .i64 0, .string ({ data := #[] }), .slice none 0 0, .string (x.s.extract 0 (min x.s.size 4096)), iN .i64 (x.a % 21)] :: u77 90 :: u77 91 :: u77 92 :: u77 93 :: u77 94 :: u77 95 :: u77 96 :: u91 97 :: u91 98 :: u91 99 :: u91 100 :: u91 101 :: u91 102 :: u91 103 :: List.replicate 99 un).toArray, []⟩ ∧ bv = bF x ∧ HA (bs w) ((q68, 47, #[iN .i64 0, .int .i64 lv.u, .int .i64 lv.v, .string lv.ac, .slice pl lv.ds.length cl, .string lv.sg, .int .i64 bv.u, .int .i64 bv.d, .string bv.sg, .string bv.dh, .int .i64 bv.pi, .string bv.pr, .string bv.ps, .int .i64 bv.oi, .string bv.on, .slice none 0 0, .string (x.s.extract 0 (min x.s.size 4096)), iN .i64 (x.a % 21)]) :: (q1, 56, spC x) :: (Ll ++ [])) w') ?_ ?_
      · refine wp_seq ?_
        refine wl_region ?_
        refine zv (.pointer (some ⟨q1, 0, none⟩)) ?_
        refine zu (iN .u8 x.k) (run_load1 (fun w => Try.isAgg5 w) ky (((h90.get 1 rfl).cell 0).trans rfl)) ?_
        refine zu (iN .u8 (x.k % 3)) (run_rem (k := .u8) (a := x.k) (b := 3) ky ky (by omega)) ?_
        rcases q92 : decide (x.k % 3 = 0) with _ | _
        · refine zu (.bool false) (run_eqi (k := .u8) (a := x.k % 3) (b := 0) ky ky false q92) ?_
          refine wl_nil (then_at rfl ?_)
          refine wp_cond_false ky ?_
          refine wp_skip ?_
          exact then_I ⟨(⟨0, 0, { data := #[] }, { data := #[] }, 0, { data := #[] }, { data := #[] }, 0, { data := #[] }⟩ : Bu), fun ii => (([(97, .pointer (some ⟨q1, 0, none⟩)), (98, iN .u8 x.k), (99, iN .u8 (x.k % 3)), (100, .bool false)] : List (Nat × Value)).find? (·.1 == ii)).elim undef (·.2), by kernel_rfl, (by unfold bF; rw [q92]; rfl), h90⟩
        refine zu (.bool true) (run_eqi (k := .u8) (a := x.k % 3) (b := 0) ky ky true q92) ?_
        refine wl_nil (then_at rfl ?_)
        refine wp_cond_true ky ?_
        refine wl_region ?_
        refine wl_load h90 1 rfl ky ky Try.underlying56 rfl ky ?_
        refine wl_call (v := .agg (buC (bunF x))) h90 ky enter30 #[.agg (spC x)] ky (bun_any x hx) ?_
        intro w93 h94
        refine zv (.pointer (some ⟨q68, 6, none⟩)) ?_
        refine wl_puts (d := buC (bunF x)) (c' := #[iN .i64 0, .int .i64 lv.u, .int .i64 lv.v, .string lv.ac, .slice pl lv.ds.length cl, .string lv.sg, .int .i64 ((bunF x).u), .int .i64 ((bunF x).d), .string ((bunF x).sg), .string ((bunF x).dh), .int .i64 ((bunF x).pi), .string ((bunF x).pr), .string ((bunF x).ps), .int .i64 ((bunF x).oi), .string ((bunF x).on), .slice none 0 0, .string (x.s.extract 0 (min x.s.size 4096)), iN .i64 (x.a % 21)]) h94 0 rfl (off := 6) ky ky ky ky ky ky ky ?_
        intro w95 (h96 : HA (bs w) ((q68, 47, #[iN .i64 0, .int .i64 lv.u, .int .i64 lv.v, .string lv.ac, .slice pl lv.ds.length cl, .string lv.sg, .int .i64 ((bunF x).u), .int .i64 ((bunF x).d), .string ((bunF x).sg), .string ((bunF x).dh), .int .i64 ((bunF x).pi), .string ((bunF x).pr), .string ((bunF x).ps), .int .i64 ((bunF x).oi), .string ((bunF x).on), .slice none 0 0, .string (x.s.extract 0 (min x.s.size 4096)), iN .i64 (x.a % 21)]) :: (q1, 56, spC x) :: (Ll ++ [])) w95)
        refine wl_nil ?_
        exact then_I ⟨(bunF x), fun ii => (([(97, .pointer (some ⟨q1, 0, none⟩)), (98, iN .u8 x.k), (99, iN .u8 (x.k % 3)), (100, .bool true), (101, .agg (spC x)), (102, .agg (buC (bunF x))), (103, .pointer (some ⟨q68, 6, none⟩))] : List (Nat × Value)).find? (·.1 == ii)).elim undef (·.2), by kernel_rfl, (by unfold bF; rw [q92]; rfl), h96⟩
      · rintro _ w97 ⟨bv, u91, rfl, hbv, h98⟩
        refine wp_seq (wp_seq (wl_region ?_))
        refine zv (iN .i64 0) ?_
        refine wl_nil (then_at rfl (wp_block ?_))
        refine wp_while (fun mq AQ w' => ∃ (i : Nat) (pp : Option Addr) (cp : Nat) (Lp : BL) (u99 : Nat → Value), mq = 30 - i ∧ AQ = ⟨(iN .u64 id :: .agg (spC x) :: un :: pt q1 :: .bool false :: pt q17 :: .string y :: iN .i64 4 :: iN .u64 id :: pt q37 :: iN .i64 4 :: pt q68 :: iN .i64 i :: un :: .agg (spC x) :: .agg (caC c (.slice po13 c.li.ds.length pc14) (.slice po15 c.on.length pc16)) :: .tuple #[.string y, iN .i64 0] :: iN .u64 id :: .agg (caC c (.slice po13 c.li.ds.length pc14) (.slice po15 c.on.length pc16)) :: .tuple #[.string y, iN .i64 0] :: .string y :: iN .i64 0 :: .tuple #[iN .u64 id, .agg (caC c (.slice po33 c.li.ds.length pc34) (.slice po35 c.on.length pc36)), iN .i64 0] :: .string y :: .tuple #[iN .u64 id, .agg (caC c (.slice po33 c.li.ds.length pc34) (.slice po35 c.on.length pc36)), iN .i64 0] :: iN .u64 id :: .agg (caC c (.slice po33 c.li.ds.length pc34) (.slice po35 c.on.length pc36)) :: iN .i64 0 :: iN .i64 0 :: .bool false :: .bool false :: iN .i64 0 :: .bool false :: .bool false :: .bool false :: iN .u64 id :: iN .u64 id :: .bool false :: .bool false :: .bool false :: .agg (caC c (.slice po13 c.li.ds.length pc14) (.slice po15 c.on.length pc16)) :: .agg (caC c (.slice po33 c.li.ds.length pc34) (.slice po35 c.on.length pc36)) :: .bool true :: .bool false :: .bool false :: .bool false :: .agg (caC c (.slice po13 c.li.ds.length pc14) (.slice po15 c.on.length pc16)) :: iN .i64 0 :: .bool false :: .bool false :: .bool false :: .string y :: iN .i64 y.size :: .bool false :: .bool false :: .tuple #[iN .u64 0, .agg (caC ca0 sv47 so48), iN .i64 4] :: .string y :: .string y :: iN .i64 y.size :: iN .i64 (y.size - 1) :: .string (y.extract 0 (y.size - 1)) :: .tuple #[iN .u64 0, .agg (caC ca0 sv47 so48), iN .i64 4] :: iN .u64 0 :: .agg (caC ca0 sv47 so48) :: iN .i64 4 :: .tuple #[iN .u64 0, .agg (caC ca0 sv56 so57), iN .i64 4] :: .string y :: .string (add0 y) :: .tuple #[iN .u64 0, .agg (caC ca0 sv56 so57), iN .i64 4] :: iN .u64 0 :: .agg (caC ca0 sv56 so57) :: iN .i64 4 :: iN .i64 4 :: .bool false :: .bool false :: iN .i64 4 :: .bool false :: .bool false :: .pointer (some ⟨q1, 1, none⟩) :: iN .u8 x.a :: iN .u8 (x.a % 21) :: iN .i64 (x.a % 21) :: .pointer (some ⟨q1, 4, none⟩) :: .string x.s :: .pointer (some ⟨q1, 4, none⟩) :: .string x.s :: iN .i64 x.s.size :: iN .i64 (min x.s.size 4096) :: .string (x.s.extract 0 (min x.s.size 4096)) :: .agg #[iN .i64 0, iN .i64 0, iN .i64 0, .string ({ data := #[] }), .slice none 0 0, .string ({ data := #[] }), iN .i64 0, iN .i64 0, .string ({ data := #[] }), .string ({ data := #[] }), iN .i64 0, .string ({ data := #[] }), .string ({ data := #[] }), iN .i64 0, .string ({ data := #[] }), .slice none 0 0, .string (x.s.extract 0 (min x.s.size 4096)), iN .i64 (x.a % 21)] :: u77 90 :: u77 91 :: u77 92 :: u77 93 :: u77 94 :: u77 95 :: u77 96 :: u91 97 :: u91 98 :: u91 99 :: u91 100 :: u91 101 :: u91 102 :: u91 103 :: u99 104 :: u99 105 :: u99 106 :: u99 107 :: u99 108 :: u99 109 :: u99 110 :: u99 111 :: u99 112 :: u99 113 :: u99 114 :: u99 115 :: u99 116 :: u99 117 :: u99 118 :: u99 119 :: u99 120 :: u99 121 :: u99 122 :: u99 123 :: u99 124 :: u99 125 :: u99 126 :: u99 127 :: u99 128 :: u99 129 :: u99 130 :: u99 131 :: u99 132 :: List.replicate 70 un).toArray, []⟩ ∧ i ≤ x.b % 9 ∧ Row 62 4 (.slice pp (itK x i).length cp) (itK x i).length (icl (itK x i)) Lp ∧ HA (bs w) ([(q68, 47, #[iN .i64 0, .int .i64 lv.u, .int .i64 lv.v, .string lv.ac, .slice pl lv.ds.length cl, .string lv.sg, .int .i64 bv.u, .int .i64 bv.d, .string bv.sg, .string bv.dh, .int .i64 bv.pi, .string bv.pr, .string bv.ps, .int .i64 bv.oi, .string bv.on, .slice pp (itK x i).length cp, .string (x.s.extract 0 (min x.s.size 4096)), iN .i64 (x.a % 21)]), (q1, 56, spC x)] ++ (Lp ++ (Ll ++ []))) w') 30 ?_ ?_
        · exact ⟨0, none, 0, [], fun ii => (([] : List (Nat × Value)).find? (·.1 == ii)).elim undef (·.2), rfl, by kernel_rfl, Nat.zero_le _, Row.nil 62 4, h98⟩
        rintro _ _ w100 ⟨i, pp, cp, Lp, u99, rfl, rfl, hi2, hRow, hL⟩
        have hL2 : HA (bs w) ((q68, 47, #[iN .i64 0, .int .i64 lv.u, .int .i64 lv.v, .string lv.ac, .slice pl lv.ds.length cl, .string lv.sg, .int .i64 bv.u, .int .i64 bv.d, .string bv.sg, .string bv.dh, .int .i64 bv.pi, .string bv.pr, .string bv.ps, .int .i64 bv.oi, .string bv.on, .slice pp (itK x i).length cp, .string (x.s.extract 0 (min x.s.size 4096)), iN .i64 (x.a % 21)]) :: (q1, 56, spC x) :: (Lp ++ (Ll ++ []))) w100 := hL
        have hdl := itK_len x i
        rcases Nat.lt_or_ge i (x.b % 9) with hlt | hge
        · refine wp_seq ?_
          refine wp_seq (wl_region ?_)
          refine zv (iN .i64 i) ?_
          refine zv (.pointer (some ⟨q1, 2, none⟩)) ?_
          refine zu (iN .u8 x.b) (run_load1 (fun w => Try.isAgg5 w) ky (((hL2.get 1 rfl).cell 2).trans rfl)) ?_
          refine zu (iN .u8 (x.b % 9)) (run_rem (k := .u8) (a := x.b) (b := 9) ky ky (by omega)) ?_
          refine zu (iN .i64 (x.b % 9)) (run_conv .i64 Try.underlying5 Try.underlying3 ky (by first | omega | (simp only [top]; omega))) ?_
          refine zu (.bool true) (run_lss (k := .i64) (a := i) (b := x.b % 9) ky ky true (decide_eq_true (by omega))) ?_
          refine wl_nil (then_at rfl ?_)
          refine wp_cond_true ky ?_
          refine wp_skip (then_at rfl (wp_seq (wp_block ?_)))
          refine wp_region_wx (HA (bs w) ((q68, 47, #[iN .i64 0, .int .i64 lv.u, .int .i64 lv.v, .string lv.ac, .slice pl lv.ds.length cl, .string lv.sg, .int .i64 bv.u, .int .i64 bv.d, .string bv.sg, .string bv.dh, .int .i64 bv.pi, .string bv.pr, .string bv.ps, .int .i64 bv.oi, .string bv.on, .slice pp (itK x i).length cp, .string (x.s.extract 0 (min x.s.size 4096)), iN .i64 (x.a % 21)]) :: (q1, 56, spC x) :: (Lp ++ (Ll ++ [])))) (fun AQ w' => ∃ (pn113 : Option Addr) (cn114 : Nat) (La108 : BL) (q104 : Nat), AQ = ⟨(iN .u64 id :: .agg (spC x) :: un :: pt q1 :: .bool false :: pt q17 :: .string y :: iN .i64 4 :: iN .u64 id :: pt q37 :: iN .i64 4 :: pt q68 :: iN .i64 i :: un :: .agg (spC x) :: .agg (caC c (.slice po13 c.li.ds.length pc14) (.slice po15 c.on.length pc16)) :: .tuple #[.string y, iN .i64 0] :: iN .u64 id :: .agg (caC c (.slice po13 c.li.ds.length pc14) (.slice po15 c.on.length pc16)) :: .tuple #[.string y, iN .i64 0] :: .string y :: iN .i64 0 :: .tuple #[iN .u64 id, .agg (caC c (.slice po33 c.li.ds.length pc34) (.slice po35 c.on.length pc36)), iN .i64 0] :: .string y :: .tuple #[iN .u64 id, .agg (caC c (.slice po33 c.li.ds.length pc34) (.slice po35 c.on.length pc36)), iN .i64 0] :: iN .u64 id :: .agg (caC c (.slice po33 c.li.ds.length pc34) (.slice po35 c.on.length pc36)) :: iN .i64 0 :: iN .i64 0 :: .bool false :: .bool false :: iN .i64 0 :: .bool false :: .bool false :: .bool false :: iN .u64 id :: iN .u64 id :: .bool false :: .bool false :: .bool false :: .agg (caC c (.slice po13 c.li.ds.length pc14) (.slice po15 c.on.length pc16)) :: .agg (caC c (.slice po33 c.li.ds.length pc34) (.slice po35 c.on.length pc36)) :: .bool true :: .bool false :: .bool false :: .bool false :: .agg (caC c (.slice po13 c.li.ds.length pc14) (.slice po15 c.on.length pc16)) :: iN .i64 0 :: .bool false :: .bool false :: .bool false :: .string y :: iN .i64 y.size :: .bool false :: .bool false :: .tuple #[iN .u64 0, .agg (caC ca0 sv47 so48), iN .i64 4] :: .string y :: .string y :: iN .i64 y.size :: iN .i64 (y.size - 1) :: .string (y.extract 0 (y.size - 1)) :: .tuple #[iN .u64 0, .agg (caC ca0 sv47 so48), iN .i64 4] :: iN .u64 0 :: .agg (caC ca0 sv47 so48) :: iN .i64 4 :: .tuple #[iN .u64 0, .agg (caC ca0 sv56 so57), iN .i64 4] :: .string y :: .string (add0 y) :: .tuple #[iN .u64 0, .agg (caC ca0 sv56 so57), iN .i64 4] :: iN .u64 0 :: .agg (caC ca0 sv56 so57) :: iN .i64 4 :: iN .i64 4 :: .bool false :: .bool false :: iN .i64 4 :: .bool false :: .bool false :: .pointer (some ⟨q1, 1, none⟩) :: iN .u8 x.a :: iN .u8 (x.a % 21) :: iN .i64 (x.a % 21) :: .pointer (some ⟨q1, 4, none⟩) :: .string x.s :: .pointer (some ⟨q1, 4, none⟩) :: .string x.s :: iN .i64 x.s.size :: iN .i64 (min x.s.size 4096) :: .string (x.s.extract 0 (min x.s.size 4096)) :: .agg #[iN .i64 0, iN .i64 0, iN .i64 0, .string ({ data := #[] }), .slice none 0 0, .string ({ data := #[] }), iN .i64 0, iN .i64 0, .string ({ data := #[] }), .string ({ data := #[] }), iN .i64 0, .string ({ data := #[] }), .string ({ data := #[] }), iN .i64 0, .string ({ data := #[] }), .slice none 0 0, .string (x.s.extract 0 (min x.s.size 4096)), iN .i64 (x.a % 21)] :: u77 90 :: u77 91 :: u77 92 :: u77 93 :: u77 94 :: u77 95 :: u77 96 :: u91 97 :: u91 98 :: u91 99 :: u91 100 :: u91 101 :: u91 102 :: u91 103 :: iN .i64 i :: .pointer (some ⟨q1, 2, none⟩) :: iN .u8 x.b :: iN .u8 (x.b % 9) :: iN .i64 (x.b % 9) :: .bool true :: u99 110 :: u99 111 :: .pointer (some ⟨q68, 15, none⟩) :: .slice pp (itK x i).length cp :: .pointer (some ⟨q1, 3, none⟩) :: iN .u64 x.n :: iN .u64 (x.n % 1099511627776) :: iN .u64 (1 + (x.n % 1099511627776)) :: .pointer (some ⟨q1, 1, none⟩) :: iN .u8 x.a :: iN .u8 (x.a % 6) :: iN .i64 (x.a % 6) :: iN .i64 (2 + (x.a % 6)) :: iN .i64 i :: iN .u64 i :: iN .u64 (1 + i) :: .pointer (some ⟨q1, 4, none⟩) :: .string x.s :: .string (fullT x.s 1024) :: .agg #[iN .u64 (1 + (x.n % 1099511627776)), iN .i64 (2 + (x.a % 6)), iN .u64 (1 + i), .string (fullT x.s 1024)] :: .slice (some ⟨q104, 0, none⟩) 1 1 :: .slice pn113 ((itK x i).length + 1) cn114 :: .pointer (some ⟨q68, 15, none⟩) :: List.replicate 70 un).toArray, []⟩ ∧ Row 62 4 (.slice pn113 ((itK x i).length + 1) cn114) ((itK x i).length + 1) (icl (itK x i) ++ [iN .u64 (1 + x.n % 1099511627776), .int .i64 ((2 + x.a % 6 : Nat) : Int), iN .u64 (1 + i), .string (fullT x.s 1024)]) La108 ∧ HA (bs w) ((q68, 47, #[iN .i64 0, .int .i64 lv.u, .int .i64 lv.v, .string lv.ac, .slice pl lv.ds.length cl, .string lv.sg, .int .i64 bv.u, .int .i64 bv.d, .string bv.sg, .string bv.dh, .int .i64 bv.pi, .string bv.pr, .string bv.ps, .int .i64 bv.oi, .string bv.on, .slice pn113 ((itK x i).length + 1) cn114, .string (x.s.extract 0 (min x.s.size 4096)), iN .i64 (x.a % 21)]) :: (q1, 56, spC x) :: (La108 ++ (Ll ++ []))) w') 22 ky ky ky ky ky (hL2.drew) ?_ ?_
          · have h101 := hL2.drew
            refine zp 0 (.pointer (some ⟨q68, 15, none⟩)) ?_
            refine wx_val (i := 1) (.slice pp (itK x i).length cp) rfl rfl ky ky (fun w' h' => run_load1 (fun w => Try.isAgg45 w) ky (((h'.get 0 rfl).cell 15).trans rfl)) ?_
            refine zp 2 (.pointer (some ⟨q1, 3, none⟩)) ?_
            refine wx_val (i := 3) (iN .u64 x.n) rfl rfl ky ky (fun w' h' => run_load1 (fun w => Try.isAgg22 w) ky (((h'.get 1 rfl).cell 3).trans rfl)) ?_
            refine wx_pure (i := 4) (iN .u64 (x.n % 1099511627776)) rfl rfl ky ky (fun _ => (run_rem (k := .u64) (a := x.n) (b := 1099511627776) ky ky (by omega))) ?_
            refine wx_pure (i := 5) (iN .u64 (1 + (x.n % 1099511627776))) rfl rfl ky ky (fun _ => (run_add (k := .u64) (a := 1) (b := x.n % 1099511627776) ky ky (by first | omega | (simp only [top]; omega)))) ?_
            refine zp 6 (.pointer (some ⟨q1, 1, none⟩)) ?_
            refine wx_val (i := 7) (iN .u8 x.a) rfl rfl ky ky (fun w' h' => run_load1 (fun w => Try.isAgg5 w) ky (((h'.get 1 rfl).cell 1).trans rfl)) ?_
            refine wx_pure (i := 8) (iN .u8 (x.a % 6)) rfl rfl ky ky (fun _ => (run_rem (k := .u8) (a := x.a) (b := 6) ky ky (by omega))) ?_
            refine wx_pure (i := 9) (iN .i64 (x.a % 6)) rfl rfl ky ky (fun _ => (run_conv .i64 Try.underlying5 Try.underlying3 ky (by first | omega | (simp only [top]; omega)))) ?_
            refine wx_pure (i := 10) (iN .i64 (2 + (x.a % 6))) rfl rfl ky ky (fun _ => (run_add (k := .i64) (a := 2) (b := x.a % 6) ky ky (by first | omega | (simp only [top]; omega)))) ?_
            refine zp 11 (iN .i64 i) ?_
            refine wx_pure (i := 12) (iN .u64 i) rfl rfl ky ky (fun _ => (run_conv .u64 Try.underlying3 Try.underlying22 ky (by first | omega | (simp only [top]; omega)))) ?_
            refine wx_pure (i := 13) (iN .u64 (1 + i)) rfl rfl ky ky (fun _ => (run_add (k := .u64) (a := 1) (b := i) ky ky (by first | omega | (simp only [top]; omega)))) ?_
            refine zp 14 (.pointer (some ⟨q1, 4, none⟩)) ?_
            refine wx_val (i := 15) (.string x.s) rfl rfl ky ky (fun w' h' => run_load1 (fun w => Try.isAgg9 w) ky (((h'.get 1 rfl).cell 4).trans rfl)) ?_
            refine wx_call (i := 16) (.string (fullT x.s 1024)) (fun _ _ h hb => HA.keep _ _ h hb) rfl rfl ky ky enter31 #[.string x.s, iN .i64 1024] ky (fun w' h' => full_any x.s 1024 hx.s (by decide) (by decide)) ?_
            refine zp 17 (.agg #[iN .u64 (1 + (x.n % 1099511627776)), iN .i64 (2 + (x.a % 6)), iN .u64 (1 + i), .string (fullT x.s 1024)]) ?_
            refine wx_one 18 ky ?_
            refine ex_makeT (c := #[iN .u64 (1 + (x.n % 1099511627776)), iN .i64 (2 + (x.a % 6)), iN .u64 (1 + i), .string (fullT x.s 1024)]) rfl ky h101 62 (fun q => .slice (some ⟨q, 0, none⟩) 1 1) (fun _ => ky) ?_
            intro q104 w102 (h103 : HA (bs w) ((q104, 62, #[iN .u64 (1 + (x.n % 1099511627776)), iN .i64 (2 + (x.a % 6)), iN .u64 (1 + i), .string (fullT x.s 1024)]) :: (q68, 47, #[iN .i64 0, .int .i64 lv.u, .int .i64 lv.v, .string lv.ac, .slice pl lv.ds.length cl, .string lv.sg, .int .i64 bv.u, .int .i64 bv.d, .string bv.sg, .string bv.dh, .int .i64 bv.pi, .string bv.pr, .string bv.ps, .int .i64 bv.oi, .string bv.on, .slice pp (itK x i).length cp, .string (x.s.extract 0 (min x.s.size 4096)), iN .i64 (x.a % 21)]) :: (q1, 56, spC x) :: (Lp ++ (Ll ++ []))) w102)
            refine ⟨_, .inr rfl, (HA.sub h103 (List.Sublist.cons _ (List.Sublist.cons_cons _ (List.Sublist.cons_cons _ (List.Sublist.refl _))))), ?_⟩
            refine wx_one 19 ky ?_
            refine ex_doT rfl ky h103 fun w105 h106 => ?_
            obtain ⟨va107, wa112, La108, hrun111, hRa109, ha110⟩ := row_more (t := 45) hRow ((show HA (bs w) (((q104, 62, #[iN .u64 (1 + (x.n % 1099511627776)), iN .i64 (2 + (x.a % 6)), iN .u64 (1 + i), .string (fullT x.s 1024)]) :: [(q68, 47, #[iN .i64 0, .int .i64 lv.u, .int .i64 lv.v, .string lv.ac, .slice pl lv.ds.length cl, .string lv.sg, .int .i64 bv.u, .int .i64 bv.d, .string bv.sg, .string bv.dh, .int .i64 bv.pi, .string bv.pr, .string bv.ps, .int .i64 bv.oi, .string bv.on, .slice pp (itK x i).length cp, .string (x.s.extract 0 (min x.s.size 4096)), iN .i64 (x.a % 21)]), (q1, 56, spC x)]) ++ (Lp ++ (Ll ++ []))) w105 from h106).perm (List.Perm.cons _ (perm_mv [(q68, 47, #[iN .i64 0, .int .i64 lv.u, .int .i64 lv.v, .string lv.ac, .slice pl lv.ds.length cl, .string lv.sg, .int .i64 bv.u, .int .i64 bv.d, .string bv.sg, .string bv.dh, .int .i64 bv.pi, .string bv.pr, .string bv.ps, .int .i64 bv.oi, .string bv.on, .slice pp (itK x i).length cp, .string (x.s.extract 0 (min x.s.size 4096)), iN .i64 (x.a % 21)]), (q1, 56, spC x)] Lp (Ll ++ [])))) (by decide) (.agg #[iN .u64 0, iN .i64 0, iN .u64 0, .string { data := #[] }]) 40 45 Try.underlying45 info62z rfl (by decide) rfl ky (by unfold maxLen; omega) (by omega)
            obtain ⟨pn113, cn114, hvnpn113⟩ := hRa109.form
            subst hvnpn113
            have h115 : HA (bs w) ((q68, 47, #[iN .i64 0, .int .i64 lv.u, .int .i64 lv.v, .string lv.ac, .slice pl lv.ds.length cl, .string lv.sg, .int .i64 bv.u, .int .i64 bv.d, .string bv.sg, .string bv.dh, .int .i64 bv.pi, .string bv.pr, .string bv.ps, .int .i64 bv.oi, .string bv.on, .slice pp (itK x i).length cp, .string (x.s.extract 0 (min x.s.size 4096)), iN .i64 (x.a % 21)]) :: (q1, 56, spC x) :: (La108 ++ (Ll ++ []))) wa112 := ha110.perm (perm_mv [(q68, 47, #[iN .i64 0, .int .i64 lv.u, .int .i64 lv.v, .string lv.ac, .slice pl lv.ds.length cl, .string lv.sg, .int .i64 bv.u, .int .i64 bv.d, .string bv.sg, .string bv.dh, .int .i64 bv.pi, .string bv.pr, .string bv.ps, .int .i64 bv.oi, .string bv.on, .slice pp (itK x i).length cp, .string (x.s.extract 0 (min x.s.size 4096)), iN .i64 (x.a % 21)]), (q1, 56, spC x)] La108 (Ll ++ [])).symm
            refine ⟨_, _, run_app_ops ky ky hrun111, _, .inl ky, h115, ?_⟩
            refine zp 20 (.pointer (some ⟨q68, 15, none⟩)) ?_
            refine wx_one 21 ky ?_
            refine ex_skipT rfl ky h115 fun w116 h117 => ⟨_, run_storev (q := q68) (i := 15) (v := .slice pn113 ((itK x i).length + 1) cn114) (fun w => Try.sizeOf45 w) ky ky ky (by rw [(h117.get 0 rfl).cell]; rfl) ((h117.get 0 rfl).free _ (by show 15 < 18; decide)), ?_⟩
            have h118 : HA (bs w) ((q68, 47, #[iN .i64 0, .int .i64 lv.u, .int .i64 lv.v, .string lv.ac, .slice pl lv.ds.length cl, .string lv.sg, .int .i64 bv.u, .int .i64 bv.d, .string bv.sg, .string bv.dh, .int .i64 bv.pi, .string bv.pr, .string bv.ps, .int .i64 bv.oi, .string bv.on, .slice pn113 ((itK x i).length + 1) cn114, .string (x.s.extract 0 (min x.s.size 4096)), iN .i64 (x.a % 21)]) :: (q1, 56, spC x) :: (La108 ++ (Ll ++ []))) _ := h117.put 0 rfl 15 (.slice pn113 ((itK x i).length + 1) cn114)
            refine ⟨_, .inl ky, h118, ?_⟩
            refine wx_end fun w119 hbx _ => ?_
            have h120 := HA.keep _ _ h118 hbx
            exact ⟨pn113, cn114, La108, q104, by kernel_rfl, hRa109, h120⟩
          · rintro _ w121 ⟨pn113, cn114, La108, q104, rfl, hRa109, h122⟩
            refine block_normal (then_at rfl (wl_region ?_))
            refine zv (iN .i64 i) ?_
            refine zu (iN .i64 (i + 1)) (run_add (k := .i64) (a := i) (b := 1) ky ky (by first | omega | (simp only [top]; omega))) ?_
            refine zv (iN .i64 (i + 1)) ?_
            refine wl_nil ?_
            exact then_I ⟨30 - (i + 1), (by omega), i + 1, pn113, cn114, La108, fun ii => (([(104, iN .i64 i), (105, .pointer (some ⟨q1, 2, none⟩)), (106, iN .u8 x.b), (107, iN .u8 (x.b % 9)), (108, iN .i64 (x.b % 9)), (109, .bool true), (110, iN .i64 i), (111, iN .i64 (i + 1)), (112, .pointer (some ⟨q68, 15, none⟩)), (113, .slice pp (itK x i).length cp), (114, .pointer (some ⟨q1, 3, none⟩)), (115, iN .u64 x.n), (116, iN .u64 (x.n % 1099511627776)), (117, iN .u64 (1 + (x.n % 1099511627776))), (118, .pointer (some ⟨q1, 1, none⟩)), (119, iN .u8 x.a), (120, iN .u8 (x.a % 6)), (121, iN .i64 (x.a % 6)), (122, iN .i64 (2 + (x.a % 6))), (123, iN .i64 i), (124, iN .u64 i), (125, iN .u64 (1 + i)), (126, .pointer (some ⟨q1, 4, none⟩)), (127, .string x.s), (128, .string (fullT x.s 1024)), (129, .agg #[iN .u64 (1 + (x.n % 1099511627776)), iN .i64 (2 + (x.a % 6)), iN .u64 (1 + i), .string (fullT x.s 1024)]), (130, .slice (some ⟨q104, 0, none⟩) 1 1), (131, .slice pn113 ((itK x i).length + 1) cn114), (132, .pointer (some ⟨q68, 15, none⟩))] : List (Nat × Value)).find? (·.1 == ii)).elim undef (·.2), rfl, by kernel_rfl, by omega, by rw [show itK x (i + 1) = itK x i ++ [(⟨1 + x.n % 1099511627776, ((2 + x.a % 6 : Nat) : Int), 1 + i, fullT x.s 1024⟩ : It)] from rfl, icl_snoc, List.length_append, List.length_singleton]; exact hRa109, by rw [show itK x (i + 1) = itK x i ++ [(⟨1 + x.n % 1099511627776, ((2 + x.a % 6 : Nat) : Int), 1 + i, fullT x.s 1024⟩ : It)] from rfl, List.length_append, List.length_singleton]; exact h122⟩
        obtain rfl : i = x.b % 9 := by omega
        refine wp_seq (wp_seq (wl_region ?_))
        refine zv (iN .i64 (x.b % 9)) ?_
        refine zv (.pointer (some ⟨q1, 2, none⟩)) ?_
        refine zu (iN .u8 x.b) (run_load1 (fun w => Try.isAgg5 w) ky (((hL2.get 1 rfl).cell 2).trans rfl)) ?_
        refine zu (iN .u8 (x.b % 9)) (run_rem (k := .u8) (a := x.b) (b := 9) ky ky (by omega)) ?_
        refine zu (iN .i64 (x.b % 9)) (run_conv .i64 Try.underlying5 Try.underlying3 ky (by first | omega | (simp only [top]; omega))) ?_
        refine zu (.bool false) (run_lss (k := .i64) (a := (x.b % 9)) (b := x.b % 9) ky ky false (decide_eq_false (by omega))) ?_
        refine wl_nil (then_at rfl ?_)
        refine wp_cond_false ky ?_
        refine wp_exit ?_
        repeat first | refine then_exit ?_ | refine block_exit ?_ | refine block_exit_ne (by decide) ?_
        refine then_at rfl (wp_seq ?_)
        refine wp_meet (fun AQ w' => ∃ (av : An) (pl2 : Option Addr) (cl2 : Nat) (pi2 : Option Addr) (ci2 : Nat) (La9 Lb9 : BL) (u123 : Nat → Value), AQ = ⟨(iN .u64 id :: .agg (spC x) :: un :: pt q1 :: .bool false :: pt q17 :: .string y :: iN .i64 4 :: iN .u64 id :: pt q37 :: iN .i64 4 :: pt q68 :: iN .i64 (x.b % 9) :: un :: .agg (spC x) :: .agg (caC c (.slice po13 c.li.ds.length pc14) (.slice po15 c.on.length pc16)) :: .tuple #[.string y, iN .i64 0] :: iN .u64 id :: .agg (caC c (.slice po13 c.li.ds.length pc14) (.slice po15 c.on.length pc16)) :: .tuple #[.string y, iN .i64 0] :: .string y :: iN .i64 0 :: .tuple #[iN .u64 id, .agg (caC c (.slice po33 c.li.ds.length pc34) (.slice po35 c.on.length pc36)), iN .i64 0] :: .string y :: .tuple #[iN .u64 id, .agg (caC c (.slice po33 c.li.ds.length pc34) (.slice po35 c.on.length pc36)), iN .i64 0] :: iN .u64 id :: .agg (caC c (.slice po33 c.li.ds.length pc34) (.slice po35 c.on.length pc36)) :: iN .i64 0 :: iN .i64 0 :: .bool false :: .bool false :: iN .i64 0 :: .bool false :: .bool false :: .bool false :: iN .u64 id :: iN .u64 id :: .bool false :: .bool false :: .bool false :: .agg (caC c (.slice po13 c.li.ds.length pc14) (.slice po15 c.on.length pc16)) :: .agg (caC c (.slice po33 c.li.ds.length pc34) (.slice po35 c.on.length pc36)) :: .bool true :: .bool false :: .bool false :: .bool false :: .agg (caC c (.slice po13 c.li.ds.length pc14) (.slice po15 c.on.length pc16)) :: iN .i64 0 :: .bool false :: .bool false :: .bool false :: .string y :: iN .i64 y.size :: .bool false :: .bool false :: .tuple #[iN .u64 0, .agg (caC ca0 sv47 so48), iN .i64 4] :: .string y :: .string y :: iN .i64 y.size :: iN .i64 (y.size - 1) :: .string (y.extract 0 (y.size - 1)) :: .tuple #[iN .u64 0, .agg (caC ca0 sv47 so48), iN .i64 4] :: iN .u64 0 :: .agg (caC ca0 sv47 so48) :: iN .i64 4 :: .tuple #[iN .u64 0, .agg (caC ca0 sv56 so57), iN .i64 4] :: .string y :: .string (add0 y) :: .tuple #[iN .u64 0, .agg (caC ca0 sv56 so57), iN .i64 4] :: iN .u64 0 :: .agg (caC ca0 sv56 so57) :: iN .i64 4 :: iN .i64 4 :: .bool false :: .bool false :: iN .i64 4 :: .bool false :: .bool false :: .pointer (some ⟨q1, 1, none⟩) :: iN .u8 x.a :: iN .u8 (x.a % 21) :: iN .i64 (x.a % 21) :: .pointer (some ⟨q1, 4, none⟩) :: .string x.s :: .pointer (some ⟨q1, 4, none⟩) :: .string x.s :: iN .i64 x.s.size :: iN .i64 (min x.s.size 4096) :: .string (x.s.extract 0 (min x.s.size 4096)) :: .agg #[iN .i64 0, iN .i64 0, iN .i64 0, .string ({ data := #[] }), .slice none 0 0, .string ({ data := #[] }), iN .i64 0, iN .i64 0, .string ({ data := #[] }), .string ({ data := #[] }), iN .i64 0, .string ({ data := #[] }), .string ({ data := #[] }), iN .i64 0, .string ({ data := #[] }), .slice none 0 0, .string (x.s.extract 0 (min x.s.size 4096)), iN .i64 (x.a % 21)] :: u77 90 :: u77 91 :: u77 92 :: u77 93 :: u77 94 :: u77 95 :: u77 96 :: u91 97 :: u91 98 :: u91 99 :: u91 100 :: u91 101 :: u91 102 :: u91 103 :: iN .i64 (x.b % 9) :: .pointer (some ⟨q1, 2, none⟩) :: iN .u8 x.b :: iN .u8 (x.b % 9) :: iN .i64 (x.b % 9) :: .bool false :: u99 110 :: u99 111 :: u99 112 :: u99 113 :: u99 114 :: u99 115 :: u99 116 :: u99 117 :: u99 118 :: u99 119 :: u99 120 :: u99 121 :: u99 122 :: u99 123 :: u99 124 :: u99 125 :: u99 126 :: u99 127 :: u99 128 :: u99 129 :: u99 130 :: u99 131 :: u99 132 :: u123 133 :: u123 134 :: u123 135 :: u123 136 :: u123 137 :: u123 138 :: u123 139 :: u123 140 :: u123 141 :: u123 142 :: List.replicate 60 un).toArray, []⟩ ∧ av = ansF x ∧ Row 67 3 (.slice pl2 av.li.ds.length cl2) av.li.ds.length (mcl av.li.ds) La9 ∧ Row 62 4 (.slice pi2 av.its.length ci2) av.its.length (icl av.its) Lb9 ∧ HA (bs w) ((q68, 47, anC av (.slice pl2 av.li.ds.length cl2) (.slice pi2 av.its.length ci2)) :: (q1, 56, spC x) :: (Lb9 ++ (La9 ++ []))) w') ?_ ?_
        · refine wp_seq ?_
          refine wl_region ?_
          refine zv (.pointer (some ⟨q1, 0, none⟩)) ?_
          refine zu (iN .u8 x.k) (run_load1 (fun w => Try.isAgg5 w) ky (((hL2.get 1 rfl).cell 0).trans rfl)) ?_
          refine zu (iN .u8 (x.k % 7)) (run_rem (k := .u8) (a := x.k) (b := 7) ky ky (by omega)) ?_
          rcases q124 : decide (x.k % 7 = 0) with _ | _
          · refine zu (.bool false) (run_eqi (k := .u8) (a := x.k % 7) (b := 0) ky ky false q124) ?_
            refine wl_nil (then_at rfl ?_)
            refine wp_cond_false ky ?_
            refine wp_skip ?_
            exact then_I ⟨⟨0, lv, bv, itK x (x.b % 9), x.s.extract 0 (min x.s.size 4096), ((x.a % 21 : Nat) : Int)⟩, pl, cl, pp, cp, Ll, Lp, fun ii => (([(133, .pointer (some ⟨q1, 0, none⟩)), (134, iN .u8 x.k), (135, iN .u8 (x.k % 7)), (136, .bool false)] : List (Nat × Value)).find? (·.1 == ii)).elim undef (·.2), by kernel_rfl, (by unfold ansF; rw [q124, hlv, hbv]; rfl), hRl, hRow, hL2⟩
          refine zu (.bool true) (run_eqi (k := .u8) (a := x.k % 7) (b := 0) ky ky true q124) ?_
          refine wl_nil (then_at rfl ?_)
          refine wp_cond_true ky ?_
          refine wl_region ?_
          refine zv (.pointer (some ⟨q1, 1, none⟩)) ?_
          refine zu (iN .u8 x.a) (run_load1 (fun w => Try.isAgg5 w) ky (((hL2.get 1 rfl).cell 1).trans rfl)) ?_
          refine zu (iN .u8 (x.a % 16)) (run_rem (k := .u8) (a := x.a) (b := 16) ky ky (by omega)) ?_
          refine zu (iN .u8 (1 + (x.a % 16))) (run_add (k := .u8) (a := 1) (b := x.a % 16) ky ky (by first | omega | (simp only [top]; omega))) ?_
          refine zu (iN .i64 (1 + (x.a % 16))) (run_conv .i64 Try.underlying5 Try.underlying33 ky (by first | omega | (simp only [top]; omega))) ?_
          refine zv (.agg #[iN .i64 (1 + (x.a % 16)), iN .i64 0, iN .i64 0, .string ({ data := #[] }), .slice none 0 0, .string ({ data := #[] }), iN .i64 0, iN .i64 0, .string ({ data := #[] }), .string ({ data := #[] }), iN .i64 0, .string ({ data := #[] }), .string ({ data := #[] }), iN .i64 0, .string ({ data := #[] }), .slice none 0 0, .string ({ data := #[] }), iN .i64 0]) ?_
          refine wl_fill (c' := #[iN .i64 (1 + (x.a % 16)), iN .i64 0, iN .i64 0, .string ({ data := #[] }), .slice none 0 0, .string ({ data := #[] }), iN .i64 0, iN .i64 0, .string ({ data := #[] }), .string ({ data := #[] }), iN .i64 0, .string ({ data := #[] }), .string ({ data := #[] }), iN .i64 0, .string ({ data := #[] }), .slice none 0 0, .string ({ data := #[] }), iN .i64 0]) hL2 0 rfl ky ky ky rfl ky ky ?_
          intro w125 (h126 : HA (bs w) ((q68, 47, #[iN .i64 (1 + (x.a % 16)), iN .i64 0, iN .i64 0, .string ({ data := #[] }), .slice none 0 0, .string ({ data := #[] }), iN .i64 0, iN .i64 0, .string ({ data := #[] }), .string ({ data := #[] }), iN .i64 0, .string ({ data := #[] }), .string ({ data := #[] }), iN .i64 0, .string ({ data := #[] }), .slice none 0 0, .string ({ data := #[] }), iN .i64 0]) :: (q1, 56, spC x) :: (Lp ++ (Ll ++ []))) w125)
          refine wl_nil ?_
          exact then_I ⟨⟨((1 + (x.a % 16) : Nat) : Int), ⟨0, 0, { data := #[] }, [], { data := #[] }⟩, ⟨0, 0, { data := #[] }, { data := #[] }, 0, { data := #[] }, { data := #[] }, 0, { data := #[] }⟩, [], { data := #[] }, 0⟩, none, 0, none, 0, [], [], fun ii => (([(133, .pointer (some ⟨q1, 0, none⟩)), (134, iN .u8 x.k), (135, iN .u8 (x.k % 7)), (136, .bool true), (137, .pointer (some ⟨q1, 1, none⟩)), (138, iN .u8 x.a), (139, iN .u8 (x.a % 16)), (140, iN .u8 (1 + (x.a % 16))), (141, iN .i64 (1 + (x.a % 16))), (142, .agg #[iN .i64 (1 + (x.a % 16)), iN .i64 0, iN .i64 0, .string ({ data := #[] }), .slice none 0 0, .string ({ data := #[] }), iN .i64 0, iN .i64 0, .string ({ data := #[] }), .string ({ data := #[] }), iN .i64 0, .string ({ data := #[] }), .string ({ data := #[] }), iN .i64 0, .string ({ data := #[] }), .slice none 0 0, .string ({ data := #[] }), iN .i64 0])] : List (Nat × Value)).find? (·.1 == ii)).elim undef (·.2), by kernel_rfl, (by unfold ansF; rw [q124]; rfl), Row.nil 67 3, Row.nil 62 4, h126.sub (List.Sublist.cons_cons _ (List.Sublist.cons_cons _ ((List.sublist_append_right Ll []).trans (List.sublist_append_right Lp _))))⟩
        · rintro _ w127 ⟨av, pl2, cl2, pi2, ci2, La9, Lb9, u123, rfl, hav, hRl2, hRi2, h128⟩
          obtain rfl : a = av := (hav.trans ha).symm
          refine wp_seq (wl_region ?_)
          refine zv (iN .u64 id) ?_
          refine wl_load h128 0 rfl ky ky Try.underlying47 rfl ky ?_
          refine wl_call (v := .tuple #[.string z, iN .i64 0]) h128 ky enter22 #[iN .u64 id, .agg (anC a (.slice pl2 a.li.ds.length cl2) (.slice pi2 a.its.length ci2))] ky (ea_E a (At.row hRl2 (fun y hy => h128.blk y (by simp [hy]))) (At.row hRi2 (fun y hy => h128.blk y (by simp [hy]))) ga1 ga2 hea) ?_
          intro w130 h131
          refine zv (.tuple #[.string z, iN .i64 0]) ?_
          refine zv (.string z) ?_
          refine zv (iN .i64 0) ?_
          refine zv (.string z) ?_
          refine zv (iN .i64 0) ?_
          refine wl_nil (then_at rfl (wp_seq (wl_region ?_)))
          refine zv (.string z) ?_
          refine wl_callx ky enter26 #[.string z] ky (da_E hda (Nat.le_trans z1 (by decide))) ?_
          rintro _ w139 ⟨sv132, si133, La134, Lb135, rfl, hRa136, hRb137, h138⟩
          refine ⟨_, rfl, ?_⟩
          have h140 : HA (bs w) ((q68, 47, anC a (.slice pl2 a.li.ds.length cl2) (.slice pi2 a.its.length ci2)) :: (q1, 56, spC x) :: ((Lb135 ++ (La134 ++ [])) ++ (Lb9 ++ (La9 ++ [])))) w139 := (show HA (bs w) ((Lb135 ++ (La134 ++ [])) ++ ([(q68, 47, anC a (.slice pl2 a.li.ds.length cl2) (.slice pi2 a.its.length ci2)), (q1, 56, spC x)] ++ (Lb9 ++ (La9 ++ [])))) w139 from HA.join h131 h138).perm (perm_mv [(q68, 47, anC a (.slice pl2 a.li.ds.length cl2) (.slice pi2 a.its.length ci2)), (q1, 56, spC x)] (Lb135 ++ (La134 ++ [])) (Lb9 ++ (La9 ++ []))).symm
          obtain ⟨po141, pc142, hvpo141⟩ := hRa136.form
          subst hvpo141
          obtain ⟨po143, pc144, hvpo143⟩ := hRb137.form
          subst hvpo143
          refine zv (.tuple #[iN .u64 id, .agg (anC a (.slice po141 a.li.ds.length pc142) (.slice po143 a.its.length pc144)), iN .i64 0]) ?_
          refine zv (iN .u64 id) ?_
          refine zv (.agg (anC a (.slice po141 a.li.ds.length pc142) (.slice po143 a.its.length pc144))) ?_
          refine zv (iN .i64 0) ?_
          refine wl_make (c := #[iN .i64 0, iN .i64 0, iN .i64 0, .string ({ data := #[] }), .slice none 0 0, .string ({ data := #[] }), iN .i64 0, iN .i64 0, .string ({ data := #[] }), .string ({ data := #[] }), iN .i64 0, .string ({ data := #[] }), .string ({ data := #[] }), iN .i64 0, .string ({ data := #[] }), .slice none 0 0, .string ({ data := #[] }), iN .i64 0]) h140 47 ky ky ?_
          intro q145 w146 (h147 : HA (bs w) ((q145, 47, #[iN .i64 0, iN .i64 0, iN .i64 0, .string ({ data := #[] }), .slice none 0 0, .string ({ data := #[] }), iN .i64 0, iN .i64 0, .string ({ data := #[] }), .string ({ data := #[] }), iN .i64 0, .string ({ data := #[] }), .string ({ data := #[] }), iN .i64 0, .string ({ data := #[] }), .slice none 0 0, .string ({ data := #[] }), iN .i64 0]) :: (q68, 47, anC a (.slice pl2 a.li.ds.length cl2) (.slice pi2 a.its.length ci2)) :: (q1, 56, spC x) :: ((Lb135 ++ (La134 ++ [])) ++ (Lb9 ++ (La9 ++ [])))) w146)
          refine zv (iN .u64 id) ?_
          refine wl_fill (c' := anC a (.slice po141 a.li.ds.length pc142) (.slice po143 a.its.length pc144)) h147 0 rfl ky ky ky rfl ky ky ?_
          intro w148 (h149 : HA (bs w) ((q145, 47, anC a (.slice po141 a.li.ds.length pc142) (.slice po143 a.its.length pc144)) :: (q68, 47, anC a (.slice pl2 a.li.ds.length cl2) (.slice pi2 a.its.length ci2)) :: (q1, 56, spC x) :: ((Lb135 ++ (La134 ++ [])) ++ (Lb9 ++ (La9 ++ [])))) w148)
          refine zv (iN .i64 0) ?_
          refine wl_nil (then_at rfl (wp_seq (wp_seq (wl_region ?_))))
          refine zv (iN .i64 0) ?_
          refine zu (.bool false) (run_nei (k := .i64) (a := 0) (b := 0) ky ky false (by decide)) ?_
          refine zv (.bool false) ?_
          refine zv (iN .i64 0) ?_
          refine zu (.bool false) (run_nei (k := .i64) (a := 0) (b := 0) ky ky false (by decide)) ?_
          refine zv (.bool false) ?_
          refine zv (.bool false) ?_
          refine zv (iN .u64 id) ?_
          refine zv (iN .u64 id) ?_
          refine zu (.bool false) (run_nei (k := .u64) (a := id) (b := id) ky ky false (decide_eq_false (fun h => h rfl))) ?_
          refine zv (.bool false) ?_
          refine zv (.bool false) ?_
          refine wl_load h149 1 rfl ky ky Try.underlying47 rfl ky ?_
          refine wl_load h149 0 rfl ky ky Try.underlying47 rfl ky ?_
          refine wl_call (v := .bool true) h149 ky enter24 #[.agg (anC a (.slice pl2 a.li.ds.length cl2) (.slice pi2 a.its.length ci2)), .agg (anC a (.slice po141 a.li.ds.length pc142) (.slice po143 a.its.length pc144))] ky (((sma_any a a (At.row hRl2 (fun y hy => h149.blk y (by simp [hy]))) (At.row hRi2 (fun y hy => h149.blk y (by simp [hy]))) (At.row hRa136 (fun y hy => h149.blk y (by simp [hy]))) (At.row hRb137 (fun y hy => h149.blk y (by simp [hy]))) ga1 ga2).mono fun _ _ hh => ⟨by rw [hh.1, (sameA_eq a a).trans (decide_eq_true rfl)], hh.2⟩)) ?_
          intro w150 h151
          refine zv (.bool false) ?_
          refine zv (.bool false) ?_
          refine zv (.bool false) ?_
          refine zv (.string z) ?_
          refine zu (iN .i64 z.size) (run_len (s := z) ky) ?_
          refine zu (.bool false) (run_eqi (k := .i64) (a := z.size) (b := 0) ky ky false (decide_eq_false z0)) ?_
          refine zv (.bool false) ?_
          refine wl_nil (then_at rfl ?_)
          refine wp_cond_false ky ?_
          refine wp_skip (then_at rfl (wp_seq (wl_region ?_)))
          refine zv (.string z) ?_
          refine zv (.string z) ?_
          refine zu (iN .i64 z.size) (run_len (s := z) ky) ?_
          refine zu (iN .i64 (z.size - 1)) (run_sub (k := .i64) (a := z.size) (b := 1) ky ky (by first | omega | (simp only [top]; omega)) (by first | omega | (simp only [top]; omega))) ?_
          refine zu (.string (z.extract 0 (z.size - 1))) (run_cut_hi (s := z) (b := z.size - 1) ky ky (by omega)) ?_
          refine wl_callx ky enter26 #[.string (z.extract 0 (z.size - 1))] ky (da_E hcuta hzc) ?_
          rintro _ w159 ⟨sv152, si153, La154, Lb155, rfl, hRa156, hRb157, h158⟩
          refine ⟨_, rfl, ?_⟩
          have h160 := HA.keep _ _ h151 h158.old.old
          refine zv (.tuple #[iN .u64 0, .agg (anC an0 sv152 si153), iN .i64 4]) ?_
          refine zv (iN .u64 0) ?_
          refine zv (.agg (anC an0 sv152 si153)) ?_
          refine zv (iN .i64 4) ?_
          refine zv (iN .i64 4) ?_
          refine wl_nil (then_at rfl (wp_seq (wl_region ?_)))
          refine zv (.string z) ?_
          refine zu (.string (add0 z)) (run_cat (s := z) (t := { data := #[0] }) ky ky (by have h2 : ({ data := #[0] } : ByteArray).size = 1 := rfl; omega)) ?_
          refine wl_callx ky enter26 #[.string (add0 z)] ky (da_E hmora hzm) ?_
          rintro _ w168 ⟨sv161, si162, La163, Lb164, rfl, hRa165, hRb166, h167⟩
          refine ⟨_, rfl, ?_⟩
          have h169 := HA.keep _ _ h160 h167.old.old
          refine zv (.tuple #[iN .u64 0, .agg (anC an0 sv161 si162), iN .i64 4]) ?_
          refine zv (iN .u64 0) ?_
          refine zv (.agg (anC an0 sv161 si162)) ?_
          refine zv (iN .i64 4) ?_
          refine zv (iN .i64 4) ?_
          refine wl_nil (then_at rfl (wp_seq (wl_region ?_)))
          refine zv (iN .i64 4) ?_
          refine zu (.bool true) (run_eqi (k := .i64) (a := 4) (b := 4) ky ky true (by decide)) ?_
          refine zv (.bool true) ?_
          refine zv (iN .i64 4) ?_
          refine zu (.bool true) (run_eqi (k := .i64) (a := 4) (b := 4) ky ky true (by decide)) ?_
          refine zv (.bool true) ?_
          refine zv (.bool true) ?_
          refine wl_call (v := .bool true) h169 ky enter20 #[] ky (works_any) ?_
          intro w170 h171
          refine zv (.bool true) ?_
          refine zv (.bool true) ?_
          refine wl_nil (then_at rfl ?_)
          refine wp_ret ?_
          repeat first | refine then_ret ?_ | refine block_ret ?_
          exact bodyPost_ret (v := .bool true) ky rfl ⟨rfl, h171.old.old⟩
theorem back_any {w : World} (x : Sp) (hx : OkS x) (id : Nat) (hid : id < 18446744073709551616) :
    Calls Try.prog 5 #[iN .u64 id, .agg (spC x)] w fun e w' => e = .returned (.bool true) ∧ Below w.heap.size w w' := by
  obtain ⟨c, hc⟩ : ∃ c, callF x = c := ⟨_, rfl⟩
  obtain ⟨a, ha⟩ : ∃ a, ansF x = a := ⟨_, rfl⟩
  have h1 := callF_ok x hx id
  have h2 := ansF_ok x hx id
  rw [hc] at h1
  rw [ha] at h2
  have y9 : (calB id c).size ≠ 0 := by
    have h3 : 9 ≤ (calB id c).size := by
      have : ∀ i, 9 ≤ (calP id c i).size := fun i => by
        induction i with
        | zero => show 9 ≤ (nbT 8 id ++ nbT 1 c.kd.toNat).size; rw [ByteArray.size_append, nbT_size (by decide) (by decide), nbT_size (by decide) (by decide)]; omega
        | succ i ih =>
          rcases q : conA (kinC i) c.kd with _ | _
          · rw [calP_f q]; exact ih
          · rw [calP_t q, ByteArray.size_append]; omega
      exact this 9
    omega
  have z9 : (ansB id a).size ≠ 0 := by
    have h3 : 1 ≤ (ansB id a).size := by
      unfold ansB
      rw [ByteArray.size_append, nbT_size (by decide) (by decide)]
      omega
    omega
  obtain ⟨k1, e1⟩ := bl_cut y9
  obtain ⟨k2, e2⟩ := bl_cut z9
  have s1 : ({ data := #[0] } : ByteArray).size = 1 := rfl
  have hO := mayC_ok h1.1
  have b1 : c.li.ds.length ≤ 1000000 := by
    unfold OkC at hO
    rcases hO with ⟨_, _, e⟩ | ⟨_, _, e⟩ | ⟨_, h, _⟩ | ⟨_, _, e⟩ | ⟨_, _, e⟩ | ⟨_, _, e⟩ | ⟨_, _, e⟩ | ⟨_, _, e⟩ | ⟨_, _, e⟩
    · rw [e]; exact Nat.zero_le 1000000
    · rw [e]; exact Nat.zero_le 1000000
    · have := (mayL_iff h).dl; omega
    · rw [e]; exact Nat.zero_le 1000000
    · rw [e]; exact Nat.zero_le 1000000
    · rw [e]; exact Nat.zero_le 1000000
    · rw [e]; exact Nat.zero_le 1000000
    · rw [e]; exact Nat.zero_le 1000000
    · rw [e]; exact Nat.zero_le 1000000
  have b2 : c.on.length ≤ 1000000 := by
    unfold OkC at hO
    rcases hO with ⟨_, _, e⟩ | ⟨_, _, e⟩ | ⟨_, _, e⟩ | ⟨_, h, _⟩ | ⟨_, _, e⟩ | ⟨_, _, e⟩ | ⟨_, _, e⟩ | ⟨_, _, e⟩ | ⟨_, _, e⟩
    · rw [e]; exact Nat.zero_le 1000000
    · rw [e]; exact Nat.zero_le 1000000
    · rw [e]; exact Nat.zero_le 1000000
    · have := of_decide_eq_true (and2 (and2 h).1).2; omega
    · rw [e]; exact Nat.zero_le 1000000
    · rw [e]; exact Nat.zero_le 1000000
    · rw [e]; exact Nat.zero_le 1000000
    · rw [e]; exact Nat.zero_le 1000000
    · rw [e]; exact Nat.zero_le 1000000
  have x1 := ext_size (s := calB id c) (n := (calB id c).size - 1) (by omega)
  have x2 := ext_size (s := ansB id a) (n := (ansB id a).size - 1) (by omega)
  have hkc : chkC c = 0 := by unfold chkC; rw [h1.1]; rfl
  have l1 := h1.2
  have l2 := h2.2.1
  exact back_core x hx hc b1 b2 (encC_ok h1.1 l1) (decC_enc h1.1 hid l1) (decC_less h1.1 hid l1 e1) (decC_more h1.1 hid l1 (bl_snoc _ 0)) hkc y9 l1 (by omega) (by rw [add0_size]; omega) ha h2.2.2.1 h2.2.2.2 (encN_ok h2.1 l2) (decN_enc h2.1 hid l2) (decN_less h2.1 hid l2 e2) (decN_more h2.1 hid l2 (bl_snoc _ 0)) z9 l2 (by omega) (by rw [add0_size]; omega)
end Go.Proofs.Ytmidladenidngaa
