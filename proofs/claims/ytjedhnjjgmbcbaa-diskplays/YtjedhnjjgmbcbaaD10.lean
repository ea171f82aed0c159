/-
  Wake.
-/
import Derived.Test.YtjedhnjjgmbcbaaDW
namespace Go.Proofs.Ytjedhnjjgmbcbaa
open Go.RowKit

def wakeD (D : DS) (ks : List Int) : DS := ⟨wkK D.fs ks D.fs.length, D.free + used D.fs - used (wkK D.fs ks D.fs.length), 0, false, D.sizes⟩
theorem wk_used (fs : List FA) (ks : List Int) (k : Nat) : used (wkK fs ks k) ≤ used fs := by
  unfold wkK
  generalize rankF fs = r
  induction fs with
  | nil => exact Nat.le_refl _
  | cons x l ih =>
    simp only [used, List.map_cons, List.sum_cons] at ih ⊢
    have : (if r x.nm < k then cutA x (ks.getD (r x.nm) 0) else x).da.length ≤ x.da.length := by
      split
      · simp only [cutA, List.length_take]; omega
      · exact Nat.le_refl _
    omega
set_option linter.unusedVariables false in
set_option maxRecDepth 100000 in
set_option maxHeartbeats 2000000 in
theorem Wake_any {w0 : World} {M : ML} {d : Dk} {D : DS} {L : BL} {w : World} (hD : DH w0 M d D L w) {o : Option Addr} {c : Nat} {ks : List Int} (hkv : KV w0 L o ks) (hkn : ks.length ≤ 1000000) {U N : Nat} (hb : DB D U N) (hU : U ≤ 1000000) (hN0 : N ≤ 1000000) :
    Calls Try.prog 20 #[pt d.q, .slice o ks.length c] w fun e w' => e = .returned (iN .i64 0) ∧ DH w0 M d (wakeD D ks) L w' := by
  obtain ⟨fl, nx, v, Lr, hfl, hK, hR, H0⟩ := hD
  have hfn : fl.length = D.fs.length := by rw [← hfl, List.length_map]
  have hlen : fl.length ≤ 1000000 := by have := hb.ct; omega
  have hns : ∀ f ∈ fl, f.nm.size ≤ 64 := fun f hf => hb.nm (ab f) (by rw [← hfl]; exact List.mem_map.2 ⟨f, hf, rfl⟩)
  have hnd : (D.fs.map (·.nm)).Nodup := by rw [← hfl, List.map_map]; exact hK.nms
  have hrm := hb.rm
  have hus := hb.us
  go_enter Try.func20, Try.ntmps20
  refine wp_seq ?_
  refine wl_region ?_
  refine wl_val (iN .i64 0) (by kernel_rfl) (by kernel_rfl) ?_
  refine wl_nil ?_
  refine then_at rfl ?_
  refine wp_seq ?_
  refine wp_seq ?_
  refine wl_region ?_
  refine wl_val (.pointer (some ⟨d.q, 0, none⟩)) (by kernel_rfl) (by kernel_rfl) ?_
  refine wl_call (v := .bool false) H0 (by kernel_rfl) enter50 #[.pointer (some ⟨d.q, 0, none⟩)] (by kernel_rfl) (none_no (H0.get 0 rfl)) ?_
  intro w1 h2
  refine wl_nil ?_
  refine then_at rfl ?_
  refine wp_cond_false (by kernel_rfl) ?_
  refine wp_skip ?_
  refine then_at rfl ?_
  refine wp_seq ?_
  refine wp_seq ?_
  refine wl_region ?_
  refine wl_val (.pointer (some ⟨d.q, 0, none⟩)) (by kernel_rfl) (by kernel_rfl) ?_
  refine wl_val (.pointer (some ⟨d.q, 0, none⟩)) (by kernel_rfl) (by kernel_rfl) ?_
  refine wl_val (.pointer (some ⟨d.q, 0, none⟩)) (by kernel_rfl) (by kernel_rfl) ?_
  refine wl_val (.map (some d.r)) (by kernel_rfl) (run_load1 (fun w => Try.isAgg59 w) (by kernel_rfl) (((h2.get 0 rfl).cell 0).trans rfl)) ?_
  refine wl_callx (by kernel_rfl) enter52 #[.map (some d.r)] (by kernel_rfl) (keys_any d.r w1) ?_
  rintro _ w3 ⟨rfl, hkw⟩
  refine ⟨_, rfl, ?_⟩
  subst hkw
  have h4 := h2.make 59 #[.map (some d.r)]
  generalize hkb : w1.heap.size = kb at h4 ⊢
  generalize World.alloc w1 _ = w5 at h4 ⊢
  refine wl_callx (by kernel_rfl) enter51 #[.func (.func 66) #[] #[.pointer (some ⟨kb, 0, none⟩)]] (by kernel_rfl) (sorted_any hK hns hlen (h4.old.maps _ (List.mem_cons_self ..)) (h4.get 0 rfl)) ?_
  rintro _ w6 ⟨vN, rfl, hrow, hbs⟩
  refine ⟨_, rfl, ?_⟩
  obtain ⟨LN, hN, hO⟩ := h4.owned hbs hrow
  obtain ⟨pN, cN, rfl⟩ := hN.form
  have h7 : HA ⟨w0, (d.r, .mp (eF fl) nx) :: M⟩ ((d.q, 61, dcell d.r D.free D.left D.down v) :: ((LN ++ Lr) ++ (FB fl ++ L))) w6 := by
    refine (hO.sub (List.Sublist.append_left (List.sublist_cons_self _ _) LN)).perm ?_
    rw [List.append_assoc]
    exact perm_mv LN [(d.q, 61, dcell d.r D.free D.left D.down v)] (Lr ++ (FB fl ++ L))
  refine wl_val (iN .i64 fl.length) (by kernel_rfl) (by kernel_rfl) ?_
  refine wl_val (iN .i64 0) (by kernel_rfl) (by kernel_rfl) ?_
  refine wl_nil ?_
  refine then_at rfl ?_
  refine wp_block ?_
  refine wp_count (fun k A w' => ∃ u8 : Nat → Value, A = ⟨(pt d.q :: .slice o ks.length c :: un :: un :: iN .i64 0 :: u8 5 :: u8 6 :: u8 7 :: pt d.q :: .bool false :: pt d.q :: pt d.q :: pt d.q :: .map (some d.r) :: .func (.func 66) #[] #[pt kb] :: .slice pN fl.length cN :: iN .i64 fl.length :: iN .i64 k :: u8 18 :: u8 19 :: u8 20 :: u8 21 :: u8 22 :: u8 23 :: u8 24 :: u8 25 :: u8 26 :: u8 27 :: u8 28 :: u8 29 :: u8 30 :: u8 31 :: u8 32 :: u8 33 :: u8 34 :: u8 35 :: u8 36 :: u8 37 :: u8 38 :: u8 39 :: u8 40 :: u8 41 :: u8 42 :: u8 43 :: u8 44 :: u8 45 :: List.replicate 6 un).toArray, []⟩ ∧ ∃ fl2, fl2.map ab = wkK D.fs ks k ∧ FK fl2 nx ∧ eF fl2 = eF fl ∧ HA ⟨w0, (d.r, .mp (eF fl) nx) :: M⟩ ((d.q, 61, dcell d.r (D.free + used D.fs - used (wkK D.fs ks k)) D.left D.down v) :: ((LN ++ Lr) ++ (FB fl2 ++ L))) w') fl.length ?_ ?_ ?_
  · exact ⟨fun ii => (([(5, undef), (6, undef), (7, undef), (18, undef), (19, undef), (20, undef), (21, undef), (22, undef), (23, undef), (24, undef), (25, undef), (26, undef), (27, undef), (28, undef), (29, undef), (30, undef), (31, undef), (32, undef), (33, undef), (34, undef), (35, undef), (36, undef), (37, undef), (38, undef), (39, undef), (40, undef), (41, undef), (42, undef), (43, undef), (44, undef), (45, undef)] : List (Nat × Value)).find? (·.1 == ii)).elim undef (·.2), by kernel_rfl, fl, by rw [wk_zero, hfl], hK, rfl, by rw [wk_zero, show D.free + used D.fs - used D.fs = D.free by omega]; exact h7⟩
  · rintro k hk _ w9 ⟨u8, rfl, fl2, hw2, hK2, hE, hL⟩
    rw [← hE] at hL
    obtain ⟨A, f, B, rfl, hnk⟩ := wk_file (by rw [← hfn]; exact hk) hw2
    obtain ⟨gN, curN, hpN, hLN, hcN⟩ := hN.at hk
    have hnm : curN[k]? = some (.string f.nm) := by rw [hcN, List.getElem?_map, hfl, hnk, Option.map_some, enc_nm]
    have hrow2 := hK2.row f (by simp)
    obtain ⟨pf, cf, hv⟩ := hrow2.form
    rw [hv] at hrow2
    have hsy := hK2.syn f (by simp)
    have hfd : f.da.length ≤ used (wkK D.fs ks k) := by rw [← hw2]; exact used_mem (x := ab f) (by simp)
    have hwu := wk_used D.fs ks k
    have hL := hL.file
    rw [hv] at hL
    refine wp_seq ?_
    refine wl_region ?_
    refine wl_val (.bool true) (by kernel_rfl) (run_lss (k := .i64) (a := k) (b := fl.length) (by kernel_rfl) (by kernel_rfl) true (decide_eq_true (by omega))) ?_
    refine wl_nil ?_
    refine then_at rfl ?_
    refine wp_seq ?_
    refine wp_cond_true (by kernel_rfl) ?_
    refine wp_skip ?_
    refine then_at (F := ⟨(pt d.q :: .slice o ks.length c :: un :: un :: iN .i64 0 :: u8 5 :: u8 6 :: u8 7 :: pt d.q :: .bool false :: pt d.q :: pt d.q :: pt d.q :: .map (some d.r) :: .func (.func 66) #[] #[pt kb] :: .slice pN fl.length cN :: iN .i64 fl.length :: iN .i64 k :: .bool true :: u8 19 :: u8 20 :: u8 21 :: u8 22 :: u8 23 :: u8 24 :: u8 25 :: u8 26 :: u8 27 :: u8 28 :: u8 29 :: u8 30 :: u8 31 :: u8 32 :: u8 33 :: u8 34 :: u8 35 :: u8 36 :: u8 37 :: u8 38 :: u8 39 :: u8 40 :: u8 41 :: u8 42 :: u8 43 :: u8 44 :: u8 45 :: List.replicate 6 un).toArray, []⟩) (by kernel_rfl) ?_
    refine wp_seq ?_
    refine wp_block ?_
    refine wp_seq ?_
    refine wl_region ?_
    refine wl_val (iN .i64 k) (by kernel_rfl) (by kernel_rfl) ?_
    refine wl_val (.pointer (some ⟨gN, k, none⟩)) (by kernel_rfl) (run_addr_p (g := gN) (n := fl.length) (c := cN) (i := k) hpN (by kernel_rfl) (by kernel_rfl) hk) ?_
    refine wl_val (.string f.nm) (by kernel_rfl) (run_load1 (fun w => Try.isAgg9 w) (by kernel_rfl) (((hL.blk (gN, 9, curN) (by simp [hLN])).cell k).trans hnm)) ?_
    refine wl_val (iN .i64 k) (by kernel_rfl) (by kernel_rfl) ?_
    refine wl_val (.string f.nm) (by kernel_rfl) (by kernel_rfl) ?_
    refine wl_nil ?_
    refine then_at rfl ?_
    refine wp_seq ?_
    refine wl_region ?_
    refine wl_val (iN .i64 0) (by kernel_rfl) (by kernel_rfl) ?_
    refine wl_nil ?_
    refine then_at rfl ?_
    refine wp_seq ?_
    refine wp_seq ?_
    by_cases hkl : k < ks.length
    · obtain ⟨st, hst⟩ : ∃ st, stayN (ks.getD k 0) (f.da.length - f.sy) = st := ⟨_, rfl⟩
      have hle := stayN_le (ks.getD k 0) (f.da.length - f.sy)
      rw [hst] at hle
      obtain ⟨kbb, hko, hkc⟩ := hkv.resolve_left (fun e => by rw [e] at hkl; cases hkl)
      refine wl_region ?_
      refine wl_val (iN .i64 k) (by kernel_rfl) (by kernel_rfl) ?_
      refine wl_val (.slice o ks.length c) (by kernel_rfl) (by kernel_rfl) ?_
      refine wl_val (iN .i64 ks.length) (by kernel_rfl) (by kernel_rfl) ?_
      refine wl_val (.bool true) (by kernel_rfl) (run_lss (k := .i64) (a := k) (b := ks.length) (by kernel_rfl) (by kernel_rfl) true (decide_eq_true hkl)) ?_
      refine wl_nil ?_
      refine then_at rfl ?_
      refine wp_cond_true (by kernel_rfl) ?_
      refine wl_region ?_
      refine wl_val (.slice o ks.length c) (by kernel_rfl) (by kernel_rfl) ?_
      refine wl_val (iN .i64 k) (by kernel_rfl) (by kernel_rfl) ?_
      refine wl_val (.pointer (some (kbb.add k))) (by kernel_rfl) (run_addr_o (b := kbb) (n := ks.length) (c := c) (i := k) hko (by kernel_rfl) (by kernel_rfl) hkl) ?_
      refine wl_val (.int .i64 (ks.getD k 0)) (by kernel_rfl) (run_load_at (b := kbb.add k) (fun w => Try.isAgg3 w) (by kernel_rfl) (hkc _ ((d.q, 61, dcell d.r (D.free + used D.fs - used (wkK D.fs ks k)) D.left D.down v) :: (f.p, 67, fcell (.slice pf f.da.length cf) f.sy) :: (f.Lr ++ ((LN ++ Lr) ++ FB (A ++ B)))) _ (by simpa [List.append_assoc] using hL) k hkl)) ?_
      refine wl_val (.int .i64 (ks.getD k 0)) (by kernel_rfl) (by kernel_rfl) ?_
      refine wl_nil ?_
      refine then_at rfl ?_
      refine wp_region_wx (HA ⟨w0, (d.r, .mp (eF (A ++ f :: B)) nx) :: M⟩ [(d.q, 61, dcell d.r (D.free + used D.fs - used (wkK D.fs ks k)) D.left D.down v)]) (fun AQ w' => AQ = ⟨(pt d.q :: .slice o ks.length c :: un :: un :: iN .i64 0 :: iN .i64 k :: .string f.nm :: .int .i64 (ks.getD k 0) :: pt d.q :: .bool false :: pt d.q :: pt d.q :: pt d.q :: .map (some d.r) :: .func (.func 66) #[] #[pt kb] :: .slice pN fl.length cN :: iN .i64 fl.length :: iN .i64 k :: .bool true :: iN .i64 k :: .pointer (some ⟨gN, k, none⟩) :: .string f.nm :: iN .i64 k :: .slice o ks.length c :: iN .i64 ks.length :: .bool true :: .slice o ks.length c :: iN .i64 k :: .pointer (some (kbb.add k)) :: .int .i64 (ks.getD k 0) :: pt d.q :: pt d.q :: .pointer (some ⟨d.q, 1, none⟩) :: iN .i64 (D.free + used D.fs - used (wkK D.fs ks k)) :: pt d.q :: pt d.q :: pt d.q :: .map (some d.r) :: .string f.nm :: pt f.p :: .int .i64 (ks.getD k 0) :: iN .i64 (f.da.length - f.sy - st) :: iN .i64 ((D.free + used D.fs - used (wkK D.fs ks k)) + (f.da.length - f.sy - st)) :: pt d.q :: .pointer (some ⟨d.q, 1, none⟩) :: u8 45 :: List.replicate 6 un).toArray, []⟩ ∧ HA ⟨w0, (d.r, .mp (eF (A ++ f :: B)) nx) :: M⟩ ((d.q, 61, dcell d.r ((D.free + used D.fs - used (wkK D.fs ks k)) + (f.da.length - f.sy - st)) D.left D.down v) :: (f.p, 67, fcell (.slice pf (f.sy + st) cf) (f.sy + st)) :: (f.Lr ++ ((LN ++ Lr) ++ (FB (A ++ B) ++ L)))) w') 16 (by kernel_rfl) (by kernel_rfl) (by kernel_rfl) (by kernel_rfl) (by kernel_rfl) (hL.drew.sub (List.Sublist.cons_cons _ (List.nil_sublist _))) ?_ ?_
      · have h10 := hL.drew
        refine wx_pure (i := 0) (.pointer (some ⟨d.q, 0, none⟩)) rfl rfl (by kernel_rfl) (by kernel_rfl) (fun _ => (by kernel_rfl)) ?_
        refine wx_pure (i := 1) (.pointer (some ⟨d.q, 0, none⟩)) rfl rfl (by kernel_rfl) (by kernel_rfl) (fun _ => (by kernel_rfl)) ?_
        refine wx_pure (i := 2) (.pointer (some ⟨d.q, 1, none⟩)) rfl rfl (by kernel_rfl) (by kernel_rfl) (fun _ => (by kernel_rfl)) ?_
        refine wx_val (i := 3) (iN .i64 (D.free + used D.fs - used (wkK D.fs ks k))) rfl rfl (by kernel_rfl) (by kernel_rfl) (fun w' h' => run_load1 (fun w => Try.isAgg3 w) (by kernel_rfl) (((h'.get 0 rfl).cell 1).trans rfl)) ?_
        refine wx_pure (i := 4) (.pointer (some ⟨d.q, 0, none⟩)) rfl rfl (by kernel_rfl) (by kernel_rfl) (fun _ => (by kernel_rfl)) ?_
        refine wx_pure (i := 5) (.pointer (some ⟨d.q, 0, none⟩)) rfl rfl (by kernel_rfl) (by kernel_rfl) (fun _ => (by kernel_rfl)) ?_
        refine wx_pure (i := 6) (.pointer (some ⟨d.q, 0, none⟩)) rfl rfl (by kernel_rfl) (by kernel_rfl) (fun _ => (by kernel_rfl)) ?_
        refine wx_val (i := 7) (.map (some d.r)) rfl rfl (by kernel_rfl) (by kernel_rfl) (fun w' h' => run_load1 (fun w => Try.isAgg59 w) (by kernel_rfl) (((h'.get 0 rfl).cell 0).trans rfl)) ?_
        refine wx_pure (i := 8) (.string f.nm) rfl rfl (by kernel_rfl) (by kernel_rfl) (fun _ => (by kernel_rfl)) ?_
        refine wx_val (i := 9) (.pointer (some ⟨f.p, 0, none⟩)) rfl rfl (by kernel_rfl) (by kernel_rfl) (fun w' h' => run_look_yes (h'.old.maps _ (List.mem_cons_self ..)) rfl hK2.apartA (by kernel_rfl) (by kernel_rfl)) ?_
        refine wx_pure (i := 10) (.int .i64 (ks.getD k 0)) rfl rfl (by kernel_rfl) (by kernel_rfl) (fun _ => (by kernel_rfl)) ?_
        refine wx_one 11 (by kernel_rfl) ?_
        refine ex_callx rfl (by kernel_rfl) h10 enter53 #[.pointer (some ⟨f.p, 0, none⟩), .int .i64 (ks.getD k 0)] (by kernel_rfl) (fun w11 h12 => lose_any (k := ks.getD k 0) (h12.perm (List.Perm.swap _ _ _)) hsy (by omega) (hrow2.cut' _ (Nat.le_refl _)).1 hst) ?_
        rintro w11 h12 _ w13 ⟨rfl, hlo⟩
        have h14 : HA ⟨w0, (d.r, .mp (eF (A ++ f :: B)) nx) :: M⟩ ((d.q, 61, dcell d.r (D.free + used D.fs - used (wkK D.fs ks k)) D.left D.down v) :: (f.p, 67, fcell (.slice pf (f.sy + st) cf) (f.sy + st)) :: (f.Lr ++ ((LN ++ Lr) ++ (FB (A ++ B) ++ L)))) w13 := hlo.perm (List.Perm.swap _ _ _)
        refine ⟨_, rfl, _, .inr rfl, (h14.sub (List.Sublist.cons_cons _ (List.nil_sublist _))), ?_⟩
        refine wx_pure (i := 12) (iN .i64 ((D.free + used D.fs - used (wkK D.fs ks k)) + (f.da.length - f.sy - st))) rfl rfl (by kernel_rfl) (by kernel_rfl) (fun _ => (run_add (k := .i64) (a := D.free + used D.fs - used (wkK D.fs ks k)) (b := f.da.length - f.sy - st) (by kernel_rfl) (by kernel_rfl) (by first | omega | (simp only [top]; omega)))) ?_
        refine wx_pure (i := 13) (.pointer (some ⟨d.q, 0, none⟩)) rfl rfl (by kernel_rfl) (by kernel_rfl) (fun _ => (by kernel_rfl)) ?_
        refine wx_pure (i := 14) (.pointer (some ⟨d.q, 1, none⟩)) rfl rfl (by kernel_rfl) (by kernel_rfl) (fun _ => (by kernel_rfl)) ?_
        refine wx_one 15 (by kernel_rfl) ?_
        refine ex_skip rfl (by kernel_rfl) (by kernel_rfl) h14 fun w15 h16 => ⟨_, run_storev (v := iN .i64 ((D.free + used D.fs - used (wkK D.fs ks k)) + (f.da.length - f.sy - st))) (fun w => Try.sizeOf3 w) (by kernel_rfl) (by kernel_rfl) (by kernel_rfl) (by rw [(h16.get 0 rfl).cell]; rfl) ((h16.get 0 rfl).free _ (by show 1 < 5; decide)), _, h16.put 0 rfl 1 _, ?_⟩
        have h17 : HA ⟨w0, (d.r, .mp (eF (A ++ f :: B)) nx) :: M⟩ ((d.q, 61, dcell d.r ((D.free + used D.fs - used (wkK D.fs ks k)) + (f.da.length - f.sy - st)) D.left D.down v) :: (f.p, 67, fcell (.slice pf (f.sy + st) cf) (f.sy + st)) :: (f.Lr ++ ((LN ++ Lr) ++ (FB (A ++ B) ++ L)))) _ := h16.put 0 rfl 1 (iN .i64 ((D.free + used D.fs - used (wkK D.fs ks k)) + (f.da.length - f.sy - st)))
        refine wx_end fun w18 hbx _ => ?_
        have h19 := HA.keep _ _ h17 hbx
        exact ⟨by kernel_rfl, h19⟩
      · rintro _ w20 ⟨rfl, h21⟩
        refine block_normal ?_
        refine then_at rfl ?_
        refine wl_region ?_
        refine wl_val (iN .i64 (k + 1)) (by kernel_rfl) (run_add (k := .i64) (a := k) (b := 1) (by kernel_rfl) (by kernel_rfl) (by first | omega | (simp only [top]; omega))) ?_
        refine wl_val (iN .i64 (k + 1)) (by kernel_rfl) (by kernel_rfl) ?_
        refine wl_nil ?_
        have hup := upd_at hK2 ⟨f.nm, f.p, f.da.take (f.sy + st), f.sy + st, .slice pf (f.sy + st) cf, f.Lr, f.bn⟩ (fun x => cutA x (ks.getD k 0)) (by simp only [cutA, ab, hst])
        rw [hw2, wk_step hnd hnk rfl] at hup
        have huc := used_cut (A := A) (B := B) (f := f) (g := ⟨f.nm, f.p, f.da.take (f.sy + st), f.sy + st, .slice pf (f.sy + st) cf, f.Lr, f.bn⟩) (by simp; omega)
        rw [hup, hw2] at huc
        have hgl : (f.da.take (f.sy + st)).length = f.sy + st := by rw [List.length_take]; omega
        have hK3 := hK2.turn (g := ⟨f.nm, f.p, f.da.take (f.sy + st), f.sy + st, .slice pf (f.sy + st) cf, f.Lr, f.bn⟩) rfl rfl (hrow2.cut' _ (by omega)).2 (by show f.sy + st ≤ (f.da.take (f.sy + st)).length; omega)
        simp only [hgl] at huc
        exact then_I ⟨fun ii => (([(5, iN .i64 k), (6, .string f.nm), (7, .int .i64 (ks.getD k 0)), (18, .bool true), (19, iN .i64 k), (20, .pointer (some ⟨gN, k, none⟩)), (21, .string f.nm), (22, iN .i64 k), (23, .slice o ks.length c), (24, iN .i64 ks.length), (25, .bool true), (26, .slice o ks.length c), (27, iN .i64 k), (28, .pointer (some (kbb.add k))), (29, .int .i64 (ks.getD k 0)), (30, .pointer (some ⟨d.q, 0, none⟩)), (31, .pointer (some ⟨d.q, 0, none⟩)), (32, .pointer (some ⟨d.q, 1, none⟩)), (33, iN .i64 (D.free + used D.fs - used (wkK D.fs ks k))), (34, .pointer (some ⟨d.q, 0, none⟩)), (35, .pointer (some ⟨d.q, 0, none⟩)), (36, .pointer (some ⟨d.q, 0, none⟩)), (37, .map (some d.r)), (38, .string f.nm), (39, .pointer (some ⟨f.p, 0, none⟩)), (40, .int .i64 (ks.getD k 0)), (41, iN .i64 (f.da.length - f.sy - st)), (42, iN .i64 ((D.free + used D.fs - used (wkK D.fs ks k)) + (f.da.length - f.sy - st))), (43, .pointer (some ⟨d.q, 0, none⟩)), (44, .pointer (some ⟨d.q, 1, none⟩)), (45, iN .i64 (k + 1))] : List (Nat × Value)).find? (·.1 == ii)).elim undef (·.2), by kernel_rfl, A ++ ⟨f.nm, f.p, f.da.take (f.sy + st), f.sy + st, .slice pf (f.sy + st) cf, f.Lr, f.bn⟩ :: B, hup, hK3, by rw [← hE, eF_same (g := ⟨f.nm, f.p, f.da.take (f.sy + st), f.sy + st, .slice pf (f.sy + st) cf, f.Lr, f.bn⟩) (f := f) rfl rfl rfl], by rw [← hE, show D.free + used D.fs - used (wkK D.fs ks (k + 1)) = D.free + used D.fs - used (wkK D.fs ks k) + (f.da.length - f.sy - st) by omega]; exact HA.unfile (f := ⟨f.nm, f.p, f.da.take (f.sy + st), f.sy + st, .slice pf (f.sy + st) cf, f.Lr, f.bn⟩) h21⟩
    · obtain ⟨st, hst⟩ : ∃ st, stayN (0) (f.da.length - f.sy) = st := ⟨_, rfl⟩
      have hle := stayN_le (0) (f.da.length - f.sy)
      rw [hst] at hle
      refine wl_region ?_
      refine wl_val (iN .i64 k) (by kernel_rfl) (by kernel_rfl) ?_
      refine wl_val (.slice o ks.length c) (by kernel_rfl) (by kernel_rfl) ?_
      refine wl_val (iN .i64 ks.length) (by kernel_rfl) (by kernel_rfl) ?_
      refine wl_val (.bool false) (by kernel_rfl) (run_lss (k := .i64) (a := k) (b := ks.length) (by kernel_rfl) (by kernel_rfl) false (decide_eq_false hkl)) ?_
      refine wl_nil ?_
      refine then_at (F := ⟨(pt d.q :: .slice o ks.length c :: un :: un :: iN .i64 0 :: iN .i64 k :: .string f.nm :: iN .i64 0 :: pt d.q :: .bool false :: pt d.q :: pt d.q :: pt d.q :: .map (some d.r) :: .func (.func 66) #[] #[pt kb] :: .slice pN fl.length cN :: iN .i64 fl.length :: iN .i64 k :: .bool true :: iN .i64 k :: .pointer (some ⟨gN, k, none⟩) :: .string f.nm :: iN .i64 k :: .slice o ks.length c :: iN .i64 ks.length :: .bool false :: u8 26 :: u8 27 :: u8 28 :: u8 29 :: u8 30 :: u8 31 :: u8 32 :: u8 33 :: u8 34 :: u8 35 :: u8 36 :: u8 37 :: u8 38 :: u8 39 :: u8 40 :: u8 41 :: u8 42 :: u8 43 :: u8 44 :: u8 45 :: List.replicate 6 un).toArray, []⟩) (by kernel_rfl) ?_
      refine wp_cond_false (by kernel_rfl) ?_
      refine wp_skip ?_
      refine then_at rfl ?_
      refine wp_region_wx (HA ⟨w0, (d.r, .mp (eF (A ++ f :: B)) nx) :: M⟩ [(d.q, 61, dcell d.r (D.free + used D.fs - used (wkK D.fs ks k)) D.left D.down v)]) (fun AQ w' => AQ = ⟨(pt d.q :: .slice o ks.length c :: un :: un :: iN .i64 0 :: iN .i64 k :: .string f.nm :: iN .i64 0 :: pt d.q :: .bool false :: pt d.q :: pt d.q :: pt d.q :: .map (some d.r) :: .func (.func 66) #[] #[pt kb] :: .slice pN fl.length cN :: iN .i64 fl.length :: iN .i64 k :: .bool true :: iN .i64 k :: .pointer (some ⟨gN, k, none⟩) :: .string f.nm :: iN .i64 k :: .slice o ks.length c :: iN .i64 ks.length :: .bool false :: u8 26 :: u8 27 :: u8 28 :: u8 29 :: pt d.q :: pt d.q :: .pointer (some ⟨d.q, 1, none⟩) :: iN .i64 (D.free + used D.fs - used (wkK D.fs ks k)) :: pt d.q :: pt d.q :: pt d.q :: .map (some d.r) :: .string f.nm :: pt f.p :: iN .i64 0 :: iN .i64 (f.da.length - f.sy - st) :: iN .i64 ((D.free + used D.fs - used (wkK D.fs ks k)) + (f.da.length - f.sy - st)) :: pt d.q :: .pointer (some ⟨d.q, 1, none⟩) :: u8 45 :: List.replicate 6 un).toArray, []⟩ ∧ HA ⟨w0, (d.r, .mp (eF (A ++ f :: B)) nx) :: M⟩ ((d.q, 61, dcell d.r ((D.free + used D.fs - used (wkK D.fs ks k)) + (f.da.length - f.sy - st)) D.left D.down v) :: (f.p, 67, fcell (.slice pf (f.sy + st) cf) (f.sy + st)) :: (f.Lr ++ ((LN ++ Lr) ++ (FB (A ++ B) ++ L)))) w') 16 (by kernel_rfl) (by kernel_rfl) (by kernel_rfl) (by kernel_rfl) (by kernel_rfl) (hL.drew.sub (List.Sublist.cons_cons _ (List.nil_sublist _))) ?_ ?_
      · have h22 := hL.drew
        refine wx_pure (i := 0) (.pointer (some ⟨d.q, 0, none⟩)) rfl rfl (by kernel_rfl) (by kernel_rfl) (fun _ => (by kernel_rfl)) ?_
        refine wx_pure (i := 1) (.pointer (some ⟨d.q, 0, none⟩)) rfl rfl (by kernel_rfl) (by kernel_rfl) (fun _ => (by kernel_rfl)) ?_
        refine wx_pure (i := 2) (.pointer (some ⟨d.q, 1, none⟩)) rfl rfl (by kernel_rfl) (by kernel_rfl) (fun _ => (by kernel_rfl)) ?_
        refine wx_val (i := 3) (iN .i64 (D.free + used D.fs - used (wkK D.fs ks k))) rfl rfl (by kernel_rfl) (by kernel_rfl) (fun w' h' => run_load1 (fun w => Try.isAgg3 w) (by kernel_rfl) (((h'.get 0 rfl).cell 1).trans rfl)) ?_
        refine wx_pure (i := 4) (.pointer (some ⟨d.q, 0, none⟩)) rfl rfl (by kernel_rfl) (by kernel_rfl) (fun _ => (by kernel_rfl)) ?_
        refine wx_pure (i := 5) (.pointer (some ⟨d.q, 0, none⟩)) rfl rfl (by kernel_rfl) (by kernel_rfl) (fun _ => (by kernel_rfl)) ?_
        refine wx_pure (i := 6) (.pointer (some ⟨d.q, 0, none⟩)) rfl rfl (by kernel_rfl) (by kernel_rfl) (fun _ => (by kernel_rfl)) ?_
        refine wx_val (i := 7) (.map (some d.r)) rfl rfl (by kernel_rfl) (by kernel_rfl) (fun w' h' => run_load1 (fun w => Try.isAgg59 w) (by kernel_rfl) (((h'.get 0 rfl).cell 0).trans rfl)) ?_
        refine wx_pure (i := 8) (.string f.nm) rfl rfl (by kernel_rfl) (by kernel_rfl) (fun _ => (by kernel_rfl)) ?_
        refine wx_val (i := 9) (.pointer (some ⟨f.p, 0, none⟩)) rfl rfl (by kernel_rfl) (by kernel_rfl) (fun w' h' => run_look_yes (h'.old.maps _ (List.mem_cons_self ..)) rfl hK2.apartA (by kernel_rfl) (by kernel_rfl)) ?_
        refine wx_pure (i := 10) (iN .i64 0) rfl rfl (by kernel_rfl) (by kernel_rfl) (fun _ => (by kernel_rfl)) ?_
        refine wx_one 11 (by kernel_rfl) ?_
        refine ex_callx rfl (by kernel_rfl) h22 enter53 #[.pointer (some ⟨f.p, 0, none⟩), iN .i64 0] (by kernel_rfl) (fun w23 h24 => lose_any (k := 0) (h24.perm (List.Perm.swap _ _ _)) hsy (by omega) (hrow2.cut' _ (Nat.le_refl _)).1 hst) ?_
        rintro w23 h24 _ w25 ⟨rfl, hlo⟩
        have h26 : HA ⟨w0, (d.r, .mp (eF (A ++ f :: B)) nx) :: M⟩ ((d.q, 61, dcell d.r (D.free + used D.fs - used (wkK D.fs ks k)) D.left D.down v) :: (f.p, 67, fcell (.slice pf (f.sy + st) cf) (f.sy + st)) :: (f.Lr ++ ((LN ++ Lr) ++ (FB (A ++ B) ++ L)))) w25 := hlo.perm (List.Perm.swap _ _ _)
        refine ⟨_, rfl, _, .inr rfl, (h26.sub (List.Sublist.cons_cons _ (List.nil_sublist _))), ?_⟩
        refine wx_pure (i := 12) (iN .i64 ((D.free + used D.fs - used (wkK D.fs ks k)) + (f.da.length - f.sy - st))) rfl rfl (by kernel_rfl) (by kernel_rfl) (fun _ => (run_add (k := .i64) (a := D.free + used D.fs - used (wkK D.fs ks k)) (b := f.da.length - f.sy - st) (by kernel_rfl) (by kernel_rfl) (by first | omega | (simp only [top]; omega)))) ?_
        refine wx_pure (i := 13) (.pointer (some ⟨d.q, 0, none⟩)) rfl rfl (by kernel_rfl) (by kernel_rfl) (fun _ => (by kernel_rfl)) ?_
        refine wx_pure (i := 14) (.pointer (some ⟨d.q, 1, none⟩)) rfl rfl (by kernel_rfl) (by kernel_rfl) (fun _ => (by kernel_rfl)) ?_
        refine wx_one 15 (by kernel_rfl) ?_
        refine ex_skip rfl (by kernel_rfl) (by kernel_rfl) h26 fun w27 h28 => ⟨_, run_storev (v := iN .i64 ((D.free + used D.fs - used (wkK D.fs ks k)) + (f.da.length - f.sy - st))) (fun w => Try.sizeOf3 w) (by kernel_rfl) (by kernel_rfl) (by kernel_rfl) (by rw [(h28.get 0 rfl).cell]; rfl) ((h28.get 0 rfl).free _ (by show 1 < 5; decide)), _, h28.put 0 rfl 1 _, ?_⟩
        have h29 : HA ⟨w0, (d.r, .mp (eF (A ++ f :: B)) nx) :: M⟩ ((d.q, 61, dcell d.r ((D.free + used D.fs - used (wkK D.fs ks k)) + (f.da.length - f.sy - st)) D.left D.down v) :: (f.p, 67, fcell (.slice pf (f.sy + st) cf) (f.sy + st)) :: (f.Lr ++ ((LN ++ Lr) ++ (FB (A ++ B) ++ L)))) _ := h28.put 0 rfl 1 (iN .i64 ((D.free + used D.fs - used (wkK D.fs ks k)) + (f.da.length - f.sy - st)))
        refine wx_end fun w30 hbx _ => ?_
        have h31 := HA.keep _ _ h29 hbx
        exact ⟨by kernel_rfl, h31⟩
      · rintro _ w32 ⟨rfl, h33⟩
        refine block_normal ?_
        refine then_at rfl ?_
        refine wl_region ?_
        refine wl_val (iN .i64 (k + 1)) (by kernel_rfl) (run_add (k := .i64) (a := k) (b := 1) (by kernel_rfl) (by kernel_rfl) (by first | omega | (simp only [top]; omega))) ?_
        refine wl_val (iN .i64 (k + 1)) (by kernel_rfl) (by kernel_rfl) ?_
        refine wl_nil ?_
        have hup := upd_at hK2 ⟨f.nm, f.p, f.da.take (f.sy + st), f.sy + st, .slice pf (f.sy + st) cf, f.Lr, f.bn⟩ (fun x => cutA x (0)) (by simp only [cutA, ab, hst])
        rw [hw2, wk_step hnd hnk (by rw [List.getD_eq_getElem?_getD, List.getElem?_eq_none (by omega)]; rfl)] at hup
        have huc := used_cut (A := A) (B := B) (f := f) (g := ⟨f.nm, f.p, f.da.take (f.sy + st), f.sy + st, .slice pf (f.sy + st) cf, f.Lr, f.bn⟩) (by simp; omega)
        rw [hup, hw2] at huc
        have hgl : (f.da.take (f.sy + st)).length = f.sy + st := by rw [List.length_take]; omega
        have hK3 := hK2.turn (g := ⟨f.nm, f.p, f.da.take (f.sy + st), f.sy + st, .slice pf (f.sy + st) cf, f.Lr, f.bn⟩) rfl rfl (hrow2.cut' _ (by omega)).2 (by show f.sy + st ≤ (f.da.take (f.sy + st)).length; omega)
        simp only [hgl] at huc
        exact then_I ⟨fun ii => (([(5, iN .i64 k), (6, .string f.nm), (7, iN .i64 0), (18, .bool true), (19, iN .i64 k), (20, .pointer (some ⟨gN, k, none⟩)), (21, .string f.nm), (22, iN .i64 k), (23, .slice o ks.length c), (24, iN .i64 ks.length), (25, .bool false), (26, u8 26), (27, u8 27), (28, u8 28), (29, u8 29), (30, .pointer (some ⟨d.q, 0, none⟩)), (31, .pointer (some ⟨d.q, 0, none⟩)), (32, .pointer (some ⟨d.q, 1, none⟩)), (33, iN .i64 (D.free + used D.fs - used (wkK D.fs ks k))), (34, .pointer (some ⟨d.q, 0, none⟩)), (35, .pointer (some ⟨d.q, 0, none⟩)), (36, .pointer (some ⟨d.q, 0, none⟩)), (37, .map (some d.r)), (38, .string f.nm), (39, .pointer (some ⟨f.p, 0, none⟩)), (40, iN .i64 0), (41, iN .i64 (f.da.length - f.sy - st)), (42, iN .i64 ((D.free + used D.fs - used (wkK D.fs ks k)) + (f.da.length - f.sy - st))), (43, .pointer (some ⟨d.q, 0, none⟩)), (44, .pointer (some ⟨d.q, 1, none⟩)), (45, iN .i64 (k + 1))] : List (Nat × Value)).find? (·.1 == ii)).elim undef (·.2), by kernel_rfl, A ++ ⟨f.nm, f.p, f.da.take (f.sy + st), f.sy + st, .slice pf (f.sy + st) cf, f.Lr, f.bn⟩ :: B, hup, hK3, by rw [← hE, eF_same (g := ⟨f.nm, f.p, f.da.take (f.sy + st), f.sy + st, .slice pf (f.sy + st) cf, f.Lr, f.bn⟩) (f := f) rfl rfl rfl], by rw [← hE, show D.free + used D.fs - used (wkK D.fs ks (k + 1)) = D.free + used D.fs - used (wkK D.fs ks k) + (f.da.length - f.sy - st) by omega]; exact HA.unfile (f := ⟨f.nm, f.p, f.da.take (f.sy + st), f.sy + st, .slice pf (f.sy + st) cf, f.Lr, f.bn⟩) h33⟩
  · rintro _ w34 ⟨u8, rfl, fl2, hw2, hK2, hE, hL⟩
    refine wp_seq ?_
    refine wl_region ?_
    refine wl_val (.bool false) (by kernel_rfl) (run_lss (k := .i64) (a := fl.length) (b := fl.length) (by kernel_rfl) (by kernel_rfl) false (decide_eq_false (by omega))) ?_
    refine wl_nil ?_
    refine then_at rfl ?_
    refine wp_seq ?_
    refine wp_cond_false (by kernel_rfl) ?_
    refine wp_exit ?_
    repeat first | refine then_exit ?_ | refine block_exit ?_ | refine block_exit_ne (by decide) ?_
    refine then_at rfl ?_
    refine wp_seq ?_
    refine wl_region ?_
    refine wl_val (.pointer (some ⟨d.q, 0, none⟩)) (by kernel_rfl) (by kernel_rfl) ?_
    refine wl_val (.pointer (some ⟨d.q, 0, none⟩)) (by kernel_rfl) (by kernel_rfl) ?_
    refine wl_val (.pointer (some ⟨d.q, 0, none⟩)) (by kernel_rfl) (by kernel_rfl) ?_
    refine wl_val (.pointer (some ⟨d.q, 2, none⟩)) (by kernel_rfl) (by kernel_rfl) ?_
    refine wl_putv (v := iN .i64 0) hL 0 rfl 2 (by show 2 < 5; decide) (by kernel_rfl) (fun w => Try.sizeOf3 w) (by kernel_rfl) (by kernel_rfl) (by kernel_rfl) ?_
    intro w35 (h36 : HA ⟨w0, (d.r, .mp (eF fl) nx) :: M⟩ ((d.q, 61, dcell d.r (D.free + used D.fs - used (wkK D.fs ks fl.length)) 0 D.down v) :: ((LN ++ Lr) ++ (FB fl2 ++ L))) w35)
    refine wl_val (.pointer (some ⟨d.q, 0, none⟩)) (by kernel_rfl) (by kernel_rfl) ?_
    refine wl_val (.pointer (some ⟨d.q, 3, none⟩)) (by kernel_rfl) (by kernel_rfl) ?_
    refine wl_putv (v := .bool false) h36 0 rfl 3 (by show 3 < 5; decide) (by kernel_rfl) (fun w => Try.sizeOf4 w) (by kernel_rfl) (by kernel_rfl) (by kernel_rfl) ?_
    intro w37 (h38 : HA ⟨w0, (d.r, .mp (eF fl) nx) :: M⟩ ((d.q, 61, dcell d.r (D.free + used D.fs - used (wkK D.fs ks fl.length)) 0 false v) :: ((LN ++ Lr) ++ (FB fl2 ++ L))) w37)
    refine wl_nil ?_
    refine then_at rfl ?_
    refine wp_seq ?_
    refine wl_region ?_
    refine wl_val (iN .i64 0) (by kernel_rfl) (by kernel_rfl) ?_
    refine wl_nil ?_
    refine then_at (F := ⟨(pt d.q :: .slice o ks.length c :: un :: un :: iN .i64 0 :: u8 5 :: u8 6 :: u8 7 :: pt d.q :: .bool false :: pt d.q :: pt d.q :: pt d.q :: .map (some d.r) :: .func (.func 66) #[] #[pt kb] :: .slice pN fl.length cN :: iN .i64 fl.length :: iN .i64 fl.length :: .bool false :: u8 19 :: u8 20 :: u8 21 :: u8 22 :: u8 23 :: u8 24 :: u8 25 :: u8 26 :: u8 27 :: u8 28 :: u8 29 :: u8 30 :: u8 31 :: u8 32 :: u8 33 :: u8 34 :: u8 35 :: u8 36 :: u8 37 :: u8 38 :: u8 39 :: u8 40 :: u8 41 :: u8 42 :: u8 43 :: u8 44 :: u8 45 :: pt d.q :: pt d.q :: pt d.q :: .pointer (some ⟨d.q, 2, none⟩) :: pt d.q :: .pointer (some ⟨d.q, 3, none⟩) :: List.replicate 0 un).toArray, []⟩) (by kernel_rfl) ?_
    refine wp_ret ?_
    repeat first | refine then_ret ?_ | refine block_ret ?_
    exact bodyPost_ret (v := iN .i64 0) (by kernel_rfl) rfl ⟨rfl, fl2, nx, v, Lr, by rw [hw2, hfn]; rfl, hK2, hR, by rw [hE, show (wakeD D ks).free = D.free + used D.fs - used (wkK D.fs ks fl.length) by rw [hfn]; rfl]; exact h38.sub (List.Sublist.cons_cons _ (by rw [List.append_assoc]; exact List.sublist_append_right LN _))⟩
end Go.Proofs.Ytjedhnjjgmbcbaa
