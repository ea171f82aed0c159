/-
  The reference's without, with.
-/
import Derived.Test.YtjedhnjjgmbcbaaR5
namespace Go.Proofs.Ytjedhnjjgmbcbaa
open Go.RowKit

theorem part3 {cur : Array Value} {i : Nat} {f : RF} (c0 : cur[3 * i]? = some (.string f.nm)) (c1 : cur[3 * i + 1]? = some (.string f.b)) (c2 : cur[3 * i + 2]? = some (iN .i64 f.sy)) : ∀ j v, (#[Value.string f.nm, .string f.b, iN .i64 f.sy] : Array Value)[j]? = some v → cur[3 * i + j]? = some v := fun j v hv => by
  rcases j with _ | _ | _ | j
  · cases hv; exact c0
  · cases hv; exact c1
  · cases hv; exact c2
  · simp at hv
def woR (fs : List RF) (s : ByteArray) (k : Nat) : List RF := (fs.take k).filter fun f => !decide (f.nm = s)
theorem woR_succ {fs : List RF} {s : ByteArray} {i : Nat} {f : RF} (h : fs[i]? = some f) : woR fs s (i + 1) = woR fs s i ++ (if f.nm = s then [] else [f]) := by
  unfold woR
  rw [List.take_add_one, h, List.filter_append]
  congr 1
  by_cases e : f.nm = s <;> simp [e]
theorem woR_len (fs : List RF) (s : ByteArray) (k : Nat) : (woR fs s k).length ≤ fs.length := by
  unfold woR
  exact Nat.le_trans (List.length_filter_le _ _) (by rw [List.length_take]; omega)
theorem fcl_snoc (l : List RF) (f : RF) : fcl (l ++ [f]) = fcl l ++ [.string f.nm, .string f.b, iN .i64 f.sy] := by simp [fcl, rf1]
set_option linter.unusedVariables false in
set_option maxRecDepth 100000 in
set_option maxHeartbeats 2000000 in
theorem without_any {w : World} {rm lf nz cz cf : Nat} {pf pz : Option Addr} {fs : List RF} {N : BL} (hF : RFL (.slice pf fs.length cf) fs N) (hS : Stand w N) (hfl : fs.length ≤ 100000) {dn : Bool} (s : ByteArray) :
    Calls Try.prog 47 #[.agg #[iN .i64 rm, .slice pf fs.length cf, .bool dn, iN .i64 lf, .slice pz nz cz], .string s] w fun e w' => ∃ p c N', e = .returned (.agg #[iN .i64 rm, .slice p (woR fs s fs.length).length c, .bool dn, iN .i64 lf, .slice pz nz cz]) ∧ RFL (.slice p (woR fs s fs.length).length c) (woR fs s fs.length) N' ∧ Newer w.heap.size w' N' ∧ Below w.heap.size w w' := by
  have H0 := HA.start w
  go_enter Try.func47, Try.ntmps47
  refine wp_seq ?_
  refine wl_region ?_
  refine wl_make (c := #[iN .i64 rm, .slice pf fs.length cf, .bool dn, iN .i64 lf, .slice pz nz cz]) H0 28 (by kernel_rfl) (by kernel_rfl) ?_
  intro q1 w2 (h3 : HA (bs w) [(q1, 28, #[iN .i64 rm, .slice pf fs.length cf, .bool dn, iN .i64 lf, .slice pz nz cz])] w2)
  refine wl_make (c := #[iN .i64 0, .slice none 0 0, .bool false, iN .i64 0, .slice none 0 0]) h3 28 (by kernel_rfl) (by kernel_rfl) ?_
  intro q4 w5 (h6 : HA (bs w) [(q4, 28, #[iN .i64 0, .slice none 0 0, .bool false, iN .i64 0, .slice none 0 0]), (q1, 28, #[iN .i64 rm, .slice pf fs.length cf, .bool dn, iN .i64 lf, .slice pz nz cz])] w5)
  refine wl_nil ?_
  refine then_at rfl ?_
  refine wp_seq ?_
  refine wl_region ?_
  refine wl_val (.slice none 0 0) (by kernel_rfl) (by kernel_rfl) ?_
  refine wl_nil ?_
  refine then_at rfl ?_
  refine wp_seq ?_
  refine wp_seq ?_
  refine wl_region ?_
  refine wl_val (iN .i64 0) (by kernel_rfl) (by kernel_rfl) ?_
  refine wl_nil ?_
  refine then_at rfl ?_
  refine wp_block ?_
  refine wp_count (fun i A w' => ∃ u7 : Nat → Value, A = ⟨(.agg #[iN .i64 rm, .slice pf fs.length cf, .bool dn, iN .i64 lf, .slice pz nz cz] :: .string s :: pt q1 :: un :: pt q4 :: u7 5 :: iN .i64 i :: u7 7 :: u7 8 :: u7 9 :: u7 10 :: u7 11 :: u7 12 :: u7 13 :: u7 14 :: u7 15 :: u7 16 :: u7 17 :: u7 18 :: u7 19 :: u7 20 :: u7 21 :: u7 22 :: u7 23 :: u7 24 :: u7 25 :: u7 26 :: u7 27 :: u7 28 :: u7 29 :: List.replicate 3 un).toArray, []⟩ ∧ ∃ Lb, Row 75 3 (u7 5) (woR fs s i).length (fcl (woR fs s i)) Lb ∧ HA (bs w) ((q4, 28, #[iN .i64 0, .slice none 0 0, .bool false, iN .i64 0, .slice none 0 0]) :: (q1, 28, #[iN .i64 rm, .slice pf fs.length cf, .bool dn, iN .i64 lf, .slice pz nz cz]) :: Lb) w') fs.length ?_ ?_ ?_
  · exact ⟨fun ii => (([(5, .slice none 0 0), (7, undef), (8, undef), (9, undef), (10, undef), (11, undef), (12, undef), (13, undef), (14, undef), (15, undef), (16, undef), (17, undef), (18, undef), (19, undef), (20, undef), (21, undef), (22, undef), (23, undef), (24, undef), (25, undef), (26, undef), (27, undef), (28, undef), (29, undef)] : List (Nat × Value)).find? (·.1 == ii)).elim undef (·.2), by kernel_rfl, ⟨[], by exact Row.nil 75 3, h6⟩⟩
  · rintro i hi _ w8 ⟨u7, rfl, ⟨Lb, hR, hA⟩⟩
    have hwl := woR_len fs s i
    refine wp_seq ?_
    refine wp_seq ?_
    refine wl_region ?_
    refine wl_val (iN .i64 i) (by kernel_rfl) (by kernel_rfl) ?_
    refine wl_val (.pointer (some ⟨q1, 1, none⟩)) (by kernel_rfl) (by kernel_rfl) ?_
    refine wl_val (.slice pf fs.length cf) (by kernel_rfl) (run_load1 (fun w => Try.isAgg25 w) (by kernel_rfl) (((hA.get 1 rfl).cell 1).trans rfl)) ?_
    refine wl_val (iN .i64 fs.length) (by kernel_rfl) (by kernel_rfl) ?_
    refine wl_val (.bool true) (by kernel_rfl) (run_lss (k := .i64) (a := i) (b := fs.length) (by kernel_rfl) (by kernel_rfl) true (decide_eq_true (by omega))) ?_
    refine wl_nil ?_
    refine then_at rfl ?_
    refine wp_cond_true (by kernel_rfl) ?_
    refine wp_skip ?_
    refine then_at rfl ?_
    refine wp_seq ?_
    refine wp_block ?_
    refine wp_seq ?_
    obtain ⟨f, hf⟩ : ∃ f, fs[i]? = some f := ⟨_, List.getElem?_eq_getElem hi⟩
    obtain ⟨gF, curF, hpF, _, hgF, c0, c1, c2⟩ := hF.at hf
    by_cases hn : f.nm = s
    · have hR0 : Row 75 3 (u7 5) (woR fs s (i + 1)).length (fcl (woR fs s (i + 1))) Lb := by rw [woR_succ hf, if_pos hn, List.append_nil]; exact hR
      refine wl_region ?_
      refine wl_val (.pointer (some ⟨q1, 1, none⟩)) (by kernel_rfl) (by kernel_rfl) ?_
      refine wl_val (.slice pf fs.length cf) (by kernel_rfl) (run_load1 (fun w => Try.isAgg25 w) (by kernel_rfl) (((hA.get 1 rfl).cell 1).trans rfl)) ?_
      refine wl_val (iN .i64 i) (by kernel_rfl) (by kernel_rfl) ?_
      refine wl_val (.pointer (some ⟨gF, 3 * i, none⟩)) (by kernel_rfl) (run_addr75p (q := gF) (n := fs.length) (m := cf) (a := i) hpF (by kernel_rfl) (by kernel_rfl) (List.getElem?_eq_some_iff.1 hf).1) ?_
      refine wl_val (.pointer (some ⟨gF, 3 * i, none⟩)) (by kernel_rfl) (by kernel_rfl) ?_
      refine wl_val (.string f.nm) (by kernel_rfl) (run_load1 (fun w => Try.isAgg9 w) (by kernel_rfl) ((((hS.keep hA.old.old) _ hgF).cell (3 * i)).trans c0)) ?_
      refine wl_val (.string s) (by kernel_rfl) (by kernel_rfl) ?_
      refine wl_val (.bool false) (by kernel_rfl) (run_nes (s := f.nm) (t := s) (by kernel_rfl) (by kernel_rfl) false (decide_eq_true hn)) ?_
      refine wl_nil ?_
      refine then_at (F := ⟨(.agg #[iN .i64 rm, .slice pf fs.length cf, .bool dn, iN .i64 lf, .slice pz nz cz] :: .string s :: pt q1 :: un :: pt q4 :: u7 5 :: iN .i64 i :: iN .i64 i :: .pointer (some ⟨q1, 1, none⟩) :: .slice pf fs.length cf :: iN .i64 fs.length :: .bool true :: u7 12 :: u7 13 :: .pointer (some ⟨q1, 1, none⟩) :: .slice pf fs.length cf :: iN .i64 i :: .pointer (some ⟨gF, 3 * i, none⟩) :: .pointer (some ⟨gF, 3 * i, none⟩) :: .string f.nm :: .string s :: .bool false :: u7 22 :: u7 23 :: u7 24 :: u7 25 :: u7 26 :: u7 27 :: u7 28 :: u7 29 :: List.replicate 3 un).toArray, []⟩) (by kernel_rfl) ?_
      refine wp_cond_false (by kernel_rfl) ?_
      refine wp_skip ?_
      refine block_normal ?_
      refine then_at rfl ?_
      refine wl_region ?_
      refine wl_val (iN .i64 i) (by kernel_rfl) (by kernel_rfl) ?_
      refine wl_val (iN .i64 (i + 1)) (by kernel_rfl) (run_add (k := .i64) (a := i) (b := 1) (by kernel_rfl) (by kernel_rfl) (by first | omega | (simp only [top]; omega))) ?_
      refine wl_val (iN .i64 (i + 1)) (by kernel_rfl) (by kernel_rfl) ?_
      refine wl_nil ?_
      exact then_I ⟨fun ii => (([(5, u7 5), (7, iN .i64 i), (8, .pointer (some ⟨q1, 1, none⟩)), (9, .slice pf fs.length cf), (10, iN .i64 fs.length), (11, .bool true), (12, iN .i64 i), (13, iN .i64 (i + 1)), (14, .pointer (some ⟨q1, 1, none⟩)), (15, .slice pf fs.length cf), (16, iN .i64 i), (17, .pointer (some ⟨gF, 3 * i, none⟩)), (18, .pointer (some ⟨gF, 3 * i, none⟩)), (19, .string f.nm), (20, .string s), (21, .bool false), (22, u7 22), (23, u7 23), (24, u7 24), (25, u7 25), (26, u7 26), (27, u7 27), (28, u7 28), (29, u7 29)] : List (Nat × Value)).find? (·.1 == ii)).elim undef (·.2), by kernel_rfl, ⟨Lb, by exact hR0, hA⟩⟩
    · refine wl_region ?_
      refine wl_val (.pointer (some ⟨q1, 1, none⟩)) (by kernel_rfl) (by kernel_rfl) ?_
      refine wl_val (.slice pf fs.length cf) (by kernel_rfl) (run_load1 (fun w => Try.isAgg25 w) (by kernel_rfl) (((hA.get 1 rfl).cell 1).trans rfl)) ?_
      refine wl_val (iN .i64 i) (by kernel_rfl) (by kernel_rfl) ?_
      refine wl_val (.pointer (some ⟨gF, 3 * i, none⟩)) (by kernel_rfl) (run_addr75p (q := gF) (n := fs.length) (m := cf) (a := i) hpF (by kernel_rfl) (by kernel_rfl) (List.getElem?_eq_some_iff.1 hf).1) ?_
      refine wl_val (.pointer (some ⟨gF, 3 * i, none⟩)) (by kernel_rfl) (by kernel_rfl) ?_
      refine wl_val (.string f.nm) (by kernel_rfl) (run_load1 (fun w => Try.isAgg9 w) (by kernel_rfl) ((((hS.keep hA.old.old) _ hgF).cell (3 * i)).trans c0)) ?_
      refine wl_val (.string s) (by kernel_rfl) (by kernel_rfl) ?_
      refine wl_val (.bool true) (by kernel_rfl) (run_nes (s := f.nm) (t := s) (by kernel_rfl) (by kernel_rfl) true (decide_eq_false hn)) ?_
      refine wl_nil ?_
      refine then_at rfl ?_
      refine wp_cond_true (by kernel_rfl) ?_
      refine wl_region ?_
      refine wl_val (u7 5) (by kernel_rfl) (by kernel_rfl) ?_
      refine wl_val (.pointer (some ⟨q1, 1, none⟩)) (by kernel_rfl) (by kernel_rfl) ?_
      refine wl_val (.slice pf fs.length cf) (by kernel_rfl) (run_load1 (fun w => Try.isAgg25 w) (by kernel_rfl) (((hA.get 1 rfl).cell 1).trans rfl)) ?_
      refine wl_val (iN .i64 i) (by kernel_rfl) (by kernel_rfl) ?_
      refine wl_val (.pointer (some ⟨gF, 3 * i, none⟩)) (by kernel_rfl) (run_addr75p (q := gF) (n := fs.length) (m := cf) (a := i) hpF (by kernel_rfl) (by kernel_rfl) (List.getElem?_eq_some_iff.1 hf).1) ?_
      refine wl_val (.agg #[.string f.nm, .string f.b, iN .i64 f.sy]) (by kernel_rfl) (run_part (c' := #[.string f.nm, .string f.b, iN .i64 f.sy]) (by kernel_rfl) ((hS.keep hA.old.old) _ hgF) (part3 c0 c1 c2) Try.underlying75 rfl (by kernel_rfl)) ?_
      refine wl_mks (n := 1) (m := 1) (c := #[.string f.nm, .string f.b, iN .i64 f.sy]) hA 75 (by kernel_rfl) (by kernel_rfl) ?_
      intro q9 w10 (h11 : HA (bs w) ((q9, 75, #[.string f.nm, .string f.b, iN .i64 f.sy]) :: (q4, 28, #[iN .i64 0, .slice none 0 0, .bool false, iN .i64 0, .slice none 0 0]) :: (q1, 28, #[iN .i64 rm, .slice pf fs.length cf, .bool dn, iN .i64 lf, .slice pz nz cz]) :: Lb) w10)
      have h12 : HA (bs w) ((q9, 75, #[.string f.nm, .string f.b, iN .i64 f.sy]) :: (Lb ++ [(q4, 28, #[iN .i64 0, .slice none 0 0, .bool false, iN .i64 0, .slice none 0 0]), (q1, 28, #[iN .i64 rm, .slice pf fs.length cf, .bool dn, iN .i64 lf, .slice pz nz cz])])) w10 := HA.perm h11 (List.Perm.cons _ (List.perm_append_comm (l₁ := [(q4, 28, #[iN .i64 0, .slice none 0 0, .bool false, iN .i64 0, .slice none 0 0]), (q1, 28, #[iN .i64 rm, .slice pf fs.length cf, .bool dn, iN .i64 lf, .slice pz nz cz])]) (l₂ := Lb)))
      refine wl_append (m := 1) (c := 1) (Lr := Lb) hR h12 (by decide) _ 40 Try.underlying25 info75 rfl (by decide) (by kernel_rfl) (by kernel_rfl) (by kernel_rfl) rfl (by kernel_rfl) (by unfold maxLen; omega) (by omega) (by decide) ?_
      intro v2 w13 L2 hR2 h14
      have h15 : HA (bs w) ((q4, 28, #[iN .i64 0, .slice none 0 0, .bool false, iN .i64 0, .slice none 0 0]) :: (q1, 28, #[iN .i64 rm, .slice pf fs.length cf, .bool dn, iN .i64 lf, .slice pz nz cz]) :: L2) w13 := HA.perm h14 (List.perm_append_comm (l₁ := L2) (l₂ := [(q4, 28, #[iN .i64 0, .slice none 0 0, .bool false, iN .i64 0, .slice none 0 0]), (q1, 28, #[iN .i64 rm, .slice pf fs.length cf, .bool dn, iN .i64 lf, .slice pz nz cz])]))
      have hR3 : Row 75 3 v2 (woR fs s (i + 1)).length (fcl (woR fs s (i + 1))) L2 := by rw [woR_succ hf, if_neg hn, fcl_snoc, List.length_append]; exact hR2
      refine wl_val (v2) (by kernel_rfl) (by kernel_rfl) ?_
      refine wl_nil ?_
      refine block_normal ?_
      refine then_at rfl ?_
      refine wl_region ?_
      refine wl_val (iN .i64 i) (by kernel_rfl) (by kernel_rfl) ?_
      refine wl_val (iN .i64 (i + 1)) (by kernel_rfl) (run_add (k := .i64) (a := i) (b := 1) (by kernel_rfl) (by kernel_rfl) (by first | omega | (simp only [top]; omega))) ?_
      refine wl_val (iN .i64 (i + 1)) (by kernel_rfl) (by kernel_rfl) ?_
      refine wl_nil ?_
      exact then_I ⟨fun ii => (([(5, v2), (7, iN .i64 i), (8, .pointer (some ⟨q1, 1, none⟩)), (9, .slice pf fs.length cf), (10, iN .i64 fs.length), (11, .bool true), (12, iN .i64 i), (13, iN .i64 (i + 1)), (14, .pointer (some ⟨q1, 1, none⟩)), (15, .slice pf fs.length cf), (16, iN .i64 i), (17, .pointer (some ⟨gF, 3 * i, none⟩)), (18, .pointer (some ⟨gF, 3 * i, none⟩)), (19, .string f.nm), (20, .string s), (21, .bool true), (22, u7 5), (23, .pointer (some ⟨q1, 1, none⟩)), (24, .slice pf fs.length cf), (25, iN .i64 i), (26, .pointer (some ⟨gF, 3 * i, none⟩)), (27, .agg #[.string f.nm, .string f.b, iN .i64 f.sy]), (28, .slice (some ⟨q9, 0, none⟩) 1 1), (29, v2)] : List (Nat × Value)).find? (·.1 == ii)).elim undef (·.2), by kernel_rfl, ⟨L2, by exact hR3, h15⟩⟩
  · rintro _ w16 ⟨u7, rfl, ⟨Lb, hR, hA⟩⟩
    have hwl := woR_len fs s fs.length
    refine wp_seq ?_
    refine wp_seq ?_
    refine wl_region ?_
    refine wl_val (iN .i64 fs.length) (by kernel_rfl) (by kernel_rfl) ?_
    refine wl_val (.pointer (some ⟨q1, 1, none⟩)) (by kernel_rfl) (by kernel_rfl) ?_
    refine wl_val (.slice pf fs.length cf) (by kernel_rfl) (run_load1 (fun w => Try.isAgg25 w) (by kernel_rfl) (((hA.get 1 rfl).cell 1).trans rfl)) ?_
    refine wl_val (iN .i64 fs.length) (by kernel_rfl) (by kernel_rfl) ?_
    refine wl_val (.bool false) (by kernel_rfl) (run_lss (k := .i64) (a := fs.length) (b := fs.length) (by kernel_rfl) (by kernel_rfl) false (decide_eq_false (by omega))) ?_
    refine wl_nil ?_
    refine then_at rfl ?_
    refine wp_cond_false (by kernel_rfl) ?_
    refine wp_exit ?_
    repeat first | refine then_exit ?_ | refine block_exit ?_ | refine block_exit_ne (by decide) ?_
    refine then_at rfl ?_
    refine wp_seq ?_
    obtain ⟨p2, c2, e5⟩ := hR.form
    rw [e5]
    rw [e5] at hR
    refine wl_region ?_
    refine wl_val (.slice p2 (woR fs s fs.length).length c2) (by kernel_rfl) (by kernel_rfl) ?_
    refine wl_val (.pointer (some ⟨q1, 1, none⟩)) (by kernel_rfl) (by kernel_rfl) ?_
    refine wl_putv (v := .slice p2 (woR fs s fs.length).length c2) hA 1 rfl 1 (by show 1 < 5; decide) (by kernel_rfl) (fun w => Try.sizeOf25 w) (by kernel_rfl) (by kernel_rfl) (by kernel_rfl) ?_
    intro w17 (h18 : HA (bs w) ((q4, 28, #[iN .i64 0, .slice none 0 0, .bool false, iN .i64 0, .slice none 0 0]) :: (q1, 28, #[iN .i64 rm, .slice p2 (woR fs s fs.length).length c2, .bool dn, iN .i64 lf, .slice pz nz cz]) :: Lb) w17)
    refine wl_nil ?_
    refine then_at (F := ⟨(.agg #[iN .i64 rm, .slice pf fs.length cf, .bool dn, iN .i64 lf, .slice pz nz cz] :: .string s :: pt q1 :: un :: pt q4 :: .slice p2 (woR fs s fs.length).length c2 :: iN .i64 fs.length :: iN .i64 fs.length :: .pointer (some ⟨q1, 1, none⟩) :: .slice pf fs.length cf :: iN .i64 fs.length :: .bool false :: u7 12 :: u7 13 :: u7 14 :: u7 15 :: u7 16 :: u7 17 :: u7 18 :: u7 19 :: u7 20 :: u7 21 :: u7 22 :: u7 23 :: u7 24 :: u7 25 :: u7 26 :: u7 27 :: u7 28 :: u7 29 :: .slice p2 (woR fs s fs.length).length c2 :: .pointer (some ⟨q1, 1, none⟩) :: List.replicate 1 un).toArray, []⟩) (by kernel_rfl) ?_
    refine wp_seq ?_
    refine wl_region ?_
    refine wl_load h18 1 rfl (by kernel_rfl) (by kernel_rfl) Try.underlying28 rfl (by kernel_rfl) ?_
    refine wl_fill (c' := #[iN .i64 rm, .slice p2 (woR fs s fs.length).length c2, .bool dn, iN .i64 lf, .slice pz nz cz]) h18 0 rfl (by kernel_rfl) (by kernel_rfl) (by kernel_rfl) rfl (by kernel_rfl) (by kernel_rfl) ?_
    intro w19 (h20 : HA (bs w) ((q4, 28, #[iN .i64 rm, .slice p2 (woR fs s fs.length).length c2, .bool dn, iN .i64 lf, .slice pz nz cz]) :: (q1, 28, #[iN .i64 rm, .slice p2 (woR fs s fs.length).length c2, .bool dn, iN .i64 lf, .slice pz nz cz]) :: Lb) w19)
    refine wl_nil ?_
    refine then_at rfl ?_
    refine wp_ret ?_
    repeat first | refine then_ret ?_ | refine block_ret ?_
    exact bodyPost_ret (v := .agg (#[iN .i64 rm, .slice p2 (woR fs s fs.length).length c2, .bool dn, iN .i64 lf, .slice pz nz cz])) (res_cell (p := 4) (by kernel_rfl) (by kernel_rfl) (h20.get 0 rfl) Try.underlying28 rfl (by kernel_rfl)) rfl ⟨p2, c2, Lb, rfl, Row.rffl rfl hR, HA.newerN (HA.perm h20 (List.perm_append_comm (l₁ := [(q4, 28, #[iN .i64 rm, .slice p2 (woR fs s fs.length).length c2, .bool dn, iN .i64 lf, .slice pz nz cz]), (q1, 28, #[iN .i64 rm, .slice p2 (woR fs s fs.length).length c2, .bool dn, iN .i64 lf, .slice pz nz cz])]) (l₂ := Lb))), h20.old.old⟩
def withR (fs : List RF) (f : RF) : List RF := fs.take (findR fs f.nm).1 ++ f :: fs.drop (if (findR fs f.nm).2 = true then (findR fs f.nm).1 + 1 else (findR fs f.nm).1)
theorem findR_le (s : ByteArray) : ∀ fs : List RF, (findR fs s).1 ≤ fs.length ∧ ((findR fs s).2 = true → (findR fs s).1 < fs.length)
  | [] => ⟨Nat.le_refl _, fun h => by cases h⟩
  | g :: fs => by
    obtain ⟨h1, h2⟩ := findR_le s fs
    rw [findR]
    split
    · exact ⟨Nat.zero_le _, fun _ => by simp⟩
    · exact ⟨by simpa using h1, fun h => by simpa using h2 h⟩
set_option linter.unusedVariables false in
set_option maxRecDepth 100000 in
set_option maxHeartbeats 2000000 in
theorem with_n {w : World} {rm lf nz cz cf : Nat} {pf pz : Option Addr} {fs : List RF} {N : BL} (hF : RFL (.slice pf fs.length cf) fs N) (hS : Stand w N) (hfl : fs.length ≤ 100000) {dn : Bool} (f : RF) {i0 : Nat} (hfr : findR fs f.nm = (i0, false)) (hi0 : i0 ≤ fs.length) :
    Calls Try.prog 41 #[.agg #[iN .i64 rm, .slice pf fs.length cf, .bool dn, iN .i64 lf, .slice pz nz cz], .agg #[.string f.nm, .string f.b, iN .i64 f.sy]] w fun e w' => ∃ p c N', e = .returned (.agg #[iN .i64 rm, .slice p (fs.take i0 ++ f :: fs.drop (i0)).length c, .bool dn, iN .i64 lf, .slice pz nz cz]) ∧ RFL (.slice p (fs.take i0 ++ f :: fs.drop (i0)).length c) (fs.take i0 ++ f :: fs.drop (i0)) N' ∧ Newer w.heap.size w' N' ∧ Below w.heap.size w w' := by
  obtain ⟨o1, c1, hr1, hs1⟩ := cutHi (k := i0) hF (by omega)
  obtain ⟨o2, c2, hr2, hs2⟩ := cutLo (k := i0) hF hi0
  have H0 := HA.start w
  go_enter Try.func41, Try.ntmps41
  refine wp_seq ?_
  refine wl_region ?_
  refine wl_make (c := #[iN .i64 rm, .slice pf fs.length cf, .bool dn, iN .i64 lf, .slice pz nz cz]) H0 28 (by kernel_rfl) (by kernel_rfl) ?_
  intro q1 w2 (h3 : HA (bs w) [(q1, 28, #[iN .i64 rm, .slice pf fs.length cf, .bool dn, iN .i64 lf, .slice pz nz cz])] w2)
  refine wl_make (c := #[.string f.nm, .string f.b, iN .i64 f.sy]) h3 75 (by kernel_rfl) (by kernel_rfl) ?_
  intro q4 w5 (h6 : HA (bs w) [(q4, 75, #[.string f.nm, .string f.b, iN .i64 f.sy]), (q1, 28, #[iN .i64 rm, .slice pf fs.length cf, .bool dn, iN .i64 lf, .slice pz nz cz])] w5)
  refine wl_make (c := #[iN .i64 0, .slice none 0 0, .bool false, iN .i64 0, .slice none 0 0]) h6 28 (by kernel_rfl) (by kernel_rfl) ?_
  intro q7 w8 (h9 : HA (bs w) [(q7, 28, #[iN .i64 0, .slice none 0 0, .bool false, iN .i64 0, .slice none 0 0]), (q4, 75, #[.string f.nm, .string f.b, iN .i64 f.sy]), (q1, 28, #[iN .i64 rm, .slice pf fs.length cf, .bool dn, iN .i64 lf, .slice pz nz cz])] w8)
  refine wl_nil ?_
  refine then_at rfl ?_
  refine wp_seq ?_
  refine wl_region ?_
  refine wl_load h9 2 rfl (by kernel_rfl) (by kernel_rfl) Try.underlying28 rfl (by kernel_rfl) ?_
  refine wl_val (.pointer (some ⟨q4, 0, none⟩)) (by kernel_rfl) (by kernel_rfl) ?_
  refine wl_val (.string f.nm) (by kernel_rfl) (run_load1 (fun w => Try.isAgg9 w) (by kernel_rfl) (((h9.get 1 rfl).cell 0).trans rfl)) ?_
  refine wl_call (v := .tuple #[iN .i64 i0, .bool false]) h9 (by kernel_rfl) enter39 #[.agg (#[iN .i64 rm, .slice pf fs.length cf, .bool dn, iN .i64 lf, .slice pz nz cz]), .string f.nm] (by kernel_rfl) (by have hh := rfind_any (lf := lf) (rm := rm) (nz := nz) (cz := cz) (pz := pz) (dn := dn) hF (hS.keep h9.old.old) hfl f.nm; rw [hfr] at hh; exact hh) ?_
  intro w10 h11
  refine wl_val (.tuple #[iN .i64 i0, .bool false]) (by kernel_rfl) (by kernel_rfl) ?_
  refine wl_val (iN .i64 i0) (by kernel_rfl) (by kernel_rfl) ?_
  refine wl_val (.bool false) (by kernel_rfl) (by kernel_rfl) ?_
  refine wl_val (iN .i64 i0) (by kernel_rfl) (by kernel_rfl) ?_
  refine wl_val (.bool false) (by kernel_rfl) (by kernel_rfl) ?_
  refine wl_nil ?_
  refine then_at rfl ?_
  refine wp_seq ?_
  refine wl_region ?_
  refine wl_val (.slice none 0 0) (by kernel_rfl) (by kernel_rfl) ?_
  refine wl_nil ?_
  refine then_at rfl ?_
  refine wp_seq ?_
  refine wl_region ?_
  refine wl_val (.slice none 0 0) (by kernel_rfl) (by kernel_rfl) ?_
  refine wl_val (.pointer (some ⟨q1, 1, none⟩)) (by kernel_rfl) (by kernel_rfl) ?_
  refine wl_val (.slice pf fs.length cf) (by kernel_rfl) (run_load1 (fun w => Try.isAgg25 w) (by kernel_rfl) (((h11.get 2 rfl).cell 1).trans rfl)) ?_
  refine wl_val (iN .i64 i0) (by kernel_rfl) (by kernel_rfl) ?_
  refine wl_val (.slice o1 i0 c1) (by kernel_rfl) (hr1 _ _ _ _ _ _ _ _ _ (by kernel_rfl) (by kernel_rfl)) ?_
  refine wl_appF (c := c1) (m := i0) (n := 0) (N := N) (L := [(q7, 28, #[iN .i64 0, .slice none 0 0, .bool false, iN .i64 0, .slice none 0 0]), (q4, 75, #[.string f.nm, .string f.b, iN .i64 f.sy]), (q1, 28, #[iN .i64 rm, .slice pf fs.length cf, .bool dn, iN .i64 lf, .slice pz nz cz])]) (Lr := []) (Row.nil 75 3) h11 hs1 (hS.keep h11.old.old) (by rw [fcl_len, List.length_take]; omega) (fcl_one _) (by kernel_rfl) (by kernel_rfl) (by kernel_rfl) (by omega) ?_
  intro v1 w12 L1 hR1 h13
  have h14 : HA (bs w) ((q7, 28, #[iN .i64 0, .slice none 0 0, .bool false, iN .i64 0, .slice none 0 0]) :: (q4, 75, #[.string f.nm, .string f.b, iN .i64 f.sy]) :: (q1, 28, #[iN .i64 rm, .slice pf fs.length cf, .bool dn, iN .i64 lf, .slice pz nz cz]) :: L1) w12 := HA.perm h13 (List.perm_append_comm (l₁ := L1) (l₂ := [(q7, 28, #[iN .i64 0, .slice none 0 0, .bool false, iN .i64 0, .slice none 0 0]), (q4, 75, #[.string f.nm, .string f.b, iN .i64 f.sy]), (q1, 28, #[iN .i64 rm, .slice pf fs.length cf, .bool dn, iN .i64 lf, .slice pz nz cz])]))
  refine wl_val (v1) (by kernel_rfl) (by kernel_rfl) ?_
  refine wl_nil ?_
  refine then_at rfl ?_
  refine wp_seq ?_
  refine wl_region ?_
  refine wl_val (v1) (by kernel_rfl) (by kernel_rfl) ?_
  refine wl_load h14 1 rfl (by kernel_rfl) (by kernel_rfl) Try.underlying75 rfl (by kernel_rfl) ?_
  refine wl_mks (n := 1) (m := 1) (c := #[.string f.nm, .string f.b, iN .i64 f.sy]) h14 75 (by kernel_rfl) (by kernel_rfl) ?_
  intro q15 w16 (h17 : HA (bs w) ((q15, 75, #[.string f.nm, .string f.b, iN .i64 f.sy]) :: (q7, 28, #[iN .i64 0, .slice none 0 0, .bool false, iN .i64 0, .slice none 0 0]) :: (q4, 75, #[.string f.nm, .string f.b, iN .i64 f.sy]) :: (q1, 28, #[iN .i64 rm, .slice pf fs.length cf, .bool dn, iN .i64 lf, .slice pz nz cz]) :: L1) w16)
  have h18 : HA (bs w) ((q15, 75, #[.string f.nm, .string f.b, iN .i64 f.sy]) :: (L1 ++ [(q7, 28, #[iN .i64 0, .slice none 0 0, .bool false, iN .i64 0, .slice none 0 0]), (q4, 75, #[.string f.nm, .string f.b, iN .i64 f.sy]), (q1, 28, #[iN .i64 rm, .slice pf fs.length cf, .bool dn, iN .i64 lf, .slice pz nz cz])])) w16 := HA.perm h17 (List.Perm.cons _ (List.perm_append_comm (l₁ := [(q7, 28, #[iN .i64 0, .slice none 0 0, .bool false, iN .i64 0, .slice none 0 0]), (q4, 75, #[.string f.nm, .string f.b, iN .i64 f.sy]), (q1, 28, #[iN .i64 rm, .slice pf fs.length cf, .bool dn, iN .i64 lf, .slice pz nz cz])]) (l₂ := L1)))
  refine wl_append (m := 1) (c := 1) (Lr := L1) hR1 h18 (by decide) _ 40 Try.underlying25 info75 rfl (by decide) (by kernel_rfl) (by kernel_rfl) (by kernel_rfl) rfl (by kernel_rfl) (by unfold maxLen; omega) (by omega) (by decide) ?_
  intro v2 w19 L2 hR2 h20
  have h21 : HA (bs w) ((q7, 28, #[iN .i64 0, .slice none 0 0, .bool false, iN .i64 0, .slice none 0 0]) :: (q4, 75, #[.string f.nm, .string f.b, iN .i64 f.sy]) :: (q1, 28, #[iN .i64 rm, .slice pf fs.length cf, .bool dn, iN .i64 lf, .slice pz nz cz]) :: L2) w19 := HA.perm h20 (List.perm_append_comm (l₁ := L2) (l₂ := [(q7, 28, #[iN .i64 0, .slice none 0 0, .bool false, iN .i64 0, .slice none 0 0]), (q4, 75, #[.string f.nm, .string f.b, iN .i64 f.sy]), (q1, 28, #[iN .i64 rm, .slice pf fs.length cf, .bool dn, iN .i64 lf, .slice pz nz cz])]))
  refine wl_val (v2) (by kernel_rfl) (by kernel_rfl) ?_
  refine wl_nil ?_
  refine then_at rfl ?_
  refine wp_seq ?_
  refine wp_seq ?_
  refine wl_region ?_
  refine wl_val (.bool false) (by kernel_rfl) (by kernel_rfl) ?_
  refine wl_nil ?_
  refine then_at (F := ⟨(.agg #[iN .i64 rm, .slice pf fs.length cf, .bool dn, iN .i64 lf, .slice pz nz cz] :: .agg #[.string f.nm, .string f.b, iN .i64 f.sy] :: pt q1 :: pt q4 :: pt q7 :: iN .i64 i0 :: .bool false :: v2 :: .tuple #[iN .i64 i0, .bool false] :: .agg (#[iN .i64 rm, .slice pf fs.length cf, .bool dn, iN .i64 lf, .slice pz nz cz]) :: pt q4 :: .string f.nm :: .tuple #[iN .i64 i0, .bool false] :: iN .i64 i0 :: .bool false :: .slice none 0 0 :: .pointer (some ⟨q1, 1, none⟩) :: .slice pf fs.length cf :: iN .i64 i0 :: .slice o1 i0 c1 :: v1 :: v1 :: .agg (#[.string f.nm, .string f.b, iN .i64 f.sy]) :: .slice (some ⟨q15, 0, none⟩) 1 1 :: v2 :: .bool false :: List.replicate 10 un).toArray, []⟩) (by kernel_rfl) ?_
  refine wp_cond_false (by kernel_rfl) ?_
  refine wp_skip ?_
  refine then_at rfl ?_
  refine wp_seq ?_
  refine wl_region ?_
  refine wl_val (v2) (by kernel_rfl) (by kernel_rfl) ?_
  refine wl_val (.pointer (some ⟨q1, 1, none⟩)) (by kernel_rfl) (by kernel_rfl) ?_
  refine wl_val (.slice pf fs.length cf) (by kernel_rfl) (run_load1 (fun w => Try.isAgg25 w) (by kernel_rfl) (((h21.get 2 rfl).cell 1).trans rfl)) ?_
  refine wl_val (iN .i64 i0) (by kernel_rfl) (by kernel_rfl) ?_
  refine wl_val (.slice o2 (fs.length - (i0)) c2) (by kernel_rfl) (hr2 _ _ _ _ _ _ _ _ _ (by kernel_rfl) (by kernel_rfl)) ?_
  have h22 : HA (bs w) (L2 ++ [(q7, 28, #[iN .i64 0, .slice none 0 0, .bool false, iN .i64 0, .slice none 0 0]), (q4, 75, #[.string f.nm, .string f.b, iN .i64 f.sy]), (q1, 28, #[iN .i64 rm, .slice pf fs.length cf, .bool dn, iN .i64 lf, .slice pz nz cz])]) w19 := HA.perm h21 (List.perm_append_comm (l₁ := [(q7, 28, #[iN .i64 0, .slice none 0 0, .bool false, iN .i64 0, .slice none 0 0]), (q4, 75, #[.string f.nm, .string f.b, iN .i64 f.sy]), (q1, 28, #[iN .i64 rm, .slice pf fs.length cf, .bool dn, iN .i64 lf, .slice pz nz cz])]) (l₂ := L2))
  refine wl_appF (c := c2) (n := 0 + i0 + 1) (m := fs.length - (i0)) (N := N) hR2 h22 hs2 (hS.keep h21.old.old) (by rw [fcl_len, List.length_drop]) (fcl_one _) (by kernel_rfl) (by kernel_rfl) (by kernel_rfl) (by omega) ?_
  intro v3 w23 L3 hR3 h24
  have h25 : HA (bs w) ((q7, 28, #[iN .i64 0, .slice none 0 0, .bool false, iN .i64 0, .slice none 0 0]) :: (q4, 75, #[.string f.nm, .string f.b, iN .i64 f.sy]) :: (q1, 28, #[iN .i64 rm, .slice pf fs.length cf, .bool dn, iN .i64 lf, .slice pz nz cz]) :: L3) w23 := HA.perm h24 (List.perm_append_comm (l₁ := L3) (l₂ := [(q7, 28, #[iN .i64 0, .slice none 0 0, .bool false, iN .i64 0, .slice none 0 0]), (q4, 75, #[.string f.nm, .string f.b, iN .i64 f.sy]), (q1, 28, #[iN .i64 rm, .slice pf fs.length cf, .bool dn, iN .i64 lf, .slice pz nz cz])]))
  have hR4 : Row 75 3 v3 (fs.take i0 ++ f :: fs.drop (i0)).length (fcl (fs.take i0 ++ f :: fs.drop (i0))) L3 := by have e1 : (fs.take i0 ++ f :: fs.drop (i0)).length = 0 + i0 + 1 + (fs.length - (i0)) := (by rw [List.length_append, List.length_take, List.length_cons, List.length_drop]; omega); have e2 : fcl (fs.take i0 ++ f :: fs.drop (i0)) = [] ++ fcl (fs.take i0) ++ [.string f.nm, .string f.b, iN .i64 f.sy] ++ fcl (fs.drop (i0)) := (by simp [fcl, rf1]); rw [e1, e2]; exact hR3
  obtain ⟨p4, c4, rfl⟩ := hR4.form
  refine wl_val (.pointer (some ⟨q1, 1, none⟩)) (by kernel_rfl) (by kernel_rfl) ?_
  refine wl_putv (v := .slice p4 (fs.take i0 ++ f :: fs.drop (i0)).length c4) h25 2 rfl 1 (by show 1 < 5; decide) (by kernel_rfl) (fun w => Try.sizeOf25 w) (by kernel_rfl) (by kernel_rfl) (by kernel_rfl) ?_
  intro w26 (h27 : HA (bs w) ((q7, 28, #[iN .i64 0, .slice none 0 0, .bool false, iN .i64 0, .slice none 0 0]) :: (q4, 75, #[.string f.nm, .string f.b, iN .i64 f.sy]) :: (q1, 28, #[iN .i64 rm, .slice p4 (fs.take i0 ++ f :: fs.drop (i0)).length c4, .bool dn, iN .i64 lf, .slice pz nz cz]) :: L3) w26)
  refine wl_nil ?_
  refine then_at rfl ?_
  refine wp_seq ?_
  refine wl_region ?_
  refine wl_load h27 2 rfl (by kernel_rfl) (by kernel_rfl) Try.underlying28 rfl (by kernel_rfl) ?_
  refine wl_fill (c' := #[iN .i64 rm, .slice p4 (fs.take i0 ++ f :: fs.drop (i0)).length c4, .bool dn, iN .i64 lf, .slice pz nz cz]) h27 0 rfl (by kernel_rfl) (by kernel_rfl) (by kernel_rfl) rfl (by kernel_rfl) (by kernel_rfl) ?_
  intro w28 (h29 : HA (bs w) ((q7, 28, #[iN .i64 rm, .slice p4 (fs.take i0 ++ f :: fs.drop (i0)).length c4, .bool dn, iN .i64 lf, .slice pz nz cz]) :: (q4, 75, #[.string f.nm, .string f.b, iN .i64 f.sy]) :: (q1, 28, #[iN .i64 rm, .slice p4 (fs.take i0 ++ f :: fs.drop (i0)).length c4, .bool dn, iN .i64 lf, .slice pz nz cz]) :: L3) w28)
  refine wl_nil ?_
  refine then_at rfl ?_
  refine wp_ret ?_
  repeat first | refine then_ret ?_ | refine block_ret ?_
  exact bodyPost_ret (v := .agg (#[iN .i64 rm, .slice p4 (fs.take i0 ++ f :: fs.drop (i0)).length c4, .bool dn, iN .i64 lf, .slice pz nz cz])) (res_cell (p := 4) (by kernel_rfl) (by kernel_rfl) (h29.get 0 rfl) Try.underlying28 rfl (by kernel_rfl)) rfl ⟨p4, c4, L3, rfl, Row.rffl rfl hR4, HA.newerN (HA.perm h29 (List.perm_append_comm (l₁ := [(q7, 28, #[iN .i64 rm, .slice p4 (fs.take i0 ++ f :: fs.drop (i0)).length c4, .bool dn, iN .i64 lf, .slice pz nz cz]), (q4, 75, #[.string f.nm, .string f.b, iN .i64 f.sy]), (q1, 28, #[iN .i64 rm, .slice p4 (fs.take i0 ++ f :: fs.drop (i0)).length c4, .bool dn, iN .i64 lf, .slice pz nz cz])]) (l₂ := L3))), h29.old.old⟩
set_option linter.unusedVariables false in
set_option maxRecDepth 100000 in
set_option maxHeartbeats 2000000 in
theorem with_y {w : World} {rm lf nz cz cf : Nat} {pf pz : Option Addr} {fs : List RF} {N : BL} (hF : RFL (.slice pf fs.length cf) fs N) (hS : Stand w N) (hfl : fs.length ≤ 100000) {dn : Bool} (f : RF) {i0 : Nat} (hfr : findR fs f.nm = (i0, true)) (hi0 : i0 + 1 ≤ fs.length) :
    Calls Try.prog 41 #[.agg #[iN .i64 rm, .slice pf fs.length cf, .bool dn, iN .i64 lf, .slice pz nz cz], .agg #[.string f.nm, .string f.b, iN .i64 f.sy]] w fun e w' => ∃ p c N', e = .returned (.agg #[iN .i64 rm, .slice p (fs.take i0 ++ f :: fs.drop (i0 + 1)).length c, .bool dn, iN .i64 lf, .slice pz nz cz]) ∧ RFL (.slice p (fs.take i0 ++ f :: fs.drop (i0 + 1)).length c) (fs.take i0 ++ f :: fs.drop (i0 + 1)) N' ∧ Newer w.heap.size w' N' ∧ Below w.heap.size w w' := by
  obtain ⟨o1, c1, hr1, hs1⟩ := cutHi (k := i0) hF (by omega)
  obtain ⟨o2, c2, hr2, hs2⟩ := cutLo (k := i0 + 1) hF hi0
  have H0 := HA.start w
  go_enter Try.func41, Try.ntmps41
  refine wp_seq ?_
  refine wl_region ?_
  refine wl_make (c := #[iN .i64 rm, .slice pf fs.length cf, .bool dn, iN .i64 lf, .slice pz nz cz]) H0 28 (by kernel_rfl) (by kernel_rfl) ?_
  intro q1 w2 (h3 : HA (bs w) [(q1, 28, #[iN .i64 rm, .slice pf fs.length cf, .bool dn, iN .i64 lf, .slice pz nz cz])] w2)
  refine wl_make (c := #[.string f.nm, .string f.b, iN .i64 f.sy]) h3 75 (by kernel_rfl) (by kernel_rfl) ?_
  intro q4 w5 (h6 : HA (bs w) [(q4, 75, #[.string f.nm, .string f.b, iN .i64 f.sy]), (q1, 28, #[iN .i64 rm, .slice pf fs.length cf, .bool dn, iN .i64 lf, .slice pz nz cz])] w5)
  refine wl_make (c := #[iN .i64 0, .slice none 0 0, .bool false, iN .i64 0, .slice none 0 0]) h6 28 (by kernel_rfl) (by kernel_rfl) ?_
  intro q7 w8 (h9 : HA (bs w) [(q7, 28, #[iN .i64 0, .slice none 0 0, .bool false, iN .i64 0, .slice none 0 0]), (q4, 75, #[.string f.nm, .string f.b, iN .i64 f.sy]), (q1, 28, #[iN .i64 rm, .slice pf fs.length cf, .bool dn, iN .i64 lf, .slice pz nz cz])] w8)
  refine wl_nil ?_
  refine then_at rfl ?_
  refine wp_seq ?_
  refine wl_region ?_
  refine wl_load h9 2 rfl (by kernel_rfl) (by kernel_rfl) Try.underlying28 rfl (by kernel_rfl) ?_
  refine wl_val (.pointer (some ⟨q4, 0, none⟩)) (by kernel_rfl) (by kernel_rfl) ?_
  refine wl_val (.string f.nm) (by kernel_rfl) (run_load1 (fun w => Try.isAgg9 w) (by kernel_rfl) (((h9.get 1 rfl).cell 0).trans rfl)) ?_
  refine wl_call (v := .tuple #[iN .i64 i0, .bool true]) h9 (by kernel_rfl) enter39 #[.agg (#[iN .i64 rm, .slice pf fs.length cf, .bool dn, iN .i64 lf, .slice pz nz cz]), .string f.nm] (by kernel_rfl) (by have hh := rfind_any (lf := lf) (rm := rm) (nz := nz) (cz := cz) (pz := pz) (dn := dn) hF (hS.keep h9.old.old) hfl f.nm; rw [hfr] at hh; exact hh) ?_
  intro w10 h11
  refine wl_val (.tuple #[iN .i64 i0, .bool true]) (by kernel_rfl) (by kernel_rfl) ?_
  refine wl_val (iN .i64 i0) (by kernel_rfl) (by kernel_rfl) ?_
  refine wl_val (.bool true) (by kernel_rfl) (by kernel_rfl) ?_
  refine wl_val (iN .i64 i0) (by kernel_rfl) (by kernel_rfl) ?_
  refine wl_val (.bool true) (by kernel_rfl) (by kernel_rfl) ?_
  refine wl_nil ?_
  refine then_at rfl ?_
  refine wp_seq ?_
  refine wl_region ?_
  refine wl_val (.slice none 0 0) (by kernel_rfl) (by kernel_rfl) ?_
  refine wl_nil ?_
  refine then_at rfl ?_
  refine wp_seq ?_
  refine wl_region ?_
  refine wl_val (.slice none 0 0) (by kernel_rfl) (by kernel_rfl) ?_
  refine wl_val (.pointer (some ⟨q1, 1, none⟩)) (by kernel_rfl) (by kernel_rfl) ?_
  refine wl_val (.slice pf fs.length cf) (by kernel_rfl) (run_load1 (fun w => Try.isAgg25 w) (by kernel_rfl) (((h11.get 2 rfl).cell 1).trans rfl)) ?_
  refine wl_val (iN .i64 i0) (by kernel_rfl) (by kernel_rfl) ?_
  refine wl_val (.slice o1 i0 c1) (by kernel_rfl) (hr1 _ _ _ _ _ _ _ _ _ (by kernel_rfl) (by kernel_rfl)) ?_
  refine wl_appF (c := c1) (m := i0) (n := 0) (N := N) (L := [(q7, 28, #[iN .i64 0, .slice none 0 0, .bool false, iN .i64 0, .slice none 0 0]), (q4, 75, #[.string f.nm, .string f.b, iN .i64 f.sy]), (q1, 28, #[iN .i64 rm, .slice pf fs.length cf, .bool dn, iN .i64 lf, .slice pz nz cz])]) (Lr := []) (Row.nil 75 3) h11 hs1 (hS.keep h11.old.old) (by rw [fcl_len, List.length_take]; omega) (fcl_one _) (by kernel_rfl) (by kernel_rfl) (by kernel_rfl) (by omega) ?_
  intro v1 w12 L1 hR1 h13
  have h14 : HA (bs w) ((q7, 28, #[iN .i64 0, .slice none 0 0, .bool false, iN .i64 0, .slice none 0 0]) :: (q4, 75, #[.string f.nm, .string f.b, iN .i64 f.sy]) :: (q1, 28, #[iN .i64 rm, .slice pf fs.length cf, .bool dn, iN .i64 lf, .slice pz nz cz]) :: L1) w12 := HA.perm h13 (List.perm_append_comm (l₁ := L1) (l₂ := [(q7, 28, #[iN .i64 0, .slice none 0 0, .bool false, iN .i64 0, .slice none 0 0]), (q4, 75, #[.string f.nm, .string f.b, iN .i64 f.sy]), (q1, 28, #[iN .i64 rm, .slice pf fs.length cf, .bool dn, iN .i64 lf, .slice pz nz cz])]))
  refine wl_val (v1) (by kernel_rfl) (by kernel_rfl) ?_
  refine wl_nil ?_
  refine then_at rfl ?_
  refine wp_seq ?_
  refine wl_region ?_
  refine wl_val (v1) (by kernel_rfl) (by kernel_rfl) ?_
  refine wl_load h14 1 rfl (by kernel_rfl) (by kernel_rfl) Try.underlying75 rfl (by kernel_rfl) ?_
  refine wl_mks (n := 1) (m := 1) (c := #[.string f.nm, .string f.b, iN .i64 f.sy]) h14 75 (by kernel_rfl) (by kernel_rfl) ?_
  intro q15 w16 (h17 : HA (bs w) ((q15, 75, #[.string f.nm, .string f.b, iN .i64 f.sy]) :: (q7, 28, #[iN .i64 0, .slice none 0 0, .bool false, iN .i64 0, .slice none 0 0]) :: (q4, 75, #[.string f.nm, .string f.b, iN .i64 f.sy]) :: (q1, 28, #[iN .i64 rm, .slice pf fs.length cf, .bool dn, iN .i64 lf, .slice pz nz cz]) :: L1) w16)
  have h18 : HA (bs w) ((q15, 75, #[.string f.nm, .string f.b, iN .i64 f.sy]) :: (L1 ++ [(q7, 28, #[iN .i64 0, .slice none 0 0, .bool false, iN .i64 0, .slice none 0 0]), (q4, 75, #[.string f.nm, .string f.b, iN .i64 f.sy]), (q1, 28, #[iN .i64 rm, .slice pf fs.length cf, .bool dn, iN .i64 lf, .slice pz nz cz])])) w16 := HA.perm h17 (List.Perm.cons _ (List.perm_append_comm (l₁ := [(q7, 28, #[iN .i64 0, .slice none 0 0, .bool false, iN .i64 0, .slice none 0 0]), (q4, 75, #[.string f.nm, .string f.b, iN .i64 f.sy]), (q1, 28, #[iN .i64 rm, .slice pf fs.length cf, .bool dn, iN .i64 lf, .slice pz nz cz])]) (l₂ := L1)))
  refine wl_append (m := 1) (c := 1) (Lr := L1) hR1 h18 (by decide) _ 40 Try.underlying25 info75 rfl (by decide) (by kernel_rfl) (by kernel_rfl) (by kernel_rfl) rfl (by kernel_rfl) (by unfold maxLen; omega) (by omega) (by decide) ?_
  intro v2 w19 L2 hR2 h20
  have h21 : HA (bs w) ((q7, 28, #[iN .i64 0, .slice none 0 0, .bool false, iN .i64 0, .slice none 0 0]) :: (q4, 75, #[.string f.nm, .string f.b, iN .i64 f.sy]) :: (q1, 28, #[iN .i64 rm, .slice pf fs.length cf, .bool dn, iN .i64 lf, .slice pz nz cz]) :: L2) w19 := HA.perm h20 (List.perm_append_comm (l₁ := L2) (l₂ := [(q7, 28, #[iN .i64 0, .slice none 0 0, .bool false, iN .i64 0, .slice none 0 0]), (q4, 75, #[.string f.nm, .string f.b, iN .i64 f.sy]), (q1, 28, #[iN .i64 rm, .slice pf fs.length cf, .bool dn, iN .i64 lf, .slice pz nz cz])]))
  refine wl_val (v2) (by kernel_rfl) (by kernel_rfl) ?_
  refine wl_nil ?_
  refine then_at rfl ?_
  refine wp_seq ?_
  refine wp_seq ?_
  refine wl_region ?_
  refine wl_val (.bool true) (by kernel_rfl) (by kernel_rfl) ?_
  refine wl_nil ?_
  refine then_at (F := ⟨(.agg #[iN .i64 rm, .slice pf fs.length cf, .bool dn, iN .i64 lf, .slice pz nz cz] :: .agg #[.string f.nm, .string f.b, iN .i64 f.sy] :: pt q1 :: pt q4 :: pt q7 :: iN .i64 i0 :: .bool true :: v2 :: .tuple #[iN .i64 i0, .bool true] :: .agg (#[iN .i64 rm, .slice pf fs.length cf, .bool dn, iN .i64 lf, .slice pz nz cz]) :: pt q4 :: .string f.nm :: .tuple #[iN .i64 i0, .bool true] :: iN .i64 i0 :: .bool true :: .slice none 0 0 :: .pointer (some ⟨q1, 1, none⟩) :: .slice pf fs.length cf :: iN .i64 i0 :: .slice o1 i0 c1 :: v1 :: v1 :: .agg (#[.string f.nm, .string f.b, iN .i64 f.sy]) :: .slice (some ⟨q15, 0, none⟩) 1 1 :: v2 :: .bool true :: List.replicate 10 un).toArray, []⟩) (by kernel_rfl) ?_
  refine wp_cond_true (by kernel_rfl) ?_
  refine wl_region ?_
  refine wl_val (iN .i64 i0) (by kernel_rfl) (by kernel_rfl) ?_
  refine wl_val (iN .i64 (i0 + 1)) (by kernel_rfl) (run_add (k := .i64) (a := i0) (b := 1) (by kernel_rfl) (by kernel_rfl) (by first | omega | (simp only [top]; omega))) ?_
  refine wl_val (iN .i64 (i0 + 1)) (by kernel_rfl) (by kernel_rfl) ?_
  refine wl_nil ?_
  refine then_at rfl ?_
  refine wp_seq ?_
  refine wl_region ?_
  refine wl_val (v2) (by kernel_rfl) (by kernel_rfl) ?_
  refine wl_val (.pointer (some ⟨q1, 1, none⟩)) (by kernel_rfl) (by kernel_rfl) ?_
  refine wl_val (.slice pf fs.length cf) (by kernel_rfl) (run_load1 (fun w => Try.isAgg25 w) (by kernel_rfl) (((h21.get 2 rfl).cell 1).trans rfl)) ?_
  refine wl_val (iN .i64 (i0 + 1)) (by kernel_rfl) (by kernel_rfl) ?_
  refine wl_val (.slice o2 (fs.length - (i0 + 1)) c2) (by kernel_rfl) (hr2 _ _ _ _ _ _ _ _ _ (by kernel_rfl) (by kernel_rfl)) ?_
  have h22 : HA (bs w) (L2 ++ [(q7, 28, #[iN .i64 0, .slice none 0 0, .bool false, iN .i64 0, .slice none 0 0]), (q4, 75, #[.string f.nm, .string f.b, iN .i64 f.sy]), (q1, 28, #[iN .i64 rm, .slice pf fs.length cf, .bool dn, iN .i64 lf, .slice pz nz cz])]) w19 := HA.perm h21 (List.perm_append_comm (l₁ := [(q7, 28, #[iN .i64 0, .slice none 0 0, .bool false, iN .i64 0, .slice none 0 0]), (q4, 75, #[.string f.nm, .string f.b, iN .i64 f.sy]), (q1, 28, #[iN .i64 rm, .slice pf fs.length cf, .bool dn, iN .i64 lf, .slice pz nz cz])]) (l₂ := L2))
  refine wl_appF (c := c2) (n := 0 + i0 + 1) (m := fs.length - (i0 + 1)) (N := N) hR2 h22 hs2 (hS.keep h21.old.old) (by rw [fcl_len, List.length_drop]) (fcl_one _) (by kernel_rfl) (by kernel_rfl) (by kernel_rfl) (by omega) ?_
  intro v3 w23 L3 hR3 h24
  have h25 : HA (bs w) ((q7, 28, #[iN .i64 0, .slice none 0 0, .bool false, iN .i64 0, .slice none 0 0]) :: (q4, 75, #[.string f.nm, .string f.b, iN .i64 f.sy]) :: (q1, 28, #[iN .i64 rm, .slice pf fs.length cf, .bool dn, iN .i64 lf, .slice pz nz cz]) :: L3) w23 := HA.perm h24 (List.perm_append_comm (l₁ := L3) (l₂ := [(q7, 28, #[iN .i64 0, .slice none 0 0, .bool false, iN .i64 0, .slice none 0 0]), (q4, 75, #[.string f.nm, .string f.b, iN .i64 f.sy]), (q1, 28, #[iN .i64 rm, .slice pf fs.length cf, .bool dn, iN .i64 lf, .slice pz nz cz])]))
  have hR4 : Row 75 3 v3 (fs.take i0 ++ f :: fs.drop (i0 + 1)).length (fcl (fs.take i0 ++ f :: fs.drop (i0 + 1))) L3 := by have e1 : (fs.take i0 ++ f :: fs.drop (i0 + 1)).length = 0 + i0 + 1 + (fs.length - (i0 + 1)) := (by rw [List.length_append, List.length_take, List.length_cons, List.length_drop]; omega); have e2 : fcl (fs.take i0 ++ f :: fs.drop (i0 + 1)) = [] ++ fcl (fs.take i0) ++ [.string f.nm, .string f.b, iN .i64 f.sy] ++ fcl (fs.drop (i0 + 1)) := (by simp [fcl, rf1]); rw [e1, e2]; exact hR3
  obtain ⟨p4, c4, rfl⟩ := hR4.form
  refine wl_val (.pointer (some ⟨q1, 1, none⟩)) (by kernel_rfl) (by kernel_rfl) ?_
  refine wl_putv (v := .slice p4 (fs.take i0 ++ f :: fs.drop (i0 + 1)).length c4) h25 2 rfl 1 (by show 1 < 5; decide) (by kernel_rfl) (fun w => Try.sizeOf25 w) (by kernel_rfl) (by kernel_rfl) (by kernel_rfl) ?_
  intro w26 (h27 : HA (bs w) ((q7, 28, #[iN .i64 0, .slice none 0 0, .bool false, iN .i64 0, .slice none 0 0]) :: (q4, 75, #[.string f.nm, .string f.b, iN .i64 f.sy]) :: (q1, 28, #[iN .i64 rm, .slice p4 (fs.take i0 ++ f :: fs.drop (i0 + 1)).length c4, .bool dn, iN .i64 lf, .slice pz nz cz]) :: L3) w26)
  refine wl_nil ?_
  refine then_at rfl ?_
  refine wp_seq ?_
  refine wl_region ?_
  refine wl_load h27 2 rfl (by kernel_rfl) (by kernel_rfl) Try.underlying28 rfl (by kernel_rfl) ?_
  refine wl_fill (c' := #[iN .i64 rm, .slice p4 (fs.take i0 ++ f :: fs.drop (i0 + 1)).length c4, .bool dn, iN .i64 lf, .slice pz nz cz]) h27 0 rfl (by kernel_rfl) (by kernel_rfl) (by kernel_rfl) rfl (by kernel_rfl) (by kernel_rfl) ?_
  intro w28 (h29 : HA (bs w) ((q7, 28, #[iN .i64 rm, .slice p4 (fs.take i0 ++ f :: fs.drop (i0 + 1)).length c4, .bool dn, iN .i64 lf, .slice pz nz cz]) :: (q4, 75, #[.string f.nm, .string f.b, iN .i64 f.sy]) :: (q1, 28, #[iN .i64 rm, .slice p4 (fs.take i0 ++ f :: fs.drop (i0 + 1)).length c4, .bool dn, iN .i64 lf, .slice pz nz cz]) :: L3) w28)
  refine wl_nil ?_
  refine then_at rfl ?_
  refine wp_ret ?_
  repeat first | refine then_ret ?_ | refine block_ret ?_
  exact bodyPost_ret (v := .agg (#[iN .i64 rm, .slice p4 (fs.take i0 ++ f :: fs.drop (i0 + 1)).length c4, .bool dn, iN .i64 lf, .slice pz nz cz])) (res_cell (p := 4) (by kernel_rfl) (by kernel_rfl) (h29.get 0 rfl) Try.underlying28 rfl (by kernel_rfl)) rfl ⟨p4, c4, L3, rfl, Row.rffl rfl hR4, HA.newerN (HA.perm h29 (List.perm_append_comm (l₁ := [(q7, 28, #[iN .i64 rm, .slice p4 (fs.take i0 ++ f :: fs.drop (i0 + 1)).length c4, .bool dn, iN .i64 lf, .slice pz nz cz]), (q4, 75, #[.string f.nm, .string f.b, iN .i64 f.sy]), (q1, 28, #[iN .i64 rm, .slice p4 (fs.take i0 ++ f :: fs.drop (i0 + 1)).length c4, .bool dn, iN .i64 lf, .slice pz nz cz])]) (l₂ := L3))), h29.old.old⟩
theorem with_any {w : World} {rm lf nz cz cf : Nat} {pf pz : Option Addr} {fs : List RF} {N : BL} (hF : RFL (.slice pf fs.length cf) fs N) (hS : Stand w N) (hfl : fs.length ≤ 100000) {dn : Bool} (f : RF) :
    Calls Try.prog 41 #[.agg #[iN .i64 rm, .slice pf fs.length cf, .bool dn, iN .i64 lf, .slice pz nz cz], .agg #[.string f.nm, .string f.b, iN .i64 f.sy]] w fun e w' => ∃ p c N', e = .returned (.agg #[iN .i64 rm, .slice p (withR fs f).length c, .bool dn, iN .i64 lf, .slice pz nz cz]) ∧ RFL (.slice p (withR fs f).length c) (withR fs f) N' ∧ Newer w.heap.size w' N' ∧ Below w.heap.size w w' := by
  obtain ⟨h1, h2⟩ := findR_le f.nm fs
  unfold withR
  rcases hfr : findR fs f.nm with ⟨i0, b⟩
  rw [hfr] at h1 h2
  cases b with
  | false => exact with_n hF hS hfl f hfr h1
  | true => exact with_y hF hS hfl f hfr (h2 rfl)
end Go.Proofs.Ytjedhnjjgmbcbaa
