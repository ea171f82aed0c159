/-
  The reference's List, Same.
-/
import Derived.Test.YtjedhnjjgmbcbaaR9
import Derived.Test.YtjedhnjjgmbcbaaD11
namespace Go.Proofs.Ytjedhnjjgmbcbaa
open Go.RowKit

def pfR (nm p : ByteArray) : Bool := decide (p.size ≤ nm.size) && decide (nm.extract 0 p.size = p)
def rl (fs : List RF) (p : ByteArray) (k : Nat) : List ByteArray := ((fs.take k).filter fun f => pfR f.nm p).map (·.nm)
theorem rl_succ {fs : List RF} {p : ByteArray} {i : Nat} {f : RF} (h : fs[i]? = some f) : rl fs p (i + 1) = rl fs p i ++ (if pfR f.nm p = true then [f.nm] else []) := by
  unfold rl
  rw [List.take_add_one, h, List.filter_append, List.map_append]
  congr 1
  by_cases e : pfR f.nm p = true <;> simp [e]
theorem rl_len (fs : List RF) (p : ByteArray) (k : Nat) : (rl fs p k).length ≤ fs.length := by
  unfold rl
  rw [List.length_map]
  exact Nat.le_trans (List.length_filter_le _ _) (by rw [List.length_take]; omega)
set_option linter.unusedVariables false in
set_option maxRecDepth 100000 in
set_option maxHeartbeats 2000000 in
theorem rlist_u {w : World} {rm lf nz cz cf : Nat} {pf pz : Option Addr} {fs : List RF} {N : BL} (hF : RFL (.slice pf fs.length cf) fs N) (hS : Stand w N) (hfl : fs.length ≤ 100000) (p : ByteArray) :
    Calls Try.prog 57 #[.agg #[iN .i64 rm, .slice pf fs.length cf, .bool false, iN .i64 lf, .slice pz nz cz], .string p] w fun e w' => ∃ v N', e = .returned v ∧ Row 9 1 v (rl fs p fs.length).length ((rl fs p fs.length).map Value.string) N' ∧ Newer w.heap.size w' N' ∧ Below w.heap.size w w' := by
  have H0 := HA.start w
  go_enter Try.func57, Try.ntmps57
  refine wp_seq ?_
  refine wl_region ?_
  refine wl_make (c := #[iN .i64 rm, .slice pf fs.length cf, .bool false, iN .i64 lf, .slice pz nz cz]) H0 28 (by kernel_rfl) (by kernel_rfl) ?_
  intro q1 w2 (h3 : HA (bs w) [(q1, 28, #[iN .i64 rm, .slice pf fs.length cf, .bool false, iN .i64 lf, .slice pz nz cz])] w2)
  refine wl_val (.slice none 0 0) (by kernel_rfl) (by kernel_rfl) ?_
  refine wl_nil ?_
  refine then_at (F := ⟨(.agg #[iN .i64 rm, .slice pf fs.length cf, .bool false, iN .i64 lf, .slice pz nz cz] :: .string p :: pt q1 :: un :: .slice none 0 0 :: List.replicate 39 un).toArray, []⟩) (by kernel_rfl) ?_
  refine wp_seq ?_
  refine wl_region ?_
  refine wl_val (.slice none 0 0) (by kernel_rfl) (by kernel_rfl) ?_
  refine wl_nil ?_
  refine then_at (F := ⟨(.agg #[iN .i64 rm, .slice pf fs.length cf, .bool false, iN .i64 lf, .slice pz nz cz] :: .string p :: pt q1 :: un :: .slice none 0 0 :: .slice none 0 0 :: List.replicate 38 un).toArray, []⟩) (by kernel_rfl) ?_
  refine wp_seq ?_
  refine wp_seq ?_
  refine wl_region ?_
  refine wl_val (iN .i64 0) (by kernel_rfl) (by kernel_rfl) ?_
  refine wl_nil ?_
  refine then_at (F := ⟨(.agg #[iN .i64 rm, .slice pf fs.length cf, .bool false, iN .i64 lf, .slice pz nz cz] :: .string p :: pt q1 :: un :: .slice none 0 0 :: .slice none 0 0 :: iN .i64 0 :: List.replicate 37 un).toArray, []⟩) (by kernel_rfl) ?_
  refine wp_block ?_
  refine wp_count (fun i A w' => ∃ u4 : Nat → Value, A = ⟨(.agg #[iN .i64 rm, .slice pf fs.length cf, .bool false, iN .i64 lf, .slice pz nz cz] :: .string p :: pt q1 :: un :: .slice none 0 0 :: u4 5 :: iN .i64 i :: u4 7 :: u4 8 :: u4 9 :: u4 10 :: u4 11 :: u4 12 :: u4 13 :: u4 14 :: u4 15 :: u4 16 :: u4 17 :: u4 18 :: u4 19 :: u4 20 :: u4 21 :: u4 22 :: u4 23 :: u4 24 :: u4 25 :: u4 26 :: u4 27 :: u4 28 :: u4 29 :: u4 30 :: u4 31 :: u4 32 :: u4 33 :: u4 34 :: u4 35 :: u4 36 :: u4 37 :: u4 38 :: u4 39 :: u4 40 :: u4 41 :: u4 42 :: List.replicate 1 un).toArray, []⟩ ∧ ∃ Lb, Row 9 1 (u4 5) (rl fs p i).length ((rl fs p i).map Value.string) Lb ∧ HA (bs w) ((q1, 28, #[iN .i64 rm, .slice pf fs.length cf, .bool false, iN .i64 lf, .slice pz nz cz]) :: Lb) w') fs.length ?_ ?_ ?_
  · exact ⟨fun ii => (([(5, .slice none 0 0), (7, undef), (8, undef), (9, undef), (10, undef), (11, undef), (12, undef), (13, undef), (14, undef), (15, undef), (16, undef), (17, undef), (18, undef), (19, undef), (20, undef), (21, undef), (22, undef), (23, undef), (24, undef), (25, undef), (26, undef), (27, undef), (28, undef), (29, undef), (30, undef), (31, undef), (32, undef), (33, undef), (34, undef), (35, undef), (36, undef), (37, undef), (38, undef), (39, undef), (40, undef), (41, undef), (42, undef)] : List (Nat × Value)).find? (·.1 == ii)).elim undef (·.2), by kernel_rfl, ⟨[], by exact Row.nil 9 1, h3⟩⟩
  · rintro i hi _ w5 ⟨u4, rfl, ⟨Lb, hR, hA⟩⟩
    have hwl := rl_len fs p i
    refine wp_seq ?_
    refine wp_seq ?_
    refine wl_region ?_
    refine wl_val (iN .i64 i) (by kernel_rfl) (by kernel_rfl) ?_
    refine wl_val (.pointer (some ⟨q1, 1, none⟩)) (by kernel_rfl) (by kernel_rfl) ?_
    refine wl_val (.slice pf fs.length cf) (by kernel_rfl) (run_load1 (fun w => Try.isAgg25 w) (by kernel_rfl) (((hA.get 0 rfl).cell 1).trans rfl)) ?_
    refine wl_val (iN .i64 fs.length) (by kernel_rfl) (by kernel_rfl) ?_
    refine wl_val (.bool true) (by kernel_rfl) (run_lss (k := .i64) (a := i) (b := fs.length) (by kernel_rfl) (by kernel_rfl) true (decide_eq_true (by omega))) ?_
    refine wl_val (.bool true) (by kernel_rfl) (by kernel_rfl) ?_
    refine wl_val (.pointer (some ⟨q1, 2, none⟩)) (by kernel_rfl) (by kernel_rfl) ?_
    refine wl_val (.bool false) (by kernel_rfl) (run_load1 (fun w => Try.isAgg4 w) (by kernel_rfl) (((hA.get 0 rfl).cell 2).trans rfl)) ?_
    refine wl_val (.bool true) (by kernel_rfl) (by kernel_rfl) ?_
    refine wl_val (.bool true) (by kernel_rfl) (by kernel_rfl) ?_
    refine wl_nil ?_
    refine then_at (F := ⟨(.agg #[iN .i64 rm, .slice pf fs.length cf, .bool false, iN .i64 lf, .slice pz nz cz] :: .string p :: pt q1 :: un :: .slice none 0 0 :: u4 5 :: iN .i64 i :: u4 7 :: iN .i64 i :: .pointer (some ⟨q1, 1, none⟩) :: .slice pf fs.length cf :: iN .i64 fs.length :: .bool true :: .bool true :: .pointer (some ⟨q1, 2, none⟩) :: .bool false :: .bool true :: .bool true :: u4 18 :: u4 19 :: u4 20 :: u4 21 :: u4 22 :: u4 23 :: u4 24 :: u4 25 :: u4 26 :: u4 27 :: u4 28 :: u4 29 :: u4 30 :: u4 31 :: u4 32 :: u4 33 :: u4 34 :: u4 35 :: u4 36 :: u4 37 :: u4 38 :: u4 39 :: u4 40 :: u4 41 :: u4 42 :: List.replicate 1 un).toArray, []⟩) (by kernel_rfl) ?_
    refine wp_cond_true (by kernel_rfl) ?_
    refine wp_skip ?_
    refine then_at (F := ⟨(.agg #[iN .i64 rm, .slice pf fs.length cf, .bool false, iN .i64 lf, .slice pz nz cz] :: .string p :: pt q1 :: un :: .slice none 0 0 :: u4 5 :: iN .i64 i :: u4 7 :: iN .i64 i :: .pointer (some ⟨q1, 1, none⟩) :: .slice pf fs.length cf :: iN .i64 fs.length :: .bool true :: .bool true :: .pointer (some ⟨q1, 2, none⟩) :: .bool false :: .bool true :: .bool true :: u4 18 :: u4 19 :: u4 20 :: u4 21 :: u4 22 :: u4 23 :: u4 24 :: u4 25 :: u4 26 :: u4 27 :: u4 28 :: u4 29 :: u4 30 :: u4 31 :: u4 32 :: u4 33 :: u4 34 :: u4 35 :: u4 36 :: u4 37 :: u4 38 :: u4 39 :: u4 40 :: u4 41 :: u4 42 :: List.replicate 1 un).toArray, []⟩) (by kernel_rfl) ?_
    refine wp_seq ?_
    refine wp_block ?_
    refine wp_seq ?_
    obtain ⟨f, hf⟩ : ∃ f, fs[i]? = some f := ⟨_, List.getElem?_eq_getElem hi⟩
    obtain ⟨gF, curF, hpF, _, hgF, c0, c1, c2⟩ := hF.at hf
    refine wl_region ?_
    refine wl_val (.pointer (some ⟨q1, 1, none⟩)) (by kernel_rfl) (by kernel_rfl) ?_
    refine wl_val (.slice pf fs.length cf) (by kernel_rfl) (run_load1 (fun w => Try.isAgg25 w) (by kernel_rfl) (((hA.get 0 rfl).cell 1).trans rfl)) ?_
    refine wl_val (iN .i64 i) (by kernel_rfl) (by kernel_rfl) ?_
    refine wl_val (.pointer (some ⟨gF, 3 * i, none⟩)) (by kernel_rfl) (run_addr75p (q := gF) (n := fs.length) (m := cf) (a := i) hpF (by kernel_rfl) (by kernel_rfl) (List.getElem?_eq_some_iff.1 hf).1) ?_
    refine wl_val (.pointer (some ⟨gF, 3 * i, none⟩)) (by kernel_rfl) (by kernel_rfl) ?_
    refine wl_val (.string f.nm) (by kernel_rfl) (run_load1 (fun w => Try.isAgg9 w) (by kernel_rfl) ((((hS.keep hA.old.old) _ hgF).cell (3 * i)).trans c0)) ?_
    refine wl_val (.string f.nm) (by kernel_rfl) (by kernel_rfl) ?_
    refine wl_nil ?_
    refine then_at (F := ⟨(.agg #[iN .i64 rm, .slice pf fs.length cf, .bool false, iN .i64 lf, .slice pz nz cz] :: .string p :: pt q1 :: un :: .slice none 0 0 :: u4 5 :: iN .i64 i :: .string f.nm :: iN .i64 i :: .pointer (some ⟨q1, 1, none⟩) :: .slice pf fs.length cf :: iN .i64 fs.length :: .bool true :: .bool true :: .pointer (some ⟨q1, 2, none⟩) :: .bool false :: .bool true :: .bool true :: u4 18 :: u4 19 :: .pointer (some ⟨q1, 1, none⟩) :: .slice pf fs.length cf :: iN .i64 i :: .pointer (some ⟨gF, 3 * i, none⟩) :: .pointer (some ⟨gF, 3 * i, none⟩) :: .string f.nm :: u4 26 :: u4 27 :: u4 28 :: u4 29 :: u4 30 :: u4 31 :: u4 32 :: u4 33 :: u4 34 :: u4 35 :: u4 36 :: u4 37 :: u4 38 :: u4 39 :: u4 40 :: u4 41 :: u4 42 :: List.replicate 1 un).toArray, []⟩) (by kernel_rfl) ?_
    refine wp_seq ?_
    by_cases hle : p.size ≤ f.nm.size
    · by_cases he : f.nm.extract 0 p.size = p
      · have hpx : pfR f.nm p = true := by unfold pfR; rw [decide_eq_true hle, decide_eq_true he]; rfl
        refine wl_region ?_
        refine wl_val (.string f.nm) (by kernel_rfl) (by kernel_rfl) ?_
        refine wl_val (iN .i64 f.nm.size) (by kernel_rfl) (run_len (s := f.nm) (by kernel_rfl)) ?_
        refine wl_val (.string p) (by kernel_rfl) (by kernel_rfl) ?_
        refine wl_val (iN .i64 p.size) (by kernel_rfl) (run_len (s := p) (by kernel_rfl)) ?_
        refine wl_val (.bool true) (by kernel_rfl) (run_geq (k := .i64) (a := f.nm.size) (b := p.size) (by kernel_rfl) (by kernel_rfl) true (decide_eq_true hle)) ?_
        refine wl_val (.bool true) (by kernel_rfl) (by kernel_rfl) ?_
        refine wl_val (.string f.nm) (by kernel_rfl) (by kernel_rfl) ?_
        refine wl_val (.string p) (by kernel_rfl) (by kernel_rfl) ?_
        refine wl_val (iN .i64 p.size) (by kernel_rfl) (run_len (s := p) (by kernel_rfl)) ?_
        refine wl_val (.string (f.nm.extract 0 p.size)) (by kernel_rfl) (run_cut_hi (s := f.nm) (b := p.size) (by kernel_rfl) (by kernel_rfl) hle) ?_
        refine wl_val (.string p) (by kernel_rfl) (by kernel_rfl) ?_
        refine wl_val (.bool true) (by kernel_rfl) (run_eqs (s := f.nm.extract 0 p.size) (t := p) (by kernel_rfl) (by kernel_rfl) true (decide_eq_true he)) ?_
        refine wl_val (.bool true) (by kernel_rfl) (by kernel_rfl) ?_
        refine wl_nil ?_
        refine then_at (F := ⟨(.agg #[iN .i64 rm, .slice pf fs.length cf, .bool false, iN .i64 lf, .slice pz nz cz] :: .string p :: pt q1 :: un :: .slice none 0 0 :: u4 5 :: iN .i64 i :: .string f.nm :: iN .i64 i :: .pointer (some ⟨q1, 1, none⟩) :: .slice pf fs.length cf :: iN .i64 fs.length :: .bool true :: .bool true :: .pointer (some ⟨q1, 2, none⟩) :: .bool false :: .bool true :: .bool true :: u4 18 :: u4 19 :: .pointer (some ⟨q1, 1, none⟩) :: .slice pf fs.length cf :: iN .i64 i :: .pointer (some ⟨gF, 3 * i, none⟩) :: .pointer (some ⟨gF, 3 * i, none⟩) :: .string f.nm :: .string f.nm :: iN .i64 f.nm.size :: .string p :: iN .i64 p.size :: .bool true :: .bool true :: .string f.nm :: .string p :: iN .i64 p.size :: .string (f.nm.extract 0 p.size) :: .string p :: .bool true :: .bool true :: u4 39 :: u4 40 :: u4 41 :: u4 42 :: List.replicate 1 un).toArray, []⟩) (by kernel_rfl) ?_
        refine wp_cond_true (by kernel_rfl) ?_
        refine wl_region ?_
        refine wl_val (u4 5) (by kernel_rfl) (by kernel_rfl) ?_
        refine wl_val (.string f.nm) (by kernel_rfl) (by kernel_rfl) ?_
        refine wl_mks (n := 1) (m := 1) (c := #[.string f.nm]) hA 9 (by kernel_rfl) (by kernel_rfl) ?_
        intro q6 w7 (h8 : HA (bs w) ((q6, 9, #[.string f.nm]) :: (q1, 28, #[iN .i64 rm, .slice pf fs.length cf, .bool false, iN .i64 lf, .slice pz nz cz]) :: Lb) w7)
        have h9 : HA (bs w) ((q6, 9, #[.string f.nm]) :: (Lb ++ [(q1, 28, #[iN .i64 rm, .slice pf fs.length cf, .bool false, iN .i64 lf, .slice pz nz cz])])) w7 := HA.perm h8 (List.Perm.cons _ (List.perm_append_comm (l₁ := [(q1, 28, #[iN .i64 rm, .slice pf fs.length cf, .bool false, iN .i64 lf, .slice pz nz cz])]) (l₂ := Lb)))
        refine wl_append (m := 1) (c := 1) (Lr := Lb) hR h9 (by decide) _ 16 Try.underlying50 info9 rfl (by decide) (by kernel_rfl) (by kernel_rfl) (by kernel_rfl) rfl (by kernel_rfl) (by unfold maxLen; omega) (by omega) (by decide) ?_
        intro v2 w10 L2 hR2 h11
        have h12 : HA (bs w) ((q1, 28, #[iN .i64 rm, .slice pf fs.length cf, .bool false, iN .i64 lf, .slice pz nz cz]) :: L2) w10 := HA.perm h11 (List.perm_append_comm (l₁ := L2) (l₂ := [(q1, 28, #[iN .i64 rm, .slice pf fs.length cf, .bool false, iN .i64 lf, .slice pz nz cz])]))
        have hR3 : Row 9 1 v2 (rl fs p (i + 1)).length ((rl fs p (i + 1)).map Value.string) L2 := by rw [rl_succ hf, if_pos hpx, List.map_append, List.length_append]; exact hR2
        refine wl_val (v2) (by kernel_rfl) (by kernel_rfl) ?_
        refine wl_nil ?_
        refine block_normal ?_
        refine then_at (F := ⟨(.agg #[iN .i64 rm, .slice pf fs.length cf, .bool false, iN .i64 lf, .slice pz nz cz] :: .string p :: pt q1 :: un :: .slice none 0 0 :: v2 :: iN .i64 i :: .string f.nm :: iN .i64 i :: .pointer (some ⟨q1, 1, none⟩) :: .slice pf fs.length cf :: iN .i64 fs.length :: .bool true :: .bool true :: .pointer (some ⟨q1, 2, none⟩) :: .bool false :: .bool true :: .bool true :: u4 18 :: u4 19 :: .pointer (some ⟨q1, 1, none⟩) :: .slice pf fs.length cf :: iN .i64 i :: .pointer (some ⟨gF, 3 * i, none⟩) :: .pointer (some ⟨gF, 3 * i, none⟩) :: .string f.nm :: .string f.nm :: iN .i64 f.nm.size :: .string p :: iN .i64 p.size :: .bool true :: .bool true :: .string f.nm :: .string p :: iN .i64 p.size :: .string (f.nm.extract 0 p.size) :: .string p :: .bool true :: .bool true :: u4 5 :: .string f.nm :: .slice (some ⟨q6, 0, none⟩) 1 1 :: v2 :: List.replicate 1 un).toArray, []⟩) (by kernel_rfl) ?_
        refine wl_region ?_
        refine wl_val (iN .i64 i) (by kernel_rfl) (by kernel_rfl) ?_
        refine wl_val (iN .i64 (i + 1)) (by kernel_rfl) (run_add (k := .i64) (a := i) (b := 1) (by kernel_rfl) (by kernel_rfl) (by first | omega | (simp only [top]; omega))) ?_
        refine wl_val (iN .i64 (i + 1)) (by kernel_rfl) (by kernel_rfl) ?_
        refine wl_nil ?_
        exact then_I ⟨fun ii => (([(5, v2), (7, .string f.nm), (8, iN .i64 i), (9, .pointer (some ⟨q1, 1, none⟩)), (10, .slice pf fs.length cf), (11, iN .i64 fs.length), (12, .bool true), (13, .bool true), (14, .pointer (some ⟨q1, 2, none⟩)), (15, .bool false), (16, .bool true), (17, .bool true), (18, iN .i64 i), (19, iN .i64 (i + 1)), (20, .pointer (some ⟨q1, 1, none⟩)), (21, .slice pf fs.length cf), (22, iN .i64 i), (23, .pointer (some ⟨gF, 3 * i, none⟩)), (24, .pointer (some ⟨gF, 3 * i, none⟩)), (25, .string f.nm), (26, .string f.nm), (27, iN .i64 f.nm.size), (28, .string p), (29, iN .i64 p.size), (30, .bool true), (31, .bool true), (32, .string f.nm), (33, .string p), (34, iN .i64 p.size), (35, .string (f.nm.extract 0 p.size)), (36, .string p), (37, .bool true), (38, .bool true), (39, u4 5), (40, .string f.nm), (41, .slice (some ⟨q6, 0, none⟩) 1 1), (42, v2)] : List (Nat × Value)).find? (·.1 == ii)).elim undef (·.2), by kernel_rfl, ⟨L2, by exact hR3, h12⟩⟩
      · have hpx : ¬ pfR f.nm p = true := by unfold pfR; rw [decide_eq_true hle, decide_eq_false he]; decide
        have hR0 : Row 9 1 (u4 5) (rl fs p (i + 1)).length ((rl fs p (i + 1)).map Value.string) Lb := by rw [rl_succ hf, if_neg hpx, List.append_nil]; exact hR
        refine wl_region ?_
        refine wl_val (.string f.nm) (by kernel_rfl) (by kernel_rfl) ?_
        refine wl_val (iN .i64 f.nm.size) (by kernel_rfl) (run_len (s := f.nm) (by kernel_rfl)) ?_
        refine wl_val (.string p) (by kernel_rfl) (by kernel_rfl) ?_
        refine wl_val (iN .i64 p.size) (by kernel_rfl) (run_len (s := p) (by kernel_rfl)) ?_
        refine wl_val (.bool true) (by kernel_rfl) (run_geq (k := .i64) (a := f.nm.size) (b := p.size) (by kernel_rfl) (by kernel_rfl) true (decide_eq_true hle)) ?_
        refine wl_val (.bool true) (by kernel_rfl) (by kernel_rfl) ?_
        refine wl_val (.string f.nm) (by kernel_rfl) (by kernel_rfl) ?_
        refine wl_val (.string p) (by kernel_rfl) (by kernel_rfl) ?_
        refine wl_val (iN .i64 p.size) (by kernel_rfl) (run_len (s := p) (by kernel_rfl)) ?_
        refine wl_val (.string (f.nm.extract 0 p.size)) (by kernel_rfl) (run_cut_hi (s := f.nm) (b := p.size) (by kernel_rfl) (by kernel_rfl) hle) ?_
        refine wl_val (.string p) (by kernel_rfl) (by kernel_rfl) ?_
        refine wl_val (.bool false) (by kernel_rfl) (run_eqs (s := f.nm.extract 0 p.size) (t := p) (by kernel_rfl) (by kernel_rfl) false (decide_eq_false he)) ?_
        refine wl_val (.bool false) (by kernel_rfl) (by kernel_rfl) ?_
        refine wl_nil ?_
        refine then_at (F := ⟨(.agg #[iN .i64 rm, .slice pf fs.length cf, .bool false, iN .i64 lf, .slice pz nz cz] :: .string p :: pt q1 :: un :: .slice none 0 0 :: u4 5 :: iN .i64 i :: .string f.nm :: iN .i64 i :: .pointer (some ⟨q1, 1, none⟩) :: .slice pf fs.length cf :: iN .i64 fs.length :: .bool true :: .bool true :: .pointer (some ⟨q1, 2, none⟩) :: .bool false :: .bool true :: .bool true :: u4 18 :: u4 19 :: .pointer (some ⟨q1, 1, none⟩) :: .slice pf fs.length cf :: iN .i64 i :: .pointer (some ⟨gF, 3 * i, none⟩) :: .pointer (some ⟨gF, 3 * i, none⟩) :: .string f.nm :: .string f.nm :: iN .i64 f.nm.size :: .string p :: iN .i64 p.size :: .bool true :: .bool true :: .string f.nm :: .string p :: iN .i64 p.size :: .string (f.nm.extract 0 p.size) :: .string p :: .bool false :: .bool false :: u4 39 :: u4 40 :: u4 41 :: u4 42 :: List.replicate 1 un).toArray, []⟩) (by kernel_rfl) ?_
        refine wp_cond_false (by kernel_rfl) ?_
        refine wp_skip ?_
        refine block_normal ?_
        refine then_at (F := ⟨(.agg #[iN .i64 rm, .slice pf fs.length cf, .bool false, iN .i64 lf, .slice pz nz cz] :: .string p :: pt q1 :: un :: .slice none 0 0 :: u4 5 :: iN .i64 i :: .string f.nm :: iN .i64 i :: .pointer (some ⟨q1, 1, none⟩) :: .slice pf fs.length cf :: iN .i64 fs.length :: .bool true :: .bool true :: .pointer (some ⟨q1, 2, none⟩) :: .bool false :: .bool true :: .bool true :: u4 18 :: u4 19 :: .pointer (some ⟨q1, 1, none⟩) :: .slice pf fs.length cf :: iN .i64 i :: .pointer (some ⟨gF, 3 * i, none⟩) :: .pointer (some ⟨gF, 3 * i, none⟩) :: .string f.nm :: .string f.nm :: iN .i64 f.nm.size :: .string p :: iN .i64 p.size :: .bool true :: .bool true :: .string f.nm :: .string p :: iN .i64 p.size :: .string (f.nm.extract 0 p.size) :: .string p :: .bool false :: .bool false :: u4 39 :: u4 40 :: u4 41 :: u4 42 :: List.replicate 1 un).toArray, []⟩) (by kernel_rfl) ?_
        refine wl_region ?_
        refine wl_val (iN .i64 i) (by kernel_rfl) (by kernel_rfl) ?_
        refine wl_val (iN .i64 (i + 1)) (by kernel_rfl) (run_add (k := .i64) (a := i) (b := 1) (by kernel_rfl) (by kernel_rfl) (by first | omega | (simp only [top]; omega))) ?_
        refine wl_val (iN .i64 (i + 1)) (by kernel_rfl) (by kernel_rfl) ?_
        refine wl_nil ?_
        exact then_I ⟨fun ii => (([(5, u4 5), (7, .string f.nm), (8, iN .i64 i), (9, .pointer (some ⟨q1, 1, none⟩)), (10, .slice pf fs.length cf), (11, iN .i64 fs.length), (12, .bool true), (13, .bool true), (14, .pointer (some ⟨q1, 2, none⟩)), (15, .bool false), (16, .bool true), (17, .bool true), (18, iN .i64 i), (19, iN .i64 (i + 1)), (20, .pointer (some ⟨q1, 1, none⟩)), (21, .slice pf fs.length cf), (22, iN .i64 i), (23, .pointer (some ⟨gF, 3 * i, none⟩)), (24, .pointer (some ⟨gF, 3 * i, none⟩)), (25, .string f.nm), (26, .string f.nm), (27, iN .i64 f.nm.size), (28, .string p), (29, iN .i64 p.size), (30, .bool true), (31, .bool true), (32, .string f.nm), (33, .string p), (34, iN .i64 p.size), (35, .string (f.nm.extract 0 p.size)), (36, .string p), (37, .bool false), (38, .bool false), (39, u4 39), (40, u4 40), (41, u4 41), (42, u4 42)] : List (Nat × Value)).find? (·.1 == ii)).elim undef (·.2), by kernel_rfl, ⟨Lb, by exact hR0, hA⟩⟩
    · have hpx : ¬ pfR f.nm p = true := by unfold pfR; rw [decide_eq_false hle, Bool.false_and]; decide
      have hR0 : Row 9 1 (u4 5) (rl fs p (i + 1)).length ((rl fs p (i + 1)).map Value.string) Lb := by rw [rl_succ hf, if_neg hpx, List.append_nil]; exact hR
      refine wl_region ?_
      refine wl_val (.string f.nm) (by kernel_rfl) (by kernel_rfl) ?_
      refine wl_val (iN .i64 f.nm.size) (by kernel_rfl) (run_len (s := f.nm) (by kernel_rfl)) ?_
      refine wl_val (.string p) (by kernel_rfl) (by kernel_rfl) ?_
      refine wl_val (iN .i64 p.size) (by kernel_rfl) (run_len (s := p) (by kernel_rfl)) ?_
      refine wl_val (.bool false) (by kernel_rfl) (run_geq (k := .i64) (a := f.nm.size) (b := p.size) (by kernel_rfl) (by kernel_rfl) false (decide_eq_false hle)) ?_
      refine wl_val (.bool false) (by kernel_rfl) (by kernel_rfl) ?_
      refine wl_skip (by kernel_rfl) ?_
      refine wl_skip (by kernel_rfl) ?_
      refine wl_skip (by kernel_rfl) ?_
      refine wl_skip (by kernel_rfl) ?_
      refine wl_skip (by kernel_rfl) ?_
      refine wl_skip (by kernel_rfl) ?_
      refine wl_val (.bool false) (by kernel_rfl) (by kernel_rfl) ?_
      refine wl_nil ?_
      refine then_at (F := ⟨(.agg #[iN .i64 rm, .slice pf fs.length cf, .bool false, iN .i64 lf, .slice pz nz cz] :: .string p :: pt q1 :: un :: .slice none 0 0 :: u4 5 :: iN .i64 i :: .string f.nm :: iN .i64 i :: .pointer (some ⟨q1, 1, none⟩) :: .slice pf fs.length cf :: iN .i64 fs.length :: .bool true :: .bool true :: .pointer (some ⟨q1, 2, none⟩) :: .bool false :: .bool true :: .bool true :: u4 18 :: u4 19 :: .pointer (some ⟨q1, 1, none⟩) :: .slice pf fs.length cf :: iN .i64 i :: .pointer (some ⟨gF, 3 * i, none⟩) :: .pointer (some ⟨gF, 3 * i, none⟩) :: .string f.nm :: .string f.nm :: iN .i64 f.nm.size :: .string p :: iN .i64 p.size :: .bool false :: .bool false :: un :: un :: un :: un :: un :: un :: .bool false :: u4 39 :: u4 40 :: u4 41 :: u4 42 :: List.replicate 1 un).toArray, []⟩) (by kernel_rfl) ?_
      refine wp_cond_false (by kernel_rfl) ?_
      refine wp_skip ?_
      refine block_normal ?_
      refine then_at (F := ⟨(.agg #[iN .i64 rm, .slice pf fs.length cf, .bool false, iN .i64 lf, .slice pz nz cz] :: .string p :: pt q1 :: un :: .slice none 0 0 :: u4 5 :: iN .i64 i :: .string f.nm :: iN .i64 i :: .pointer (some ⟨q1, 1, none⟩) :: .slice pf fs.length cf :: iN .i64 fs.length :: .bool true :: .bool true :: .pointer (some ⟨q1, 2, none⟩) :: .bool false :: .bool true :: .bool true :: u4 18 :: u4 19 :: .pointer (some ⟨q1, 1, none⟩) :: .slice pf fs.length cf :: iN .i64 i :: .pointer (some ⟨gF, 3 * i, none⟩) :: .pointer (some ⟨gF, 3 * i, none⟩) :: .string f.nm :: .string f.nm :: iN .i64 f.nm.size :: .string p :: iN .i64 p.size :: .bool false :: .bool false :: un :: un :: un :: un :: un :: un :: .bool false :: u4 39 :: u4 40 :: u4 41 :: u4 42 :: List.replicate 1 un).toArray, []⟩) (by kernel_rfl) ?_
      refine wl_region ?_
      refine wl_val (iN .i64 i) (by kernel_rfl) (by kernel_rfl) ?_
      refine wl_val (iN .i64 (i + 1)) (by kernel_rfl) (run_add (k := .i64) (a := i) (b := 1) (by kernel_rfl) (by kernel_rfl) (by first | omega | (simp only [top]; omega))) ?_
      refine wl_val (iN .i64 (i + 1)) (by kernel_rfl) (by kernel_rfl) ?_
      refine wl_nil ?_
      exact then_I ⟨fun ii => (([(5, u4 5), (7, .string f.nm), (8, iN .i64 i), (9, .pointer (some ⟨q1, 1, none⟩)), (10, .slice pf fs.length cf), (11, iN .i64 fs.length), (12, .bool true), (13, .bool true), (14, .pointer (some ⟨q1, 2, none⟩)), (15, .bool false), (16, .bool true), (17, .bool true), (18, iN .i64 i), (19, iN .i64 (i + 1)), (20, .pointer (some ⟨q1, 1, none⟩)), (21, .slice pf fs.length cf), (22, iN .i64 i), (23, .pointer (some ⟨gF, 3 * i, none⟩)), (24, .pointer (some ⟨gF, 3 * i, none⟩)), (25, .string f.nm), (26, .string f.nm), (27, iN .i64 f.nm.size), (28, .string p), (29, iN .i64 p.size), (30, .bool false), (31, .bool false), (32, undef), (33, undef), (34, undef), (35, undef), (36, undef), (37, undef), (38, .bool false), (39, u4 39), (40, u4 40), (41, u4 41), (42, u4 42)] : List (Nat × Value)).find? (·.1 == ii)).elim undef (·.2), by kernel_rfl, ⟨Lb, by exact hR0, hA⟩⟩
  · rintro _ w13 ⟨u4, rfl, ⟨Lb, hR, hA⟩⟩
    have hwl := rl_len fs p fs.length
    refine wp_seq ?_
    refine wp_seq ?_
    refine wl_region ?_
    refine wl_val (iN .i64 fs.length) (by kernel_rfl) (by kernel_rfl) ?_
    refine wl_val (.pointer (some ⟨q1, 1, none⟩)) (by kernel_rfl) (by kernel_rfl) ?_
    refine wl_val (.slice pf fs.length cf) (by kernel_rfl) (run_load1 (fun w => Try.isAgg25 w) (by kernel_rfl) (((hA.get 0 rfl).cell 1).trans rfl)) ?_
    refine wl_val (iN .i64 fs.length) (by kernel_rfl) (by kernel_rfl) ?_
    refine wl_val (.bool false) (by kernel_rfl) (run_lss (k := .i64) (a := fs.length) (b := fs.length) (by kernel_rfl) (by kernel_rfl) false (decide_eq_false (by omega))) ?_
    refine wl_val (.bool false) (by kernel_rfl) (by kernel_rfl) ?_
    refine wl_skip (by kernel_rfl) ?_
    refine wl_skip (by kernel_rfl) ?_
    refine wl_skip (by kernel_rfl) ?_
    refine wl_val (.bool false) (by kernel_rfl) (by kernel_rfl) ?_
    refine wl_nil ?_
    refine then_at (F := ⟨(.agg #[iN .i64 rm, .slice pf fs.length cf, .bool false, iN .i64 lf, .slice pz nz cz] :: .string p :: pt q1 :: un :: .slice none 0 0 :: u4 5 :: iN .i64 fs.length :: u4 7 :: iN .i64 fs.length :: .pointer (some ⟨q1, 1, none⟩) :: .slice pf fs.length cf :: iN .i64 fs.length :: .bool false :: .bool false :: un :: un :: un :: .bool false :: u4 18 :: u4 19 :: u4 20 :: u4 21 :: u4 22 :: u4 23 :: u4 24 :: u4 25 :: u4 26 :: u4 27 :: u4 28 :: u4 29 :: u4 30 :: u4 31 :: u4 32 :: u4 33 :: u4 34 :: u4 35 :: u4 36 :: u4 37 :: u4 38 :: u4 39 :: u4 40 :: u4 41 :: u4 42 :: List.replicate 1 un).toArray, []⟩) (by kernel_rfl) ?_
    refine wp_cond_false (by kernel_rfl) ?_
    refine wp_exit ?_
    repeat first | refine then_exit ?_ | refine block_exit ?_ | refine block_exit_ne (by decide) ?_
    refine then_at (F := ⟨(.agg #[iN .i64 rm, .slice pf fs.length cf, .bool false, iN .i64 lf, .slice pz nz cz] :: .string p :: pt q1 :: un :: .slice none 0 0 :: u4 5 :: iN .i64 fs.length :: u4 7 :: iN .i64 fs.length :: .pointer (some ⟨q1, 1, none⟩) :: .slice pf fs.length cf :: iN .i64 fs.length :: .bool false :: .bool false :: un :: un :: un :: .bool false :: u4 18 :: u4 19 :: u4 20 :: u4 21 :: u4 22 :: u4 23 :: u4 24 :: u4 25 :: u4 26 :: u4 27 :: u4 28 :: u4 29 :: u4 30 :: u4 31 :: u4 32 :: u4 33 :: u4 34 :: u4 35 :: u4 36 :: u4 37 :: u4 38 :: u4 39 :: u4 40 :: u4 41 :: u4 42 :: List.replicate 1 un).toArray, []⟩) (by kernel_rfl) ?_
    refine wp_seq ?_
    refine wl_region ?_
    refine wl_val (u4 5) (by kernel_rfl) (by kernel_rfl) ?_
    refine wl_val (u4 5) (by kernel_rfl) (by kernel_rfl) ?_
    refine wl_nil ?_
    refine then_at (F := ⟨(.agg #[iN .i64 rm, .slice pf fs.length cf, .bool false, iN .i64 lf, .slice pz nz cz] :: .string p :: pt q1 :: un :: u4 5 :: u4 5 :: iN .i64 fs.length :: u4 7 :: iN .i64 fs.length :: .pointer (some ⟨q1, 1, none⟩) :: .slice pf fs.length cf :: iN .i64 fs.length :: .bool false :: .bool false :: un :: un :: un :: .bool false :: u4 18 :: u4 19 :: u4 20 :: u4 21 :: u4 22 :: u4 23 :: u4 24 :: u4 25 :: u4 26 :: u4 27 :: u4 28 :: u4 29 :: u4 30 :: u4 31 :: u4 32 :: u4 33 :: u4 34 :: u4 35 :: u4 36 :: u4 37 :: u4 38 :: u4 39 :: u4 40 :: u4 41 :: u4 42 :: u4 5 :: List.replicate 0 un).toArray, []⟩) (by kernel_rfl) ?_
    refine wp_ret ?_
    repeat first | refine then_ret ?_ | refine block_ret ?_
    exact bodyPost_ret (v := u4 5) (by kernel_rfl) rfl ⟨_, Lb, rfl, hR, HA.newerN (HA.perm hA (List.perm_append_comm (l₁ := [(q1, 28, #[iN .i64 rm, .slice pf fs.length cf, .bool false, iN .i64 lf, .slice pz nz cz])]) (l₂ := Lb))), hA.old.old⟩
set_option linter.unusedVariables false in
set_option maxRecDepth 100000 in
set_option maxHeartbeats 2000000 in
theorem rlist_d0 {w : World} {rm lf nz cz cf : Nat} {pf pz : Option Addr} {fs : List RF} {N : BL} (hF : RFL (.slice pf fs.length cf) fs N) (hS : Stand w N) (hfl : fs.length ≤ 100000) (p : ByteArray) (hl : fs.length = 0) :
    Calls Try.prog 57 #[.agg #[iN .i64 rm, .slice pf fs.length cf, .bool true, iN .i64 lf, .slice pz nz cz], .string p] w fun e w' => e = .returned (.slice none 0 0) ∧ Below w.heap.size w w' := by
  have H0 := HA.start w
  go_enter Try.func57, Try.ntmps57
  refine wp_seq ?_
  refine wl_region ?_
  refine wl_make (c := #[iN .i64 rm, .slice pf fs.length cf, .bool true, iN .i64 lf, .slice pz nz cz]) H0 28 (by kernel_rfl) (by kernel_rfl) ?_
  intro q1 w2 (h3 : HA (bs w) [(q1, 28, #[iN .i64 rm, .slice pf fs.length cf, .bool true, iN .i64 lf, .slice pz nz cz])] w2)
  refine wl_val (.slice none 0 0) (by kernel_rfl) (by kernel_rfl) ?_
  refine wl_nil ?_
  refine then_at (F := ⟨(.agg #[iN .i64 rm, .slice pf fs.length cf, .bool true, iN .i64 lf, .slice pz nz cz] :: .string p :: pt q1 :: un :: .slice none 0 0 :: List.replicate 39 un).toArray, []⟩) (by kernel_rfl) ?_
  refine wp_seq ?_
  refine wl_region ?_
  refine wl_val (.slice none 0 0) (by kernel_rfl) (by kernel_rfl) ?_
  refine wl_nil ?_
  refine then_at (F := ⟨(.agg #[iN .i64 rm, .slice pf fs.length cf, .bool true, iN .i64 lf, .slice pz nz cz] :: .string p :: pt q1 :: un :: .slice none 0 0 :: .slice none 0 0 :: List.replicate 38 un).toArray, []⟩) (by kernel_rfl) ?_
  refine wp_seq ?_
  refine wp_seq ?_
  refine wl_region ?_
  refine wl_val (iN .i64 0) (by kernel_rfl) (by kernel_rfl) ?_
  refine wl_nil ?_
  refine then_at (F := ⟨(.agg #[iN .i64 rm, .slice pf fs.length cf, .bool true, iN .i64 lf, .slice pz nz cz] :: .string p :: pt q1 :: un :: .slice none 0 0 :: .slice none 0 0 :: iN .i64 0 :: List.replicate 37 un).toArray, []⟩) (by kernel_rfl) ?_
  refine wp_block ?_
  refine wp_loop_rounds 2 ?_
  try rw [rounds_succ]
  refine wp_seq ?_
  refine wp_seq ?_
  refine wl_region ?_
  refine wl_val (iN .i64 0) (by kernel_rfl) (by kernel_rfl) ?_
  refine wl_val (.pointer (some ⟨q1, 1, none⟩)) (by kernel_rfl) (by kernel_rfl) ?_
  refine wl_val (.slice pf fs.length cf) (by kernel_rfl) (run_load1 (fun w => Try.isAgg25 w) (by kernel_rfl) (((h3.get 0 rfl).cell 1).trans rfl)) ?_
  refine wl_val (iN .i64 fs.length) (by kernel_rfl) (by kernel_rfl) ?_
  refine wl_val (.bool false) (by kernel_rfl) (run_lss (k := .i64) (a := 0) (b := fs.length) (by kernel_rfl) (by kernel_rfl) false (decide_eq_false (by omega))) ?_
  refine wl_val (.bool false) (by kernel_rfl) (by kernel_rfl) ?_
  refine wl_skip (by kernel_rfl) ?_
  refine wl_skip (by kernel_rfl) ?_
  refine wl_skip (by kernel_rfl) ?_
  refine wl_val (.bool false) (by kernel_rfl) (by kernel_rfl) ?_
  refine wl_nil ?_
  refine then_at (F := ⟨(.agg #[iN .i64 rm, .slice pf fs.length cf, .bool true, iN .i64 lf, .slice pz nz cz] :: .string p :: pt q1 :: un :: .slice none 0 0 :: .slice none 0 0 :: iN .i64 0 :: un :: iN .i64 0 :: .pointer (some ⟨q1, 1, none⟩) :: .slice pf fs.length cf :: iN .i64 fs.length :: .bool false :: .bool false :: un :: un :: un :: .bool false :: List.replicate 26 un).toArray, []⟩) (by kernel_rfl) ?_
  refine wp_cond_false (by kernel_rfl) ?_
  refine wp_exit ?_
  repeat first | refine then_exit ?_ | refine block_exit ?_ | refine block_exit_ne (by decide) ?_
  refine then_at (F := ⟨(.agg #[iN .i64 rm, .slice pf fs.length cf, .bool true, iN .i64 lf, .slice pz nz cz] :: .string p :: pt q1 :: un :: .slice none 0 0 :: .slice none 0 0 :: iN .i64 0 :: un :: iN .i64 0 :: .pointer (some ⟨q1, 1, none⟩) :: .slice pf fs.length cf :: iN .i64 fs.length :: .bool false :: .bool false :: un :: un :: un :: .bool false :: List.replicate 26 un).toArray, []⟩) (by kernel_rfl) ?_
  refine wp_seq ?_
  refine wl_region ?_
  refine wl_val (.slice none 0 0) (by kernel_rfl) (by kernel_rfl) ?_
  refine wl_val (.slice none 0 0) (by kernel_rfl) (by kernel_rfl) ?_
  refine wl_nil ?_
  refine then_at (F := ⟨(.agg #[iN .i64 rm, .slice pf fs.length cf, .bool true, iN .i64 lf, .slice pz nz cz] :: .string p :: pt q1 :: un :: .slice none 0 0 :: .slice none 0 0 :: iN .i64 0 :: un :: iN .i64 0 :: .pointer (some ⟨q1, 1, none⟩) :: .slice pf fs.length cf :: iN .i64 fs.length :: .bool false :: .bool false :: un :: un :: un :: .bool false :: un :: un :: un :: un :: un :: un :: un :: un :: un :: un :: un :: un :: un :: un :: un :: un :: un :: un :: un :: un :: un :: un :: un :: un :: un :: .slice none 0 0 :: List.replicate 0 un).toArray, []⟩) (by kernel_rfl) ?_
  refine wp_ret ?_
  repeat first | refine then_ret ?_ | refine block_ret ?_
  exact bodyPost_ret (v := .slice none 0 0) (by kernel_rfl) rfl ⟨rfl, h3.old.old⟩
set_option linter.unusedVariables false in
set_option maxRecDepth 100000 in
set_option maxHeartbeats 2000000 in
theorem rlist_d1 {w : World} {rm lf nz cz cf : Nat} {pf pz : Option Addr} {fs : List RF} {N : BL} (hF : RFL (.slice pf fs.length cf) fs N) (hS : Stand w N) (hfl : fs.length ≤ 100000) (p : ByteArray) (hl : 0 < fs.length) :
    Calls Try.prog 57 #[.agg #[iN .i64 rm, .slice pf fs.length cf, .bool true, iN .i64 lf, .slice pz nz cz], .string p] w fun e w' => e = .returned (.slice none 0 0) ∧ Below w.heap.size w w' := by
  have H0 := HA.start w
  go_enter Try.func57, Try.ntmps57
  refine wp_seq ?_
  refine wl_region ?_
  refine wl_make (c := #[iN .i64 rm, .slice pf fs.length cf, .bool true, iN .i64 lf, .slice pz nz cz]) H0 28 (by kernel_rfl) (by kernel_rfl) ?_
  intro q1 w2 (h3 : HA (bs w) [(q1, 28, #[iN .i64 rm, .slice pf fs.length cf, .bool true, iN .i64 lf, .slice pz nz cz])] w2)
  refine wl_val (.slice none 0 0) (by kernel_rfl) (by kernel_rfl) ?_
  refine wl_nil ?_
  refine then_at (F := ⟨(.agg #[iN .i64 rm, .slice pf fs.length cf, .bool true, iN .i64 lf, .slice pz nz cz] :: .string p :: pt q1 :: un :: .slice none 0 0 :: List.replicate 39 un).toArray, []⟩) (by kernel_rfl) ?_
  refine wp_seq ?_
  refine wl_region ?_
  refine wl_val (.slice none 0 0) (by kernel_rfl) (by kernel_rfl) ?_
  refine wl_nil ?_
  refine then_at (F := ⟨(.agg #[iN .i64 rm, .slice pf fs.length cf, .bool true, iN .i64 lf, .slice pz nz cz] :: .string p :: pt q1 :: un :: .slice none 0 0 :: .slice none 0 0 :: List.replicate 38 un).toArray, []⟩) (by kernel_rfl) ?_
  refine wp_seq ?_
  refine wp_seq ?_
  refine wl_region ?_
  refine wl_val (iN .i64 0) (by kernel_rfl) (by kernel_rfl) ?_
  refine wl_nil ?_
  refine then_at (F := ⟨(.agg #[iN .i64 rm, .slice pf fs.length cf, .bool true, iN .i64 lf, .slice pz nz cz] :: .string p :: pt q1 :: un :: .slice none 0 0 :: .slice none 0 0 :: iN .i64 0 :: List.replicate 37 un).toArray, []⟩) (by kernel_rfl) ?_
  refine wp_block ?_
  refine wp_loop_rounds 2 ?_
  try rw [rounds_succ]
  refine wp_seq ?_
  refine wp_seq ?_
  refine wl_region ?_
  refine wl_val (iN .i64 0) (by kernel_rfl) (by kernel_rfl) ?_
  refine wl_val (.pointer (some ⟨q1, 1, none⟩)) (by kernel_rfl) (by kernel_rfl) ?_
  refine wl_val (.slice pf fs.length cf) (by kernel_rfl) (run_load1 (fun w => Try.isAgg25 w) (by kernel_rfl) (((h3.get 0 rfl).cell 1).trans rfl)) ?_
  refine wl_val (iN .i64 fs.length) (by kernel_rfl) (by kernel_rfl) ?_
  refine wl_val (.bool true) (by kernel_rfl) (run_lss (k := .i64) (a := 0) (b := fs.length) (by kernel_rfl) (by kernel_rfl) true (decide_eq_true (by omega))) ?_
  refine wl_val (.bool true) (by kernel_rfl) (by kernel_rfl) ?_
  refine wl_val (.pointer (some ⟨q1, 2, none⟩)) (by kernel_rfl) (by kernel_rfl) ?_
  refine wl_val (.bool true) (by kernel_rfl) (run_load1 (fun w => Try.isAgg4 w) (by kernel_rfl) (((h3.get 0 rfl).cell 2).trans rfl)) ?_
  refine wl_val (.bool false) (by kernel_rfl) (by kernel_rfl) ?_
  refine wl_val (.bool false) (by kernel_rfl) (by kernel_rfl) ?_
  refine wl_nil ?_
  refine then_at (F := ⟨(.agg #[iN .i64 rm, .slice pf fs.length cf, .bool true, iN .i64 lf, .slice pz nz cz] :: .string p :: pt q1 :: un :: .slice none 0 0 :: .slice none 0 0 :: iN .i64 0 :: un :: iN .i64 0 :: .pointer (some ⟨q1, 1, none⟩) :: .slice pf fs.length cf :: iN .i64 fs.length :: .bool true :: .bool true :: .pointer (some ⟨q1, 2, none⟩) :: .bool true :: .bool false :: .bool false :: List.replicate 26 un).toArray, []⟩) (by kernel_rfl) ?_
  refine wp_cond_false (by kernel_rfl) ?_
  refine wp_exit ?_
  repeat first | refine then_exit ?_ | refine block_exit ?_ | refine block_exit_ne (by decide) ?_
  refine then_at (F := ⟨(.agg #[iN .i64 rm, .slice pf fs.length cf, .bool true, iN .i64 lf, .slice pz nz cz] :: .string p :: pt q1 :: un :: .slice none 0 0 :: .slice none 0 0 :: iN .i64 0 :: un :: iN .i64 0 :: .pointer (some ⟨q1, 1, none⟩) :: .slice pf fs.length cf :: iN .i64 fs.length :: .bool true :: .bool true :: .pointer (some ⟨q1, 2, none⟩) :: .bool true :: .bool false :: .bool false :: List.replicate 26 un).toArray, []⟩) (by kernel_rfl) ?_
  refine wp_seq ?_
  refine wl_region ?_
  refine wl_val (.slice none 0 0) (by kernel_rfl) (by kernel_rfl) ?_
  refine wl_val (.slice none 0 0) (by kernel_rfl) (by kernel_rfl) ?_
  refine wl_nil ?_
  refine then_at (F := ⟨(.agg #[iN .i64 rm, .slice pf fs.length cf, .bool true, iN .i64 lf, .slice pz nz cz] :: .string p :: pt q1 :: un :: .slice none 0 0 :: .slice none 0 0 :: iN .i64 0 :: un :: iN .i64 0 :: .pointer (some ⟨q1, 1, none⟩) :: .slice pf fs.length cf :: iN .i64 fs.length :: .bool true :: .bool true :: .pointer (some ⟨q1, 2, none⟩) :: .bool true :: .bool false :: .bool false :: un :: un :: un :: un :: un :: un :: un :: un :: un :: un :: un :: un :: un :: un :: un :: un :: un :: un :: un :: un :: un :: un :: un :: un :: un :: .slice none 0 0 :: List.replicate 0 un).toArray, []⟩) (by kernel_rfl) ?_
  refine wp_ret ?_
  repeat first | refine then_ret ?_ | refine block_ret ?_
  exact bodyPost_ret (v := .slice none 0 0) (by kernel_rfl) rfl ⟨rfl, h3.old.old⟩
end Go.Proofs.Ytjedhnjjgmbcbaa
