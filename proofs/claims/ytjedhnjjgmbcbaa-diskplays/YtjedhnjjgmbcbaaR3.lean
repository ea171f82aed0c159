/-
  The reference's Free, Read, Synced.
-/
import Derived.Test.YtjedhnjjgmbcbaaR2
namespace Go.Proofs.Ytjedhnjjgmbcbaa
open Go.RowKit

def sumB (fs : List RF) (k : Nat) : Nat := ((fs.take k).map fun f => f.b.size).sum
theorem sumB_succ {fs : List RF} {i : Nat} {f : RF} (h : fs[i]? = some f) : sumB fs (i + 1) = sumB fs i + f.b.size := by
  unfold sumB
  rw [List.take_add_one, h]
  simp
theorem sumB_mono {fs : List RF} : ∀ {i j : Nat}, i ≤ j → sumB fs i ≤ sumB fs j := fun {i j} h => by
  unfold sumB
  have : fs.take i = (fs.take j).take i := by rw [List.take_take, Nat.min_eq_left h]
  rw [this]
  generalize fs.take j = l
  conv => rhs; rw [← List.take_append_drop i l]
  rw [List.map_append, List.sum_append]
  omega
theorem findR_yes {s : ByteArray} : ∀ {fs : List RF} {i : Nat}, findR fs s = (i, true) → ∃ f, fs[i]? = some f ∧ f.nm = s
  | [], _, h => by cases h
  | f :: fs, i, h => by
    rw [findR] at h
    split at h
    · have e2 : decide (f.nm = s) = true := congrArg Prod.snd h
      have e1 : 0 = i := congrArg Prod.fst h
      subst e1
      exact ⟨f, rfl, of_decide_eq_true e2⟩
    · have e2 : (findR fs s).2 = true := congrArg Prod.snd h
      have e1 : (findR fs s).1 + 1 = i := congrArg Prod.fst h
      obtain ⟨g, h1, h2⟩ := findR_yes (fs := fs) (i := (findR fs s).1) (Prod.ext rfl e2)
      exact ⟨g, by rw [← e1]; simpa using h1, h2⟩
set_option linter.unusedVariables false in
set_option maxRecDepth 100000 in
set_option maxHeartbeats 2000000 in
theorem rfree_d {w : World} {rm lf nz cz cf : Nat} {pf pz : Option Addr} {fs : List RF} {N : BL} (hF : RFL (.slice pf fs.length cf) fs N) (hS : Stand w N) (hfl : fs.length ≤ 100000) :
    Calls Try.prog 38 #[.agg #[iN .i64 rm, .slice pf fs.length cf, .bool true, iN .i64 lf, .slice pz nz cz]] w fun e w' => e = .returned (iN .i64 0) ∧ Below w.heap.size w w' := by
  have H0 := HA.start w
  go_enter Try.func38, Try.ntmps38
  refine wp_seq ?_
  refine wl_region ?_
  refine wl_make (c := #[iN .i64 rm, .slice pf fs.length cf, .bool true, iN .i64 lf, .slice pz nz cz]) H0 28 (by kernel_rfl) (by kernel_rfl) ?_
  intro q1 w2 (h3 : HA (bs w) [(q1, 28, #[iN .i64 rm, .slice pf fs.length cf, .bool true, iN .i64 lf, .slice pz nz cz])] w2)
  refine wl_val (iN .i64 0) (by kernel_rfl) (by kernel_rfl) ?_
  refine wl_nil ?_
  refine then_at rfl ?_
  refine wp_seq ?_
  refine wp_seq ?_
  refine wl_region ?_
  refine wl_val (.pointer (some ⟨q1, 2, none⟩)) (by kernel_rfl) (by kernel_rfl) ?_
  refine wl_val (.bool true) (by kernel_rfl) (run_load1 (fun w => Try.isAgg4 w) (by kernel_rfl) (((h3.get 0 rfl).cell 2).trans rfl)) ?_
  refine wl_nil ?_
  refine then_at rfl ?_
  refine wp_cond_true (by kernel_rfl) ?_
  refine wp_seq ?_
  refine wl_region ?_
  refine wl_val (iN .i64 0) (by kernel_rfl) (by kernel_rfl) ?_
  refine wl_nil ?_
  refine then_at rfl ?_
  refine wp_ret ?_
  repeat first | refine then_ret ?_ | refine block_ret ?_
  exact bodyPost_ret (v := iN .i64 0) (by kernel_rfl) rfl ⟨rfl, h3.old.old⟩
set_option linter.unusedVariables false in
set_option maxRecDepth 100000 in
set_option maxHeartbeats 2000000 in
theorem rfree_u {w : World} {rm lf nz cz cf : Nat} {pf pz : Option Addr} {fs : List RF} {N : BL} (hF : RFL (.slice pf fs.length cf) fs N) (hS : Stand w N) (hfl : fs.length ≤ 100000) (hsm : sumB fs fs.length ≤ rm) (hrm : rm ≤ 9223372036854775807) :
    Calls Try.prog 38 #[.agg #[iN .i64 rm, .slice pf fs.length cf, .bool false, iN .i64 lf, .slice pz nz cz]] w fun e w' => e = .returned (iN .i64 (rm - sumB fs fs.length)) ∧ Below w.heap.size w w' := by
  have H0 := HA.start w
  go_enter Try.func38, Try.ntmps38
  refine wp_seq ?_
  refine wl_region ?_
  refine wl_make (c := #[iN .i64 rm, .slice pf fs.length cf, .bool false, iN .i64 lf, .slice pz nz cz]) H0 28 (by kernel_rfl) (by kernel_rfl) ?_
  intro q1 w2 (h3 : HA (bs w) [(q1, 28, #[iN .i64 rm, .slice pf fs.length cf, .bool false, iN .i64 lf, .slice pz nz cz])] w2)
  refine wl_val (iN .i64 0) (by kernel_rfl) (by kernel_rfl) ?_
  refine wl_nil ?_
  refine then_at rfl ?_
  refine wp_seq ?_
  refine wp_seq ?_
  refine wl_region ?_
  refine wl_val (.pointer (some ⟨q1, 2, none⟩)) (by kernel_rfl) (by kernel_rfl) ?_
  refine wl_val (.bool false) (by kernel_rfl) (run_load1 (fun w => Try.isAgg4 w) (by kernel_rfl) (((h3.get 0 rfl).cell 2).trans rfl)) ?_
  refine wl_nil ?_
  refine then_at rfl ?_
  refine wp_cond_false (by kernel_rfl) ?_
  refine wp_skip ?_
  refine then_at rfl ?_
  refine wp_seq ?_
  refine wl_region ?_
  refine wl_val (.pointer (some ⟨q1, 0, none⟩)) (by kernel_rfl) (by kernel_rfl) ?_
  refine wl_val (iN .i64 rm) (by kernel_rfl) (run_load1 (fun w => Try.isAgg3 w) (by kernel_rfl) (((h3.get 0 rfl).cell 0).trans rfl)) ?_
  refine wl_val (iN .i64 rm) (by kernel_rfl) (by kernel_rfl) ?_
  refine wl_nil ?_
  refine then_at rfl ?_
  refine wp_seq ?_
  refine wp_seq ?_
  refine wl_region ?_
  refine wl_val (iN .i64 0) (by kernel_rfl) (by kernel_rfl) ?_
  refine wl_nil ?_
  refine then_at rfl ?_
  refine wp_block ?_
  refine wp_count (fun i A w' => ∃ u4 : Nat → Value, A = ⟨(.agg #[iN .i64 rm, .slice pf fs.length cf, .bool false, iN .i64 lf, .slice pz nz cz] :: pt q1 :: iN .i64 0 :: iN .i64 (rm - sumB fs i) :: iN .i64 i :: .pointer (some ⟨q1, 2, none⟩) :: .bool false :: pt q1 :: iN .i64 rm :: u4 9 :: u4 10 :: u4 11 :: u4 12 :: u4 13 :: u4 14 :: u4 15 :: u4 16 :: u4 17 :: u4 18 :: u4 19 :: u4 20 :: u4 21 :: u4 22 :: u4 23 :: u4 24 :: List.replicate 1 un).toArray, []⟩ ∧ HA (bs w) [(q1, 28, #[iN .i64 rm, .slice pf fs.length cf, .bool false, iN .i64 lf, .slice pz nz cz])] w' ∧ True) fs.length ?_ ?_ ?_
  · exact ⟨fun ii => (([(9, undef), (10, undef), (11, undef), (12, undef), (13, undef), (14, undef), (15, undef), (16, undef), (17, undef), (18, undef), (19, undef), (20, undef), (21, undef), (22, undef), (23, undef), (24, undef)] : List (Nat × Value)).find? (·.1 == ii)).elim undef (·.2), by kernel_rfl, h3, trivial⟩
  · rintro i hi _ w5 ⟨u4, rfl, h6, _hp⟩
    refine wp_seq ?_
    refine wp_seq ?_
    refine wl_region ?_
    refine wl_val (iN .i64 i) (by kernel_rfl) (by kernel_rfl) ?_
    refine wl_val (.pointer (some ⟨q1, 1, none⟩)) (by kernel_rfl) (by kernel_rfl) ?_
    refine wl_val (.slice pf fs.length cf) (by kernel_rfl) (run_load1 (fun w => Try.isAgg25 w) (by kernel_rfl) (((h6.get 0 rfl).cell 1).trans rfl)) ?_
    refine wl_val (iN .i64 fs.length) (by kernel_rfl) (by kernel_rfl) ?_
    refine wl_val (.bool true) (by kernel_rfl) (run_lss (k := .i64) (a := i) (b := fs.length) (by kernel_rfl) (by kernel_rfl) true (decide_eq_true (by omega))) ?_
    refine wl_nil ?_
    refine then_at (F := ⟨(.agg #[iN .i64 rm, .slice pf fs.length cf, .bool false, iN .i64 lf, .slice pz nz cz] :: pt q1 :: iN .i64 0 :: iN .i64 (rm - sumB fs i) :: iN .i64 i :: .pointer (some ⟨q1, 2, none⟩) :: .bool false :: pt q1 :: iN .i64 rm :: iN .i64 i :: .pointer (some ⟨q1, 1, none⟩) :: .slice pf fs.length cf :: iN .i64 fs.length :: .bool true :: u4 14 :: u4 15 :: u4 16 :: u4 17 :: u4 18 :: u4 19 :: u4 20 :: u4 21 :: u4 22 :: u4 23 :: u4 24 :: List.replicate 1 un).toArray, []⟩) (by kernel_rfl) ?_
    refine wp_cond_true (by kernel_rfl) ?_
    refine wp_skip ?_
    refine then_at rfl ?_
    refine wp_seq ?_
    refine wp_block ?_
    obtain ⟨f, hf⟩ : ∃ f, fs[i]? = some f := ⟨_, List.getElem?_eq_getElem hi⟩
    obtain ⟨gF, curF, hpF, _, hgF, c0, c1, c2⟩ := hF.at hf
    have hsu := sumB_mono (fs := fs) (i := i + 1) (j := fs.length) hi
    rw [sumB_succ hf] at hsu
    refine wl_region ?_
    refine wl_val (iN .i64 (rm - sumB fs i)) (by kernel_rfl) (by kernel_rfl) ?_
    refine wl_val (.pointer (some ⟨q1, 1, none⟩)) (by kernel_rfl) (by kernel_rfl) ?_
    refine wl_val (.slice pf fs.length cf) (by kernel_rfl) (run_load1 (fun w => Try.isAgg25 w) (by kernel_rfl) (((h6.get 0 rfl).cell 1).trans rfl)) ?_
    refine wl_val (iN .i64 i) (by kernel_rfl) (by kernel_rfl) ?_
    refine wl_val (.pointer (some ⟨gF, 3 * i, none⟩)) (by kernel_rfl) (run_addr75p (q := gF) (n := fs.length) (m := cf) (a := i) hpF (by kernel_rfl) (by kernel_rfl) (List.getElem?_eq_some_iff.1 hf).1) ?_
    refine wl_val (.pointer (some ⟨gF, 3 * i + 1, none⟩)) (by kernel_rfl) (by kernel_rfl) ?_
    refine wl_val (.string f.b) (by kernel_rfl) (run_load1 (fun w => Try.isAgg9 w) (by kernel_rfl) ((((hS.keep h6.old.old) _ hgF).cell (3 * i + 1)).trans c1)) ?_
    refine wl_val (iN .i64 f.b.size) (by kernel_rfl) (run_len (s := f.b) (by kernel_rfl)) ?_
    refine wl_val (iN .i64 ((rm - sumB fs i) - f.b.size)) (by kernel_rfl) (run_sub (k := .i64) (a := rm - sumB fs i) (b := f.b.size) (by kernel_rfl) (by kernel_rfl) (by first | omega | (simp only [top]; omega)) (by first | omega | (simp only [top]; omega))) ?_
    refine wl_val (iN .i64 ((rm - sumB fs i) - f.b.size)) (by kernel_rfl) (by kernel_rfl) ?_
    refine wl_nil ?_
    refine block_normal ?_
    refine then_at rfl ?_
    refine wl_region ?_
    refine wl_val (iN .i64 i) (by kernel_rfl) (by kernel_rfl) ?_
    refine wl_val (iN .i64 (i + 1)) (by kernel_rfl) (run_add (k := .i64) (a := i) (b := 1) (by kernel_rfl) (by kernel_rfl) (by first | omega | (simp only [top]; omega))) ?_
    refine wl_val (iN .i64 (i + 1)) (by kernel_rfl) (by kernel_rfl) ?_
    refine wl_nil ?_
    exact then_I ⟨fun ii => (([(9, iN .i64 i), (10, .pointer (some ⟨q1, 1, none⟩)), (11, .slice pf fs.length cf), (12, iN .i64 fs.length), (13, .bool true), (14, iN .i64 i), (15, iN .i64 (i + 1)), (16, iN .i64 (rm - sumB fs i)), (17, .pointer (some ⟨q1, 1, none⟩)), (18, .slice pf fs.length cf), (19, iN .i64 i), (20, .pointer (some ⟨gF, 3 * i, none⟩)), (21, .pointer (some ⟨gF, 3 * i + 1, none⟩)), (22, .string f.b), (23, iN .i64 f.b.size), (24, iN .i64 ((rm - sumB fs i) - f.b.size))] : List (Nat × Value)).find? (·.1 == ii)).elim undef (·.2), (by rw [sumB_succ hf, ← Nat.sub_sub]; kernel_rfl), h6, trivial⟩
  · rintro _ w7 ⟨u4, rfl, h8, _hp⟩
    refine wp_seq ?_
    refine wp_seq ?_
    refine wl_region ?_
    refine wl_val (iN .i64 fs.length) (by kernel_rfl) (by kernel_rfl) ?_
    refine wl_val (.pointer (some ⟨q1, 1, none⟩)) (by kernel_rfl) (by kernel_rfl) ?_
    refine wl_val (.slice pf fs.length cf) (by kernel_rfl) (run_load1 (fun w => Try.isAgg25 w) (by kernel_rfl) (((h8.get 0 rfl).cell 1).trans rfl)) ?_
    refine wl_val (iN .i64 fs.length) (by kernel_rfl) (by kernel_rfl) ?_
    refine wl_val (.bool false) (by kernel_rfl) (run_lss (k := .i64) (a := fs.length) (b := fs.length) (by kernel_rfl) (by kernel_rfl) false (decide_eq_false (by omega))) ?_
    refine wl_nil ?_
    refine then_at rfl ?_
    refine wp_cond_false (by kernel_rfl) ?_
    refine wp_exit ?_
    repeat first | refine then_exit ?_ | refine block_exit ?_ | refine block_exit_ne (by decide) ?_
    refine then_at rfl ?_
    refine wp_seq ?_
    refine wl_region ?_
    refine wl_val (iN .i64 (rm - sumB fs fs.length)) (by kernel_rfl) (by kernel_rfl) ?_
    refine wl_val (iN .i64 (rm - sumB fs fs.length)) (by kernel_rfl) (by kernel_rfl) ?_
    refine wl_nil ?_
    refine then_at rfl ?_
    refine wp_ret ?_
    repeat first | refine then_ret ?_ | refine block_ret ?_
    exact bodyPost_ret (v := iN .i64 (rm - sumB fs fs.length)) (by kernel_rfl) rfl ⟨rfl, h8.old.old⟩
set_option linter.unusedVariables false in
set_option maxRecDepth 100000 in
set_option maxHeartbeats 2000000 in
theorem rread_d {w : World} {rm lf nz cz cf : Nat} {pf pz : Option Addr} {fs : List RF} {N : BL} (hF : RFL (.slice pf fs.length cf) fs N) (hS : Stand w N) (hfl : fs.length ≤ 100000) (s : ByteArray)  :
    Calls Try.prog 24 #[.agg #[iN .i64 rm, .slice pf fs.length cf, .bool true, iN .i64 lf, .slice pz nz cz], .string s] w fun e w' => e = .returned (.tuple #[.string { data := #[] }, iN .i64 16]) ∧ Below w.heap.size w w' := by
  have H0 := HA.start w
  go_enter Try.func24, Try.ntmps24
  refine wp_seq ?_
  refine wl_region ?_
  refine wl_make (c := #[iN .i64 rm, .slice pf fs.length cf, .bool true, iN .i64 lf, .slice pz nz cz]) H0 28 (by kernel_rfl) (by kernel_rfl) ?_
  intro q1 w2 (h3 : HA (bs w) [(q1, 28, #[iN .i64 rm, .slice pf fs.length cf, .bool true, iN .i64 lf, .slice pz nz cz])] w2)
  refine wl_val (.string ({ data := #[] })) (by kernel_rfl) (by kernel_rfl) ?_
  refine wl_val (iN .i64 0) (by kernel_rfl) (by kernel_rfl) ?_
  refine wl_nil ?_
  refine then_at rfl ?_
  refine wp_seq ?_
  refine wp_seq ?_
  refine wl_region ?_
  refine wl_val (.pointer (some ⟨q1, 2, none⟩)) (by kernel_rfl) (by kernel_rfl) ?_
  refine wl_val (.bool true) (by kernel_rfl) (run_load1 (fun w => Try.isAgg4 w) (by kernel_rfl) (((h3.get 0 rfl).cell 2).trans rfl)) ?_
  refine wl_nil ?_
  refine then_at rfl ?_
  refine wp_cond_true (by kernel_rfl) ?_
  refine wp_seq ?_
  refine wl_region ?_
  refine wl_val (.string ({ data := #[] })) (by kernel_rfl) (by kernel_rfl) ?_
  refine wl_val (iN .i64 16) (by kernel_rfl) (by kernel_rfl) ?_
  refine wl_nil ?_
  refine then_at rfl ?_
  refine wp_ret ?_
  repeat first | refine then_ret ?_ | refine block_ret ?_
  exact bodyPost_ret (v := .tuple #[.string { data := #[] }, iN .i64 16]) (by kernel_rfl) rfl ⟨rfl, h3.old.old⟩
set_option linter.unusedVariables false in
set_option maxRecDepth 100000 in
set_option maxHeartbeats 2000000 in
theorem rread_n {w : World} {rm lf nz cz cf : Nat} {pf pz : Option Addr} {fs : List RF} {N : BL} (hF : RFL (.slice pf fs.length cf) fs N) (hS : Stand w N) (hfl : fs.length ≤ 100000) (s : ByteArray) {i0 : Nat} (hfr : findR fs s = (i0, false)) :
    Calls Try.prog 24 #[.agg #[iN .i64 rm, .slice pf fs.length cf, .bool false, iN .i64 lf, .slice pz nz cz], .string s] w fun e w' => e = .returned (.tuple #[.string { data := #[] }, iN .i64 5]) ∧ Below w.heap.size w w' := by
  have H0 := HA.start w
  go_enter Try.func24, Try.ntmps24
  refine wp_seq ?_
  refine wl_region ?_
  refine wl_make (c := #[iN .i64 rm, .slice pf fs.length cf, .bool false, iN .i64 lf, .slice pz nz cz]) H0 28 (by kernel_rfl) (by kernel_rfl) ?_
  intro q1 w2 (h3 : HA (bs w) [(q1, 28, #[iN .i64 rm, .slice pf fs.length cf, .bool false, iN .i64 lf, .slice pz nz cz])] w2)
  refine wl_val (.string ({ data := #[] })) (by kernel_rfl) (by kernel_rfl) ?_
  refine wl_val (iN .i64 0) (by kernel_rfl) (by kernel_rfl) ?_
  refine wl_nil ?_
  refine then_at rfl ?_
  refine wp_seq ?_
  refine wp_seq ?_
  refine wl_region ?_
  refine wl_val (.pointer (some ⟨q1, 2, none⟩)) (by kernel_rfl) (by kernel_rfl) ?_
  refine wl_val (.bool false) (by kernel_rfl) (run_load1 (fun w => Try.isAgg4 w) (by kernel_rfl) (((h3.get 0 rfl).cell 2).trans rfl)) ?_
  refine wl_nil ?_
  refine then_at rfl ?_
  refine wp_cond_false (by kernel_rfl) ?_
  refine wp_skip ?_
  refine then_at rfl ?_
  refine wp_seq ?_
  refine wl_region ?_
  refine wl_load h3 0 rfl (by kernel_rfl) (by kernel_rfl) Try.underlying28 rfl (by kernel_rfl) ?_
  refine wl_val (.string s) (by kernel_rfl) (by kernel_rfl) ?_
  refine wl_call (v := .tuple #[iN .i64 i0, .bool false]) h3 (by kernel_rfl) enter39 #[.agg (#[iN .i64 rm, .slice pf fs.length cf, .bool false, iN .i64 lf, .slice pz nz cz]), .string s] (by kernel_rfl) (by have hh := rfind_any (lf := lf) (rm := rm) (nz := nz) (cz := cz) (pz := pz) (dn := false) hF (hS.keep h3.old.old) hfl s; rw [hfr] at hh; exact hh) ?_
  intro w4 h5
  refine wl_val (.tuple #[iN .i64 i0, .bool false]) (by kernel_rfl) (by kernel_rfl) ?_
  refine wl_val (iN .i64 i0) (by kernel_rfl) (by kernel_rfl) ?_
  refine wl_val (.bool false) (by kernel_rfl) (by kernel_rfl) ?_
  refine wl_val (iN .i64 i0) (by kernel_rfl) (by kernel_rfl) ?_
  refine wl_val (.bool false) (by kernel_rfl) (by kernel_rfl) ?_
  refine wl_nil ?_
  refine then_at rfl ?_
  refine wp_seq ?_
  refine wp_seq ?_
  refine wl_region ?_
  refine wl_val (.bool false) (by kernel_rfl) (by kernel_rfl) ?_
  refine wl_val (.bool true) (by kernel_rfl) (by kernel_rfl) ?_
  refine wl_nil ?_
  refine then_at rfl ?_
  refine wp_cond_true (by kernel_rfl) ?_
  refine wp_seq ?_
  refine wl_region ?_
  refine wl_val (.string ({ data := #[] })) (by kernel_rfl) (by kernel_rfl) ?_
  refine wl_val (iN .i64 5) (by kernel_rfl) (by kernel_rfl) ?_
  refine wl_nil ?_
  refine then_at (F := ⟨(.agg #[iN .i64 rm, .slice pf fs.length cf, .bool false, iN .i64 lf, .slice pz nz cz] :: .string s :: pt q1 :: un :: .string ({ data := #[] }) :: iN .i64 5 :: iN .i64 i0 :: .bool false :: .pointer (some ⟨q1, 2, none⟩) :: .bool false :: .tuple #[iN .i64 i0, .bool false] :: .agg (#[iN .i64 rm, .slice pf fs.length cf, .bool false, iN .i64 lf, .slice pz nz cz]) :: .string s :: .tuple #[iN .i64 i0, .bool false] :: iN .i64 i0 :: .bool false :: .bool false :: .bool true :: List.replicate 6 un).toArray, []⟩) (by kernel_rfl) ?_
  refine wp_ret ?_
  repeat first | refine then_ret ?_ | refine block_ret ?_
  exact bodyPost_ret (v := .tuple #[.string { data := #[] }, iN .i64 5]) (by kernel_rfl) rfl ⟨rfl, h5.old.old⟩
set_option linter.unusedVariables false in
set_option maxRecDepth 100000 in
set_option maxHeartbeats 2000000 in
theorem rread_y {w : World} {rm lf nz cz cf : Nat} {pf pz : Option Addr} {fs : List RF} {N : BL} (hF : RFL (.slice pf fs.length cf) fs N) (hS : Stand w N) (hfl : fs.length ≤ 100000) (s : ByteArray) {i0 : Nat} {f : RF} (hfr : findR fs s = (i0, true)) (hf0 : fs[i0]? = some f) :
    Calls Try.prog 24 #[.agg #[iN .i64 rm, .slice pf fs.length cf, .bool false, iN .i64 lf, .slice pz nz cz], .string s] w fun e w' => e = .returned (.tuple #[.string f.b, iN .i64 0]) ∧ Below w.heap.size w w' := by
  have hf := hf0
  obtain ⟨gF, curF, hpF, _, hgF, c0, c1, c2⟩ := hF.at hf
  have H0 := HA.start w
  go_enter Try.func24, Try.ntmps24
  refine wp_seq ?_
  refine wl_region ?_
  refine wl_make (c := #[iN .i64 rm, .slice pf fs.length cf, .bool false, iN .i64 lf, .slice pz nz cz]) H0 28 (by kernel_rfl) (by kernel_rfl) ?_
  intro q1 w2 (h3 : HA (bs w) [(q1, 28, #[iN .i64 rm, .slice pf fs.length cf, .bool false, iN .i64 lf, .slice pz nz cz])] w2)
  refine wl_val (.string ({ data := #[] })) (by kernel_rfl) (by kernel_rfl) ?_
  refine wl_val (iN .i64 0) (by kernel_rfl) (by kernel_rfl) ?_
  refine wl_nil ?_
  refine then_at rfl ?_
  refine wp_seq ?_
  refine wp_seq ?_
  refine wl_region ?_
  refine wl_val (.pointer (some ⟨q1, 2, none⟩)) (by kernel_rfl) (by kernel_rfl) ?_
  refine wl_val (.bool false) (by kernel_rfl) (run_load1 (fun w => Try.isAgg4 w) (by kernel_rfl) (((h3.get 0 rfl).cell 2).trans rfl)) ?_
  refine wl_nil ?_
  refine then_at rfl ?_
  refine wp_cond_false (by kernel_rfl) ?_
  refine wp_skip ?_
  refine then_at rfl ?_
  refine wp_seq ?_
  refine wl_region ?_
  refine wl_load h3 0 rfl (by kernel_rfl) (by kernel_rfl) Try.underlying28 rfl (by kernel_rfl) ?_
  refine wl_val (.string s) (by kernel_rfl) (by kernel_rfl) ?_
  refine wl_call (v := .tuple #[iN .i64 i0, .bool true]) h3 (by kernel_rfl) enter39 #[.agg (#[iN .i64 rm, .slice pf fs.length cf, .bool false, iN .i64 lf, .slice pz nz cz]), .string s] (by kernel_rfl) (by have hh := rfind_any (lf := lf) (rm := rm) (nz := nz) (cz := cz) (pz := pz) (dn := false) hF (hS.keep h3.old.old) hfl s; rw [hfr] at hh; exact hh) ?_
  intro w4 h5
  refine wl_val (.tuple #[iN .i64 i0, .bool true]) (by kernel_rfl) (by kernel_rfl) ?_
  refine wl_val (iN .i64 i0) (by kernel_rfl) (by kernel_rfl) ?_
  refine wl_val (.bool true) (by kernel_rfl) (by kernel_rfl) ?_
  refine wl_val (iN .i64 i0) (by kernel_rfl) (by kernel_rfl) ?_
  refine wl_val (.bool true) (by kernel_rfl) (by kernel_rfl) ?_
  refine wl_nil ?_
  refine then_at rfl ?_
  refine wp_seq ?_
  refine wp_seq ?_
  refine wl_region ?_
  refine wl_val (.bool true) (by kernel_rfl) (by kernel_rfl) ?_
  refine wl_val (.bool false) (by kernel_rfl) (by kernel_rfl) ?_
  refine wl_nil ?_
  refine then_at rfl ?_
  refine wp_cond_false (by kernel_rfl) ?_
  refine wp_skip ?_
  refine then_at (F := ⟨(.agg #[iN .i64 rm, .slice pf fs.length cf, .bool false, iN .i64 lf, .slice pz nz cz] :: .string s :: pt q1 :: un :: .string ({ data := #[] }) :: iN .i64 0 :: iN .i64 i0 :: .bool true :: .pointer (some ⟨q1, 2, none⟩) :: .bool false :: .tuple #[iN .i64 i0, .bool true] :: .agg (#[iN .i64 rm, .slice pf fs.length cf, .bool false, iN .i64 lf, .slice pz nz cz]) :: .string s :: .tuple #[iN .i64 i0, .bool true] :: iN .i64 i0 :: .bool true :: .bool true :: .bool false :: List.replicate 6 un).toArray, []⟩) (by kernel_rfl) ?_
  refine wp_seq ?_
  refine wl_region ?_
  refine wl_val (.pointer (some ⟨q1, 1, none⟩)) (by kernel_rfl) (by kernel_rfl) ?_
  refine wl_val (.slice pf fs.length cf) (by kernel_rfl) (run_load1 (fun w => Try.isAgg25 w) (by kernel_rfl) (((h5.get 0 rfl).cell 1).trans rfl)) ?_
  refine wl_val (iN .i64 i0) (by kernel_rfl) (by kernel_rfl) ?_
  refine wl_val (.pointer (some ⟨gF, 3 * i0, none⟩)) (by kernel_rfl) (run_addr75p (q := gF) (n := fs.length) (m := cf) (a := i0) hpF (by kernel_rfl) (by kernel_rfl) (List.getElem?_eq_some_iff.1 hf).1) ?_
  refine wl_val (.pointer (some ⟨gF, 3 * i0 + 1, none⟩)) (by kernel_rfl) (by kernel_rfl) ?_
  refine wl_val (.string f.b) (by kernel_rfl) (run_load1 (fun w => Try.isAgg9 w) (by kernel_rfl) ((((hS.keep h5.old.old) _ hgF).cell (3 * i0 + 1)).trans c1)) ?_
  refine wl_val (.string f.b) (by kernel_rfl) (by kernel_rfl) ?_
  refine wl_val (iN .i64 0) (by kernel_rfl) (by kernel_rfl) ?_
  refine wl_nil ?_
  refine then_at rfl ?_
  refine wp_ret ?_
  repeat first | refine then_ret ?_ | refine block_ret ?_
  exact bodyPost_ret (v := .tuple #[.string f.b, iN .i64 0]) (by kernel_rfl) rfl ⟨rfl, h5.old.old⟩
set_option linter.unusedVariables false in
set_option maxRecDepth 100000 in
set_option maxHeartbeats 2000000 in
theorem rsyn_n {w : World} {rm lf nz cz cf : Nat} {pf pz : Option Addr} {fs : List RF} {N : BL} (hF : RFL (.slice pf fs.length cf) fs N) (hS : Stand w N) (hfl : fs.length ≤ 100000) (s : ByteArray) {i0 : Nat} (hfr : findR fs s = (i0, false)) :
    Calls Try.prog 58 #[.agg #[iN .i64 rm, .slice pf fs.length cf, .bool false, iN .i64 lf, .slice pz nz cz], .string s] w fun e w' => e = .returned (iN .i64 0) ∧ Below w.heap.size w w' := by
  have H0 := HA.start w
  go_enter Try.func58, Try.ntmps58
  refine wp_seq ?_
  refine wl_region ?_
  refine wl_make (c := #[iN .i64 rm, .slice pf fs.length cf, .bool false, iN .i64 lf, .slice pz nz cz]) H0 28 (by kernel_rfl) (by kernel_rfl) ?_
  intro q1 w2 (h3 : HA (bs w) [(q1, 28, #[iN .i64 rm, .slice pf fs.length cf, .bool false, iN .i64 lf, .slice pz nz cz])] w2)
  refine wl_val (iN .i64 0) (by kernel_rfl) (by kernel_rfl) ?_
  refine wl_nil ?_
  refine then_at rfl ?_
  refine wp_seq ?_
  refine wl_region ?_
  refine wl_load h3 0 rfl (by kernel_rfl) (by kernel_rfl) Try.underlying28 rfl (by kernel_rfl) ?_
  refine wl_val (.string s) (by kernel_rfl) (by kernel_rfl) ?_
  refine wl_call (v := .tuple #[iN .i64 i0, .bool false]) h3 (by kernel_rfl) enter39 #[.agg (#[iN .i64 rm, .slice pf fs.length cf, .bool false, iN .i64 lf, .slice pz nz cz]), .string s] (by kernel_rfl) (by have hh := rfind_any (lf := lf) (rm := rm) (nz := nz) (cz := cz) (pz := pz) (dn := false) hF (hS.keep h3.old.old) hfl s; rw [hfr] at hh; exact hh) ?_
  intro w4 h5
  refine wl_val (.tuple #[iN .i64 i0, .bool false]) (by kernel_rfl) (by kernel_rfl) ?_
  refine wl_val (iN .i64 i0) (by kernel_rfl) (by kernel_rfl) ?_
  refine wl_val (.bool false) (by kernel_rfl) (by kernel_rfl) ?_
  refine wl_val (iN .i64 i0) (by kernel_rfl) (by kernel_rfl) ?_
  refine wl_val (.bool false) (by kernel_rfl) (by kernel_rfl) ?_
  refine wl_nil ?_
  refine then_at rfl ?_
  refine wp_seq ?_
  refine wp_seq ?_
  refine wl_region ?_
  refine wl_val (.bool false) (by kernel_rfl) (by kernel_rfl) ?_
  refine wl_val (.bool true) (by kernel_rfl) (by kernel_rfl) ?_
  refine wl_val (.bool true) (by kernel_rfl) (by kernel_rfl) ?_
  refine wl_skip (by kernel_rfl) ?_
  refine wl_skip (by kernel_rfl) ?_
  refine wl_val (.bool true) (by kernel_rfl) (by kernel_rfl) ?_
  refine wl_nil ?_
  refine then_at rfl ?_
  refine wp_cond_true (by kernel_rfl) ?_
  refine wp_seq ?_
  refine wl_region ?_
  refine wl_val (iN .i64 0) (by kernel_rfl) (by kernel_rfl) ?_
  refine wl_nil ?_
  refine then_at rfl ?_
  refine wp_ret ?_
  repeat first | refine then_ret ?_ | refine block_ret ?_
  exact bodyPost_ret (v := iN .i64 0) (by kernel_rfl) rfl ⟨rfl, h5.old.old⟩
set_option linter.unusedVariables false in
set_option maxRecDepth 100000 in
set_option maxHeartbeats 2000000 in
theorem rsyn_nd {w : World} {rm lf nz cz cf : Nat} {pf pz : Option Addr} {fs : List RF} {N : BL} (hF : RFL (.slice pf fs.length cf) fs N) (hS : Stand w N) (hfl : fs.length ≤ 100000) (s : ByteArray) {i0 : Nat} (hfr : findR fs s = (i0, false)) :
    Calls Try.prog 58 #[.agg #[iN .i64 rm, .slice pf fs.length cf, .bool true, iN .i64 lf, .slice pz nz cz], .string s] w fun e w' => e = .returned (iN .i64 0) ∧ Below w.heap.size w w' := by
  have H0 := HA.start w
  go_enter Try.func58, Try.ntmps58
  refine wp_seq ?_
  refine wl_region ?_
  refine wl_make (c := #[iN .i64 rm, .slice pf fs.length cf, .bool true, iN .i64 lf, .slice pz nz cz]) H0 28 (by kernel_rfl) (by kernel_rfl) ?_
  intro q1 w2 (h3 : HA (bs w) [(q1, 28, #[iN .i64 rm, .slice pf fs.length cf, .bool true, iN .i64 lf, .slice pz nz cz])] w2)
  refine wl_val (iN .i64 0) (by kernel_rfl) (by kernel_rfl) ?_
  refine wl_nil ?_
  refine then_at rfl ?_
  refine wp_seq ?_
  refine wl_region ?_
  refine wl_load h3 0 rfl (by kernel_rfl) (by kernel_rfl) Try.underlying28 rfl (by kernel_rfl) ?_
  refine wl_val (.string s) (by kernel_rfl) (by kernel_rfl) ?_
  refine wl_call (v := .tuple #[iN .i64 i0, .bool false]) h3 (by kernel_rfl) enter39 #[.agg (#[iN .i64 rm, .slice pf fs.length cf, .bool true, iN .i64 lf, .slice pz nz cz]), .string s] (by kernel_rfl) (by have hh := rfind_any (lf := lf) (rm := rm) (nz := nz) (cz := cz) (pz := pz) (dn := true) hF (hS.keep h3.old.old) hfl s; rw [hfr] at hh; exact hh) ?_
  intro w4 h5
  refine wl_val (.tuple #[iN .i64 i0, .bool false]) (by kernel_rfl) (by kernel_rfl) ?_
  refine wl_val (iN .i64 i0) (by kernel_rfl) (by kernel_rfl) ?_
  refine wl_val (.bool false) (by kernel_rfl) (by kernel_rfl) ?_
  refine wl_val (iN .i64 i0) (by kernel_rfl) (by kernel_rfl) ?_
  refine wl_val (.bool false) (by kernel_rfl) (by kernel_rfl) ?_
  refine wl_nil ?_
  refine then_at rfl ?_
  refine wp_seq ?_
  refine wp_seq ?_
  refine wl_region ?_
  refine wl_val (.bool false) (by kernel_rfl) (by kernel_rfl) ?_
  refine wl_val (.bool true) (by kernel_rfl) (by kernel_rfl) ?_
  refine wl_val (.bool true) (by kernel_rfl) (by kernel_rfl) ?_
  refine wl_skip (by kernel_rfl) ?_
  refine wl_skip (by kernel_rfl) ?_
  refine wl_val (.bool true) (by kernel_rfl) (by kernel_rfl) ?_
  refine wl_nil ?_
  refine then_at rfl ?_
  refine wp_cond_true (by kernel_rfl) ?_
  refine wp_seq ?_
  refine wl_region ?_
  refine wl_val (iN .i64 0) (by kernel_rfl) (by kernel_rfl) ?_
  refine wl_nil ?_
  refine then_at rfl ?_
  refine wp_ret ?_
  repeat first | refine then_ret ?_ | refine block_ret ?_
  exact bodyPost_ret (v := iN .i64 0) (by kernel_rfl) rfl ⟨rfl, h5.old.old⟩
set_option linter.unusedVariables false in
set_option maxRecDepth 100000 in
set_option maxHeartbeats 2000000 in
theorem rsyn_d {w : World} {rm lf nz cz cf : Nat} {pf pz : Option Addr} {fs : List RF} {N : BL} (hF : RFL (.slice pf fs.length cf) fs N) (hS : Stand w N) (hfl : fs.length ≤ 100000) (s : ByteArray) {i0 : Nat} (hfr : findR fs s = (i0, true)) :
    Calls Try.prog 58 #[.agg #[iN .i64 rm, .slice pf fs.length cf, .bool true, iN .i64 lf, .slice pz nz cz], .string s] w fun e w' => e = .returned (iN .i64 0) ∧ Below w.heap.size w w' := by
  have H0 := HA.start w
  go_enter Try.func58, Try.ntmps58
  refine wp_seq ?_
  refine wl_region ?_
  refine wl_make (c := #[iN .i64 rm, .slice pf fs.length cf, .bool true, iN .i64 lf, .slice pz nz cz]) H0 28 (by kernel_rfl) (by kernel_rfl) ?_
  intro q1 w2 (h3 : HA (bs w) [(q1, 28, #[iN .i64 rm, .slice pf fs.length cf, .bool true, iN .i64 lf, .slice pz nz cz])] w2)
  refine wl_val (iN .i64 0) (by kernel_rfl) (by kernel_rfl) ?_
  refine wl_nil ?_
  refine then_at rfl ?_
  refine wp_seq ?_
  refine wl_region ?_
  refine wl_load h3 0 rfl (by kernel_rfl) (by kernel_rfl) Try.underlying28 rfl (by kernel_rfl) ?_
  refine wl_val (.string s) (by kernel_rfl) (by kernel_rfl) ?_
  refine wl_call (v := .tuple #[iN .i64 i0, .bool true]) h3 (by kernel_rfl) enter39 #[.agg (#[iN .i64 rm, .slice pf fs.length cf, .bool true, iN .i64 lf, .slice pz nz cz]), .string s] (by kernel_rfl) (by have hh := rfind_any (lf := lf) (rm := rm) (nz := nz) (cz := cz) (pz := pz) (dn := true) hF (hS.keep h3.old.old) hfl s; rw [hfr] at hh; exact hh) ?_
  intro w4 h5
  refine wl_val (.tuple #[iN .i64 i0, .bool true]) (by kernel_rfl) (by kernel_rfl) ?_
  refine wl_val (iN .i64 i0) (by kernel_rfl) (by kernel_rfl) ?_
  refine wl_val (.bool true) (by kernel_rfl) (by kernel_rfl) ?_
  refine wl_val (iN .i64 i0) (by kernel_rfl) (by kernel_rfl) ?_
  refine wl_val (.bool true) (by kernel_rfl) (by kernel_rfl) ?_
  refine wl_nil ?_
  refine then_at rfl ?_
  refine wp_seq ?_
  refine wp_seq ?_
  refine wl_region ?_
  refine wl_val (.bool true) (by kernel_rfl) (by kernel_rfl) ?_
  refine wl_val (.bool false) (by kernel_rfl) (by kernel_rfl) ?_
  refine wl_val (.bool false) (by kernel_rfl) (by kernel_rfl) ?_
  refine wl_val (.pointer (some ⟨q1, 2, none⟩)) (by kernel_rfl) (by kernel_rfl) ?_
  refine wl_val (.bool true) (by kernel_rfl) (run_load1 (fun w => Try.isAgg4 w) (by kernel_rfl) (((h5.get 0 rfl).cell 2).trans rfl)) ?_
  refine wl_val (.bool true) (by kernel_rfl) (by kernel_rfl) ?_
  refine wl_nil ?_
  refine then_at rfl ?_
  refine wp_cond_true (by kernel_rfl) ?_
  refine wp_seq ?_
  refine wl_region ?_
  refine wl_val (iN .i64 0) (by kernel_rfl) (by kernel_rfl) ?_
  refine wl_nil ?_
  refine then_at rfl ?_
  refine wp_ret ?_
  repeat first | refine then_ret ?_ | refine block_ret ?_
  exact bodyPost_ret (v := iN .i64 0) (by kernel_rfl) rfl ⟨rfl, h5.old.old⟩
set_option linter.unusedVariables false in
set_option maxRecDepth 100000 in
set_option maxHeartbeats 2000000 in
theorem rsyn_y {w : World} {rm lf nz cz cf : Nat} {pf pz : Option Addr} {fs : List RF} {N : BL} (hF : RFL (.slice pf fs.length cf) fs N) (hS : Stand w N) (hfl : fs.length ≤ 100000) (s : ByteArray) {i0 : Nat} {f : RF} (hfr : findR fs s = (i0, true)) (hf0 : fs[i0]? = some f) :
    Calls Try.prog 58 #[.agg #[iN .i64 rm, .slice pf fs.length cf, .bool false, iN .i64 lf, .slice pz nz cz], .string s] w fun e w' => e = .returned (iN .i64 f.sy) ∧ Below w.heap.size w w' := by
  have hf := hf0
  obtain ⟨gF, curF, hpF, _, hgF, c0, c1, c2⟩ := hF.at hf
  have H0 := HA.start w
  go_enter Try.func58, Try.ntmps58
  refine wp_seq ?_
  refine wl_region ?_
  refine wl_make (c := #[iN .i64 rm, .slice pf fs.length cf, .bool false, iN .i64 lf, .slice pz nz cz]) H0 28 (by kernel_rfl) (by kernel_rfl) ?_
  intro q1 w2 (h3 : HA (bs w) [(q1, 28, #[iN .i64 rm, .slice pf fs.length cf, .bool false, iN .i64 lf, .slice pz nz cz])] w2)
  refine wl_val (iN .i64 0) (by kernel_rfl) (by kernel_rfl) ?_
  refine wl_nil ?_
  refine then_at rfl ?_
  refine wp_seq ?_
  refine wl_region ?_
  refine wl_load h3 0 rfl (by kernel_rfl) (by kernel_rfl) Try.underlying28 rfl (by kernel_rfl) ?_
  refine wl_val (.string s) (by kernel_rfl) (by kernel_rfl) ?_
  refine wl_call (v := .tuple #[iN .i64 i0, .bool true]) h3 (by kernel_rfl) enter39 #[.agg (#[iN .i64 rm, .slice pf fs.length cf, .bool false, iN .i64 lf, .slice pz nz cz]), .string s] (by kernel_rfl) (by have hh := rfind_any (lf := lf) (rm := rm) (nz := nz) (cz := cz) (pz := pz) (dn := false) hF (hS.keep h3.old.old) hfl s; rw [hfr] at hh; exact hh) ?_
  intro w4 h5
  refine wl_val (.tuple #[iN .i64 i0, .bool true]) (by kernel_rfl) (by kernel_rfl) ?_
  refine wl_val (iN .i64 i0) (by kernel_rfl) (by kernel_rfl) ?_
  refine wl_val (.bool true) (by kernel_rfl) (by kernel_rfl) ?_
  refine wl_val (iN .i64 i0) (by kernel_rfl) (by kernel_rfl) ?_
  refine wl_val (.bool true) (by kernel_rfl) (by kernel_rfl) ?_
  refine wl_nil ?_
  refine then_at rfl ?_
  refine wp_seq ?_
  refine wp_seq ?_
  refine wl_region ?_
  refine wl_val (.bool true) (by kernel_rfl) (by kernel_rfl) ?_
  refine wl_val (.bool false) (by kernel_rfl) (by kernel_rfl) ?_
  refine wl_val (.bool false) (by kernel_rfl) (by kernel_rfl) ?_
  refine wl_val (.pointer (some ⟨q1, 2, none⟩)) (by kernel_rfl) (by kernel_rfl) ?_
  refine wl_val (.bool false) (by kernel_rfl) (run_load1 (fun w => Try.isAgg4 w) (by kernel_rfl) (((h5.get 0 rfl).cell 2).trans rfl)) ?_
  refine wl_val (.bool false) (by kernel_rfl) (by kernel_rfl) ?_
  refine wl_nil ?_
  refine then_at rfl ?_
  refine wp_cond_false (by kernel_rfl) ?_
  refine wp_skip ?_
  refine then_at rfl ?_
  refine wp_seq ?_
  refine wl_region ?_
  refine wl_val (.pointer (some ⟨q1, 1, none⟩)) (by kernel_rfl) (by kernel_rfl) ?_
  refine wl_val (.slice pf fs.length cf) (by kernel_rfl) (run_load1 (fun w => Try.isAgg25 w) (by kernel_rfl) (((h5.get 0 rfl).cell 1).trans rfl)) ?_
  refine wl_val (iN .i64 i0) (by kernel_rfl) (by kernel_rfl) ?_
  refine wl_val (.pointer (some ⟨gF, 3 * i0, none⟩)) (by kernel_rfl) (run_addr75p (q := gF) (n := fs.length) (m := cf) (a := i0) hpF (by kernel_rfl) (by kernel_rfl) (List.getElem?_eq_some_iff.1 hf).1) ?_
  refine wl_val (.pointer (some ⟨gF, 3 * i0 + 2, none⟩)) (by kernel_rfl) (by kernel_rfl) ?_
  refine wl_val (iN .i64 f.sy) (by kernel_rfl) (run_load1 (fun w => Try.isAgg3 w) (by kernel_rfl) ((((hS.keep h5.old.old) _ hgF).cell (3 * i0 + 2)).trans c2)) ?_
  refine wl_val (iN .i64 f.sy) (by kernel_rfl) (by kernel_rfl) ?_
  refine wl_nil ?_
  refine then_at rfl ?_
  refine wp_ret ?_
  repeat first | refine then_ret ?_ | refine block_ret ?_
  exact bodyPost_ret (v := iN .i64 f.sy) (by kernel_rfl) rfl ⟨rfl, h5.old.old⟩
end Go.Proofs.Ytjedhnjjgmbcbaa
