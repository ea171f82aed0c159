/-
  The reference's find, Free, Read, Synced.
-/
import Derived.Test.YtjedhnjjgmbcbaaR1
namespace Go.Proofs.Ytjedhnjjgmbcbaa
open Go.RowKit

def geN (a b : ByteArray) : Bool := !Op.bytesLess a.toList b.toList
section
variable {ρ : Operand → Value} {x y : Operand} {w : World} {dst : Option Tmp} {T T2 ty : TypeId} {pos : String} {aft : Array Edge} {gd : Option (Nat × Bool)}
theorem run_ges {s t : ByteArray} (hx : ρ x = .string s) (hy : ρ y = .string t) (r : Bool) (hr : geN s t = r) : (execOp ρ ⟨dst, .binOp .geq T x y T2, ty, pos, aft, gd⟩).run Try.prog w = .ok (.value (.bool r)) w := by
  subst hr
  simp only [execOp, hx, hy]
  simp [binOp, go_sem, Op.stringOp, geN]
theorem run_addr75p {p : Option Addr} {q n m a : Nat} (hp : p = some ⟨q, 0, none⟩) (hx : ρ x = .slice p n m) (hy : ρ y = iN .i64 a) (ha : a < n) : (execOp ρ ⟨dst, .indexAddr 25 x y, ty, pos, aft, gd⟩).run Try.prog w = .ok (.value (.pointer (some ⟨q, 3 * a, none⟩))) w := by
  subst hp
  exact run_addr75 hx hy ha
end
def findR : List RF → ByteArray → Nat × Bool
  | [], _ => (0, false)
  | f :: fs, s => if geN f.nm s = true then (0, decide (f.nm = s)) else ((findR fs s).1 + 1, (findR fs s).2)
theorem findR_at {s : ByteArray} {f : RF} : ∀ {fs : List RF} {i : Nat}, (∀ (j : Nat) g, j < i → fs[j]? = some g → geN g.nm s = false) → fs[i]? = some f → geN f.nm s = true → findR fs s = (i, decide (f.nm = s))
  | [], _, _, h, _ => by simp at h
  | g :: fs, 0, _, h, hg => by
    have : g = f := by simpa using h
    subst this
    rw [findR, if_pos hg]
  | g :: fs, i + 1, hp, h, hg => by
    have h0 := hp 0 g (by omega) rfl
    have ih := findR_at (fs := fs) (i := i) (fun j g' hj hg' => hp (j + 1) g' (by omega) (by simpa using hg')) (by simpa using h) hg
    rw [findR, if_neg (by rw [h0]; decide), ih]
theorem findR_end {s : ByteArray} : ∀ {fs : List RF}, (∀ (j : Nat) g, j < fs.length → fs[j]? = some g → geN g.nm s = false) → findR fs s = (fs.length, false)
  | [], _ => rfl
  | g :: fs, hp => by
    have h0 := hp 0 g (by simp) rfl
    have ih := findR_end (fs := fs) (fun j g' hj hg' => hp (j + 1) g' (by simpa using hj) (by simpa using hg'))
    rw [findR, if_neg (by rw [h0]; decide), ih]; rfl
theorem pre_nextF {s : ByteArray} {fs : List RF} {i : Nat} {f : RF} (h : ∀ (j : Nat) g, j < i → fs[j]? = some g → geN g.nm s = false) (hf : fs[i]? = some f) (h1 : geN f.nm s = false) : ∀ (j : Nat) g, j < i + 1 → fs[j]? = some g → geN g.nm s = false := fun j g hj hg => by
  rcases Nat.lt_succ_iff_lt_or_eq.1 hj with h2 | h2
  · exact h j g h2 hg
  · subst h2; rw [hf] at hg; cases hg; exact h1
set_option linter.unusedVariables false in
set_option maxRecDepth 100000 in
set_option maxHeartbeats 2000000 in
theorem rfind_any {w : World} {rm lf nz cz cf : Nat} {pf pz : Option Addr} {fs : List RF} {N : BL} (hF : RFL (.slice pf fs.length cf) fs N) (hS : Stand w N) (hfl : fs.length ≤ 100000) {dn : Bool} (s : ByteArray) :
    Calls Try.prog 39 #[.agg #[iN .i64 rm, .slice pf fs.length cf, .bool dn, iN .i64 lf, .slice pz nz cz], .string s] w fun e w' => e = .returned (.tuple #[iN .i64 (findR fs s).1, .bool (findR fs s).2]) ∧ Below w.heap.size w w' := by
  have H0 := HA.start w
  go_enter Try.func39, Try.ntmps39
  refine wp_seq ?_
  refine wl_region ?_
  refine wl_make (c := #[iN .i64 rm, .slice pf fs.length cf, .bool dn, iN .i64 lf, .slice pz nz cz]) H0 28 (by kernel_rfl) (by kernel_rfl) ?_
  intro q1 w2 (h3 : HA (bs w) [(q1, 28, #[iN .i64 rm, .slice pf fs.length cf, .bool dn, iN .i64 lf, .slice pz nz cz])] w2)
  refine wl_val (iN .i64 0) (by kernel_rfl) (by kernel_rfl) ?_
  refine wl_val (.bool false) (by kernel_rfl) (by kernel_rfl) ?_
  refine wl_nil ?_
  refine then_at (F := ⟨(.agg #[iN .i64 rm, .slice pf fs.length cf, .bool dn, iN .i64 lf, .slice pz nz cz] :: .string s :: pt q1 :: un :: iN .i64 0 :: .bool false :: List.replicate 28 un).toArray, []⟩) (by kernel_rfl) ?_
  refine wp_seq ?_
  refine wp_seq ?_
  refine wl_region ?_
  refine wl_val (iN .i64 0) (by kernel_rfl) (by kernel_rfl) ?_
  refine wl_nil ?_
  refine then_at (F := ⟨(.agg #[iN .i64 rm, .slice pf fs.length cf, .bool dn, iN .i64 lf, .slice pz nz cz] :: .string s :: pt q1 :: un :: iN .i64 0 :: .bool false :: iN .i64 0 :: List.replicate 27 un).toArray, []⟩) (by kernel_rfl) ?_
  refine wp_block ?_
  refine wp_count (fun i A w' => ∃ u4 : Nat → Value, A = ⟨(.agg #[iN .i64 rm, .slice pf fs.length cf, .bool dn, iN .i64 lf, .slice pz nz cz] :: .string s :: pt q1 :: un :: u4 4 :: u4 5 :: iN .i64 i :: u4 7 :: u4 8 :: u4 9 :: u4 10 :: u4 11 :: u4 12 :: u4 13 :: u4 14 :: u4 15 :: u4 16 :: u4 17 :: u4 18 :: u4 19 :: u4 20 :: u4 21 :: u4 22 :: u4 23 :: u4 24 :: u4 25 :: u4 26 :: u4 27 :: u4 28 :: u4 29 :: u4 30 :: List.replicate 3 un).toArray, []⟩ ∧ HA (bs w) [(q1, 28, #[iN .i64 rm, .slice pf fs.length cf, .bool dn, iN .i64 lf, .slice pz nz cz])] w' ∧ (∀ (j : Nat) g, j < i → fs[j]? = some g → geN g.nm s = false)) fs.length ?_ ?_ ?_
  · exact ⟨fun ii => (([(4, iN .i64 0), (5, .bool false), (7, undef), (8, undef), (9, undef), (10, undef), (11, undef), (12, undef), (13, undef), (14, undef), (15, undef), (16, undef), (17, undef), (18, undef), (19, undef), (20, undef), (21, undef), (22, undef), (23, undef), (24, undef), (25, undef), (26, undef), (27, undef), (28, undef), (29, undef), (30, undef)] : List (Nat × Value)).find? (·.1 == ii)).elim undef (·.2), by kernel_rfl, h3, (fun j g hj => absurd hj (Nat.not_lt_zero j))⟩
  · rintro i hi _ w5 ⟨u4, rfl, h6, hpre⟩
    refine wp_seq ?_
    refine wp_seq ?_
    refine wl_region ?_
    refine wl_val (iN .i64 i) (by kernel_rfl) (by kernel_rfl) ?_
    refine wl_val (.pointer (some ⟨q1, 1, none⟩)) (by kernel_rfl) (by kernel_rfl) ?_
    refine wl_val (.slice pf fs.length cf) (by kernel_rfl) (run_load1 (fun w => Try.isAgg25 w) (by kernel_rfl) (((h6.get 0 rfl).cell 1).trans rfl)) ?_
    refine wl_val (iN .i64 fs.length) (by kernel_rfl) (by kernel_rfl) ?_
    refine wl_val (.bool true) (by kernel_rfl) (run_lss (k := .i64) (a := i) (b := fs.length) (by kernel_rfl) (by kernel_rfl) true (decide_eq_true (by omega))) ?_
    refine wl_nil ?_
    refine then_at (F := ⟨(.agg #[iN .i64 rm, .slice pf fs.length cf, .bool dn, iN .i64 lf, .slice pz nz cz] :: .string s :: pt q1 :: un :: u4 4 :: u4 5 :: iN .i64 i :: iN .i64 i :: .pointer (some ⟨q1, 1, none⟩) :: .slice pf fs.length cf :: iN .i64 fs.length :: .bool true :: u4 12 :: u4 13 :: u4 14 :: u4 15 :: u4 16 :: u4 17 :: u4 18 :: u4 19 :: u4 20 :: u4 21 :: u4 22 :: u4 23 :: u4 24 :: u4 25 :: u4 26 :: u4 27 :: u4 28 :: u4 29 :: u4 30 :: List.replicate 3 un).toArray, []⟩) (by kernel_rfl) ?_
    refine wp_cond_true (by kernel_rfl) ?_
    refine wp_skip ?_
    refine then_at (F := ⟨(.agg #[iN .i64 rm, .slice pf fs.length cf, .bool dn, iN .i64 lf, .slice pz nz cz] :: .string s :: pt q1 :: un :: u4 4 :: u4 5 :: iN .i64 i :: iN .i64 i :: .pointer (some ⟨q1, 1, none⟩) :: .slice pf fs.length cf :: iN .i64 fs.length :: .bool true :: u4 12 :: u4 13 :: u4 14 :: u4 15 :: u4 16 :: u4 17 :: u4 18 :: u4 19 :: u4 20 :: u4 21 :: u4 22 :: u4 23 :: u4 24 :: u4 25 :: u4 26 :: u4 27 :: u4 28 :: u4 29 :: u4 30 :: List.replicate 3 un).toArray, []⟩) (by kernel_rfl) ?_
    refine wp_seq ?_
    refine wp_block ?_
    refine wp_seq ?_
    obtain ⟨f, hf⟩ : ∃ f, fs[i]? = some f := ⟨_, List.getElem?_eq_getElem hi⟩
    obtain ⟨gF, curF, hpF, _, hgF, c0, c1, c2⟩ := hF.at hf
    rcases hge : geN f.nm s with _ | _
    · refine wl_region ?_
      refine wl_val (.pointer (some ⟨q1, 1, none⟩)) (by kernel_rfl) (by kernel_rfl) ?_
      refine wl_val (.slice pf fs.length cf) (by kernel_rfl) (run_load1 (fun w => Try.isAgg25 w) (by kernel_rfl) (((h6.get 0 rfl).cell 1).trans rfl)) ?_
      refine wl_val (iN .i64 i) (by kernel_rfl) (by kernel_rfl) ?_
      refine wl_val (.pointer (some ⟨gF, 3 * i, none⟩)) (by kernel_rfl) (run_addr75p (q := gF) (n := fs.length) (m := cf) (a := i) hpF (by kernel_rfl) (by kernel_rfl) (List.getElem?_eq_some_iff.1 hf).1) ?_
      refine wl_val (.pointer (some ⟨gF, 3 * i, none⟩)) (by kernel_rfl) (by kernel_rfl) ?_
      refine wl_val (.string f.nm) (by kernel_rfl) (run_load1 (fun w => Try.isAgg9 w) (by kernel_rfl) ((((hS.keep h6.old.old) _ hgF).cell (3 * i)).trans c0)) ?_
      refine wl_val (.string s) (by kernel_rfl) (by kernel_rfl) ?_
      refine wl_val (.bool false) (by kernel_rfl) (run_ges (s := f.nm) (t := s) (by kernel_rfl) (by kernel_rfl) false hge) ?_
      refine wl_nil ?_
      refine then_at (F := ⟨(.agg #[iN .i64 rm, .slice pf fs.length cf, .bool dn, iN .i64 lf, .slice pz nz cz] :: .string s :: pt q1 :: un :: u4 4 :: u4 5 :: iN .i64 i :: iN .i64 i :: .pointer (some ⟨q1, 1, none⟩) :: .slice pf fs.length cf :: iN .i64 fs.length :: .bool true :: u4 12 :: u4 13 :: .pointer (some ⟨q1, 1, none⟩) :: .slice pf fs.length cf :: iN .i64 i :: .pointer (some ⟨gF, 3 * i, none⟩) :: .pointer (some ⟨gF, 3 * i, none⟩) :: .string f.nm :: .string s :: .bool false :: u4 22 :: u4 23 :: u4 24 :: u4 25 :: u4 26 :: u4 27 :: u4 28 :: u4 29 :: u4 30 :: List.replicate 3 un).toArray, []⟩) (by kernel_rfl) ?_
      refine wp_cond_false (by kernel_rfl) ?_
      refine wp_skip ?_
      refine block_normal ?_
      refine then_at (F := ⟨(.agg #[iN .i64 rm, .slice pf fs.length cf, .bool dn, iN .i64 lf, .slice pz nz cz] :: .string s :: pt q1 :: un :: u4 4 :: u4 5 :: iN .i64 i :: iN .i64 i :: .pointer (some ⟨q1, 1, none⟩) :: .slice pf fs.length cf :: iN .i64 fs.length :: .bool true :: u4 12 :: u4 13 :: .pointer (some ⟨q1, 1, none⟩) :: .slice pf fs.length cf :: iN .i64 i :: .pointer (some ⟨gF, 3 * i, none⟩) :: .pointer (some ⟨gF, 3 * i, none⟩) :: .string f.nm :: .string s :: .bool false :: u4 22 :: u4 23 :: u4 24 :: u4 25 :: u4 26 :: u4 27 :: u4 28 :: u4 29 :: u4 30 :: List.replicate 3 un).toArray, []⟩) (by kernel_rfl) ?_
      refine wl_region ?_
      refine wl_val (iN .i64 i) (by kernel_rfl) (by kernel_rfl) ?_
      refine wl_val (iN .i64 (i + 1)) (by kernel_rfl) (run_add (k := .i64) (a := i) (b := 1) (by kernel_rfl) (by kernel_rfl) (by first | omega | (simp only [top]; omega))) ?_
      refine wl_val (iN .i64 (i + 1)) (by kernel_rfl) (by kernel_rfl) ?_
      refine wl_nil ?_
      exact then_I ⟨fun ii => (([(4, u4 4), (5, u4 5), (7, iN .i64 i), (8, .pointer (some ⟨q1, 1, none⟩)), (9, .slice pf fs.length cf), (10, iN .i64 fs.length), (11, .bool true), (12, iN .i64 i), (13, iN .i64 (i + 1)), (14, .pointer (some ⟨q1, 1, none⟩)), (15, .slice pf fs.length cf), (16, iN .i64 i), (17, .pointer (some ⟨gF, 3 * i, none⟩)), (18, .pointer (some ⟨gF, 3 * i, none⟩)), (19, .string f.nm), (20, .string s), (21, .bool false), (22, u4 22), (23, u4 23), (24, u4 24), (25, u4 25), (26, u4 26), (27, u4 27), (28, u4 28), (29, u4 29), (30, u4 30)] : List (Nat × Value)).find? (·.1 == ii)).elim undef (·.2), by kernel_rfl, h6, (pre_nextF hpre hf hge)⟩
    · refine wl_region ?_
      refine wl_val (.pointer (some ⟨q1, 1, none⟩)) (by kernel_rfl) (by kernel_rfl) ?_
      refine wl_val (.slice pf fs.length cf) (by kernel_rfl) (run_load1 (fun w => Try.isAgg25 w) (by kernel_rfl) (((h6.get 0 rfl).cell 1).trans rfl)) ?_
      refine wl_val (iN .i64 i) (by kernel_rfl) (by kernel_rfl) ?_
      refine wl_val (.pointer (some ⟨gF, 3 * i, none⟩)) (by kernel_rfl) (run_addr75p (q := gF) (n := fs.length) (m := cf) (a := i) hpF (by kernel_rfl) (by kernel_rfl) (List.getElem?_eq_some_iff.1 hf).1) ?_
      refine wl_val (.pointer (some ⟨gF, 3 * i, none⟩)) (by kernel_rfl) (by kernel_rfl) ?_
      refine wl_val (.string f.nm) (by kernel_rfl) (run_load1 (fun w => Try.isAgg9 w) (by kernel_rfl) ((((hS.keep h6.old.old) _ hgF).cell (3 * i)).trans c0)) ?_
      refine wl_val (.string s) (by kernel_rfl) (by kernel_rfl) ?_
      refine wl_val (.bool true) (by kernel_rfl) (run_ges (s := f.nm) (t := s) (by kernel_rfl) (by kernel_rfl) true hge) ?_
      refine wl_nil ?_
      refine then_at (F := ⟨(.agg #[iN .i64 rm, .slice pf fs.length cf, .bool dn, iN .i64 lf, .slice pz nz cz] :: .string s :: pt q1 :: un :: u4 4 :: u4 5 :: iN .i64 i :: iN .i64 i :: .pointer (some ⟨q1, 1, none⟩) :: .slice pf fs.length cf :: iN .i64 fs.length :: .bool true :: u4 12 :: u4 13 :: .pointer (some ⟨q1, 1, none⟩) :: .slice pf fs.length cf :: iN .i64 i :: .pointer (some ⟨gF, 3 * i, none⟩) :: .pointer (some ⟨gF, 3 * i, none⟩) :: .string f.nm :: .string s :: .bool true :: u4 22 :: u4 23 :: u4 24 :: u4 25 :: u4 26 :: u4 27 :: u4 28 :: u4 29 :: u4 30 :: List.replicate 3 un).toArray, []⟩) (by kernel_rfl) ?_
      refine wp_cond_true (by kernel_rfl) ?_
      refine wp_seq ?_
      refine wp_region_wx (HA (bs w) [(q1, 28, #[iN .i64 rm, .slice pf fs.length cf, .bool dn, iN .i64 lf, .slice pz nz cz])]) (fun AQ w' => AQ = ⟨(.agg #[iN .i64 rm, .slice pf fs.length cf, .bool dn, iN .i64 lf, .slice pz nz cz] :: .string s :: pt q1 :: un :: iN .i64 i :: .bool (decide (f.nm = s)) :: iN .i64 i :: iN .i64 i :: .pointer (some ⟨q1, 1, none⟩) :: .slice pf fs.length cf :: iN .i64 fs.length :: .bool true :: u4 12 :: u4 13 :: .pointer (some ⟨q1, 1, none⟩) :: .slice pf fs.length cf :: iN .i64 i :: .pointer (some ⟨gF, 3 * i, none⟩) :: .pointer (some ⟨gF, 3 * i, none⟩) :: .string f.nm :: .string s :: .bool true :: iN .i64 i :: .pointer (some ⟨q1, 1, none⟩) :: .slice pf fs.length cf :: iN .i64 i :: .pointer (some ⟨gF, 3 * i, none⟩) :: .pointer (some ⟨gF, 3 * i, none⟩) :: .string f.nm :: .string s :: .bool (decide (f.nm = s)) :: List.replicate 3 un).toArray, []⟩ ∧ HA (bs w) [(q1, 28, #[iN .i64 rm, .slice pf fs.length cf, .bool dn, iN .i64 lf, .slice pz nz cz])] w') 11 (by kernel_rfl) (by kernel_rfl) (by kernel_rfl) (by kernel_rfl) (by kernel_rfl) (h6.drew.sub (List.Sublist.cons_cons _ (List.Sublist.refl _))) ?_ ?_
      · have h7 := h6.drew
        refine wx_pure (i := 0) (iN .i64 i) rfl rfl (by kernel_rfl) (by kernel_rfl) (fun _ => (by kernel_rfl)) ?_
        refine wx_pure (i := 1) (.pointer (some ⟨q1, 1, none⟩)) rfl rfl (by kernel_rfl) (by kernel_rfl) (fun _ => (by kernel_rfl)) ?_
        refine wx_val (i := 2) (.slice pf fs.length cf) rfl rfl (by kernel_rfl) (by kernel_rfl) (fun w' h' => run_load1 (fun w => Try.isAgg25 w) (by kernel_rfl) (((h'.get 0 rfl).cell 1).trans rfl)) ?_
        refine wx_pure (i := 3) (iN .i64 i) rfl rfl (by kernel_rfl) (by kernel_rfl) (fun _ => (by kernel_rfl)) ?_
        refine wx_pure (i := 4) (.pointer (some ⟨gF, 3 * i, none⟩)) rfl rfl (by kernel_rfl) (by kernel_rfl) (fun _ => (run_addr75p (q := gF) (n := fs.length) (m := cf) (a := i) hpF (by kernel_rfl) (by kernel_rfl) (List.getElem?_eq_some_iff.1 hf).1)) ?_
        refine wx_pure (i := 5) (.pointer (some ⟨gF, 3 * i, none⟩)) rfl rfl (by kernel_rfl) (by kernel_rfl) (fun _ => (by kernel_rfl)) ?_
        refine wx_val (i := 6) (.string f.nm) rfl rfl (by kernel_rfl) (by kernel_rfl) (fun w' h' => run_load1 (fun w => Try.isAgg9 w) (by kernel_rfl) ((((hS.keep h'.old.old) _ hgF).cell (3 * i)).trans c0)) ?_
        refine wx_pure (i := 7) (.string s) rfl rfl (by kernel_rfl) (by kernel_rfl) (fun _ => (by kernel_rfl)) ?_
        refine wx_pure (i := 8) (.bool (decide (f.nm = s))) rfl rfl (by kernel_rfl) (by kernel_rfl) (fun _ => (run_eqs (s := f.nm) (t := s) (by kernel_rfl) (by kernel_rfl) _ rfl)) ?_
        refine wx_pure (i := 9) (iN .i64 i) rfl rfl (by kernel_rfl) (by kernel_rfl) (fun _ => (by kernel_rfl)) ?_
        refine wx_pure (i := 10) (.bool (decide (f.nm = s))) rfl rfl (by kernel_rfl) (by kernel_rfl) (fun _ => (by kernel_rfl)) ?_
        refine wx_end fun w8 hbx _ => ?_
        have h9 := HA.keep _ _ h7 hbx
        exact ⟨by kernel_rfl, h9⟩
      · rintro _ w10 ⟨rfl, h11⟩
        refine then_at (F := ⟨(.agg #[iN .i64 rm, .slice pf fs.length cf, .bool dn, iN .i64 lf, .slice pz nz cz] :: .string s :: pt q1 :: un :: iN .i64 i :: .bool (decide (f.nm = s)) :: iN .i64 i :: iN .i64 i :: .pointer (some ⟨q1, 1, none⟩) :: .slice pf fs.length cf :: iN .i64 fs.length :: .bool true :: u4 12 :: u4 13 :: .pointer (some ⟨q1, 1, none⟩) :: .slice pf fs.length cf :: iN .i64 i :: .pointer (some ⟨gF, 3 * i, none⟩) :: .pointer (some ⟨gF, 3 * i, none⟩) :: .string f.nm :: .string s :: .bool true :: iN .i64 i :: .pointer (some ⟨q1, 1, none⟩) :: .slice pf fs.length cf :: iN .i64 i :: .pointer (some ⟨gF, 3 * i, none⟩) :: .pointer (some ⟨gF, 3 * i, none⟩) :: .string f.nm :: .string s :: .bool (decide (f.nm = s)) :: List.replicate 3 un).toArray, []⟩) (by kernel_rfl) ?_
        refine wp_ret ?_
        repeat first | refine then_ret ?_ | refine block_ret ?_
        exact bodyPost_ret (v := .tuple #[iN .i64 i, .bool (decide (f.nm = s))]) (by kernel_rfl) rfl ⟨by rw [findR_at hpre hf hge], h11.old.old⟩
  · rintro _ w12 ⟨u4, rfl, h13, hpre⟩
    refine wp_seq ?_
    refine wp_seq ?_
    refine wl_region ?_
    refine wl_val (iN .i64 fs.length) (by kernel_rfl) (by kernel_rfl) ?_
    refine wl_val (.pointer (some ⟨q1, 1, none⟩)) (by kernel_rfl) (by kernel_rfl) ?_
    refine wl_val (.slice pf fs.length cf) (by kernel_rfl) (run_load1 (fun w => Try.isAgg25 w) (by kernel_rfl) (((h13.get 0 rfl).cell 1).trans rfl)) ?_
    refine wl_val (iN .i64 fs.length) (by kernel_rfl) (by kernel_rfl) ?_
    refine wl_val (.bool false) (by kernel_rfl) (run_lss (k := .i64) (a := fs.length) (b := fs.length) (by kernel_rfl) (by kernel_rfl) false (decide_eq_false (by omega))) ?_
    refine wl_nil ?_
    refine then_at (F := ⟨(.agg #[iN .i64 rm, .slice pf fs.length cf, .bool dn, iN .i64 lf, .slice pz nz cz] :: .string s :: pt q1 :: un :: u4 4 :: u4 5 :: iN .i64 fs.length :: iN .i64 fs.length :: .pointer (some ⟨q1, 1, none⟩) :: .slice pf fs.length cf :: iN .i64 fs.length :: .bool false :: u4 12 :: u4 13 :: u4 14 :: u4 15 :: u4 16 :: u4 17 :: u4 18 :: u4 19 :: u4 20 :: u4 21 :: u4 22 :: u4 23 :: u4 24 :: u4 25 :: u4 26 :: u4 27 :: u4 28 :: u4 29 :: u4 30 :: List.replicate 3 un).toArray, []⟩) (by kernel_rfl) ?_
    refine wp_cond_false (by kernel_rfl) ?_
    refine wp_exit ?_
    repeat first | refine then_exit ?_ | refine block_exit ?_ | refine block_exit_ne (by decide) ?_
    refine then_at (F := ⟨(.agg #[iN .i64 rm, .slice pf fs.length cf, .bool dn, iN .i64 lf, .slice pz nz cz] :: .string s :: pt q1 :: un :: u4 4 :: u4 5 :: iN .i64 fs.length :: iN .i64 fs.length :: .pointer (some ⟨q1, 1, none⟩) :: .slice pf fs.length cf :: iN .i64 fs.length :: .bool false :: u4 12 :: u4 13 :: u4 14 :: u4 15 :: u4 16 :: u4 17 :: u4 18 :: u4 19 :: u4 20 :: u4 21 :: u4 22 :: u4 23 :: u4 24 :: u4 25 :: u4 26 :: u4 27 :: u4 28 :: u4 29 :: u4 30 :: List.replicate 3 un).toArray, []⟩) (by kernel_rfl) ?_
    refine wp_seq ?_
    refine wl_region ?_
    refine wl_val (.pointer (some ⟨q1, 1, none⟩)) (by kernel_rfl) (by kernel_rfl) ?_
    refine wl_val (.slice pf fs.length cf) (by kernel_rfl) (run_load1 (fun w => Try.isAgg25 w) (by kernel_rfl) (((h13.get 0 rfl).cell 1).trans rfl)) ?_
    refine wl_val (iN .i64 fs.length) (by kernel_rfl) (by kernel_rfl) ?_
    refine wl_val (iN .i64 fs.length) (by kernel_rfl) (by kernel_rfl) ?_
    refine wl_val (.bool false) (by kernel_rfl) (by kernel_rfl) ?_
    refine wl_nil ?_
    refine then_at (F := ⟨(.agg #[iN .i64 rm, .slice pf fs.length cf, .bool dn, iN .i64 lf, .slice pz nz cz] :: .string s :: pt q1 :: un :: iN .i64 fs.length :: .bool false :: iN .i64 fs.length :: iN .i64 fs.length :: .pointer (some ⟨q1, 1, none⟩) :: .slice pf fs.length cf :: iN .i64 fs.length :: .bool false :: u4 12 :: u4 13 :: u4 14 :: u4 15 :: u4 16 :: u4 17 :: u4 18 :: u4 19 :: u4 20 :: u4 21 :: u4 22 :: u4 23 :: u4 24 :: u4 25 :: u4 26 :: u4 27 :: u4 28 :: u4 29 :: u4 30 :: .pointer (some ⟨q1, 1, none⟩) :: .slice pf fs.length cf :: iN .i64 fs.length :: List.replicate 0 un).toArray, []⟩) (by kernel_rfl) ?_
    refine wp_ret ?_
    repeat first | refine then_ret ?_ | refine block_ret ?_
    exact bodyPost_ret (v := .tuple #[iN .i64 fs.length, .bool false]) (by kernel_rfl) rfl ⟨by rw [findR_end hpre], h13.old.old⟩
end Go.Proofs.Ytjedhnjjgmbcbaa
