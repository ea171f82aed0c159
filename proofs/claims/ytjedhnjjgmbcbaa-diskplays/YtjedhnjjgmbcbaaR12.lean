/-
  The reference's Wake.
-/
import Derived.Test.YtjedhnjjgmbcbaaR11
namespace Go.Proofs.Ytjedhnjjgmbcbaa
open Go.RowKit

section
variable {ρ : Operand → Value} {x y : Operand} {w : World} {dst : Option Tmp} {T T2 ty : TypeId} {pos : String} {aft : Array Edge} {gd : Option (Nat × Bool)} {P : Program}
theorem tm_lo (z : Int) (u : Nat) : -((u : Int) + 1) < z.tmod ((u : Int) + 1) := by
  have := Int.tmod_lt_of_pos (-z) (show (0 : Int) < (u : Int) + 1 by omega)
  rw [Int.neg_tmod] at this
  omega
theorem tm_pos {z : Int} {u : Nat} (h : ¬ z.tmod ((u : Int) + 1) < 0) : z.tmod ((u : Int) + 1) = (stayN z u : Int) := by
  have h3 := Int.tmod_lt_of_pos z (show (0 : Int) < (u : Int) + 1 by omega)
  have e := stay_eq z u
  have e2 : (z.tmod ((u : Int) + 1) + ((u : Int) + 1)).toNat = (z.tmod ((u : Int) + 1)).toNat + (u + 1) := by omega
  rw [e2, Nat.add_mod_right, Nat.mod_eq_of_lt (by omega)] at e
  omega
theorem tm_neg {z : Int} {u : Nat} (h : z.tmod ((u : Int) + 1) < 0) : z.tmod ((u : Int) + 1) + (u : Int) + 1 = (stayN z u : Int) := by
  have h3 := tm_lo z u
  have e := stay_eq z u
  rw [Nat.mod_eq_of_lt (by omega)] at e
  omega
theorem run_remst {z : Int} {u st : Nat} (hu : u + 1 ≤ 9223372036854775807) (hz : ¬ z.tmod ((u : Int) + 1) < 0) (hst : stayN z u = st) (hx : ρ x = .int .i64 z) (hy : ρ y = iN .i64 (u + 1)) : (execOp ρ ⟨dst, .binOp .rem T x y T2, ty, pos, aft, gd⟩).run P w = .ok (.value (iN .i64 st)) w := by
  rw [run_remz hu hx hy, tm_pos hz, hst]; rfl
theorem run_addzu {z : Int} {u : Nat} (hu : u ≤ 1099511627776) (hx : ρ x = .int .i64 (z.tmod ((u : Int) + 1))) (hy : ρ y = iN .i64 u) : (execOp ρ ⟨dst, .binOp .add T x y T2, ty, pos, aft, gd⟩).run P w = .ok (.value (.int .i64 (z.tmod ((u : Int) + 1) + (u : Int)))) w := by
  have h3 := Int.tmod_lt_of_pos z (show (0 : Int) < (u : Int) + 1 by omega)
  have h4 := tm_lo z u
  simp only [execOp, hx, hy, iN]
  simp [binOp, go_sem]
  rw [wrap_id (by omega) (by omega)]
theorem run_addz1 {z : Int} {u st : Nat} (hu : u ≤ 1099511627776) (hz : z.tmod ((u : Int) + 1) < 0) (hst : stayN z u = st) (hx : ρ x = .int .i64 (z.tmod ((u : Int) + 1) + (u : Int))) (hy : ρ y = iN .i64 1) : (execOp ρ ⟨dst, .binOp .add T x y T2, ty, pos, aft, gd⟩).run P w = .ok (.value (iN .i64 st)) w := by
  have h4 := tm_lo z u
  have e := tm_neg hz
  rw [hst] at e
  simp only [execOp, hx, hy, iN]
  simp [binOp, go_sem]
  rw [wrap_id (by omega) (by omega)]
  omega
end
def cutR (f : RF) (z : Int) : RF := ⟨f.nm, f.b.extract 0 (f.sy + stayN z (f.b.size - f.sy)), (f.b.extract 0 (f.sy + stayN z (f.b.size - f.sy))).size⟩
def wkR (fs : List RF) (ks : List Int) (k : Nat) : List RF := (fs.mapIdx fun i f => cutR f (ks.getD i 0)).take k
theorem wkR_succ {fs : List RF} {ks : List Int} {i : Nat} {f : RF} (h : fs[i]? = some f) : wkR fs ks (i + 1) = wkR fs ks i ++ [cutR f (ks.getD i 0)] := by
  unfold wkR
  rw [List.take_add_one, List.getElem?_mapIdx, h]
  rfl
theorem wkR_len (fs : List RF) (ks : List Int) (k : Nat) : (wkR fs ks k).length ≤ fs.length := by
  unfold wkR
  rw [List.length_take, List.length_mapIdx]
  omega
theorem st_zero (u : Nat) : stayN 0 u = 0 := by unfold stayN; simp
set_option linter.unusedVariables false in
set_option maxRecDepth 100000 in
set_option maxHeartbeats 2000000 in
theorem rwake_any {w : World} {rm lf nz cz cf : Nat} {pf pz : Option Addr} {fs : List RF} {N : BL} (hF : RFL (.slice pf fs.length cf) fs N) (hS : Stand w N) (hfl : fs.length ≤ 100000) {dn : Bool} {ko : Option Addr} {kc : Nat} (ks : List Int) (hks : ks = [] ∨ ∃ b, ko = some b ∧ ∀ j, j < ks.length → w.cell? (b.add j) = some (.int .i64 (ks.getD j 0))) (hsyn : ∀ f ∈ fs, f.sy ≤ f.b.size) (hbig : ∀ f ∈ fs, f.b.size ≤ 1000000) (hkl : ks.length ≤ 1000000) :
    Calls Try.prog 21 #[.agg #[iN .i64 rm, .slice pf fs.length cf, .bool dn, iN .i64 lf, .slice pz nz cz], .slice ko ks.length kc] w fun e w' => ∃ p c N', e = .returned (.agg #[iN .i64 rm, .slice p (wkR fs ks fs.length).length c, .bool false, iN .i64 0, .slice pz nz cz]) ∧ RFL (.slice p (wkR fs ks fs.length).length c) (wkR fs ks fs.length) N' ∧ Newer w.heap.size w' N' ∧ Below w.heap.size w w' := by
  have H0 := HA.start w
  go_enter Try.func21, Try.ntmps21
  refine wp_seq ?_
  refine wl_region ?_
  refine wl_make (c := #[iN .i64 rm, .slice pf fs.length cf, .bool dn, iN .i64 lf, .slice pz nz cz]) H0 28 (by kernel_rfl) (by kernel_rfl) ?_
  intro q1 w2 (h3 : HA (bs w) [(q1, 28, #[iN .i64 rm, .slice pf fs.length cf, .bool dn, iN .i64 lf, .slice pz nz cz])] w2)
  refine wl_make (c := #[iN .i64 0, .slice none 0 0, .bool false, iN .i64 0, .slice none 0 0]) h3 28 (by kernel_rfl) (by kernel_rfl) ?_
  intro q4 w5 (h6 : HA (bs w) [(q4, 28, #[iN .i64 0, .slice none 0 0, .bool false, iN .i64 0, .slice none 0 0]), (q1, 28, #[iN .i64 rm, .slice pf fs.length cf, .bool dn, iN .i64 lf, .slice pz nz cz])] w5)
  refine wl_nil ?_
  refine then_at rfl ?_
  refine wp_seq ?_
  refine wl_region ?_
  refine wl_val (.slice none 0 0) (by kernel_rfl) (by kernel_rfl) ?_
  refine wl_nil ?_
  refine then_at rfl ?_
  refine wp_seq ?_
  refine wp_seq ?_
  refine wl_region ?_
  refine wl_val (iN .i64 0) (by kernel_rfl) (by kernel_rfl) ?_
  refine wl_nil ?_
  refine then_at rfl ?_
  refine wp_block ?_
  refine wp_count (fun i A w' => ∃ u7 : Nat → Value, A = ⟨(.agg #[iN .i64 rm, .slice pf fs.length cf, .bool dn, iN .i64 lf, .slice pz nz cz] :: .slice ko ks.length kc :: pt q1 :: un :: pt q4 :: u7 5 :: iN .i64 i :: u7 7 :: u7 8 :: u7 9 :: u7 10 :: u7 11 :: u7 12 :: u7 13 :: u7 14 :: u7 15 :: u7 16 :: u7 17 :: u7 18 :: u7 19 :: u7 20 :: u7 21 :: u7 22 :: u7 23 :: u7 24 :: u7 25 :: u7 26 :: u7 27 :: u7 28 :: u7 29 :: u7 30 :: u7 31 :: u7 32 :: u7 33 :: u7 34 :: u7 35 :: u7 36 :: u7 37 :: u7 38 :: u7 39 :: u7 40 :: u7 41 :: u7 42 :: u7 43 :: u7 44 :: u7 45 :: u7 46 :: u7 47 :: u7 48 :: u7 49 :: u7 50 :: u7 51 :: u7 52 :: u7 53 :: u7 54 :: u7 55 :: u7 56 :: u7 57 :: u7 58 :: u7 59 :: u7 60 :: List.replicate 5 un).toArray, []⟩ ∧ ∃ Lb, Row 75 3 (u7 5) (wkR fs ks i).length (fcl (wkR fs ks i)) Lb ∧ HA (bs w) ((q4, 28, #[iN .i64 0, .slice none 0 0, .bool false, iN .i64 0, .slice none 0 0]) :: (q1, 28, #[iN .i64 rm, .slice pf fs.length cf, .bool dn, iN .i64 lf, .slice pz nz cz]) :: Lb) w') fs.length ?_ ?_ ?_
  · exact ⟨fun ii => (([(5, .slice none 0 0), (7, undef), (8, undef), (9, undef), (10, undef), (11, undef), (12, undef), (13, undef), (14, undef), (15, undef), (16, undef), (17, undef), (18, undef), (19, undef), (20, undef), (21, undef), (22, undef), (23, undef), (24, undef), (25, undef), (26, undef), (27, undef), (28, undef), (29, undef), (30, undef), (31, undef), (32, undef), (33, undef), (34, undef), (35, undef), (36, undef), (37, undef), (38, undef), (39, undef), (40, undef), (41, undef), (42, undef), (43, undef), (44, undef), (45, undef), (46, undef), (47, undef), (48, undef), (49, undef), (50, undef), (51, undef), (52, undef), (53, undef), (54, undef), (55, undef), (56, undef), (57, undef), (58, undef), (59, undef), (60, undef)] : List (Nat × Value)).find? (·.1 == ii)).elim undef (·.2), by kernel_rfl, ⟨[], by exact Row.nil 75 3, h6⟩⟩
  · rintro i hi _ w8 ⟨u7, rfl, ⟨Lb, hR, hA⟩⟩
    have hwl := wkR_len fs ks i
    refine wp_seq ?_
    refine wp_seq ?_
    refine wl_region ?_
    refine wl_val (iN .i64 i) (by kernel_rfl) (by kernel_rfl) ?_
    refine wl_val (.pointer (some ⟨q1, 1, none⟩)) (by kernel_rfl) (by kernel_rfl) ?_
    refine wl_val (.slice pf fs.length cf) (by kernel_rfl) (run_load1 (fun w => Try.isAgg25 w) (by kernel_rfl) (((hA.get 1 rfl).cell 1).trans rfl)) ?_
    refine wl_val (iN .i64 fs.length) (by kernel_rfl) (by kernel_rfl) ?_
    refine wl_val (.bool true) (by kernel_rfl) (run_lss (k := .i64) (a := i) (b := fs.length) (by kernel_rfl) (by kernel_rfl) true (decide_eq_true (by omega))) ?_
    refine wl_nil ?_
    refine then_at rfl ?_
    refine wp_cond_true (by kernel_rfl) ?_
    refine wp_skip ?_
    refine then_at rfl ?_
    refine wp_seq ?_
    refine wp_block ?_
    refine wp_seq ?_
    obtain ⟨f, hf⟩ : ∃ f, fs[i]? = some f := ⟨_, List.getElem?_eq_getElem hi⟩
    obtain ⟨gF, curF, hpF, _, hgF, c0, c1, c2⟩ := hF.at hf
    have hsy := hsyn f (List.mem_of_getElem? hf)
    have hbz := hbig f (List.mem_of_getElem? hf)
    obtain ⟨st, hst⟩ : ∃ st, stayN (ks.getD i 0) (f.b.size - f.sy) = st := ⟨_, rfl⟩
    have hstl := stayN_le (ks.getD i 0) (f.b.size - f.sy)
    rw [hst] at hstl
    refine wl_region ?_
    refine wl_val (.pointer (some ⟨q1, 1, none⟩)) (by kernel_rfl) (by kernel_rfl) ?_
    refine wl_val (.slice pf fs.length cf) (by kernel_rfl) (run_load1 (fun w => Try.isAgg25 w) (by kernel_rfl) (((hA.get 1 rfl).cell 1).trans rfl)) ?_
    refine wl_val (iN .i64 i) (by kernel_rfl) (by kernel_rfl) ?_
    refine wl_val (.pointer (some ⟨gF, 3 * i, none⟩)) (by kernel_rfl) (run_addr75p (q := gF) (n := fs.length) (m := cf) (a := i) hpF (by kernel_rfl) (by kernel_rfl) (List.getElem?_eq_some_iff.1 hf).1) ?_
    refine wl_val (.agg #[.string f.nm, .string f.b, iN .i64 f.sy]) (by kernel_rfl) (run_part (c' := #[.string f.nm, .string f.b, iN .i64 f.sy]) (by kernel_rfl) ((hS.keep hA.old.old) _ hgF) (part3 c0 c1 c2) Try.underlying75 rfl (by kernel_rfl)) ?_
    refine wl_make (c := #[.string ({ data := #[] }), .string ({ data := #[] }), iN .i64 0]) hA 75 (by kernel_rfl) (by kernel_rfl) ?_
    intro q9 w10 (h11 : HA (bs w) ((q9, 75, #[.string ({ data := #[] }), .string ({ data := #[] }), iN .i64 0]) :: (q4, 28, #[iN .i64 0, .slice none 0 0, .bool false, iN .i64 0, .slice none 0 0]) :: (q1, 28, #[iN .i64 rm, .slice pf fs.length cf, .bool dn, iN .i64 lf, .slice pz nz cz]) :: Lb) w10)
    refine wl_fill (c' := #[.string f.nm, .string f.b, iN .i64 f.sy]) h11 0 rfl (by kernel_rfl) (by kernel_rfl) (by kernel_rfl) rfl (by kernel_rfl) (by kernel_rfl) ?_
    intro w12 (h13 : HA (bs w) ((q9, 75, #[.string f.nm, .string f.b, iN .i64 f.sy]) :: (q4, 28, #[iN .i64 0, .slice none 0 0, .bool false, iN .i64 0, .slice none 0 0]) :: (q1, 28, #[iN .i64 rm, .slice pf fs.length cf, .bool dn, iN .i64 lf, .slice pz nz cz]) :: Lb) w12)
    refine wl_nil ?_
    refine then_at (F := ⟨(.agg #[iN .i64 rm, .slice pf fs.length cf, .bool dn, iN .i64 lf, .slice pz nz cz] :: .slice ko ks.length kc :: pt q1 :: un :: pt q4 :: u7 5 :: iN .i64 i :: pt q9 :: u7 8 :: u7 9 :: iN .i64 i :: .pointer (some ⟨q1, 1, none⟩) :: .slice pf fs.length cf :: iN .i64 fs.length :: .bool true :: u7 15 :: u7 16 :: .pointer (some ⟨q1, 1, none⟩) :: .slice pf fs.length cf :: iN .i64 i :: .pointer (some ⟨gF, 3 * i, none⟩) :: .agg #[.string f.nm, .string f.b, iN .i64 f.sy] :: u7 22 :: u7 23 :: u7 24 :: u7 25 :: u7 26 :: u7 27 :: u7 28 :: u7 29 :: u7 30 :: u7 31 :: u7 32 :: u7 33 :: u7 34 :: u7 35 :: u7 36 :: u7 37 :: u7 38 :: u7 39 :: u7 40 :: u7 41 :: u7 42 :: u7 43 :: u7 44 :: u7 45 :: u7 46 :: u7 47 :: u7 48 :: u7 49 :: u7 50 :: u7 51 :: u7 52 :: u7 53 :: u7 54 :: u7 55 :: u7 56 :: u7 57 :: u7 58 :: u7 59 :: u7 60 :: List.replicate 5 un).toArray, []⟩) (by kernel_rfl) ?_
    refine wp_seq ?_
    refine wl_region ?_
    refine wl_val (.pointer (some ⟨q9, 1, none⟩)) (by kernel_rfl) (by kernel_rfl) ?_
    refine wl_val (.string f.b) (by kernel_rfl) (run_load1 (fun w => Try.isAgg9 w) (by kernel_rfl) (((h13.get 0 rfl).cell 1).trans rfl)) ?_
    refine wl_val (iN .i64 f.b.size) (by kernel_rfl) (run_len (s := f.b) (by kernel_rfl)) ?_
    refine wl_val (.pointer (some ⟨q9, 2, none⟩)) (by kernel_rfl) (by kernel_rfl) ?_
    refine wl_val (iN .i64 f.sy) (by kernel_rfl) (run_load1 (fun w => Try.isAgg3 w) (by kernel_rfl) (((h13.get 0 rfl).cell 2).trans rfl)) ?_
    refine wl_val (iN .i64 (f.b.size - f.sy)) (by kernel_rfl) (run_sub (k := .i64) (a := f.b.size) (b := f.sy) (by kernel_rfl) (by kernel_rfl) (by first | omega | (simp only [top]; omega)) (by first | omega | (simp only [top]; omega))) ?_
    refine wl_val (iN .i64 (f.b.size - f.sy)) (by kernel_rfl) (by kernel_rfl) ?_
    refine wl_nil ?_
    refine then_at rfl ?_
    refine wp_seq ?_
    refine wl_region ?_
    refine wl_val (iN .i64 0) (by kernel_rfl) (by kernel_rfl) ?_
    refine wl_nil ?_
    refine then_at rfl ?_
    refine wp_seq ?_
    refine wp_seq ?_
    by_cases hik : i < ks.length
    · obtain ⟨kb, hko, hkc⟩ := hks.resolve_left (fun e => by rw [e] at hik; cases hik)
      refine wl_region ?_
      refine wl_val (iN .i64 i) (by kernel_rfl) (by kernel_rfl) ?_
      refine wl_val (.slice ko ks.length kc) (by kernel_rfl) (by kernel_rfl) ?_
      refine wl_val (iN .i64 ks.length) (by kernel_rfl) (by kernel_rfl) ?_
      refine wl_val (.bool true) (by kernel_rfl) (run_lss (k := .i64) (a := i) (b := ks.length) (by kernel_rfl) (by kernel_rfl) true (decide_eq_true hik)) ?_
      refine wl_nil ?_
      refine then_at rfl ?_
      refine wp_cond_true (by kernel_rfl) ?_
      refine wp_seq ?_
      by_cases hz : (ks.getD i 0).tmod (((f.b.size - f.sy) : Nat) + 1) < 0
      · refine wl_region ?_
        refine wl_val (.slice ko ks.length kc) (by kernel_rfl) (by kernel_rfl) ?_
        refine wl_val (iN .i64 i) (by kernel_rfl) (by kernel_rfl) ?_
        refine wl_val (.pointer (some (kb.add i))) (by kernel_rfl) (run_addr_o (b := kb) (n := ks.length) (c := kc) (i := i) hko (by kernel_rfl) (by kernel_rfl) hik) ?_
        refine wl_val (.int .i64 (ks.getD i 0)) (by kernel_rfl) (run_load_at (fun w => Try.isAgg3 w) (by kernel_rfl) (cell_old (W := w) h13.old.old (hkc i hik))) ?_
        refine wl_val (iN .i64 (f.b.size - f.sy)) (by kernel_rfl) (by kernel_rfl) ?_
        refine wl_val (iN .i64 ((f.b.size - f.sy) + 1)) (by kernel_rfl) (run_add (k := .i64) (a := f.b.size - f.sy) (b := 1) (by kernel_rfl) (by kernel_rfl) (by first | omega | (simp only [top]; omega))) ?_
        refine wl_val (.int .i64 ((ks.getD i 0).tmod (((f.b.size - f.sy) : Nat) + 1))) (by kernel_rfl) (run_remz (z := (ks.getD i 0)) (u := (f.b.size - f.sy)) (by omega) (by kernel_rfl) (by kernel_rfl)) ?_
        refine wl_val (.int .i64 ((ks.getD i 0).tmod (((f.b.size - f.sy) : Nat) + 1))) (by kernel_rfl) (by kernel_rfl) ?_
        refine wl_nil ?_
        refine then_at rfl ?_
        refine wp_seq ?_
        refine wl_region ?_
        refine wl_val (.int .i64 ((ks.getD i 0).tmod (((f.b.size - f.sy) : Nat) + 1))) (by kernel_rfl) (by kernel_rfl) ?_
        refine wl_val (.bool true) (by kernel_rfl) (run_ltz (a := (ks.getD i 0).tmod (((f.b.size - f.sy) : Nat) + 1)) (b := 0) (by kernel_rfl) (by kernel_rfl) true (decide_eq_true hz)) ?_
        refine wl_nil ?_
        refine then_at rfl ?_
        refine wp_cond_true (by kernel_rfl) ?_
        refine wl_region ?_
        refine wl_val (.int .i64 ((ks.getD i 0).tmod (((f.b.size - f.sy) : Nat) + 1))) (by kernel_rfl) (by kernel_rfl) ?_
        refine wl_val (iN .i64 (f.b.size - f.sy)) (by kernel_rfl) (by kernel_rfl) ?_
        refine wl_val (.int .i64 ((ks.getD i 0).tmod (((f.b.size - f.sy) : Nat) + 1) + ((f.b.size - f.sy) : Nat))) (by kernel_rfl) (run_addzu (z := (ks.getD i 0)) (u := (f.b.size - f.sy)) (by omega) (by kernel_rfl) (by kernel_rfl)) ?_
        refine wl_val (iN .i64 st) (by kernel_rfl) (run_addz1 (z := (ks.getD i 0)) (u := (f.b.size - f.sy)) (by omega) hz hst (by kernel_rfl) (by kernel_rfl)) ?_
        refine wl_val (iN .i64 st) (by kernel_rfl) (by kernel_rfl) ?_
        refine wl_nil ?_
        refine then_at (F := ⟨(.agg #[iN .i64 rm, .slice pf fs.length cf, .bool dn, iN .i64 lf, .slice pz nz cz] :: .slice ko ks.length kc :: pt q1 :: un :: pt q4 :: u7 5 :: iN .i64 i :: pt q9 :: iN .i64 (f.b.size - f.sy) :: iN .i64 st :: iN .i64 i :: .pointer (some ⟨q1, 1, none⟩) :: .slice pf fs.length cf :: iN .i64 fs.length :: .bool true :: u7 15 :: u7 16 :: .pointer (some ⟨q1, 1, none⟩) :: .slice pf fs.length cf :: iN .i64 i :: .pointer (some ⟨gF, 3 * i, none⟩) :: .agg #[.string f.nm, .string f.b, iN .i64 f.sy] :: .pointer (some ⟨q9, 1, none⟩) :: .string f.b :: iN .i64 f.b.size :: .pointer (some ⟨q9, 2, none⟩) :: iN .i64 f.sy :: iN .i64 (f.b.size - f.sy) :: iN .i64 i :: .slice ko ks.length kc :: iN .i64 ks.length :: .bool true :: .slice ko ks.length kc :: iN .i64 i :: .pointer (some (kb.add i)) :: .int .i64 (ks.getD i 0) :: iN .i64 (f.b.size - f.sy) :: iN .i64 ((f.b.size - f.sy) + 1) :: .int .i64 ((ks.getD i 0).tmod (((f.b.size - f.sy) : Nat) + 1)) :: .int .i64 ((ks.getD i 0).tmod (((f.b.size - f.sy) : Nat) + 1)) :: .bool true :: .int .i64 ((ks.getD i 0).tmod (((f.b.size - f.sy) : Nat) + 1)) :: iN .i64 (f.b.size - f.sy) :: .int .i64 ((ks.getD i 0).tmod (((f.b.size - f.sy) : Nat) + 1) + ((f.b.size - f.sy) : Nat)) :: iN .i64 st :: u7 45 :: u7 46 :: u7 47 :: u7 48 :: u7 49 :: u7 50 :: u7 51 :: u7 52 :: u7 53 :: u7 54 :: u7 55 :: u7 56 :: u7 57 :: u7 58 :: u7 59 :: u7 60 :: List.replicate 5 un).toArray, []⟩) (by kernel_rfl) ?_
        refine wp_seq ?_
        refine wl_region ?_
        refine wl_val (.pointer (some ⟨q9, 1, none⟩)) (by kernel_rfl) (by kernel_rfl) ?_
        refine wl_val (.string f.b) (by kernel_rfl) (run_load1 (fun w => Try.isAgg9 w) (by kernel_rfl) (((h13.get 0 rfl).cell 1).trans rfl)) ?_
        refine wl_val (.pointer (some ⟨q9, 2, none⟩)) (by kernel_rfl) (by kernel_rfl) ?_
        refine wl_val (iN .i64 f.sy) (by kernel_rfl) (run_load1 (fun w => Try.isAgg3 w) (by kernel_rfl) (((h13.get 0 rfl).cell 2).trans rfl)) ?_
        refine wl_val (iN .i64 st) (by kernel_rfl) (by kernel_rfl) ?_
        refine wl_val (iN .i64 (f.sy + st)) (by kernel_rfl) (run_add (k := .i64) (a := f.sy) (b := st) (by kernel_rfl) (by kernel_rfl) (by first | omega | (simp only [top]; omega))) ?_
        refine wl_val (.string (f.b.extract 0 (f.sy + st))) (by kernel_rfl) (run_cut_hi (s := f.b) (b := f.sy + st) (by kernel_rfl) (by kernel_rfl) (by omega)) ?_
        refine wl_val (.pointer (some ⟨q9, 1, none⟩)) (by kernel_rfl) (by kernel_rfl) ?_
        refine wl_putv (v := .string (f.b.extract 0 (f.sy + st))) h13 0 rfl 1 (by show 1 < 3; decide) (by kernel_rfl) (fun w => Try.sizeOf9 w) (by kernel_rfl) (by kernel_rfl) (by kernel_rfl) ?_
        intro w14 (h15 : HA (bs w) ((q9, 75, #[.string f.nm, .string (f.b.extract 0 (f.sy + st)), iN .i64 f.sy]) :: (q4, 28, #[iN .i64 0, .slice none 0 0, .bool false, iN .i64 0, .slice none 0 0]) :: (q1, 28, #[iN .i64 rm, .slice pf fs.length cf, .bool dn, iN .i64 lf, .slice pz nz cz]) :: Lb) w14)
        refine wl_nil ?_
        refine then_at rfl ?_
        refine wp_seq ?_
        refine wl_region ?_
        refine wl_val (.pointer (some ⟨q9, 1, none⟩)) (by kernel_rfl) (by kernel_rfl) ?_
        refine wl_val (.string (f.b.extract 0 (f.sy + st))) (by kernel_rfl) (run_load1 (fun w => Try.isAgg9 w) (by kernel_rfl) (((h15.get 0 rfl).cell 1).trans rfl)) ?_
        refine wl_val (iN .i64 ((f.b.extract 0 (f.sy + st)).size)) (by kernel_rfl) (run_len (s := f.b.extract 0 (f.sy + st)) (by kernel_rfl)) ?_
        refine wl_val (.pointer (some ⟨q9, 2, none⟩)) (by kernel_rfl) (by kernel_rfl) ?_
        refine wl_putv (v := iN .i64 ((f.b.extract 0 (f.sy + st)).size)) h15 0 rfl 2 (by show 2 < 3; decide) (by kernel_rfl) (fun w => Try.sizeOf3 w) (by kernel_rfl) (by kernel_rfl) (by kernel_rfl) ?_
        intro w16 (h17 : HA (bs w) ((q9, 75, #[.string f.nm, .string (f.b.extract 0 (f.sy + st)), iN .i64 ((f.b.extract 0 (f.sy + st)).size)]) :: (q4, 28, #[iN .i64 0, .slice none 0 0, .bool false, iN .i64 0, .slice none 0 0]) :: (q1, 28, #[iN .i64 rm, .slice pf fs.length cf, .bool dn, iN .i64 lf, .slice pz nz cz]) :: Lb) w16)
        refine wl_nil ?_
        refine then_at rfl ?_
        refine wl_region ?_
        refine wl_val (u7 5) (by kernel_rfl) (by kernel_rfl) ?_
        refine wl_load h17 0 rfl (by kernel_rfl) (by kernel_rfl) Try.underlying75 rfl (by kernel_rfl) ?_
        refine wl_mks (n := 1) (m := 1) (c := #[.string f.nm, .string (f.b.extract 0 (f.sy + st)), iN .i64 ((f.b.extract 0 (f.sy + st)).size)]) h17 75 (by kernel_rfl) (by kernel_rfl) ?_
        intro q18 w19 (h20 : HA (bs w) ((q18, 75, #[.string f.nm, .string (f.b.extract 0 (f.sy + st)), iN .i64 ((f.b.extract 0 (f.sy + st)).size)]) :: (q9, 75, #[.string f.nm, .string (f.b.extract 0 (f.sy + st)), iN .i64 ((f.b.extract 0 (f.sy + st)).size)]) :: (q4, 28, #[iN .i64 0, .slice none 0 0, .bool false, iN .i64 0, .slice none 0 0]) :: (q1, 28, #[iN .i64 rm, .slice pf fs.length cf, .bool dn, iN .i64 lf, .slice pz nz cz]) :: Lb) w19)
        have h21 : HA (bs w) ((q18, 75, #[.string f.nm, .string (f.b.extract 0 (f.sy + st)), iN .i64 ((f.b.extract 0 (f.sy + st)).size)]) :: (Lb ++ [(q9, 75, #[.string f.nm, .string (f.b.extract 0 (f.sy + st)), iN .i64 ((f.b.extract 0 (f.sy + st)).size)]), (q4, 28, #[iN .i64 0, .slice none 0 0, .bool false, iN .i64 0, .slice none 0 0]), (q1, 28, #[iN .i64 rm, .slice pf fs.length cf, .bool dn, iN .i64 lf, .slice pz nz cz])])) w19 := HA.perm h20 (List.Perm.cons _ (List.perm_append_comm (l₁ := [(q9, 75, #[.string f.nm, .string (f.b.extract 0 (f.sy + st)), iN .i64 ((f.b.extract 0 (f.sy + st)).size)]), (q4, 28, #[iN .i64 0, .slice none 0 0, .bool false, iN .i64 0, .slice none 0 0]), (q1, 28, #[iN .i64 rm, .slice pf fs.length cf, .bool dn, iN .i64 lf, .slice pz nz cz])]) (l₂ := Lb)))
        refine wl_append (m := 1) (c := 1) (Lr := Lb) hR h21 (by decide) _ 40 Try.underlying25 info75 rfl (by decide) (by kernel_rfl) (by kernel_rfl) (by kernel_rfl) rfl (by kernel_rfl) (by unfold maxLen; omega) (by omega) (by decide) ?_
        intro v2 w22 L2 hR2 h23
        have h24 : HA (bs w) ((q9, 75, #[.string f.nm, .string (f.b.extract 0 (f.sy + st)), iN .i64 ((f.b.extract 0 (f.sy + st)).size)]) :: (q4, 28, #[iN .i64 0, .slice none 0 0, .bool false, iN .i64 0, .slice none 0 0]) :: (q1, 28, #[iN .i64 rm, .slice pf fs.length cf, .bool dn, iN .i64 lf, .slice pz nz cz]) :: L2) w22 := HA.perm h23 (List.perm_append_comm (l₁ := L2) (l₂ := [(q9, 75, #[.string f.nm, .string (f.b.extract 0 (f.sy + st)), iN .i64 ((f.b.extract 0 (f.sy + st)).size)]), (q4, 28, #[iN .i64 0, .slice none 0 0, .bool false, iN .i64 0, .slice none 0 0]), (q1, 28, #[iN .i64 rm, .slice pf fs.length cf, .bool dn, iN .i64 lf, .slice pz nz cz])]))
        have hR3 : Row 75 3 v2 (wkR fs ks (i + 1)).length (fcl (wkR fs ks (i + 1))) L2 := by rw [wkR_succ hf, fcl_snoc, List.length_append]; unfold cutR; rw [hst]; exact hR2
        refine wl_val (v2) (by kernel_rfl) (by kernel_rfl) ?_
        refine wl_nil ?_
        refine block_normal ?_
        refine then_at rfl ?_
        refine wl_region ?_
        refine wl_val (iN .i64 i) (by kernel_rfl) (by kernel_rfl) ?_
        refine wl_val (iN .i64 (i + 1)) (by kernel_rfl) (run_add (k := .i64) (a := i) (b := 1) (by kernel_rfl) (by kernel_rfl) (by first | omega | (simp only [top]; omega))) ?_
        refine wl_val (iN .i64 (i + 1)) (by kernel_rfl) (by kernel_rfl) ?_
        refine wl_nil ?_
        exact then_I ⟨fun ii => (([(5, v2), (7, .pointer (some ⟨q9, 0, none⟩)), (8, iN .i64 (f.b.size - f.sy)), (9, iN .i64 st), (10, iN .i64 i), (11, .pointer (some ⟨q1, 1, none⟩)), (12, .slice pf fs.length cf), (13, iN .i64 fs.length), (14, .bool true), (15, iN .i64 i), (16, iN .i64 (i + 1)), (17, .pointer (some ⟨q1, 1, none⟩)), (18, .slice pf fs.length cf), (19, iN .i64 i), (20, .pointer (some ⟨gF, 3 * i, none⟩)), (21, .agg #[.string f.nm, .string f.b, iN .i64 f.sy]), (22, .pointer (some ⟨q9, 1, none⟩)), (23, .string f.b), (24, iN .i64 f.b.size), (25, .pointer (some ⟨q9, 2, none⟩)), (26, iN .i64 f.sy), (27, iN .i64 (f.b.size - f.sy)), (28, iN .i64 i), (29, .slice ko ks.length kc), (30, iN .i64 ks.length), (31, .bool true), (32, .slice ko ks.length kc), (33, iN .i64 i), (34, .pointer (some (kb.add i))), (35, .int .i64 (ks.getD i 0)), (36, iN .i64 (f.b.size - f.sy)), (37, iN .i64 ((f.b.size - f.sy) + 1)), (38, .int .i64 ((ks.getD i 0).tmod (((f.b.size - f.sy) : Nat) + 1))), (39, .int .i64 ((ks.getD i 0).tmod (((f.b.size - f.sy) : Nat) + 1))), (40, .bool true), (41, .int .i64 ((ks.getD i 0).tmod (((f.b.size - f.sy) : Nat) + 1))), (42, iN .i64 (f.b.size - f.sy)), (43, .int .i64 ((ks.getD i 0).tmod (((f.b.size - f.sy) : Nat) + 1) + ((f.b.size - f.sy) : Nat))), (44, iN .i64 st), (45, .pointer (some ⟨q9, 1, none⟩)), (46, .string f.b), (47, .pointer (some ⟨q9, 2, none⟩)), (48, iN .i64 f.sy), (49, iN .i64 st), (50, iN .i64 (f.sy + st)), (51, .string (f.b.extract 0 (f.sy + st))), (52, .pointer (some ⟨q9, 1, none⟩)), (53, .pointer (some ⟨q9, 1, none⟩)), (54, .string (f.b.extract 0 (f.sy + st))), (55, iN .i64 ((f.b.extract 0 (f.sy + st)).size)), (56, .pointer (some ⟨q9, 2, none⟩)), (57, u7 5), (58, .agg (#[.string f.nm, .string (f.b.extract 0 (f.sy + st)), iN .i64 ((f.b.extract 0 (f.sy + st)).size)])), (59, .slice (some ⟨q18, 0, none⟩) 1 1), (60, v2)] : List (Nat × Value)).find? (·.1 == ii)).elim undef (·.2), by kernel_rfl, ⟨L2, by exact hR3, HA.sub h24 (List.Sublist.cons _ (List.Sublist.cons_cons _ (List.Sublist.cons_cons _ (List.Sublist.refl _))))⟩⟩
      · refine wl_region ?_
        refine wl_val (.slice ko ks.length kc) (by kernel_rfl) (by kernel_rfl) ?_
        refine wl_val (iN .i64 i) (by kernel_rfl) (by kernel_rfl) ?_
        refine wl_val (.pointer (some (kb.add i))) (by kernel_rfl) (run_addr_o (b := kb) (n := ks.length) (c := kc) (i := i) hko (by kernel_rfl) (by kernel_rfl) hik) ?_
        refine wl_val (.int .i64 (ks.getD i 0)) (by kernel_rfl) (run_load_at (fun w => Try.isAgg3 w) (by kernel_rfl) (cell_old (W := w) h13.old.old (hkc i hik))) ?_
        refine wl_val (iN .i64 (f.b.size - f.sy)) (by kernel_rfl) (by kernel_rfl) ?_
        refine wl_val (iN .i64 ((f.b.size - f.sy) + 1)) (by kernel_rfl) (run_add (k := .i64) (a := f.b.size - f.sy) (b := 1) (by kernel_rfl) (by kernel_rfl) (by first | omega | (simp only [top]; omega))) ?_
        refine wl_val (iN .i64 st) (by kernel_rfl) (run_remst (z := (ks.getD i 0)) (u := (f.b.size - f.sy)) (by omega) hz hst (by kernel_rfl) (by kernel_rfl)) ?_
        refine wl_val (iN .i64 st) (by kernel_rfl) (by kernel_rfl) ?_
        refine wl_nil ?_
        refine then_at rfl ?_
        refine wp_seq ?_
        refine wl_region ?_
        refine wl_val (iN .i64 st) (by kernel_rfl) (by kernel_rfl) ?_
        refine wl_val (.bool false) (by kernel_rfl) (run_ltz (a := (st : Int)) (b := 0) (by kernel_rfl) (by kernel_rfl) false (decide_eq_false (by omega))) ?_
        refine wl_nil ?_
        refine then_at rfl ?_
        refine wp_cond_false (by kernel_rfl) ?_
        refine wp_skip ?_
        refine then_at (F := ⟨(.agg #[iN .i64 rm, .slice pf fs.length cf, .bool dn, iN .i64 lf, .slice pz nz cz] :: .slice ko ks.length kc :: pt q1 :: un :: pt q4 :: u7 5 :: iN .i64 i :: pt q9 :: iN .i64 (f.b.size - f.sy) :: iN .i64 st :: iN .i64 i :: .pointer (some ⟨q1, 1, none⟩) :: .slice pf fs.length cf :: iN .i64 fs.length :: .bool true :: u7 15 :: u7 16 :: .pointer (some ⟨q1, 1, none⟩) :: .slice pf fs.length cf :: iN .i64 i :: .pointer (some ⟨gF, 3 * i, none⟩) :: .agg #[.string f.nm, .string f.b, iN .i64 f.sy] :: .pointer (some ⟨q9, 1, none⟩) :: .string f.b :: iN .i64 f.b.size :: .pointer (some ⟨q9, 2, none⟩) :: iN .i64 f.sy :: iN .i64 (f.b.size - f.sy) :: iN .i64 i :: .slice ko ks.length kc :: iN .i64 ks.length :: .bool true :: .slice ko ks.length kc :: iN .i64 i :: .pointer (some (kb.add i)) :: .int .i64 (ks.getD i 0) :: iN .i64 (f.b.size - f.sy) :: iN .i64 ((f.b.size - f.sy) + 1) :: iN .i64 st :: iN .i64 st :: .bool false :: u7 41 :: u7 42 :: u7 43 :: u7 44 :: u7 45 :: u7 46 :: u7 47 :: u7 48 :: u7 49 :: u7 50 :: u7 51 :: u7 52 :: u7 53 :: u7 54 :: u7 55 :: u7 56 :: u7 57 :: u7 58 :: u7 59 :: u7 60 :: List.replicate 5 un).toArray, []⟩) (by kernel_rfl) ?_
        refine wp_seq ?_
        refine wl_region ?_
        refine wl_val (.pointer (some ⟨q9, 1, none⟩)) (by kernel_rfl) (by kernel_rfl) ?_
        refine wl_val (.string f.b) (by kernel_rfl) (run_load1 (fun w => Try.isAgg9 w) (by kernel_rfl) (((h13.get 0 rfl).cell 1).trans rfl)) ?_
        refine wl_val (.pointer (some ⟨q9, 2, none⟩)) (by kernel_rfl) (by kernel_rfl) ?_
        refine wl_val (iN .i64 f.sy) (by kernel_rfl) (run_load1 (fun w => Try.isAgg3 w) (by kernel_rfl) (((h13.get 0 rfl).cell 2).trans rfl)) ?_
        refine wl_val (iN .i64 st) (by kernel_rfl) (by kernel_rfl) ?_
        refine wl_val (iN .i64 (f.sy + st)) (by kernel_rfl) (run_add (k := .i64) (a := f.sy) (b := st) (by kernel_rfl) (by kernel_rfl) (by first | omega | (simp only [top]; omega))) ?_
        refine wl_val (.string (f.b.extract 0 (f.sy + st))) (by kernel_rfl) (run_cut_hi (s := f.b) (b := f.sy + st) (by kernel_rfl) (by kernel_rfl) (by omega)) ?_
        refine wl_val (.pointer (some ⟨q9, 1, none⟩)) (by kernel_rfl) (by kernel_rfl) ?_
        refine wl_putv (v := .string (f.b.extract 0 (f.sy + st))) h13 0 rfl 1 (by show 1 < 3; decide) (by kernel_rfl) (fun w => Try.sizeOf9 w) (by kernel_rfl) (by kernel_rfl) (by kernel_rfl) ?_
        intro w25 (h26 : HA (bs w) ((q9, 75, #[.string f.nm, .string (f.b.extract 0 (f.sy + st)), iN .i64 f.sy]) :: (q4, 28, #[iN .i64 0, .slice none 0 0, .bool false, iN .i64 0, .slice none 0 0]) :: (q1, 28, #[iN .i64 rm, .slice pf fs.length cf, .bool dn, iN .i64 lf, .slice pz nz cz]) :: Lb) w25)
        refine wl_nil ?_
        refine then_at rfl ?_
        refine wp_seq ?_
        refine wl_region ?_
        refine wl_val (.pointer (some ⟨q9, 1, none⟩)) (by kernel_rfl) (by kernel_rfl) ?_
        refine wl_val (.string (f.b.extract 0 (f.sy + st))) (by kernel_rfl) (run_load1 (fun w => Try.isAgg9 w) (by kernel_rfl) (((h26.get 0 rfl).cell 1).trans rfl)) ?_
        refine wl_val (iN .i64 ((f.b.extract 0 (f.sy + st)).size)) (by kernel_rfl) (run_len (s := f.b.extract 0 (f.sy + st)) (by kernel_rfl)) ?_
        refine wl_val (.pointer (some ⟨q9, 2, none⟩)) (by kernel_rfl) (by kernel_rfl) ?_
        refine wl_putv (v := iN .i64 ((f.b.extract 0 (f.sy + st)).size)) h26 0 rfl 2 (by show 2 < 3; decide) (by kernel_rfl) (fun w => Try.sizeOf3 w) (by kernel_rfl) (by kernel_rfl) (by kernel_rfl) ?_
        intro w27 (h28 : HA (bs w) ((q9, 75, #[.string f.nm, .string (f.b.extract 0 (f.sy + st)), iN .i64 ((f.b.extract 0 (f.sy + st)).size)]) :: (q4, 28, #[iN .i64 0, .slice none 0 0, .bool false, iN .i64 0, .slice none 0 0]) :: (q1, 28, #[iN .i64 rm, .slice pf fs.length cf, .bool dn, iN .i64 lf, .slice pz nz cz]) :: Lb) w27)
        refine wl_nil ?_
        refine then_at rfl ?_
        refine wl_region ?_
        refine wl_val (u7 5) (by kernel_rfl) (by kernel_rfl) ?_
        refine wl_load h28 0 rfl (by kernel_rfl) (by kernel_rfl) Try.underlying75 rfl (by kernel_rfl) ?_
        refine wl_mks (n := 1) (m := 1) (c := #[.string f.nm, .string (f.b.extract 0 (f.sy + st)), iN .i64 ((f.b.extract 0 (f.sy + st)).size)]) h28 75 (by kernel_rfl) (by kernel_rfl) ?_
        intro q29 w30 (h31 : HA (bs w) ((q29, 75, #[.string f.nm, .string (f.b.extract 0 (f.sy + st)), iN .i64 ((f.b.extract 0 (f.sy + st)).size)]) :: (q9, 75, #[.string f.nm, .string (f.b.extract 0 (f.sy + st)), iN .i64 ((f.b.extract 0 (f.sy + st)).size)]) :: (q4, 28, #[iN .i64 0, .slice none 0 0, .bool false, iN .i64 0, .slice none 0 0]) :: (q1, 28, #[iN .i64 rm, .slice pf fs.length cf, .bool dn, iN .i64 lf, .slice pz nz cz]) :: Lb) w30)
        have h32 : HA (bs w) ((q29, 75, #[.string f.nm, .string (f.b.extract 0 (f.sy + st)), iN .i64 ((f.b.extract 0 (f.sy + st)).size)]) :: (Lb ++ [(q9, 75, #[.string f.nm, .string (f.b.extract 0 (f.sy + st)), iN .i64 ((f.b.extract 0 (f.sy + st)).size)]), (q4, 28, #[iN .i64 0, .slice none 0 0, .bool false, iN .i64 0, .slice none 0 0]), (q1, 28, #[iN .i64 rm, .slice pf fs.length cf, .bool dn, iN .i64 lf, .slice pz nz cz])])) w30 := HA.perm h31 (List.Perm.cons _ (List.perm_append_comm (l₁ := [(q9, 75, #[.string f.nm, .string (f.b.extract 0 (f.sy + st)), iN .i64 ((f.b.extract 0 (f.sy + st)).size)]), (q4, 28, #[iN .i64 0, .slice none 0 0, .bool false, iN .i64 0, .slice none 0 0]), (q1, 28, #[iN .i64 rm, .slice pf fs.length cf, .bool dn, iN .i64 lf, .slice pz nz cz])]) (l₂ := Lb)))
        refine wl_append (m := 1) (c := 1) (Lr := Lb) hR h32 (by decide) _ 40 Try.underlying25 info75 rfl (by decide) (by kernel_rfl) (by kernel_rfl) (by kernel_rfl) rfl (by kernel_rfl) (by unfold maxLen; omega) (by omega) (by decide) ?_
        intro v2 w33 L2 hR2 h34
        have h35 : HA (bs w) ((q9, 75, #[.string f.nm, .string (f.b.extract 0 (f.sy + st)), iN .i64 ((f.b.extract 0 (f.sy + st)).size)]) :: (q4, 28, #[iN .i64 0, .slice none 0 0, .bool false, iN .i64 0, .slice none 0 0]) :: (q1, 28, #[iN .i64 rm, .slice pf fs.length cf, .bool dn, iN .i64 lf, .slice pz nz cz]) :: L2) w33 := HA.perm h34 (List.perm_append_comm (l₁ := L2) (l₂ := [(q9, 75, #[.string f.nm, .string (f.b.extract 0 (f.sy + st)), iN .i64 ((f.b.extract 0 (f.sy + st)).size)]), (q4, 28, #[iN .i64 0, .slice none 0 0, .bool false, iN .i64 0, .slice none 0 0]), (q1, 28, #[iN .i64 rm, .slice pf fs.length cf, .bool dn, iN .i64 lf, .slice pz nz cz])]))
        have hR3 : Row 75 3 v2 (wkR fs ks (i + 1)).length (fcl (wkR fs ks (i + 1))) L2 := by rw [wkR_succ hf, fcl_snoc, List.length_append]; unfold cutR; rw [hst]; exact hR2
        refine wl_val (v2) (by kernel_rfl) (by kernel_rfl) ?_
        refine wl_nil ?_
        refine block_normal ?_
        refine then_at rfl ?_
        refine wl_region ?_
        refine wl_val (iN .i64 i) (by kernel_rfl) (by kernel_rfl) ?_
        refine wl_val (iN .i64 (i + 1)) (by kernel_rfl) (run_add (k := .i64) (a := i) (b := 1) (by kernel_rfl) (by kernel_rfl) (by first | omega | (simp only [top]; omega))) ?_
        refine wl_val (iN .i64 (i + 1)) (by kernel_rfl) (by kernel_rfl) ?_
        refine wl_nil ?_
        exact then_I ⟨fun ii => (([(5, v2), (7, .pointer (some ⟨q9, 0, none⟩)), (8, iN .i64 (f.b.size - f.sy)), (9, iN .i64 st), (10, iN .i64 i), (11, .pointer (some ⟨q1, 1, none⟩)), (12, .slice pf fs.length cf), (13, iN .i64 fs.length), (14, .bool true), (15, iN .i64 i), (16, iN .i64 (i + 1)), (17, .pointer (some ⟨q1, 1, none⟩)), (18, .slice pf fs.length cf), (19, iN .i64 i), (20, .pointer (some ⟨gF, 3 * i, none⟩)), (21, .agg #[.string f.nm, .string f.b, iN .i64 f.sy]), (22, .pointer (some ⟨q9, 1, none⟩)), (23, .string f.b), (24, iN .i64 f.b.size), (25, .pointer (some ⟨q9, 2, none⟩)), (26, iN .i64 f.sy), (27, iN .i64 (f.b.size - f.sy)), (28, iN .i64 i), (29, .slice ko ks.length kc), (30, iN .i64 ks.length), (31, .bool true), (32, .slice ko ks.length kc), (33, iN .i64 i), (34, .pointer (some (kb.add i))), (35, .int .i64 (ks.getD i 0)), (36, iN .i64 (f.b.size - f.sy)), (37, iN .i64 ((f.b.size - f.sy) + 1)), (38, iN .i64 st), (39, iN .i64 st), (40, .bool false), (41, u7 41), (42, u7 42), (43, u7 43), (44, u7 44), (45, .pointer (some ⟨q9, 1, none⟩)), (46, .string f.b), (47, .pointer (some ⟨q9, 2, none⟩)), (48, iN .i64 f.sy), (49, iN .i64 st), (50, iN .i64 (f.sy + st)), (51, .string (f.b.extract 0 (f.sy + st))), (52, .pointer (some ⟨q9, 1, none⟩)), (53, .pointer (some ⟨q9, 1, none⟩)), (54, .string (f.b.extract 0 (f.sy + st))), (55, iN .i64 ((f.b.extract 0 (f.sy + st)).size)), (56, .pointer (some ⟨q9, 2, none⟩)), (57, u7 5), (58, .agg (#[.string f.nm, .string (f.b.extract 0 (f.sy + st)), iN .i64 ((f.b.extract 0 (f.sy + st)).size)])), (59, .slice (some ⟨q29, 0, none⟩) 1 1), (60, v2)] : List (Nat × Value)).find? (·.1 == ii)).elim undef (·.2), by kernel_rfl, ⟨L2, by exact hR3, HA.sub h35 (List.Sublist.cons _ (List.Sublist.cons_cons _ (List.Sublist.cons_cons _ (List.Sublist.refl _))))⟩⟩
    · have hg0 : (ks.getD i 0) = 0 := by rw [List.getD_eq_getElem?_getD, List.getElem?_eq_none (by omega)]; rfl
      have hs0 : st = 0 := by rw [← hst, hg0]; exact st_zero _
      subst hs0
      refine wl_region ?_
      refine wl_val (iN .i64 i) (by kernel_rfl) (by kernel_rfl) ?_
      refine wl_val (.slice ko ks.length kc) (by kernel_rfl) (by kernel_rfl) ?_
      refine wl_val (iN .i64 ks.length) (by kernel_rfl) (by kernel_rfl) ?_
      refine wl_val (.bool false) (by kernel_rfl) (run_lss (k := .i64) (a := i) (b := ks.length) (by kernel_rfl) (by kernel_rfl) false (decide_eq_false hik)) ?_
      refine wl_nil ?_
      refine then_at rfl ?_
      refine wp_cond_false (by kernel_rfl) ?_
      refine wp_skip ?_
      refine then_at rfl ?_
      refine wp_seq ?_
      refine wl_region ?_
      refine wl_val (.pointer (some ⟨q9, 1, none⟩)) (by kernel_rfl) (by kernel_rfl) ?_
      refine wl_val (.string f.b) (by kernel_rfl) (run_load1 (fun w => Try.isAgg9 w) (by kernel_rfl) (((h13.get 0 rfl).cell 1).trans rfl)) ?_
      refine wl_val (.pointer (some ⟨q9, 2, none⟩)) (by kernel_rfl) (by kernel_rfl) ?_
      refine wl_val (iN .i64 f.sy) (by kernel_rfl) (run_load1 (fun w => Try.isAgg3 w) (by kernel_rfl) (((h13.get 0 rfl).cell 2).trans rfl)) ?_
      refine wl_val (iN .i64 0) (by kernel_rfl) (by kernel_rfl) ?_
      refine wl_val (iN .i64 (f.sy + 0)) (by kernel_rfl) (run_add (k := .i64) (a := f.sy) (b := 0) (by kernel_rfl) (by kernel_rfl) (by first | omega | (simp only [top]; omega))) ?_
      refine wl_val (.string (f.b.extract 0 (f.sy + 0))) (by kernel_rfl) (run_cut_hi (s := f.b) (b := f.sy + 0) (by kernel_rfl) (by kernel_rfl) (by omega)) ?_
      refine wl_val (.pointer (some ⟨q9, 1, none⟩)) (by kernel_rfl) (by kernel_rfl) ?_
      refine wl_putv (v := .string (f.b.extract 0 (f.sy + 0))) h13 0 rfl 1 (by show 1 < 3; decide) (by kernel_rfl) (fun w => Try.sizeOf9 w) (by kernel_rfl) (by kernel_rfl) (by kernel_rfl) ?_
      intro w36 (h37 : HA (bs w) ((q9, 75, #[.string f.nm, .string (f.b.extract 0 (f.sy + 0)), iN .i64 f.sy]) :: (q4, 28, #[iN .i64 0, .slice none 0 0, .bool false, iN .i64 0, .slice none 0 0]) :: (q1, 28, #[iN .i64 rm, .slice pf fs.length cf, .bool dn, iN .i64 lf, .slice pz nz cz]) :: Lb) w36)
      refine wl_nil ?_
      refine then_at (F := ⟨(.agg #[iN .i64 rm, .slice pf fs.length cf, .bool dn, iN .i64 lf, .slice pz nz cz] :: .slice ko ks.length kc :: pt q1 :: un :: pt q4 :: u7 5 :: iN .i64 i :: pt q9 :: iN .i64 (f.b.size - f.sy) :: iN .i64 0 :: iN .i64 i :: .pointer (some ⟨q1, 1, none⟩) :: .slice pf fs.length cf :: iN .i64 fs.length :: .bool true :: u7 15 :: u7 16 :: .pointer (some ⟨q1, 1, none⟩) :: .slice pf fs.length cf :: iN .i64 i :: .pointer (some ⟨gF, 3 * i, none⟩) :: .agg #[.string f.nm, .string f.b, iN .i64 f.sy] :: .pointer (some ⟨q9, 1, none⟩) :: .string f.b :: iN .i64 f.b.size :: .pointer (some ⟨q9, 2, none⟩) :: iN .i64 f.sy :: iN .i64 (f.b.size - f.sy) :: iN .i64 i :: .slice ko ks.length kc :: iN .i64 ks.length :: .bool false :: u7 32 :: u7 33 :: u7 34 :: u7 35 :: u7 36 :: u7 37 :: u7 38 :: u7 39 :: u7 40 :: u7 41 :: u7 42 :: u7 43 :: u7 44 :: .pointer (some ⟨q9, 1, none⟩) :: .string f.b :: .pointer (some ⟨q9, 2, none⟩) :: iN .i64 f.sy :: iN .i64 0 :: iN .i64 (f.sy + 0) :: .string (f.b.extract 0 (f.sy + 0)) :: .pointer (some ⟨q9, 1, none⟩) :: u7 53 :: u7 54 :: u7 55 :: u7 56 :: u7 57 :: u7 58 :: u7 59 :: u7 60 :: List.replicate 5 un).toArray, []⟩) (by kernel_rfl) ?_
      refine wp_seq ?_
      refine wl_region ?_
      refine wl_val (.pointer (some ⟨q9, 1, none⟩)) (by kernel_rfl) (by kernel_rfl) ?_
      refine wl_val (.string (f.b.extract 0 (f.sy + 0))) (by kernel_rfl) (run_load1 (fun w => Try.isAgg9 w) (by kernel_rfl) (((h37.get 0 rfl).cell 1).trans rfl)) ?_
      refine wl_val (iN .i64 ((f.b.extract 0 (f.sy + 0)).size)) (by kernel_rfl) (run_len (s := f.b.extract 0 (f.sy + 0)) (by kernel_rfl)) ?_
      refine wl_val (.pointer (some ⟨q9, 2, none⟩)) (by kernel_rfl) (by kernel_rfl) ?_
      refine wl_putv (v := iN .i64 ((f.b.extract 0 (f.sy + 0)).size)) h37 0 rfl 2 (by show 2 < 3; decide) (by kernel_rfl) (fun w => Try.sizeOf3 w) (by kernel_rfl) (by kernel_rfl) (by kernel_rfl) ?_
      intro w38 (h39 : HA (bs w) ((q9, 75, #[.string f.nm, .string (f.b.extract 0 (f.sy + 0)), iN .i64 ((f.b.extract 0 (f.sy + 0)).size)]) :: (q4, 28, #[iN .i64 0, .slice none 0 0, .bool false, iN .i64 0, .slice none 0 0]) :: (q1, 28, #[iN .i64 rm, .slice pf fs.length cf, .bool dn, iN .i64 lf, .slice pz nz cz]) :: Lb) w38)
      refine wl_nil ?_
      refine then_at rfl ?_
      refine wl_region ?_
      refine wl_val (u7 5) (by kernel_rfl) (by kernel_rfl) ?_
      refine wl_load h39 0 rfl (by kernel_rfl) (by kernel_rfl) Try.underlying75 rfl (by kernel_rfl) ?_
      refine wl_mks (n := 1) (m := 1) (c := #[.string f.nm, .string (f.b.extract 0 (f.sy + 0)), iN .i64 ((f.b.extract 0 (f.sy + 0)).size)]) h39 75 (by kernel_rfl) (by kernel_rfl) ?_
      intro q40 w41 (h42 : HA (bs w) ((q40, 75, #[.string f.nm, .string (f.b.extract 0 (f.sy + 0)), iN .i64 ((f.b.extract 0 (f.sy + 0)).size)]) :: (q9, 75, #[.string f.nm, .string (f.b.extract 0 (f.sy + 0)), iN .i64 ((f.b.extract 0 (f.sy + 0)).size)]) :: (q4, 28, #[iN .i64 0, .slice none 0 0, .bool false, iN .i64 0, .slice none 0 0]) :: (q1, 28, #[iN .i64 rm, .slice pf fs.length cf, .bool dn, iN .i64 lf, .slice pz nz cz]) :: Lb) w41)
      have h43 : HA (bs w) ((q40, 75, #[.string f.nm, .string (f.b.extract 0 (f.sy + 0)), iN .i64 ((f.b.extract 0 (f.sy + 0)).size)]) :: (Lb ++ [(q9, 75, #[.string f.nm, .string (f.b.extract 0 (f.sy + 0)), iN .i64 ((f.b.extract 0 (f.sy + 0)).size)]), (q4, 28, #[iN .i64 0, .slice none 0 0, .bool false, iN .i64 0, .slice none 0 0]), (q1, 28, #[iN .i64 rm, .slice pf fs.length cf, .bool dn, iN .i64 lf, .slice pz nz cz])])) w41 := HA.perm h42 (List.Perm.cons _ (List.perm_append_comm (l₁ := [(q9, 75, #[.string f.nm, .string (f.b.extract 0 (f.sy + 0)), iN .i64 ((f.b.extract 0 (f.sy + 0)).size)]), (q4, 28, #[iN .i64 0, .slice none 0 0, .bool false, iN .i64 0, .slice none 0 0]), (q1, 28, #[iN .i64 rm, .slice pf fs.length cf, .bool dn, iN .i64 lf, .slice pz nz cz])]) (l₂ := Lb)))
      refine wl_append (m := 1) (c := 1) (Lr := Lb) hR h43 (by decide) _ 40 Try.underlying25 info75 rfl (by decide) (by kernel_rfl) (by kernel_rfl) (by kernel_rfl) rfl (by kernel_rfl) (by unfold maxLen; omega) (by omega) (by decide) ?_
      intro v2 w44 L2 hR2 h45
      have h46 : HA (bs w) ((q9, 75, #[.string f.nm, .string (f.b.extract 0 (f.sy + 0)), iN .i64 ((f.b.extract 0 (f.sy + 0)).size)]) :: (q4, 28, #[iN .i64 0, .slice none 0 0, .bool false, iN .i64 0, .slice none 0 0]) :: (q1, 28, #[iN .i64 rm, .slice pf fs.length cf, .bool dn, iN .i64 lf, .slice pz nz cz]) :: L2) w44 := HA.perm h45 (List.perm_append_comm (l₁ := L2) (l₂ := [(q9, 75, #[.string f.nm, .string (f.b.extract 0 (f.sy + 0)), iN .i64 ((f.b.extract 0 (f.sy + 0)).size)]), (q4, 28, #[iN .i64 0, .slice none 0 0, .bool false, iN .i64 0, .slice none 0 0]), (q1, 28, #[iN .i64 rm, .slice pf fs.length cf, .bool dn, iN .i64 lf, .slice pz nz cz])]))
      have hR3 : Row 75 3 v2 (wkR fs ks (i + 1)).length (fcl (wkR fs ks (i + 1))) L2 := by rw [wkR_succ hf, fcl_snoc, List.length_append]; unfold cutR; rw [hst]; exact hR2
      refine wl_val (v2) (by kernel_rfl) (by kernel_rfl) ?_
      refine wl_nil ?_
      refine block_normal ?_
      refine then_at rfl ?_
      refine wl_region ?_
      refine wl_val (iN .i64 i) (by kernel_rfl) (by kernel_rfl) ?_
      refine wl_val (iN .i64 (i + 1)) (by kernel_rfl) (run_add (k := .i64) (a := i) (b := 1) (by kernel_rfl) (by kernel_rfl) (by first | omega | (simp only [top]; omega))) ?_
      refine wl_val (iN .i64 (i + 1)) (by kernel_rfl) (by kernel_rfl) ?_
      refine wl_nil ?_
      exact then_I ⟨fun ii => (([(5, v2), (7, .pointer (some ⟨q9, 0, none⟩)), (8, iN .i64 (f.b.size - f.sy)), (9, iN .i64 0), (10, iN .i64 i), (11, .pointer (some ⟨q1, 1, none⟩)), (12, .slice pf fs.length cf), (13, iN .i64 fs.length), (14, .bool true), (15, iN .i64 i), (16, iN .i64 (i + 1)), (17, .pointer (some ⟨q1, 1, none⟩)), (18, .slice pf fs.length cf), (19, iN .i64 i), (20, .pointer (some ⟨gF, 3 * i, none⟩)), (21, .agg #[.string f.nm, .string f.b, iN .i64 f.sy]), (22, .pointer (some ⟨q9, 1, none⟩)), (23, .string f.b), (24, iN .i64 f.b.size), (25, .pointer (some ⟨q9, 2, none⟩)), (26, iN .i64 f.sy), (27, iN .i64 (f.b.size - f.sy)), (28, iN .i64 i), (29, .slice ko ks.length kc), (30, iN .i64 ks.length), (31, .bool false), (32, u7 32), (33, u7 33), (34, u7 34), (35, u7 35), (36, u7 36), (37, u7 37), (38, u7 38), (39, u7 39), (40, u7 40), (41, u7 41), (42, u7 42), (43, u7 43), (44, u7 44), (45, .pointer (some ⟨q9, 1, none⟩)), (46, .string f.b), (47, .pointer (some ⟨q9, 2, none⟩)), (48, iN .i64 f.sy), (49, iN .i64 0), (50, iN .i64 (f.sy + 0)), (51, .string (f.b.extract 0 (f.sy + 0))), (52, .pointer (some ⟨q9, 1, none⟩)), (53, .pointer (some ⟨q9, 1, none⟩)), (54, .string (f.b.extract 0 (f.sy + 0))), (55, iN .i64 ((f.b.extract 0 (f.sy + 0)).size)), (56, .pointer (some ⟨q9, 2, none⟩)), (57, u7 5), (58, .agg (#[.string f.nm, .string (f.b.extract 0 (f.sy + 0)), iN .i64 ((f.b.extract 0 (f.sy + 0)).size)])), (59, .slice (some ⟨q40, 0, none⟩) 1 1), (60, v2)] : List (Nat × Value)).find? (·.1 == ii)).elim undef (·.2), by kernel_rfl, ⟨L2, by exact hR3, HA.sub h46 (List.Sublist.cons _ (List.Sublist.cons_cons _ (List.Sublist.cons_cons _ (List.Sublist.refl _))))⟩⟩
  · rintro _ w47 ⟨u7, rfl, ⟨Lb, hR, hA⟩⟩
    have hwl := wkR_len fs ks fs.length
    refine wp_seq ?_
    refine wp_seq ?_
    refine wl_region ?_
    refine wl_val (iN .i64 fs.length) (by kernel_rfl) (by kernel_rfl) ?_
    refine wl_val (.pointer (some ⟨q1, 1, none⟩)) (by kernel_rfl) (by kernel_rfl) ?_
    refine wl_val (.slice pf fs.length cf) (by kernel_rfl) (run_load1 (fun w => Try.isAgg25 w) (by kernel_rfl) (((hA.get 1 rfl).cell 1).trans rfl)) ?_
    refine wl_val (iN .i64 fs.length) (by kernel_rfl) (by kernel_rfl) ?_
    refine wl_val (.bool false) (by kernel_rfl) (run_lss (k := .i64) (a := fs.length) (b := fs.length) (by kernel_rfl) (by kernel_rfl) false (decide_eq_false (by omega))) ?_
    refine wl_nil ?_
    refine then_at rfl ?_
    refine wp_cond_false (by kernel_rfl) ?_
    refine wp_exit ?_
    repeat first | refine then_exit ?_ | refine block_exit ?_ | refine block_exit_ne (by decide) ?_
    refine then_at rfl ?_
    refine wp_seq ?_
    obtain ⟨p2, c2, e5⟩ := hR.form
    rw [e5]
    rw [e5] at hR
    refine wl_region ?_
    refine wl_val (.slice p2 (wkR fs ks fs.length).length c2) (by kernel_rfl) (by kernel_rfl) ?_
    refine wl_val (.pointer (some ⟨q1, 1, none⟩)) (by kernel_rfl) (by kernel_rfl) ?_
    refine wl_putv (v := .slice p2 (wkR fs ks fs.length).length c2) hA 1 rfl 1 (by show 1 < 5; decide) (by kernel_rfl) (fun w => Try.sizeOf25 w) (by kernel_rfl) (by kernel_rfl) (by kernel_rfl) ?_
    intro w48 (h49 : HA (bs w) ((q4, 28, #[iN .i64 0, .slice none 0 0, .bool false, iN .i64 0, .slice none 0 0]) :: (q1, 28, #[iN .i64 rm, .slice p2 (wkR fs ks fs.length).length c2, .bool dn, iN .i64 lf, .slice pz nz cz]) :: Lb) w48)
    refine wl_nil ?_
    refine then_at rfl ?_
    refine wp_seq ?_
    refine wl_region ?_
    refine wl_val (.pointer (some ⟨q1, 2, none⟩)) (by kernel_rfl) (by kernel_rfl) ?_
    refine wl_putv (v := .bool false) h49 1 rfl 2 (by show 2 < 5; decide) (by kernel_rfl) (fun w => Try.sizeOf4 w) (by kernel_rfl) (by kernel_rfl) (by kernel_rfl) ?_
    intro w50 (h51 : HA (bs w) ((q4, 28, #[iN .i64 0, .slice none 0 0, .bool false, iN .i64 0, .slice none 0 0]) :: (q1, 28, #[iN .i64 rm, .slice p2 (wkR fs ks fs.length).length c2, .bool false, iN .i64 lf, .slice pz nz cz]) :: Lb) w50)
    refine wl_nil ?_
    refine then_at (F := ⟨(.agg #[iN .i64 rm, .slice pf fs.length cf, .bool dn, iN .i64 lf, .slice pz nz cz] :: .slice ko ks.length kc :: pt q1 :: un :: pt q4 :: .slice p2 (wkR fs ks fs.length).length c2 :: iN .i64 fs.length :: u7 7 :: u7 8 :: u7 9 :: iN .i64 fs.length :: .pointer (some ⟨q1, 1, none⟩) :: .slice pf fs.length cf :: iN .i64 fs.length :: .bool false :: u7 15 :: u7 16 :: u7 17 :: u7 18 :: u7 19 :: u7 20 :: u7 21 :: u7 22 :: u7 23 :: u7 24 :: u7 25 :: u7 26 :: u7 27 :: u7 28 :: u7 29 :: u7 30 :: u7 31 :: u7 32 :: u7 33 :: u7 34 :: u7 35 :: u7 36 :: u7 37 :: u7 38 :: u7 39 :: u7 40 :: u7 41 :: u7 42 :: u7 43 :: u7 44 :: u7 45 :: u7 46 :: u7 47 :: u7 48 :: u7 49 :: u7 50 :: u7 51 :: u7 52 :: u7 53 :: u7 54 :: u7 55 :: u7 56 :: u7 57 :: u7 58 :: u7 59 :: u7 60 :: .slice p2 (wkR fs ks fs.length).length c2 :: .pointer (some ⟨q1, 1, none⟩) :: .pointer (some ⟨q1, 2, none⟩) :: List.replicate 2 un).toArray, []⟩) (by kernel_rfl) ?_
    refine wp_seq ?_
    refine wl_region ?_
    refine wl_val (.pointer (some ⟨q1, 3, none⟩)) (by kernel_rfl) (by kernel_rfl) ?_
    refine wl_putv (v := iN .i64 0) h51 1 rfl 3 (by show 3 < 5; decide) (by kernel_rfl) (fun w => Try.sizeOf3 w) (by kernel_rfl) (by kernel_rfl) (by kernel_rfl) ?_
    intro w52 (h53 : HA (bs w) ((q4, 28, #[iN .i64 0, .slice none 0 0, .bool false, iN .i64 0, .slice none 0 0]) :: (q1, 28, #[iN .i64 rm, .slice p2 (wkR fs ks fs.length).length c2, .bool false, iN .i64 0, .slice pz nz cz]) :: Lb) w52)
    refine wl_nil ?_
    refine then_at rfl ?_
    refine wp_seq ?_
    refine wl_region ?_
    refine wl_load h53 1 rfl (by kernel_rfl) (by kernel_rfl) Try.underlying28 rfl (by kernel_rfl) ?_
    refine wl_fill (c' := #[iN .i64 rm, .slice p2 (wkR fs ks fs.length).length c2, .bool false, iN .i64 0, .slice pz nz cz]) h53 0 rfl (by kernel_rfl) (by kernel_rfl) (by kernel_rfl) rfl (by kernel_rfl) (by kernel_rfl) ?_
    intro w54 (h55 : HA (bs w) ((q4, 28, #[iN .i64 rm, .slice p2 (wkR fs ks fs.length).length c2, .bool false, iN .i64 0, .slice pz nz cz]) :: (q1, 28, #[iN .i64 rm, .slice p2 (wkR fs ks fs.length).length c2, .bool false, iN .i64 0, .slice pz nz cz]) :: Lb) w54)
    refine wl_nil ?_
    refine then_at rfl ?_
    refine wp_ret ?_
    repeat first | refine then_ret ?_ | refine block_ret ?_
    exact bodyPost_ret (v := .agg (#[iN .i64 rm, .slice p2 (wkR fs ks fs.length).length c2, .bool false, iN .i64 0, .slice pz nz cz])) (res_cell (p := 4) (by kernel_rfl) (by kernel_rfl) (h55.get 0 rfl) Try.underlying28 rfl (by kernel_rfl)) rfl ⟨p2, c2, Lb, rfl, Row.rffl rfl hR, HA.newerN (HA.perm h55 (List.perm_append_comm (l₁ := [(q4, 28, #[iN .i64 rm, .slice p2 (wkR fs ks fs.length).length c2, .bool false, iN .i64 0, .slice pz nz cz]), (q1, 28, #[iN .i64 rm, .slice p2 (wkR fs ks fs.length).length c2, .bool false, iN .i64 0, .slice pz nz cz])]) (l₂ := Lb))), h55.old.old⟩
end Go.Proofs.Ytjedhnjjgmbcbaa
