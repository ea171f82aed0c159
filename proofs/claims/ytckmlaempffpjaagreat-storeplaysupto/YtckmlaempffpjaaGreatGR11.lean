/-
 The reference's Same.
-/
import Derived.Test.YtckmlaempffpjaaGreatGR8
import Derived.Sort.Walk0
namespace Go.Proofs.YtckmlaempffpjaaGreat
set_option linter.unusedVariables false
set_option maxRecDepth 100000
set_option maxHeartbeats 2000000
open Go.RowKit Go.Proofs.Tryz
def RTx (w : World) (o : Option Addr) (ss : List ByteArray) : Prop := ss = [] ∨ ∃ g cu, o = some ⟨g, 0, none⟩ ∧ Blk w g 9 cu ∧ ∀ i, i < ss.length → cu[i]? = some (.string (ss.getD i ByteArray.empty))
section
variable {ρ : Operand → Value} {x y : Operand} {w : World} {dst : Option Tmp} {T T2 ty : TypeId} {pos : String} {aft : Array Edge} {gd : Option (Nat × Bool)}
theorem run_addr50p {p : Option Addr} {q n m a : Nat} (hp : p = some ⟨q, 0, none⟩) (hx : ρ x = .slice p n m) (hy : ρ y = i6 a) (ha : a < n) : (execOp ρ ⟨dst, .indexAddr 39 x y, ty, pos, aft, gd⟩).run prog w = .ok (.value (.pointer (some ⟨q, a, none⟩))) w := by
 subst hp;exact run_addr_slice underlying39 sizeOf9 hx hy ha
end
theorem rsame_eq {w : World} {ss : List ByteArray} {o1 o2 : Option Addr} {c1 c2 : Nat} (h1 : RTx w o1 ss) (h2 : RTx w o2 ss) (hl : ss.length ≤ 1000000000) :
  Calls prog 39 #[.slice o1 ss.length c1, .slice o2 ss.length c2] w fun e w' => e = .returned (.bool true) ∧ Below w.heap.size w w' := by
 have H0 := HA.start w
 go_enter Tryz.func39, Tryz.ntmps39
 refine zsr (zv (znt (wp_seq (zsr (zv (zv (zv (zv ?_))))))));refine zwu (run_nei (k := .i64) (a := ss.length) (b := ss.length) false (by simp)) ?_;refine znt (zcf (wp_skip (zt (wp_seq (zsr (zv (znt ?_)))))));refine wp_block ?_;refine zcn (fun Z0 i A w' => ∃ u1 : Nat → Value, A = pts Z0 [(4, u1 4), (5, i6 i), (11, u1 11), (12, u1 12), (13, u1 13), (14, u1 14), (15, u1 15), (16, u1 16), (17, u1 17), (18, u1 18), (19, u1 19), (20, u1 20), (21, u1 21), (22, u1 22), (23, u1 23), (24, u1 24), (25, u1 25)] ∧ HA (bs w) [] w') ss.length ?_ ?_ ?_
 ·exact zey [] H0
 ·rintro i hi _ w2 ⟨u1, rfl, h3⟩;obtain ⟨g1, cu1, ho1, hb1, hc1⟩ := h1.resolve_left (fun e => by rw [e] at hi; cases hi);obtain ⟨g2, cu2, ho2, hb2, hc2⟩ := h2.resolve_left (fun e => by rw [e] at hi; cases hi);refine wp_seq (zsr (zv (zv (zv ?_))));refine zwu (run_lss (k := .i64) (a := i) (b := ss.length) true (dt (by omega))) ?_;refine znt (zct (wp_skip (zt (wp_seq ?_))));refine wp_block ?_;refine wp_seq ?_;refine zrs ⟨(.slice o1 ss.length c1 :: .slice o2 ss.length c2 :: un :: un :: u1 4 :: i6 i :: .slice o1 ss.length c1 :: i6 ss.length :: .slice o2 ss.length c2 :: i6 ss.length :: .bool false :: i6 i :: .slice o1 ss.length c1 :: i6 ss.length :: .bool true :: u1 15 :: u1 16 :: .slice o1 ss.length c1 :: i6 i :: .pointer (some ⟨g1, i, none⟩) :: .string (ss.getD i ByteArray.empty) :: .slice o2 ss.length c2 :: i6 i :: .pointer (some ⟨g2, i, none⟩) :: .string (ss.getD i ByteArray.empty) :: .bool false :: List.replicate 0 un).toArray, []⟩ (HA (bs w) []) h3.drew ?_ ?_
  ·refine zsp (.slice o1 ss.length c1) ?_;refine zsp (i6 i) ?_;refine zst (v := .pointer (some ⟨g1, i, none⟩)) (fun _ _ => (run_addr50p (q := g1) (n := ss.length) (m := c1) (a := i) ho1 (by kernel_rfl) (by kernel_rfl) hi)) ?_;refine zst (v := .string (ss.getD i ByteArray.empty)) (fun w' h' => run_load1 isAgg9 (((hb1.keep h'.old.old).cell i).trans (hc1 i hi))) ?_;refine zsp (.slice o2 ss.length c2) ?_;refine zsp (i6 i) ?_;refine zst (v := .pointer (some ⟨g2, i, none⟩)) (fun _ _ => (run_addr50p (q := g2) (n := ss.length) (m := c2) (a := i) ho2 (by kernel_rfl) (by kernel_rfl) hi)) ?_;refine zst (v := .string (ss.getD i ByteArray.empty)) (fun w' h' => run_load1 isAgg9 (((hb2.keep h'.old.old).cell i).trans (hc2 i hi))) ?_;refine zst (fun _ _ => (run_nes (s := ss.getD i ByteArray.empty) (t := ss.getD i ByteArray.empty) false (dt rfl))) ?_;exact AllSure.nil
  intro w4 h5;refine zt (zcf (wp_skip ?_));refine block_normal ?_;refine zt (wl_region (zv ?_));refine zwu (run_add (k := .i64) (a := i) (b := 1) (by first | omega | (simp only [top]; omega))) ?_;refine zv (wl_nil ?_);exact then_I (zey [] h5)
 ·rintro _ w6 ⟨u1, rfl, h7⟩;refine wp_seq (zsr (zv (zv (zv ?_))));refine zwu (run_lss (k := .i64) (a := ss.length) (b := ss.length) false (df (by omega))) ?_;refine znt (zcf ?_);refine wp_exit ?_
  repeat first | refine then_exit ?_ | refine block_exit ?_ | refine block_exit_ne (by decide) ?_
  refine zt (zsr (zv (znt ?_)));refine wp_ret ?_
  repeat first|refine zrt ?_|refine block_ret ?_
  exact zb ⟨rfl, h7.old.old⟩
section
variable {ρ : Operand → Value} {x y : Operand} {w : World} {dst : Option Tmp} {T T2 ty : TypeId} {pos : String} {aft : Array Edge} {gd : Option (Nat × Bool)} {P : Program}
theorem tm_lo (z : Int) (u : Nat) : -((u : Int) + 1) < z.tmod ((u : Int) + 1) := by
 have := Int.tmod_lt_of_pos (-z) (show (0 : Int) < (u : Int) + 1 by omega);rw [Int.neg_tmod] at this
 omega
theorem tm_pos {z : Int} {u : Nat} (h : ¬ z.tmod ((u : Int) + 1) < 0) : z.tmod ((u : Int) + 1) = (stayN z u : Int) := by
 have h3 := Int.tmod_lt_of_pos z (show (0 : Int) < (u : Int) + 1 by omega);have e := stay_eq z u;have e2 : (z.tmod ((u : Int) + 1) + ((u : Int) + 1)).toNat = (z.tmod ((u : Int) + 1)).toNat + (u + 1) := by omega
 rw [e2, Nat.add_mod_right, Nat.mod_eq_of_lt (by omega)] at e
 omega
theorem tm_neg {z : Int} {u : Nat} (h : z.tmod ((u : Int) + 1) < 0) : z.tmod ((u : Int) + 1) + (u : Int) + 1 = (stayN z u : Int) := by
 have h3 := tm_lo z u;have e := stay_eq z u;rw [Nat.mod_eq_of_lt (by omega)] at e
 omega
theorem run_remst {z : Int} {u st : Nat} (hu : u + 1 ≤ 9223372036854775807) (hz : ¬ z.tmod ((u : Int) + 1) < 0) (hst : stayN z u = st) (hx : ρ x = .int .i64 z) (hy : ρ y = i6 (u + 1)) : (execOp ρ ⟨dst, .binOp .rem T x y T2, ty, pos, aft, gd⟩).run P w = .ok (.value (i6 st)) w := by
 rw [run_remz hu (hx := hx) (hy := hy), tm_pos hz, hst]; rfl
theorem run_addzu {z : Int} {u : Nat} (hu : u ≤ 1099511627776) (hx : ρ x = .int .i64 (z.tmod ((u : Int) + 1))) (hy : ρ y = i6 u) : (execOp ρ ⟨dst, .binOp .add T x y T2, ty, pos, aft, gd⟩).run P w = .ok (.value (.int .i64 (z.tmod ((u : Int) + 1) + (u : Int)))) w := by
 have h3 := Int.tmod_lt_of_pos z (show (0 : Int) < (u : Int) + 1 by omega);have h4 := tm_lo z u
 simp only [execOp, hx, hy, iN]
 simp [binOp, go_sem]
 rw [wrap_id (by omega) (by omega)]
theorem run_addz1 {z : Int} {u st : Nat} (hu : u ≤ 1099511627776) (hz : z.tmod ((u : Int) + 1) < 0) (hst : stayN z u = st) (hx : ρ x = .int .i64 (z.tmod ((u : Int) + 1) + (u : Int))) (hy : ρ y = i6 1) : (execOp ρ ⟨dst, .binOp .add T x y T2, ty, pos, aft, gd⟩).run P w = .ok (.value (i6 st)) w := by
 have h4 := tm_lo z u;have e := tm_neg hz;rw [hst] at e
 simp only [execOp, hx, hy, iN]
 simp [binOp, go_sem]
 rw [wrap_id (by omega) (by omega)]
 omega
end
def cutR (f : RF) (z : Int) : RF := ⟨f.nm, f.b.extract 0 (f.sy + stayN z (f.b.size - f.sy)), (f.b.extract 0 (f.sy + stayN z (f.b.size - f.sy))).size⟩
def wkR (fs : List RF) (ks : List Int) (k : Nat) : List RF := (fs.mapIdx fun i f => cutR f (ks.getD i 0)).take k
theorem wkR_succ {fs : List RF} {ks : List Int} {i : Nat} {f : RF} (h : fs[i]? = some f) : wkR fs ks (i + 1) = wkR fs ks i ++ [cutR f (ks.getD i 0)] := by
 unfold wkR
 rw [List.take_add_one, List.getElem?_mapIdx, h]
 rfl
theorem wkR_len (fs : List RF) (ks : List Int) (k : Nat) : (wkR fs ks k).length ≤ fs.length := by
 unfold wkR
 rw [List.length_take, List.length_mapIdx]
 omega
theorem st_zero (u : Nat) : stayN 0 u = 0 := by unfold stayN; simp
theorem rwake_any {w : World} {rm lf nz cz cf : Nat} {pf pz : Option Addr} {fs : List RF} {N : BL} (hF : RFL (.slice pf fs.length cf) fs N) (hS : Stand w N) (hfl : fs.length ≤ 100000) {dn : Bool} {ko : Option Addr} {kc : Nat} (ks : List Int) (hks : ks = [] ∨ ∃ b, ko = some b ∧ ∀ j, j < ks.length → w.cell? (b.add j) = some (.int .i64 (ks.getD j 0))) (hsyn : ∀ f ∈ fs, f.sy ≤ f.b.size) (hbig : ∀ f ∈ fs, f.b.size ≤ 1000000000) (hkl : ks.length ≤ 1000000000) :
  Calls prog 30 #[.agg (d5 rm pf fs.length cf dn lf pz nz cz), .slice ko ks.length kc] w fun e w' => ∃ p c N', e = .returned (.agg (d5 rm p (wkR fs ks fs.length).length c false 0 pz nz cz)) ∧ RFL (.slice p (wkR fs ks fs.length).length c) (wkR fs ks fs.length) N' ∧ Newer w.heap.size w' N' ∧ Below w.heap.size w w' := by
 have H0 := HA.start w
 go_enter Tryz.func30, Tryz.ntmps30
 refine zsr ?_;refine wl_make (c := (d5 rm pf fs.length cf dn lf pz nz cz)) H0 29 ?_;intro q1 w2 h3;refine wl_make (c := (d5 0 none 0 0 false 0 none 0 0)) h3 29 ?_;intro q4 w5 h6;refine znt (zsr (zv (znt (wp_seq (zsr (zv (znt ?_)))))));refine wp_block ?_;refine wp_count (fun i A w' => ∃ u7 : Nat → Value, A = ⟨(.agg (d5 rm pf fs.length cf dn lf pz nz cz) :: .slice ko ks.length kc :: pt q1 :: un :: pt q4 :: u7 5 :: i6 i :: u7 7 :: u7 8 :: u7 9 :: u7 10 :: u7 11 :: u7 12 :: u7 13 :: u7 14 :: u7 15 :: u7 16 :: u7 17 :: u7 18 :: u7 19 :: u7 20 :: u7 21 :: u7 22 :: u7 23 :: u7 24 :: u7 25 :: u7 26 :: u7 27 :: u7 28 :: u7 29 :: u7 30 :: u7 31 :: u7 32 :: u7 33 :: u7 34 :: u7 35 :: u7 36 :: u7 37 :: u7 38 :: u7 39 :: u7 40 :: u7 41 :: u7 42 :: u7 43 :: u7 44 :: u7 45 :: u7 46 :: u7 47 :: u7 48 :: u7 49 :: u7 50 :: u7 51 :: u7 52 :: u7 53 :: u7 54 :: u7 55 :: u7 56 :: u7 57 :: u7 58 :: u7 59 :: u7 60 :: List.replicate 5 un).toArray, []⟩ ∧ ∃ Lb, Row 127 3 (u7 5) (wkR fs ks i).length (fcl (wkR fs ks i)) Lb ∧ HA (bs w) ((q4, 29, (d5 0 none 0 0 false 0 none 0 0)) :: (q1, 29, (d5 rm pf fs.length cf dn lf pz nz cz)) :: Lb) w') fs.length ?_ ?_ ?_
 ·exact zey [(5, .slice none 0 0)] (⟨[], by exact Row.nil 127 3, h6⟩)
 ·rintro i hi _ w8 ⟨u7, rfl, ⟨Lb, hR, hA⟩⟩;have hwl := wkR_len fs ks i;refine wp_seq (zsr (zv (zv ?_)));refine zwu (v := .slice pf fs.length cf) (run_load1 isAgg26 (((hA.get 1 rfl).cell 1).trans rfl)) ?_;refine zv ?_;refine zwu (run_lss (k := .i64) (a := i) (b := fs.length) true (dt (by omega))) ?_;refine znt (zct (wp_skip (zt (wp_seq ?_))));refine wp_block ?_;refine wp_seq ?_;obtain ⟨f, hf⟩ : ∃ f, fs[i]? = some f := ⟨_, List.getElem?_eq_getElem hi⟩;obtain ⟨gF, curF, hpF, _, hgF, c0, c1, c2⟩ := hF.at hf;have hsy := hsyn f (List.mem_of_getElem? hf);have hbz := hbig f (List.mem_of_getElem? hf);obtain ⟨st, hst⟩ : ∃ st, stayN (ks.getD i 0) (f.b.size - f.sy) = st := ⟨_, rfl⟩;have hstl := stayN_le (ks.getD i 0) (f.b.size - f.sy);rw [hst] at hstl;refine wl_region (zv ?_);refine zwu (v := .slice pf fs.length cf) (run_load1 isAgg26 (((hA.get 1 rfl).cell 1).trans rfl)) ?_;refine zv ?_;refine zwu (v := .pointer (some ⟨gF, 3 * i, none⟩)) (run_addr75p (q := gF) (n := fs.length) (m := cf) (a := i) hpF (List.getElem?_eq_some_iff.1 hf).1) ?_;refine zwu (v := .agg #[.string f.nm, .string f.b, i6 f.sy]) (run_part (c' := #[.string f.nm, .string f.b, i6 f.sy]) ((hS.keep hA.old.old) _ hgF) (part3 c0 c1 c2) underlying127 rfl) ?_;refine wl_make (c := #[.string ({ data := #[] }), .string ({ data := #[] }), i6 0]) hA 127 ?_;intro q9 w10 h11;refine wl_fill (c' := #[.string f.nm, .string f.b, i6 f.sy]) h11 0 rfl rfl ?_;intro w12 h13;refine znt (zsr (zv ?_));refine zwu (v := .string f.b) (run_load1 isAgg9 (((h13.get 0 rfl).cell 1).trans rfl)) ?_;refine zwu (run_len (s := f.b)) ?_;refine zv ?_;refine zwu (v := i6 f.sy) (run_load1 isAgg3 (((h13.get 0 rfl).cell 2).trans rfl)) ?_;refine zwu (v := i6 (f.b.size - f.sy)) (run_sub (k := .i64) (a := f.b.size) (b := f.sy) (by first | omega | (simp only [top]; omega)) (by first | omega | (simp only [top]; omega))) ?_;refine zv (znt (zsr (zv (znt (wp_seq (wp_seq ?_))))))
  by_cases hik : i < ks.length
  ·obtain ⟨kb, hko, hkc⟩ := hks.resolve_left (fun e => by rw [e] at hik; cases hik);refine wl_region (zv (zv (zv ?_)));refine zwu (run_lss (k := .i64) (a := i) (b := ks.length) true (dt hik)) ?_;refine znt (zct (wp_seq ?_))
   by_cases hz : (ks.getD i 0).tmod (((f.b.size - f.sy) : Nat) + 1) < 0
   ·refine wl_region (zv (zv ?_));refine zwu (v := .pointer (some (kb.add i))) (run_addr_o (b := kb) (n := ks.length) (c := kc) (i := i) hko (by kernel_rfl) (by kernel_rfl) hik) ?_;refine zwu (v := .int .i64 (ks.getD i 0)) (run_load_at isAgg3 (cell_old (W := w) h13.old.old (hkc i hik))) ?_;refine zv ?_;refine zwu (run_add (k := .i64) (a := f.b.size - f.sy) (b := 1) (by first | omega | (simp only [top]; omega))) ?_;refine zwu (run_remz (z := (ks.getD i 0)) (u := (f.b.size - f.sy)) (by omega)) ?_;refine zv (znt (zsr (zv ?_)));refine zwu (run_ltz (a := (ks.getD i 0).tmod (((f.b.size - f.sy) : Nat) + 1)) (b := 0) true (dt hz)) ?_;refine znt (zct (wl_region (zv (zv ?_))));refine zwu (run_addzu (z := (ks.getD i 0)) (u := (f.b.size - f.sy)) (by omega) (by kernel_rfl) (by kernel_rfl)) ?_;refine zwu (run_addz1 (z := (ks.getD i 0)) (u := (f.b.size - f.sy)) (by omega) hz hst (by kernel_rfl) (by kernel_rfl)) ?_;refine zv (znt (zsr (zv ?_)));refine zwu (v := .string f.b) (run_load1 isAgg9 (((h13.get 0 rfl).cell 1).trans rfl)) ?_;refine zv ?_;refine zwu (v := i6 f.sy) (run_load1 isAgg3 (((h13.get 0 rfl).cell 2).trans rfl)) ?_;refine zv ?_;refine zwu (run_add (k := .i64) (a := f.sy) (b := st) (by first | omega | (simp only [top]; omega))) ?_;refine zwu (v := .string (f.b.extract 0 (f.sy + st))) (run_cut_hi (s := f.b) (b := f.sy + st) (by omega)) ?_;refine zv ?_;refine wl_putv (v := .string (f.b.extract 0 (f.sy + st))) h13 0 rfl 1 (by show 1 < 3; decide) sizeOf9 ?_;intro w14 h15;refine znt (zsr (zv ?_));refine zwu (v := .string (f.b.extract 0 (f.sy + st))) (run_load1 isAgg9 (((h15.get 0 rfl).cell 1).trans rfl)) ?_;refine zwu (run_len (s := f.b.extract 0 (f.sy + st))) ?_;refine zv ?_;refine wl_putv (v := i6 ((f.b.extract 0 (f.sy + st)).size)) h15 0 rfl 2 (by show 2 < 3; decide) sizeOf3 ?_;intro w16 h17;refine znt (wl_region (zv ?_));refine wl_load h17 0 rfl underlying127 rfl ?_;refine wl_mks (n := 1) (m := 1) (c := #[.string f.nm, .string (f.b.extract 0 (f.sy + st)), i6 ((f.b.extract 0 (f.sy + st)).size)]) h17 127 ?_;intro q18 w19 h20;have h21 : HA (bs w) ((q18, 127, #[.string f.nm, .string (f.b.extract 0 (f.sy + st)), i6 ((f.b.extract 0 (f.sy + st)).size)]) :: (Lb ++ [(q9, 127, #[.string f.nm, .string (f.b.extract 0 (f.sy + st)), i6 ((f.b.extract 0 (f.sy + st)).size)]), (q4, 29, (d5 0 none 0 0 false 0 none 0 0)), (q1, 29, (d5 rm pf fs.length cf dn lf pz nz cz))])) w19 := HA.perm h20 (List.Perm.cons _ (List.perm_append_comm (l₁ := [(q9, 127, #[.string f.nm, .string (f.b.extract 0 (f.sy + st)), i6 ((f.b.extract 0 (f.sy + st)).size)]), (q4, 29, (d5 0 none 0 0 false 0 none 0 0)), (q1, 29, (d5 rm pf fs.length cf dn lf pz nz cz))]) (l₂ := Lb)));refine wl_append (m := 1) (c := 1) (Lr := Lb) hR h21 _ 40 underlying26 info127 rfl rfl (by unfold maxLen; omega) (by omega) ?_
    intro v2 w22 L2 hR2 h23;have h24 : HA (bs w) ((q9, 127, #[.string f.nm, .string (f.b.extract 0 (f.sy + st)), i6 ((f.b.extract 0 (f.sy + st)).size)]) :: (q4, 29, (d5 0 none 0 0 false 0 none 0 0)) :: (q1, 29, (d5 rm pf fs.length cf dn lf pz nz cz)) :: L2) w22 := HA.perm h23 (List.perm_append_comm (l₁ := L2) (l₂ := [(q9, 127, #[.string f.nm, .string (f.b.extract 0 (f.sy + st)), i6 ((f.b.extract 0 (f.sy + st)).size)]), (q4, 29, (d5 0 none 0 0 false 0 none 0 0)), (q1, 29, (d5 rm pf fs.length cf dn lf pz nz cz))]));have hR3 : Row 127 3 v2 (wkR fs ks (i + 1)).length (fcl (wkR fs ks (i + 1))) L2 := by rw [wkR_succ hf, fcl_snoc, List.length_append]; unfold cutR; rw [hst]; exact hR2
    refine zv (wl_nil ?_);refine block_normal ?_;refine zt (wl_region (zv ?_));refine zwu (run_add (k := .i64) (a := i) (b := 1) (by first | omega | (simp only [top]; omega))) ?_;refine zv (wl_nil ?_);exact then_I (zey [(5, v2)] (⟨L2, by exact hR3, HA.sub h24 (sk (sc (sc (sr))))⟩))
   ·refine wl_region (zv (zv ?_));refine zwu (v := .pointer (some (kb.add i))) (run_addr_o (b := kb) (n := ks.length) (c := kc) (i := i) hko (by kernel_rfl) (by kernel_rfl) hik) ?_;refine zwu (v := .int .i64 (ks.getD i 0)) (run_load_at isAgg3 (cell_old (W := w) h13.old.old (hkc i hik))) ?_;refine zv ?_;refine zwu (run_add (k := .i64) (a := f.b.size - f.sy) (b := 1) (by first | omega | (simp only [top]; omega))) ?_;refine zwu (run_remst (z := (ks.getD i 0)) (u := (f.b.size - f.sy)) (by omega) hz hst (by kernel_rfl) (by kernel_rfl)) ?_;refine zv (znt (zsr (zv ?_)));refine zwu (run_ltz (a := (st : Int)) (b := 0) false (df (by omega))) ?_;refine znt (zcf (wp_skip (zt (zsr (zv ?_)))));refine zwu (v := .string f.b) (run_load1 isAgg9 (((h13.get 0 rfl).cell 1).trans rfl)) ?_;refine zv ?_;refine zwu (v := i6 f.sy) (run_load1 isAgg3 (((h13.get 0 rfl).cell 2).trans rfl)) ?_;refine zv ?_;refine zwu (run_add (k := .i64) (a := f.sy) (b := st) (by first | omega | (simp only [top]; omega))) ?_;refine zwu (v := .string (f.b.extract 0 (f.sy + st))) (run_cut_hi (s := f.b) (b := f.sy + st) (by omega)) ?_;refine zv ?_;refine wl_putv (v := .string (f.b.extract 0 (f.sy + st))) h13 0 rfl 1 (by show 1 < 3; decide) sizeOf9 ?_;intro w25 h26;refine znt (zsr (zv ?_));refine zwu (v := .string (f.b.extract 0 (f.sy + st))) (run_load1 isAgg9 (((h26.get 0 rfl).cell 1).trans rfl)) ?_;refine zwu (run_len (s := f.b.extract 0 (f.sy + st))) ?_;refine zv ?_;refine wl_putv (v := i6 ((f.b.extract 0 (f.sy + st)).size)) h26 0 rfl 2 (by show 2 < 3; decide) sizeOf3 ?_;intro w27 h28;refine znt (wl_region (zv ?_));refine wl_load h28 0 rfl underlying127 rfl ?_;refine wl_mks (n := 1) (m := 1) (c := #[.string f.nm, .string (f.b.extract 0 (f.sy + st)), i6 ((f.b.extract 0 (f.sy + st)).size)]) h28 127 ?_;intro q29 w30 h31;have h32 : HA (bs w) ((q29, 127, #[.string f.nm, .string (f.b.extract 0 (f.sy + st)), i6 ((f.b.extract 0 (f.sy + st)).size)]) :: (Lb ++ [(q9, 127, #[.string f.nm, .string (f.b.extract 0 (f.sy + st)), i6 ((f.b.extract 0 (f.sy + st)).size)]), (q4, 29, (d5 0 none 0 0 false 0 none 0 0)), (q1, 29, (d5 rm pf fs.length cf dn lf pz nz cz))])) w30 := HA.perm h31 (List.Perm.cons _ (List.perm_append_comm (l₁ := [(q9, 127, #[.string f.nm, .string (f.b.extract 0 (f.sy + st)), i6 ((f.b.extract 0 (f.sy + st)).size)]), (q4, 29, (d5 0 none 0 0 false 0 none 0 0)), (q1, 29, (d5 rm pf fs.length cf dn lf pz nz cz))]) (l₂ := Lb)));refine wl_append (m := 1) (c := 1) (Lr := Lb) hR h32 _ 40 underlying26 info127 rfl rfl (by unfold maxLen; omega) (by omega) ?_;intro v2 w33 L2 hR2 h34;have h35 : HA (bs w) ((q9, 127, #[.string f.nm, .string (f.b.extract 0 (f.sy + st)), i6 ((f.b.extract 0 (f.sy + st)).size)]) :: (q4, 29, (d5 0 none 0 0 false 0 none 0 0)) :: (q1, 29, (d5 rm pf fs.length cf dn lf pz nz cz)) :: L2) w33 := HA.perm h34 (List.perm_append_comm (l₁ := L2) (l₂ := [(q9, 127, #[.string f.nm, .string (f.b.extract 0 (f.sy + st)), i6 ((f.b.extract 0 (f.sy + st)).size)]), (q4, 29, (d5 0 none 0 0 false 0 none 0 0)), (q1, 29, (d5 rm pf fs.length cf dn lf pz nz cz))]))
    have hR3 : Row 127 3 v2 (wkR fs ks (i + 1)).length (fcl (wkR fs ks (i + 1))) L2 := by rw [wkR_succ hf, fcl_snoc, List.length_append]; unfold cutR; rw [hst]; exact hR2
    refine zv (wl_nil ?_);refine block_normal ?_;refine zt (wl_region (zv ?_));refine zwu (run_add (k := .i64) (a := i) (b := 1) (by first | omega | (simp only [top]; omega))) ?_;refine zv (wl_nil ?_);exact then_I (zey [(5, v2)] (⟨L2, by exact hR3, HA.sub h35 (sk (sc (sc (sr))))⟩))
  ·have hg0 : (ks.getD i 0) = 0 := by rw [List.getD_eq_getElem?_getD, List.getElem?_eq_none (by omega)]; rfl
   have hs0 : st = 0 := by rw [← hst, hg0]; exact st_zero _
   subst hs0;refine wl_region (zv (zv (zv ?_)));refine zwu (run_lss (k := .i64) (a := i) (b := ks.length) false (df hik)) ?_;refine znt (zcf (wp_skip (zt (zsr (zv ?_)))));refine zwu (v := .string f.b) (run_load1 isAgg9 (((h13.get 0 rfl).cell 1).trans rfl)) ?_;refine zv ?_;refine zwu (v := i6 f.sy) (run_load1 isAgg3 (((h13.get 0 rfl).cell 2).trans rfl)) ?_;refine zv ?_;refine zwu (run_add (k := .i64) (a := f.sy) (b := 0) (by first | omega | (simp only [top]; omega))) ?_;refine zwu (v := .string (f.b.extract 0 (f.sy + 0))) (run_cut_hi (s := f.b) (b := f.sy + 0) (by omega)) ?_;refine zv ?_;refine wl_putv (v := .string (f.b.extract 0 (f.sy + 0))) h13 0 rfl 1 (by show 1 < 3; decide) sizeOf9 ?_;intro w36 h37;refine znt (zsr (zv ?_));refine zwu (v := .string (f.b.extract 0 (f.sy + 0))) (run_load1 isAgg9 (((h37.get 0 rfl).cell 1).trans rfl)) ?_;refine zwu (run_len (s := f.b.extract 0 (f.sy + 0))) ?_;refine zv ?_;refine wl_putv (v := i6 ((f.b.extract 0 (f.sy + 0)).size)) h37 0 rfl 2 (by show 2 < 3; decide) sizeOf3 ?_;intro w38 h39;refine znt (wl_region (zv ?_));refine wl_load h39 0 rfl underlying127 rfl ?_;refine wl_mks (n := 1) (m := 1) (c := #[.string f.nm, .string (f.b.extract 0 (f.sy + 0)), i6 ((f.b.extract 0 (f.sy + 0)).size)]) h39 127 ?_;intro q40 w41 h42;have h43 : HA (bs w) ((q40, 127, #[.string f.nm, .string (f.b.extract 0 (f.sy + 0)), i6 ((f.b.extract 0 (f.sy + 0)).size)]) :: (Lb ++ [(q9, 127, #[.string f.nm, .string (f.b.extract 0 (f.sy + 0)), i6 ((f.b.extract 0 (f.sy + 0)).size)]), (q4, 29, (d5 0 none 0 0 false 0 none 0 0)), (q1, 29, (d5 rm pf fs.length cf dn lf pz nz cz))])) w41 := HA.perm h42 (List.Perm.cons _ (List.perm_append_comm (l₁ := [(q9, 127, #[.string f.nm, .string (f.b.extract 0 (f.sy + 0)), i6 ((f.b.extract 0 (f.sy + 0)).size)]), (q4, 29, (d5 0 none 0 0 false 0 none 0 0)), (q1, 29, (d5 rm pf fs.length cf dn lf pz nz cz))]) (l₂ := Lb)));refine wl_append (m := 1) (c := 1) (Lr := Lb) hR h43 _ 40 underlying26 info127 rfl rfl (by unfold maxLen; omega) (by omega) ?_;intro v2 w44 L2 hR2 h45;have h46 : HA (bs w) ((q9, 127, #[.string f.nm, .string (f.b.extract 0 (f.sy + 0)), i6 ((f.b.extract 0 (f.sy + 0)).size)]) :: (q4, 29, (d5 0 none 0 0 false 0 none 0 0)) :: (q1, 29, (d5 rm pf fs.length cf dn lf pz nz cz)) :: L2) w44 := HA.perm h45 (List.perm_append_comm (l₁ := L2) (l₂ := [(q9, 127, #[.string f.nm, .string (f.b.extract 0 (f.sy + 0)), i6 ((f.b.extract 0 (f.sy + 0)).size)]), (q4, 29, (d5 0 none 0 0 false 0 none 0 0)), (q1, 29, (d5 rm pf fs.length cf dn lf pz nz cz))]));have hR3 : Row 127 3 v2 (wkR fs ks (i + 1)).length (fcl (wkR fs ks (i + 1))) L2 := by rw [wkR_succ hf, fcl_snoc, List.length_append]; unfold cutR; rw [hst]; exact hR2
   refine zv (wl_nil ?_);refine block_normal ?_;refine zt (wl_region (zv ?_));refine zwu (run_add (k := .i64) (a := i) (b := 1) (by first | omega | (simp only [top]; omega))) ?_;refine zv (wl_nil ?_);exact then_I (zey [(5, v2)] (⟨L2, by exact hR3, HA.sub h46 (sk (sc (sc (sr))))⟩))
 ·rintro _ w47 ⟨u7, rfl, ⟨Lb, hR, hA⟩⟩;have hwl := wkR_len fs ks fs.length;refine wp_seq (zsr (zv (zv ?_)));refine zwu (v := .slice pf fs.length cf) (run_load1 isAgg26 (((hA.get 1 rfl).cell 1).trans rfl)) ?_;refine zv ?_;refine zwu (run_lss (k := .i64) (a := fs.length) (b := fs.length) false (df (by omega))) ?_;refine zna ⟨(.agg (d5 rm pf fs.length cf dn lf pz nz cz) :: .slice ko ks.length kc :: pt q1 :: un :: pt q4 :: u7 5 :: i6 fs.length :: u7 7 :: u7 8 :: u7 9 :: i6 fs.length :: .pointer (some ⟨q1, 1, none⟩) :: .slice pf fs.length cf :: i6 fs.length :: .bool false :: u7 15 :: u7 16 :: u7 17 :: u7 18 :: u7 19 :: u7 20 :: u7 21 :: u7 22 :: u7 23 :: u7 24 :: u7 25 :: u7 26 :: u7 27 :: u7 28 :: u7 29 :: u7 30 :: u7 31 :: u7 32 :: u7 33 :: u7 34 :: u7 35 :: u7 36 :: u7 37 :: u7 38 :: u7 39 :: u7 40 :: u7 41 :: u7 42 :: u7 43 :: u7 44 :: u7 45 :: u7 46 :: u7 47 :: u7 48 :: u7 49 :: u7 50 :: u7 51 :: u7 52 :: u7 53 :: u7 54 :: u7 55 :: u7 56 :: u7 57 :: u7 58 :: u7 59 :: u7 60 :: List.replicate 5 un).toArray, []⟩ ?_;refine zcf ?_;refine wp_exit ?_
  repeat first | refine then_exit ?_ | refine block_exit ?_ | refine block_exit_ne (by decide) ?_
  refine zt (wp_seq ?_);obtain ⟨p2, c2, e5⟩ := hR.form;rw [e5];rw [e5] at hR;refine wl_region (zv (zv ?_));refine wl_putv (v := .slice p2 (wkR fs ks fs.length).length c2) hA 1 rfl 1 (by show 1 < 5; decide) sizeOf26 ?_;intro w48 h49;refine znt (zsr (zv ?_));refine wl_putv (v := .bool false) h49 1 rfl 2 (by show 2 < 5; decide) sizeOf4 ?_;intro w50 h51;refine znt (zsr (zv ?_));refine wl_putv (v := i6 0) h51 1 rfl 3 (by show 3 < 5; decide) sizeOf3 ?_;intro w52 h53;refine znt (zsr ?_);refine wl_load h53 1 rfl underlying29 rfl ?_;refine wl_fill (c' := (d5 rm p2 (wkR fs ks fs.length).length c2 false 0 pz nz cz)) h53 0 rfl rfl ?_;intro w54 h55;refine znt ?_;refine wp_ret ?_
  repeat first|refine zrt ?_|refine block_ret ?_
  exact bodyPost_ret (v := .agg ((d5 rm p2 (wkR fs ks fs.length).length c2 false 0 pz nz cz))) (res_cell (p := 4) (by kernel_rfl) (by kernel_rfl) (h55.get 0 rfl) underlying29 rfl (by kernel_rfl)) rfl ⟨p2, c2, Lb, rfl, Row.rffl rfl hR, HA.newerN (HA.perm h55 (List.perm_append_comm (l₁ := [(q4, 29, (d5 rm p2 (wkR fs ks fs.length).length c2 false 0 pz nz cz)), (q1, 29, (d5 rm p2 (wkR fs ks fs.length).length c2 false 0 pz nz cz))]) (l₂ := Lb))), h55.old.old⟩
end Go.Proofs.YtckmlaempffpjaaGreat
namespace Go.Proofs.YtckmlaempffpjaaGreat
open Go.RowKit Go.Proofs.Tryz
theorem geN_iff (a b : ByteArray) : geN a b = true ↔ ¬ bl a < bl b := by
 unfold geN
 rw [show Op.bytesLess a.toList b.toList = decide (bl a < bl b) by rw [bytesLess_eq, ByteArray.toList_eq, ByteArray.toList_eq]; rfl]
 simp
theorem lt_of_ge_ne {a b : ByteArray} (h : ¬ bl a < bl b) (hn : a ≠ b) : bl b < bl a := by
 rcases Std.lt_trichotomy (bl a) (bl b) with h1 | h1 | h1
 ·exact absurd h1 h
 ·exact absurd (bl_inj h1) hn
 ·exact h1
def fa (f : RF) : FA := ⟨f.nm, bl f.b, f.sy⟩
def SrtF (fs : List RF) : Prop := fs.Pairwise fun a b => bl a.nm < bl b.nm
def insR : List RF → RF → List RF
 | [], f => [f]
 | g :: fs, f => if geN g.nm f.nm = true then (if g.nm = f.nm then f :: fs else f :: g :: fs) else g :: insR fs f
theorem withR_eq (f : RF) : ∀ fs : List RF, withR fs f = insR fs f
 | [] => rfl
 | g :: fs => by
  have ih := withR_eq f fs
  unfold withR at ih ⊢
  rw [insR, findR]
  by_cases hg : geN g.nm f.nm = true
  ·rw [if_pos hg, if_pos hg]
   by_cases he : g.nm = f.nm
   ·rw [if_pos he, decide_eq_true he]; rfl
   ·rw [if_neg he, decide_eq_false he]; rfl
  ·rw [if_neg hg, if_neg hg, ← ih]
   cases (findR fs f.nm).2 <;> rfl
theorem insR_mem {f x : RF} : ∀ {fs : List RF}, x ∈ insR fs f → x = f ∨ x ∈ fs
 | [], h => .inl (List.mem_singleton.1 h)
 | g :: fs, h => by
  rw [insR] at h
  split at h
  ·split at h
   ·rcases List.mem_cons.1 h with h | h
    ·exact .inl h
    ·exact .inr (mc h)
   ·rcases List.mem_cons.1 h with h | h
    ·exact .inl h
    ·exact .inr h
  ·rcases List.mem_cons.1 h with h | h
   ·exact .inr (by rw [h]; exact List.mem_cons_self ..)
   ·exact (insR_mem h).imp id (List.mem_cons_of_mem _)
theorem insR_srt {f : RF} : ∀ {fs : List RF}, SrtF fs → SrtF (insR fs f)
 | [], _ => List.pairwise_singleton _ _
 | g :: fs, h => by
  obtain ⟨h1, h2⟩ := List.pairwise_cons.1 h;rw [insR]
  split
  ·rename_i hg
   split
   ·rename_i he
    exact List.pairwise_cons.2 ⟨fun x hx => he ▸ h1 x hx, h2⟩
   ·rename_i he
    have hlt := lt_of_ge_ne ((geN_iff _ _).1 hg) he;refine List.pairwise_cons.2 ⟨fun x hx => ?_, h⟩
    rcases List.mem_cons.1 hx with rfl | hx
    ·exact hlt
    ·exact Std.lt_trans hlt (h1 x hx)
  ·rename_i hg
   refine List.pairwise_cons.2 ⟨fun x hx => ?_, insR_srt h2⟩
   rcases insR_mem hx with rfl | hx
   ·exact Decidable.of_not_not (fun hn => hg ((geN_iff _ _).2 hn))
   ·exact h1 x hx
theorem insR_new {f : RF} : ∀ {fs : List RF}, (∀ g ∈ fs, g.nm ≠ f.nm) → (insR fs f).Perm (fs ++ [f])
 | [], _ => List.Perm.refl _
 | g :: fs, h => by
  rw [insR]
  split
  ·rw [if_neg (h g (List.mem_cons_self ..))];exact (List.perm_append_singleton f (g :: fs)).symm
  ·exact List.Perm.cons _ (insR_new (fun x hx => h x (mc hx)))
theorem insR_old {f : RF} : ∀ {fs : List RF}, SrtF fs → (∃ g ∈ fs, g.nm = f.nm) → insR fs f = fs.map fun g => if g.nm = f.nm then f else g
 | [], _, h => by obtain ⟨_, h, _⟩ := h; cases h
 | g :: fs, hs, h => by
  obtain ⟨h1, h2⟩ := List.pairwise_cons.1 hs;rw [insR, List.map_cons]
  by_cases he : g.nm = f.nm
  ·rw [if_pos ((geN_iff _ _).2 (by rw [he]; exact Std.lt_irrefl)), if_pos he, if_pos he]
   congr 1
   have : fs.map (fun x => if x.nm = f.nm then f else x) = fs.map id := by
    refine List.map_congr_left fun x hx => ?_
    have := h1 x hx;rw [if_neg (fun e => by rw [e, he] at this; exact Std.lt_irrefl this)]
    rfl
   rw [this, List.map_id]
  ·obtain ⟨x, hx, hxn⟩ := h
   rcases List.mem_cons.1 hx with rfl | hx
   ·exact absurd hxn he
   ·have hlt : bl g.nm < bl f.nm := hxn ▸ h1 x hx;rw [if_neg (fun e => (geN_iff _ _).1 e hlt), if_neg he, insR_old h2 ⟨x, hx, hxn⟩]
theorem findR_no {s : ByteArray} : ∀ {fs : List RF} {i : Nat}, SrtF fs → findR fs s = (i, false) → ∀ f ∈ fs, f.nm ≠ s
 | [], _, _, _, f, hf => by cases hf
 | g :: fs, i, hs, h, f, hf => by
  obtain ⟨h1, h2⟩ := List.pairwise_cons.1 hs;rw [findR] at h
  split at h
  ·rename_i hg
   have e : decide (g.nm = s) = false := congrArg Prod.snd h;have hn := of_decide_eq_false e
   rcases List.mem_cons.1 hf with rfl | hf
   ·exact hn
   ·intro e2;have := Std.lt_trans (lt_of_ge_ne ((geN_iff _ _).1 hg) hn) (h1 f hf);rw [e2] at this;exact Std.lt_irrefl this
  ·rename_i hg
   rcases List.mem_cons.1 hf with rfl | hf
   ·intro e;subst e;exact hg ((geN_iff _ _).2 Std.lt_irrefl)
   ·have e2 : (findR fs s).2 = false := congrArg Prod.snd h;exact findR_no (i := (findR fs s).1) h2 (Prod.ext rfl e2) f hf
structure Tw (D : DS) (rm : Nat) (fs : List RF) (dn : Bool) (lf : Nat) (zs : List Nat) : Prop where
 srt : SrtF fs
 prm : (fs.map fa).Perm D.fs
 free : D.free + used D.fs = rm
 sz : D.sizes = zs
 edn : D.down = dn
 elf : D.left = lf
 dl : dn = true → lf = 0
theorem Tw.start (z : Nat) : Tw ⟨[], z, 0, false, []⟩ z [] false 0 [] := ⟨List.Pairwise.nil, List.Perm.refl _, by simp [used], rfl, rfl, rfl, fun h => by cases h⟩
theorem used_perm {a b : List FA} (h : a.Perm b) : used a = used b := (h.map _).sum_nat
theorem Tw.gate {D : DS} {rm lf l' : Nat} {fs : List RF} {dn d' go : Bool} {zs : List Nat} (h : Tw D rm fs dn lf zs) (hg : gateL dn lf = (l', d', go)) : Tw (spendD D) rm fs d' l' zs ∧ go = !d' := by
 have e1 := h.edn;have e2 := h.elf;have hdl := h.dl
 unfold gateL at hg
 cases dn with
 | true =>
  rw [if_pos rfl] at hg
  cases hg
  have := hdl rfl;subst this;exact ⟨⟨h.srt, h.prm, h.free, h.sz, by simp [spendD, e1, e2], by simp [spendD, e2], fun _ => rfl⟩, rfl⟩
 | false =>
  rw [if_neg (by decide)] at hg
  by_cases h0 : lf = 0
  ·rw [if_pos h0] at hg
   cases hg
   subst h0;exact ⟨⟨h.srt, h.prm, h.free, h.sz, by simp [spendD, e1, e2], by simp [spendD, e2], fun _ => rfl⟩, rfl⟩
  ·rw [if_neg h0] at hg
   by_cases h1 : lf = 1
   ·rw [if_pos h1] at hg
    cases hg
    subst h1;exact ⟨⟨h.srt, h.prm, h.free, h.sz, by simp [spendD, e2], by simp [spendD, e2], fun _ => rfl⟩, rfl⟩
   ·rw [if_neg h1] at hg
    cases hg
    exact ⟨⟨h.srt, h.prm, h.free, h.sz, by simp [spendD, e2, h0, h1], by simp [spendD, e2], fun e => by cases e⟩, rfl⟩
theorem Tw.told {D : DS} {rm lf n : Nat} {fs : List RF} {dn : Bool} {zs : List Nat} (h : Tw D rm fs dn lf zs) : Tw { D with sizes := D.sizes ++ [n] } rm fs dn lf (zs ++ [n]) := ⟨h.srt, h.prm, h.free, by rw [h.sz], h.edn, h.elf, h.dl⟩
theorem Tw.isIn {D : DS} {rm lf i : Nat} {fs : List RF} {dn : Bool} {zs : List Nat} {s : ByteArray} (h : Tw D rm fs dn lf zs) (hf : findR fs s = (i, true)) : ∃ x ∈ D.fs, x.nm = s := by
 obtain ⟨f, h1, h2⟩ := findR_yes hf;exact ⟨fa f, h.prm.mem_iff.1 (List.mem_map_of_mem (List.mem_of_getElem? h1)), h2⟩
theorem Tw.notIn {D : DS} {rm lf i : Nat} {fs : List RF} {dn : Bool} {zs : List Nat} {s : ByteArray} (h : Tw D rm fs dn lf zs) (hf : findR fs s = (i, false)) : ¬ ∃ x ∈ D.fs, x.nm = s := by
 rintro ⟨x, hx, hn⟩;obtain ⟨f, hf2, rfl⟩ := List.mem_map.1 (h.prm.mem_iff.2 hx);exact findR_no h.srt hf f hf2 hn
theorem woR_all (fs : List RF) (s : ByteArray) : woR fs s fs.length = fs.filter fun f => !decide (f.nm = s) := by unfold woR; rw [List.take_length]
theorem Tw.rem {D : DS} {rm lf : Nat} {fs : List RF} {dn : Bool} {zs : List Nat} (h : Tw D rm fs dn lf zs) (s : ByteArray) : Tw (remF D s) rm (woR fs s fs.length) dn lf zs := by
 refine ⟨by rw [woR_all]; exact List.Pairwise.filter _ h.srt, ?_, ?_, h.sz, h.edn, h.elf, h.dl⟩
 ·have : ((woR fs s fs.length).map fa) = delF (fs.map fa) s := by
   rw [woR_all, delF, List.filter_map]
   congr 1
   refine List.filter_congr fun x _ => ?_
   by_cases e : x.nm = s <;> simp [fa, e]
  rw [this];exact h.prm.filter _
 ·have := used_split D.fs s;have h2 := h.free
  show D.free + used (keepF D.fs s) + used (delF D.fs s) = rm
  omega
theorem upd_map {fs : List RF} {f : RF} {g : FA → FA} (hg : ∀ x ∈ fs, x.nm = f.nm → g (fa x) = fa f) : (fs.map fun x => if x.nm = f.nm then f else x).map fa = updF (fs.map fa) f.nm g := by
 rw [List.map_map, updF, List.map_map];refine List.map_congr_left fun x hx => ?_
 by_cases e : x.nm = f.nm
 ·simp only [Function.comp, if_pos e]
  rw [if_pos (show (fa x).nm = f.nm from e)];exact (hg x hx e).symm
 ·simp only [Function.comp, if_neg e]
  rw [if_neg (show ¬ (fa x).nm = f.nm from e)]
theorem updF_perm {a b : List FA} (h : a.Perm b) (s : ByteArray) (g : FA → FA) : (updF a s g).Perm (updF b s g) := h.map _
theorem srt_one_name {fs : List RF} (hs : SrtF fs) {x y : RF} (hx : x ∈ fs) (hy : y ∈ fs) (h : x.nm = y.nm) : x = y := by
 induction fs with
 | nil => cases hx
 | cons g fs ih =>
  obtain ⟨h1, h2⟩ := List.pairwise_cons.1 hs
  rcases List.mem_cons.1 hx with rfl | hx'
  ·rcases List.mem_cons.1 hy with rfl | hy'
   ·rfl
   ·have := h1 y hy'; rw [h] at this; exact absurd this Std.lt_irrefl
  ·rcases List.mem_cons.1 hy with rfl | hy'
   ·have := h1 x hx'; rw [h] at this; exact absurd this Std.lt_irrefl
   ·exact ih h2 hx' hy'
theorem Tw.upd {D : DS} {rm lf i fr : Nat} {fs : List RF} {dn : Bool} {zs : List Nat} {s : ByteArray} {f f' : RF} {g : FA → FA} (h : Tw D rm fs dn lf zs) (hf : findR fs s = (i, true)) (hi : fs[i]? = some f) (hn : f'.nm = s) (hg : g (fa f) = fa f') (hu : fr + used (updF D.fs s g) = rm) : Tw { D with fs := updF D.fs s g, free := fr } rm (withR fs f') dn lf zs := by
 obtain ⟨f0, h1, h2⟩ := findR_yes hf;rw [hi] at h1
 cases h1
 have hm := List.mem_of_getElem? hi;refine ⟨by rw [withR_eq]; exact insR_srt h.srt, ?_, hu, h.sz, h.edn, h.elf, h.dl⟩;rw [withR_eq, insR_old h.srt ⟨f, hm, h2.trans hn.symm⟩];have e : (fs.map fun x => if x.nm = f'.nm then f' else x).map fa = updF (fs.map fa) f'.nm g := upd_map (fun x hx hxn => by
  have := srt_one_name h.srt hx hm (hxn.trans (hn.trans h2.symm));rw [this]; exact hg)
 rw [e, hn];exact updF_perm h.prm s g
theorem used_same (fs : List FA) (s : ByteArray) : used (updF fs s fun x => { x with sy := x.da.length }) = used fs := by
 unfold used updF
 rw [List.map_map]
 congr 1
 refine List.map_congr_left fun x _ => ?_
 by_cases e : x.nm = s <;> simp [e]
theorem Tw.sync {D : DS} {rm lf i : Nat} {fs : List RF} {dn : Bool} {zs : List Nat} {s : ByteArray} {f : RF} (h : Tw D rm fs dn lf zs) (hf : findR fs s = (i, true)) (hi : fs[i]? = some f) : Tw (syncF D s) rm (withR fs ⟨f.nm, f.b, f.b.size⟩) dn lf zs := by
 obtain ⟨f0, h1, h2⟩ := findR_yes hf;rw [hi] at h1
 cases h1
 exact Tw.upd (fr := D.free) h hf hi h2 (by simp [fa, bl_len]) (by rw [used_same]; exact h.free)
end Go.Proofs.YtckmlaempffpjaaGreat
