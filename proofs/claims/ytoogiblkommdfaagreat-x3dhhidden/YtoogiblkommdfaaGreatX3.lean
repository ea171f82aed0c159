/-
  Check, agree, Begin, Accept.
-/
import Derived.Test.YtoogiblkommdfaaGreatX2
set_option linter.unusedVariables false
namespace Go.Proofs.YtoogiblkommdfaaGreat
open Go.RowKit

set_option maxRecDepth 100000 in
set_option maxHeartbeats 2000000 in
theorem chk_y {w0 w : World} {M : ML} {p : Pr} {A : List Ent} {n : Nat} {L : BL} (H : PH w0 M p A n L w) (x : Bu) (hx : mayX x = true) (hM : MayX x) (hv : vrfA A x.sg (sgT x) x.ps = true) (hj : n < 1000000) :
    Calls Tryz.prog 26 #[pt p.q, .agg (buC x)] w fun e w' => e = .returned (iN .i64 0) ∧ PH w0 M p A (n + 1) L w' := by
  obtain ⟨z0, X0, hcl0, hbe0, H0⟩ := PH.front H
  go_enter Tryz.func26, Tryz.ntmps26
  refine wp_seq (wl_region ?_)
  refine wl_make (c := buC x) H0 23 ky ky ?_
  intro q1 w2 (h3 : HA z0 ((q1, 23, buC x) :: (L ++ X0)) w2)
  refine zv (iN .i64 0) ?_
  refine wl_nil (then_at rfl (wp_seq (wp_block (wp_seq (wl_region ?_)))))
  refine zv (.pointer (some ⟨p.q, 0, none⟩)) ?_
  refine wl_call (v := iN .i64 1) h3 ky enter66 #[.pointer (some ⟨p.q, 0, none⟩)] ky (Kit_k (PH.kit (hcl0 ((q1, 23, buC x) :: L) _ h3))) ?_
  intro w4 h5
  refine zv (.bool false) ?_
  refine zv (.bool false) ?_
  refine wl_nil (then_at rfl ?_)
  refine wp_cond_false ky ?_
  refine wp_seq (wl_region ?_)
  refine wl_load h5 0 rfl ky ky Tryz.underlying23 rfl ky ?_
  refine wl_call (v := .bool true) h5 ky enter38 #[.agg (buC x)] ky (mayX_any x hx) ?_
  intro w6 h7
  refine zv (.bool false) ?_
  refine zv (.bool false) ?_
  refine wl_nil (then_at rfl ?_)
  refine wp_cond_false ky ?_
  refine wp_seq ?_
  refine wp_region_wx (HA z0 ((q1, 23, buC x) :: (L ++ X0))) (fun AQ w' => ∃ (z14 : Base) (X15 : BL), AQ = ⟨(pt p.q :: .agg (buC x) :: un :: pt q1 :: iN .i64 0 :: .bool false :: pt p.q :: iN .i64 1 :: .bool false :: .bool false :: .agg (buC x) :: .bool true :: .bool false :: .bool false :: pt p.q :: .pointer (some ⟨q1, 2, none⟩) :: .string x.sg :: .agg (buC x) :: .string ((sgT x)) :: .pointer (some ⟨q1, 6, none⟩) :: .string x.ps :: .bool true :: .bool false :: List.replicate 0 un).toArray, []⟩ ∧ (∀ (L' : BL) (w' : World), HA z14 (L' ++ X15) w' → PH w0 M p A ((n + 1)) L' w') ∧ (∀ (L' : BL) (w' : World), HA z14 L' w' → Below w0.heap.size w0 w') ∧ HA z14 ((q1, 23, buC x) :: (L ++ X15)) w') 10 ky ky ky ky ky (h7.drew) ?_ ?_
  · have h8 := h7.drew
    refine zp 0 (.pointer (some ⟨p.q, 0, none⟩)) ?_
    refine zp 1 (.pointer (some ⟨q1, 2, none⟩)) ?_
    refine wx_val (i := 2) (.string x.sg) rfl rfl ky ky (fun w' h' => run_load1 (fun w => Tryz.isAgg9 w) ky (((h'.get 0 rfl).cell 2).trans rfl)) ?_
    refine wx_val (i := 3) (.agg (buC x)) rfl rfl ky ky (fun w' h' => run_load_blk ky (h'.get 0 rfl) Tryz.underlying23 rfl ky) ?_
    refine wx_call (i := 4) (.string ((sgT x))) (fun _ _ h hb => HA.keep _ _ h hb) rfl rfl ky ky enter68 #[.agg (buC x)] ky (fun w' h' => signedText_any x hM) ?_
    refine zp 5 (.pointer (some ⟨q1, 6, none⟩)) ?_
    refine wx_val (i := 6) (.string x.ps) rfl rfl ky ky (fun w' h' => run_load1 (fun w => Tryz.isAgg9 w) ky (((h'.get 0 rfl).cell 6).trans rfl)) ?_
    refine wx_one 7 ky ?_
    refine ex_callx rfl ky h8 enter67 #[.pointer (some ⟨p.q, 0, none⟩), .string x.sg, .string ((sgT x)), .string x.ps] ky (fun w11 h12 => Verify_y (hcl0 ((q1, 23, buC x) :: L) _ h12) x.sg ((sgT x)) x.ps (Nat.le_trans hM.sg (by decide)) (Nat.le_trans (sgT_size hM) (by decide)) (Nat.le_trans hM.ps (by decide)) hj hv) ?_
    rintro w11 h12 _ w13 ⟨rfl, hD10⟩
    obtain ⟨z14, X15, hcl16, hbe17, h18⟩ := PH.front hD10
    have h19 : HA z14 ((q1, 23, buC x) :: (L ++ X15)) w13 := h18
    refine ⟨_, rfl, _, .inl ky, h19, ?_⟩
    refine zp 8 (.bool false) ?_
    refine zp 9 (.bool false) ?_
    refine wx_end fun w20 hbx _ => ?_
    have h21 := HA.keep _ _ h19 hbx
    exact ⟨z14, X15, by kernel_rfl, hcl16, hbe17, h21⟩
  · rintro _ w22 ⟨z14, X15, rfl, hcl16, hbe17, h23⟩
    refine then_at rfl ?_
    refine wp_cond_false ky ?_
    refine wp_skip (block_normal (then_at rfl (wp_seq (wl_region ?_))))
    refine zv (iN .i64 0) ?_
    refine wl_nil (then_at rfl ?_)
    refine wp_ret ?_
    repeat first | refine then_ret ?_ | refine block_ret ?_
    exact bodyPost_ret (v := iN .i64 0) ky rfl ⟨rfl, PH.sub (hcl16 ((q1, 23, buC x) :: L) _ h23) (List.Sublist.cons _ (List.Sublist.refl _))⟩
section
variable {z : Base} {w : World} {Lr R X : BL} {a b : Nat × TypeId × Array Value}
theorem HA.bk1 (H : HA z (Lr ++ (b :: (R ++ X))) w) : HA z (b :: ((Lr ++ R) ++ X)) w := H.perm (by
  have e : (b :: ((Lr ++ R) ++ X)) = ([b] ++ Lr) ++ (R ++ X) := by simp
  have e2 : Lr ++ (b :: (R ++ X)) = (Lr ++ [b]) ++ (R ++ X) := by simp
  rw [e, e2]
  exact List.Perm.append_right _ List.perm_append_comm)
end
section
variable {ρ : Operand → Value} {x y : Operand} {w : World} {dst : Option Tmp} {T T2 ty : TypeId} {pos : String} {aft : Array Edge} {gd : Option (Nat × Bool)}
theorem run_addrP {q n m a : Nat} (hx : ρ x = .slice (some ⟨q, 0, none⟩) n m) (hy : ρ y = iN .i64 a) (ha : a < n) : (execOp ρ ⟨dst, .indexAddr 127 x y, ty, pos, aft, gd⟩).run Tryz.prog w = .ok (.value (.pointer (some ⟨q, 2 * a, none⟩))) w := by
  simp only [execOp, hx, hy, iN]
  go_simp
end
/-- what was shared -/
def shr (xs : List Nat) : Nat → List ByteArray
  | 0 => []
  | k + 1 => shr xs k ++ [txt (xs.getD k 0)]
theorem shr_len (xs : List Nat) : ∀ k, (shr xs k).length = k
  | 0 => rfl
  | k + 1 => by rw [shr, List.length_append, shr_len xs k]; rfl
theorem shr_size (xs : List Nat) : ∀ k i, ((shr xs k).getD i ByteArray.empty).size ≤ 8
  | 0, i => by simp [shr]
  | k + 1, i => by
    rw [shr, List.getD_eq_getElem?_getD]
    rcases Nat.lt_trichotomy i k with h | h | h
    · have := shr_size xs k i
      rw [List.getD_eq_getElem?_getD] at this
      rw [List.getElem?_append_left (by rw [shr_len]; exact h)]
      exact this
    · subst h
      rw [List.getElem?_append_right (by rw [shr_len]; exact Nat.le_refl _), shr_len, Nat.sub_self]
      show (txt _).size ≤ 8
      rw [txt_size]; exact Nat.le_refl _
    · rw [List.getElem?_eq_none (by rw [List.length_append, shr_len]; simp; omega)]
      exact Nat.zero_le _
theorem laid_E {w : World} {ss : List ByteArray} {N g c : Nat} {cs : Array Value} (hl : ss.length = N) (hp : ∀ j, j < N → cs[j]? = some (.string (ss.getD j ByteArray.empty))) (hb : Blk w g 9 cs) {m : Nat} (hm0 : m ≤ 100000) (hss : ∀ i, (ss.getD i ByteArray.empty).size ≤ m) (hsl : N ≤ 100) :
    Calls Tryz.prog 40 #[.slice (some ⟨g, 0, none⟩) N c] w fun e w' => e = .returned (.string (layT ss N)) ∧ Below w.heap.size w w' := by
  subst hl
  exact laid_any ss _ c (.inr ⟨g, cs, rfl, hp, hb⟩) hm0 hss hsl
theorem run_mkN {ρ : Operand → Value} {x y : Operand} {w : World} {dst : Option Tmp} {ty : TypeId} {pos : String} {aft : Array Edge} {gd : Option (Nat × Bool)} {c : Nat} (hx : ρ x = iN .i64 0) (hy : ρ y = iN .i64 c) (hc : c ≤ 100000) : (execOp ρ ⟨dst, .makeSlice 86 x y, ty, pos, aft, gd⟩).run Tryz.prog w = .ok (.value (.slice (some ⟨w.heap.size, 0, none⟩) 0 c)) (w.alloc (.cells (List.replicate c (.string ByteArray.empty)).toArray 9)) := run_mk58 hx hy hc
def x3I : ByteArray := { data := #[120, 51, 100, 104] }
set_option maxRecDepth 100000 in
set_option maxHeartbeats 2000000 in
theorem agree_P {w0 w : World} {M : ML} {p : Pr} {A : List Ent} {n : Nat} {L : BL} (H : PH w0 M p A n L w) (salt : ByteArray) (hsa : salt.size ≤ 65536) {N g cap : Nat} {cur : Array Value} (hN1 : 0 < N) (hN : N ≤ 4) (sc pb : List ByteArray) (Ts : List (List Ent)) (xs : List Nat) (hgL : (g, 126, cur) ∈ L) (hc : ∀ j, j < N → cur[2 * j]? = some (.string (sc.getD j ByteArray.empty)) ∧ cur[2 * j + 1]? = some (.string (pb.getD j ByteArray.empty))) (hsz : ∀ j, j < N → (sc.getD j ByteArray.empty).size ≤ 65536 ∧ (pb.getD j ByteArray.empty).size ≤ 65536) (h0 : A = Ts.getD 0 []) (hl : ∀ j, j ≤ N → (Ts.getD j []).length < 50000) (hm : ∀ j, j < N → mkA (Ts.getD j []) 4 { data := #[] } [sc.getD j ByteArray.empty, pb.getD j ByteArray.empty] = (Ts.getD (j + 1) [], xs.getD j 0)) {A' : List Ent} {key : ByteArray} (hk : dv (Ts.getD N []) (layT (shr xs N) N) salt x3I 1 = (A', [key])) :
    Calls Tryz.prog 70 #[pt p.q, .string salt, .slice (some ⟨g, 0, none⟩) N cap] w fun e w' => e = .returned (.tuple #[.string key, iN .i64 0]) ∧ PH w0 M p A' n L w' := by
  obtain ⟨z0, X0, hcl0, hbe0, H0⟩ := PH.front H
  go_enter Tryz.func70, Tryz.ntmps70
  refine wp_seq (wl_region ?_)
  refine zv (.string ({ data := #[] })) ?_
  refine zv (iN .i64 0) ?_
  refine wl_nil (then_at rfl (wp_seq (wl_region ?_)))
  refine zv (.slice (some ⟨g, 0, none⟩) N cap) ?_
  refine zv (iN .i64 N) ?_
  refine wl_mks (n := 0) (m := N) (c := (List.replicate N (Value.string ByteArray.empty)).toArray) H0 9 ky (run_mkN (c := N) ky ky (by omega)) ?_
  intro q1 w2 (h3 : HA z0 ((q1, 9, (List.replicate N (Value.string ByteArray.empty)).toArray) :: (L ++ X0)) w2)
  refine zv (.slice (some ⟨q1, 0, none⟩) 0 N) ?_
  refine wl_nil (then_at rfl (wp_seq (wp_seq (wl_region ?_))))
  refine zv (.slice (some ⟨g, 0, none⟩) N cap) ?_
  refine zv (iN .i64 N) ?_
  refine zv (iN .i64 0) ?_
  refine wl_nil (then_at rfl ?_)
  have hD0 : PH w0 M p A n ([(q1, 9, (List.replicate N (Value.string ByteArray.empty)).toArray)] ++ L) w2 := (hcl0 ((q1, 9, (List.replicate N (Value.string ByteArray.empty)).toArray) :: L) _ h3)
  refine wp_block ?_
  refine wp_count (fun i AQ w' => ∃ u4 : Nat → Value, AQ = ⟨(pt p.q :: .string salt :: .slice (some ⟨g, 0, none⟩) N cap :: un :: un :: un :: u4 6 :: u4 7 :: u4 8 :: un :: u4 10 :: u4 11 :: u4 12 :: un :: un :: .slice (some ⟨g, 0, none⟩) N cap :: iN .i64 N :: .slice (some ⟨q1, 0, none⟩) 0 N :: .slice (some ⟨g, 0, none⟩) N cap :: iN .i64 N :: iN .i64 i :: u4 21 :: u4 22 :: u4 23 :: u4 24 :: u4 25 :: u4 26 :: u4 27 :: u4 28 :: u4 29 :: u4 30 :: u4 31 :: u4 32 :: u4 33 :: u4 34 :: u4 35 :: u4 36 :: u4 37 :: u4 38 :: u4 39 :: u4 40 :: List.replicate 14 un).toArray, []⟩ ∧ ∃ Lr, Row 9 1 (u4 8) i ((shr xs i).map Value.string) Lr ∧ PH w0 M p (Ts.getD i []) n (Lr ++ L) w') N ?_ ?_ ?_
  · exact ⟨fun ii => (([(6, .string ({ data := #[] })), (7, iN .i64 0), (8, .slice (some ⟨q1, 0, none⟩) 0 N), (10, undef), (11, undef), (12, undef), (21, undef), (22, undef), (23, undef), (24, undef), (25, undef), (26, undef), (27, undef), (28, undef), (29, undef), (30, undef), (31, undef), (32, undef), (33, undef), (34, undef), (35, undef), (36, undef), (37, undef), (38, undef), (39, undef), (40, undef)] : List (Nat × Value)).find? (·.1 == ii)).elim undef (·.2), by kernel_rfl, ⟨_, by exact Row.made (by unfold maxLen; omega), h0 ▸ hD0⟩⟩
  · rintro i hi _ w5 ⟨u4, rfl, ⟨Lr, hR, hD⟩⟩
    obtain ⟨z6, X7, hcl8, hbe9, h10⟩ := PH.front hD
    have h11 : HA z6 ((Lr ++ L) ++ X7) w5 := h10
    refine wp_seq (wl_region ?_)
    refine zu (.bool true) (run_lss (k := .i64) (a := i) (b := N) ky ky true (decide_eq_true (by omega))) ?_
    refine wl_nil (then_at rfl (wp_seq ?_))
    refine wp_cond_true ky ?_
    refine wp_skip (then_at rfl (wp_seq (wp_block (wp_seq (wl_region ?_)))))
    refine zu (.pointer (some ⟨g, 2 * i, none⟩)) (run_addrP (q := g) (n := N) (m := cap) (a := i) ky ky hi) ?_
    refine zu (.agg #[.string (sc.getD i ByteArray.empty), .string (pb.getD i ByteArray.empty)]) (run_load_part (q := g) (off := 2 * i) (d := #[.string (sc.getD i ByteArray.empty), .string (pb.getD i ByteArray.empty)]) ky (h11.blk (g, 126, cur) (by simp [hgL])) Tryz.underlying126 rfl ky (by intro j hj; match j, hj with | 0, _ => exact (hc i hi).1 | 1, _ => exact (hc i hi).2)) ?_
    refine wl_make (c := #[.string ({ data := #[] }), .string ({ data := #[] })]) h11 126 ky ky ?_
    intro q12 w13 (h14 : HA z6 ((q12, 126, #[.string ({ data := #[] }), .string ({ data := #[] })]) :: ((Lr ++ L) ++ X7)) w13)
    refine wl_fill (c' := #[.string (sc.getD i ByteArray.empty), .string (pb.getD i ByteArray.empty)]) h14 0 rfl ky ky ky rfl ky ky ?_
    intro w15 (h16 : HA z6 ((q12, 126, #[.string (sc.getD i ByteArray.empty), .string (pb.getD i ByteArray.empty)]) :: ((Lr ++ L) ++ X7)) w15)
    refine wl_nil (then_at rfl (wp_seq (wl_region ?_)))
    refine zv (.pointer (some ⟨p.q, 0, none⟩)) ?_
    refine zv (.pointer (some ⟨q12, 0, none⟩)) ?_
    refine zu (.string ((sc.getD i ByteArray.empty))) (run_load1 (fun w => Tryz.isAgg9 w) ky (((h16.get 0 rfl).cell 0).trans rfl)) ?_
    refine zv (.pointer (some ⟨q12, 1, none⟩)) ?_
    refine zu (.string ((pb.getD i ByteArray.empty))) (run_load1 (fun w => Tryz.isAgg9 w) ky (((h16.get 0 rfl).cell 1).trans rfl)) ?_
    refine wl_callx ky enter109 #[.pointer (some ⟨p.q, 0, none⟩), .string ((sc.getD i ByteArray.empty)), .string ((pb.getD i ByteArray.empty))] ky (Dh_E (hcl8 ((q12, 126, #[.string (sc.getD i ByteArray.empty), .string (pb.getD i ByteArray.empty)]) :: (Lr ++ L)) _ h16) ((sc.getD i ByteArray.empty)) ((pb.getD i ByteArray.empty)) (hsz i hi).1 (hsz i hi).2 (by have := hl i (by omega); omega) (hm i hi)) ?_
    rintro _ w18 ⟨rfl, hD17⟩
    refine ⟨_, rfl, ?_⟩
    obtain ⟨z19, X20, hcl21, hbe22, h23⟩ := PH.front hD17
    have h24 : HA z19 ((q12, 126, #[.string (sc.getD i ByteArray.empty), .string (pb.getD i ByteArray.empty)]) :: ((Lr ++ L) ++ X20)) w18 := h23
    refine zv (.tuple #[.string (txt (xs.getD i 0)), iN .i64 0]) ?_
    refine zv (.string (txt (xs.getD i 0))) ?_
    refine zv (iN .i64 0) ?_
    refine zv (.string (txt (xs.getD i 0))) ?_
    refine zv (iN .i64 0) ?_
    refine wl_nil (then_at rfl (wp_seq (wp_seq (wl_region ?_))))
    refine zv (iN .i64 0) ?_
    refine zu (.bool false) (run_nei (k := .i64) (a := 0) (b := 0) ky ky false (by decide)) ?_
    refine wl_nil (then_at rfl ?_)
    refine wp_cond_false ky ?_
    refine wp_skip (then_at rfl (wl_region ?_))
    refine zv (u4 8) ?_
    refine zv (.string (txt (xs.getD i 0))) ?_
    refine wl_mks (n := 1) (m := 1) (c := #[.string (txt (xs.getD i 0))]) h24 9 ky ky ?_
    intro q25 w26 (h27 : HA z19 ((q25, 9, #[.string (txt (xs.getD i 0))]) :: (q12, 126, #[.string (sc.getD i ByteArray.empty), .string (pb.getD i ByteArray.empty)]) :: ((Lr ++ L) ++ X20)) w26)
    refine wl_append (m := 1) (c := 1) hR (HA.mv1 h27) (by decide) _ 16 Tryz.underlying86 infos9 rfl (by decide) ky ky ky rfl ky (by unfold maxLen; omega) (by omega) (by decide) ?_
    intro v2 w28 Lr2 hR2 h29
    have h30 : HA z19 ((q12, 126, #[.string (sc.getD i ByteArray.empty), .string (pb.getD i ByteArray.empty)]) :: ((Lr2 ++ L) ++ X20)) w28 := HA.bk1 h29
    have hR3 : Row 9 1 v2 (i + 1) ((shr xs (i + 1)).map Value.string) Lr2 := by rw [shr, List.map_append]; exact hR2
    refine zv (v2) ?_
    refine wl_nil (block_normal (then_at rfl (wl_region ?_)))
    refine zu (iN .i64 (i + 1)) (run_add (k := .i64) (a := i) (b := 1) ky ky (by first | omega | (simp only [top]; omega))) ?_
    refine zv (iN .i64 (i + 1)) ?_
    refine wl_nil ?_
    exact then_I ⟨fun ii => (([(6, u4 6), (7, u4 7), (8, v2), (10, .pointer (some ⟨q12, 0, none⟩)), (11, .string (txt (xs.getD i 0))), (12, iN .i64 0), (21, .bool true), (22, .pointer (some ⟨g, 2 * i, none⟩)), (23, .agg #[.string (sc.getD i ByteArray.empty), .string (pb.getD i ByteArray.empty)]), (24, .tuple #[.string (txt (xs.getD i 0)), iN .i64 0]), (25, .pointer (some ⟨p.q, 0, none⟩)), (26, .pointer (some ⟨q12, 0, none⟩)), (27, .string ((sc.getD i ByteArray.empty))), (28, .pointer (some ⟨q12, 1, none⟩)), (29, .string ((pb.getD i ByteArray.empty))), (30, .tuple #[.string (txt (xs.getD i 0)), iN .i64 0]), (31, .string (txt (xs.getD i 0))), (32, iN .i64 0), (33, iN .i64 0), (34, .bool false), (35, u4 35), (36, u4 8), (37, .string (txt (xs.getD i 0))), (38, .slice (some ⟨q25, 0, none⟩) 1 1), (39, v2), (40, iN .i64 (i + 1))] : List (Nat × Value)).find? (·.1 == ii)).elim undef (·.2), by kernel_rfl, ⟨Lr2, by exact hR3, PH.sub (hcl21 ((q12, 126, #[.string (sc.getD i ByteArray.empty), .string (pb.getD i ByteArray.empty)]) :: (Lr2 ++ L)) _ h30) (List.Sublist.cons _ (List.Sublist.refl _))⟩⟩
  · rintro _ w31 ⟨u4, rfl, ⟨Lr, hR, hD⟩⟩
    obtain ⟨g2, c2, cur2, e2, rfl, hcu⟩ := hR.texts hN1
    obtain ⟨z32, X33, hcl34, hbe35, h36⟩ := PH.front hD
    have h37 : HA z32 (([(g2, 9, cur2)] ++ L) ++ X33) w31 := h36
    have h38 : HA z32 ((g2, 9, cur2) :: (L ++ X33)) w31 := h37
    rw [e2]
    refine wp_seq (wl_region ?_)
    refine zu (.bool false) (run_lss (k := .i64) (a := N) (b := N) ky ky false (decide_eq_false (by omega))) ?_
    refine wl_nil (then_at rfl (wp_seq ?_))
    refine wp_cond_false ky ?_
    refine wp_exit ?_
    repeat first | refine then_exit ?_ | refine block_exit ?_ | refine block_exit_ne (by decide) ?_
    refine then_at rfl (wp_seq (wl_region ?_))
    refine zv (.pointer (some ⟨p.q, 0, none⟩)) ?_
    refine zv (.slice (some ⟨g2, 0, none⟩) N c2) ?_
    refine wl_call (v := .string (layT (shr xs N) N)) h38 ky enter40 #[.slice (some ⟨g2, 0, none⟩) N c2] ky (laid_E (shr_len xs N) hcu (h38.get 0 rfl) (m := 8) (by decide) (shr_size xs N) (by omega)) ?_
    intro w39 h40
    refine zv (.string salt) ?_
    refine wl_callx ky enter110 #[.pointer (some ⟨p.q, 0, none⟩), .string (layT (shr xs N) N), .string salt, .string ({ data := #[120, 51, 100, 104] }), iN .i64 1] ky (Derive_E (hcl34 ((g2, 9, cur2) :: L) _ h40) (layT (shr xs N) N) salt ({ data := #[120, 51, 100, 104] }) (by have := layT_size (ss := shr xs N) (m := 8) (shr_size xs N) N; have : N * (8 + 4) ≤ 4 * (8 + 4) := Nat.mul_le_mul_right _ hN; omega) hsa (by decide) 1 (by decide) (by decide) (by have := hl N (Nat.le_refl _); omega) hk) ?_
    rintro _ w46 ⟨g41, cp42, cu43, rfl, hc44, hD45⟩
    refine ⟨_, rfl, ?_⟩
    obtain ⟨z47, X48, hcl49, hbe50, h51⟩ := PH.front hD45
    have h52 : HA z47 ((g41, 9, cu43) :: (g2, 9, cur2) :: (L ++ X48)) w46 := h51
    refine zv (.tuple #[.slice (some ⟨g41, 0, none⟩) 1 cp42, iN .i64 0]) ?_
    refine zv (.slice (some ⟨g41, 0, none⟩) 1 cp42) ?_
    refine zv (iN .i64 0) ?_
    refine zv (.slice (some ⟨g41, 0, none⟩) 1 cp42) ?_
    refine zv (iN .i64 0) ?_
    refine wl_nil (then_at rfl (wp_seq (wp_seq (wl_region ?_))))
    refine zv (iN .i64 0) ?_
    refine zu (.bool false) (run_nei (k := .i64) (a := 0) (b := 0) ky ky false (by decide)) ?_
    refine wl_nil (then_at rfl ?_)
    refine wp_cond_false ky ?_
    refine wp_skip (then_at rfl (wp_seq (wl_region ?_)))
    refine zv (.slice (some ⟨g41, 0, none⟩) 1 cp42) ?_
    refine zu (.pointer (some ⟨g41, 0, none⟩)) (run_addr_slice (q := g41) (n := 1) (m := cp42) (a := 0) Tryz.underlying86 (fun w => Tryz.sizeOf9 w) ky ky (by decide)) ?_
    refine zu (.string key) (run_load1 (fun w => Tryz.isAgg9 w) ky (((h52.get 0 rfl).cell 0).trans (hc44 0 (by decide)))) ?_
    refine zv (.string key) ?_
    refine zv (iN .i64 0) ?_
    refine wl_nil (then_at rfl ?_)
    refine wp_ret ?_
    repeat first | refine then_ret ?_ | refine block_ret ?_
    exact bodyPost_ret (v := .tuple #[.string key, iN .i64 0]) ky rfl ⟨rfl, PH.sub (hcl49 ((g41, 9, cu43) :: (g2, 9, cur2) :: L) _ h52) (List.Sublist.cons _ (List.Sublist.cons _ (List.Sublist.refl _)))⟩
end Go.Proofs.YtoogiblkommdfaaGreat
