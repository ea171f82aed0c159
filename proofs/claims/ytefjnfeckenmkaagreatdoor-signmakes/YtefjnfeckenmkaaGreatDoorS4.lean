/-
 scalar: RefS2a RefS2.
-/
import Derived.Test.YtefjnfeckenmkaaGreatDoorS3
namespace Go.Proofs.YtefjnfeckenmkaaGreatDoor.Sc
set_option linter.unusedVariables false
set_option maxRecDepth 100000
set_option maxHeartbeats 2000000
open Go.RowKit Num
def row (k i : Nat) : Nat := if i < k then 2 ^ i * Lq else 0
def tbl (k : Nat) : Array Value := (Array.range 360).map fun m => iN .i64 (row k (m / 36) / 256 ^ (m % 36) % 256)
theorem tbl_size (k : Nat) : (tbl k).size = 360 := by unfold tbl; rw [Array.size_map, Array.size_range]
theorem tbl_get (k m : Nat) (hm : m < 360) : (tbl k)[m]? = some (iN .i64 (row k (m / 36) / 256 ^ (m % 36) % 256)) := by
 unfold tbl
 rw [Array.getElem?_map, Array.getElem?_range, if_pos hm]
 rfl
theorem tbl_splice (k : Nat) (hk : k < 10) : ((tbl k).toList.take (36 * k) ++ (rl (2 ^ k * Lq)).toList ++ (tbl k).toList.drop (36 * k + (rl (2 ^ k * Lq)).size)).toArray = tbl (k + 1) := by
 have hl : (tbl k).toList.length = 360 := by rw [Array.length_toList, tbl_size]
 have hr : (rl (2 ^ k * Lq)).toList.length = 36 := by rw [Array.length_toList, rl_size]
 refine Array.ext_getElem? fun m => ?_
 rw [List.getElem?_toArray, rl_size, List.getElem?_append, List.getElem?_append, List.length_append, List.length_take, hl, hr, Nat.min_eq_left (by omega)]
 by_cases h1 : m < 36 * k
 ·rw [if_pos (by omega), if_pos h1, List.getElem?_take_of_lt h1, Array.getElem?_toList, tbl_get k m (by omega), tbl_get (k + 1) m (by omega)]
  have e : row k (m / 36) = row (k + 1) (m / 36) := by unfold row; rw [if_pos (by omega), if_pos (by omega)]
  rw [e]
 ·by_cases h2 : m < 36 * k + 36
  ·rw [if_pos h2, if_neg h1, Array.getElem?_toList, rl_get _ _ (by omega), tbl_get (k + 1) m (by omega)]
   have e : row (k + 1) (m / 36) = 2 ^ k * Lq := by unfold row; rw [if_pos (by omega), show m / 36 = k by omega]
   rw [e, show m % 36 = m - 36 * k by omega]
  ·rw [if_neg h2, List.getElem?_drop, Array.getElem?_toList, show 36 * k + 36 + (m - (36 * k + 36)) = m by omega]
   by_cases h3 : m < 360
   ·rw [tbl_get k m h3, tbl_get (k + 1) m h3]
    have e : row k (m / 36) = row (k + 1) (m / 36) := by unfold row; rw [if_neg (by omega), if_neg (by omega)]
    rw [e]
   ·rw [Array.getElem?_eq_none (by rw [tbl_size]; omega), Array.getElem?_eq_none (by rw [tbl_size]; omega)]
section
variable {ρ : Operand → Value} {x y : Operand} {w : World} {dst : Option Tmp} {ty : TypeId} {pos : String} {aft : Array Edge} {gd : Option (Nat × Bool)} {q a k : Nat}
theorem run_addr57   (ha : a < 10) (hx : ρ x = .pointer (some ⟨q, 0, none⟩) := by kernel_rfl) (hy : ρ y = iN .i64 a := by kernel_rfl) : (execOp ρ ⟨dst, .indexAddr 127 x y, ty, pos, aft, gd⟩).run Tryz.prog w = .ok (.value (.pointer (some ⟨q, 36 * a, none⟩))) w := by
 have ha' : (a : Int) < 10 := by omega
 simp only [execOp, hx, hy, iN]
 simp [go_sem, Tryz.underlying127, Tryz.sizeOf80, ha', Addr.add, Nat.mul_comm]
 intro h
 omega
theorem run_row (hx : ρ x = .pointer (some ⟨q, 36 * a, none⟩)) (h : Blk w q 127 (tbl k)) (ha : a < k) (h10 : a < 10) : (execOp ρ ⟨dst, .load 80 x, ty, pos, aft, gd⟩).run Tryz.prog w = .ok (.value (rarr (2 ^ a * Lq))) w := by
 have hr : w.rangeAt q (36 * a) (rl (2 ^ a * Lq)).toList := fun j v hv => by
  have hj : j < 36 := by have := (List.getElem?_eq_some_iff.1 hv).1; simpa [rl_size] using this
  rw [Array.getElem?_toList, rl_get _ _ hj] at hv
  rw [h.cell (36 * a + j), tbl_get k _ (by omega), ← hv]
  have e : row k ((36 * a + j) / 36) = 2 ^ a * Lq := by unfold row; rw [if_pos (by omega), show (36 * a + j) / 36 = a by omega]
  rw [e, show (36 * a + j) % 36 = j by omega]
 simp only [execOp, hx, Instr.loadAt, Instr.sureAddr, Sem.run_bind, Sem.run_pure, Result.andThen_ok, run_loadVar_mid w q (36 * a) 80 (rl (2 ^ a * Lq)).toList _ hr Tryz.underlying80 rfl (by rw [Array.length_toList]; exact info37)]
 rfl
end
theorem grown_sets {w : World} {q o : Nat} {vs : List Value} : w.grownBy (w.setCells q o vs) (some q) := by
 have key : ∀ (vs : List Value) (o : Nat) (w2 : World), w.grownBy w2 (some q) → w.grownBy (w2.setCells q o vs) (some q) := by
  intro vs
  induction vs with
  | nil => intro o w2 h; exact h
  | cons v r ih =>
   intro o w2 h
   refine ih (o + 1) _ ⟨h.os, h.tape, h.output, by simpa using h.size, fun k hk hne => ?_⟩
   rw [Below.heap_setCell w2 ⟨q, o, none⟩ v k (fun e => hne (by rw [e]))]
   exact h.block k hk hne
 exact key vs o w ⟨rfl, rfl, rfl, Nat.le_refl _, fun _ _ _ => rfl⟩
section
variable {P : Program} {ops : Array Oper} {Q : Exit → Act → World → Prop} {a : Act} {rest : List Oper} {w w0 : World} {L : List (Nat × TypeId × Array Value)} {dst : Option Tmp} {ty ty' : TypeId} {pos : String} {aft : Array Edge} {gd : Option (Nat × Bool)}
theorem wl_fillp {x y : Operand} {q off : Nat} {t : TypeId} {c c' c'' : Array Value} (H : HA w0 L w) (i : Nat) (hi : L[i]? = some (q, t, c)) (hw : Region.wanted ⟨dst, .store ty x y, ty', pos, aft, gd⟩ (yielded ops a.tmps) = true)
  (hx : a.eval x = .pointer (some ⟨q, off, none⟩)) (hy : a.eval y = .agg c') (hz : (P.info? ty).map (·.size) = some c'.size) (h1 : c'.all (·.oneCell') = true) (hs : off + c'.size ≤ c.size)
  (hc : (c.toList.take off ++ c'.toList ++ c.toList.drop (off + c'.size)).toArray = c'')
  (h : ∀ w', HA w0 (L.set i (q, t, c'')) w' → WL P ops Q rest (a.put dst undef) w') : WL P ops Q (⟨dst, .store ty x y, ty', pos, aft, gd⟩ :: rest) a w := by
 have hb := H.get i hi
 have hth : w.there q off c'.size := fun j hj => ⟨by rw [hb.cell (off + j)]; simp; omega, hb.free (off + j) (by show off + j < c.size; omega)⟩
 have e : (execOp a.eval ⟨dst, .store ty x y, ty', pos, aft, gd⟩).run P w = .ok .skip (w.setCells q off c'.toList) := by
  simp only [execOp, hx, hy, Instr.storeAt, Instr.sureAddr, Sem.run_bind, Sem.run_pure, Result.andThen_ok, run_storeVar_mid w q off ty c' hth hz h1]
 refine wl_skips hw e (h _ (H.turn i hi grown_sets ?_))
 rw [← hc]
 have h2 := Blk.sets c'.toList off w c hb (by rw [Array.length_toList]; exact hs)
 rw [Array.length_toList] at h2
 exact h2
end
section
variable {ops : Array Oper} {Q : Exit → Act → World → Prop} {F : (Nat → Nat) → Act} {i i0 i1 j q : Nat} {w0 : World} {L : List (Nat × TypeId × Array Value)} {t : TypeId} {c : Array Value}
theorem gf_read {o : Oper} {v : Value} {e : Nat × TypeId × Array Value} (m : Nat) (hjm : j ≠ m) (hm : L[m]? = some e) (hi : i ≠ i0) (hw : ∀ g, Region.wanted o (yielded ops (F g).tmps) = true) (hp : ∀ g, (F g).put o.dst v = F g)
  (hr : ∀ g w, Blk w e.1 e.2.1 e.2.2 → (execOp (F g).eval o).run Tryz.prog w = .ok (.value v) w) : OpGhost Tryz.prog .any ops Q (GF w0 L i0 i1 j q t c) F i o :=
 OpGhost.take (v := fun _ => v) hw hp (fun g d w h _ => by
  have hB : Blk w e.1 e.2.1 e.2.2 := by
   have hH := h.held
   split at hH
   ·exact hH.get m (by rw [List.getElem?_set_ne hjm]; exact hm)
   ·exact hH.get m hm
  exact ⟨hr g w hB, h.keep hi (Below.refl _ w)⟩)
end
theorem run_alloc57 {ρ : Operand → Value} {w : World} {dst : Option Tmp} {ty : TypeId} {pos : String} {aft : Array Edge} {gd : Option (Nat × Bool)} :
  (execOp ρ ⟨dst, .alloc 127, ty, pos, aft, gd⟩).run Tryz.prog w = .ok (.value (.pointer (some ⟨w.heap.size, 0, none⟩))) (w.alloc (.cells (tbl 0) 127)) := by
 have e : (execOp ρ ⟨dst, .alloc 127, ty, pos, aft, gd⟩).run Tryz.prog w = .ok (.value (.pointer (some ⟨w.heap.size, 0, none⟩))) (w.alloc (.cells (Array.replicate 360 (.int .i64 0)) 127)) := by kernel_rfl
 rw [e, show Array.replicate 360 (Value.int .i64 0) = tbl 0 by kernel_rfl]
theorem red_step (a v M : Nat) (hM : 0 < M) (hv : v = a % (2 * M)) : (v < M → v = a % M) ∧ (¬ v < M → v - M = a % M) := by
 have h1 : a % M = v % M := by rw [hv, Nat.mod_mod_of_dvd _ ⟨2, Nat.mul_comm _ _⟩]
 have h2 : v < 2 * M := by rw [hv]; exact Nat.mod_lt _ (by omega)
 refine ⟨fun h => ?_, fun h => ?_⟩
 ·rw [h1, Nat.mod_eq_of_lt h]
 ·rw [h1, show v = (v - M) + M by omega, Nat.add_mod_right, Nat.mod_eq_of_lt (by omega), Nat.add_sub_cancel]
theorem rdouble_pow (k : Nat) (w : World) : Calls Tryz.prog 101 #[rarr (2 ^ k * Lq)] w fun e w' => e = .returned (rarr (2 ^ (k + 1) * Lq)) ∧ Below w.heap.size w w' := by
 have h := rdouble_any (2 ^ k * Lq) w
 rwa [show 2 * (2 ^ k * Lq) = 2 ^ (k + 1) * Lq by rw [Nat.pow_succ, ← Nat.mul_assoc, Nat.mul_comm 2]] at h
theorem rbelow_yes (a b : Nat) (ha : a < 256 ^ 36) (hb : b < 256 ^ 36) (h : a < b) (w : World) : Calls Tryz.prog 102 #[rarr a, rarr b] w fun e w' => e = .returned (.bool true) ∧ Below w.heap.size w w' := by
 have h1 := rbelow_any a b ha hb w
 rwa [decide_eq_true h] at h1
theorem rbelow_no (a b : Nat) (ha : a < 256 ^ 36) (hb : b < 256 ^ 36) (h : ¬ a < b) (w : World) : Calls Tryz.prog 102 #[rarr a, rarr b] w fun e w' => e = .returned (.bool false) ∧ Below w.heap.size w w' := by
 have h1 := rbelow_any a b ha hb w
 rwa [decide_eq_false h] at h1
theorem pow_Lq_lt (M j : Nat) (hM : M = Lq) (hj : j ≤ 10) : 2 ^ j * M < 256 ^ 36 := by
 have h1 : 2 ^ j ≤ 2 ^ 10 := Nat.pow_le_pow_right (by decide) hj
 have h2 : M ≤ 256 ^ 32 := by rw [hM]; decide
 exact Nat.lt_of_le_of_lt (Nat.mul_le_mul h1 h2) (by decide)
theorem rorder_zero (w : World) : Calls Tryz.prog 100 #[] w fun e w' => e = .returned (rarr (2 ^ 0 * Lq)) ∧ Below w.heap.size w w' := by
 rw [Nat.pow_zero, Nat.one_mul]
 exact rorder_any w
theorem rmodulo_any (a : Nat) (ha : a < 2 ^ 10 * Lq) (w : World) :
  Calls Tryz.prog 63 #[rarr a] w fun e w' => e = .returned (rarr (a % Lq)) ∧ Below w.heap.size w w' := by
 have H0 := HA.start w
 go_enter Tryz.func63, Tryz.ntmps63
 refine zsr ?_
 refine wl_make H0 80 (run_box37 (c := rl a)) ?_
 intro q1 w2 h3
 refine wl_make h3 80 run_alloc37 ?_
 intro q4 w5 h6
 refine znt ?_
 refine zsr ?_
 refine wl_make h6 127 run_alloc57 ?_
 intro q7 w8 h9
 refine znt ?_
 refine zsr ?_
 refine zwc h9 enS100 (rorder_zero w8) ?_
 intro w10 h11
 refine zwu (run_addr57 (q := q7) (a := 0) (by omega)) ?_
 refine wl_fillp (off := 36 * 0) (c' := rl (2 ^ 0 * Lq)) (c'' := tbl (0 + 1)) h11 0 rfl (by kernel_rfl) (by kernel_rfl) (by kernel_rfl) (info_rl _) (one_rl _) (by rw [tbl_size, rl_size]; omega) (tbl_splice 0 (by omega)) ?_
 intro w12 (h13 : HA w [(q7, 127, tbl (0 + 1)), (q4, 80, rl 0), (q1, 80, rl a)] w12)
 refine znt ?_
 refine wp_seq ?_
 refine zsr ?_
 refine zwv (iN .i64 1) ?_
 refine znt ?_
 refine wp_block ?_
 refine wp_count (fun k A w' => ∃ u14 : Nat → Value, A = ⟨(rarr a :: pt q1 :: pt q4 :: pt q7 :: iN .i64 (k + 1) :: un :: rarr (2 ^ 0 * Lq) :: .pointer (some ⟨q7, 36 * 0, none⟩) :: u14 8 :: u14 9 :: u14 10 :: u14 11 :: u14 12 :: u14 13 :: u14 14 :: u14 15 :: u14 16 :: u14 17 :: u14 18 :: List.replicate 16 un).toArray, []⟩ ∧ HA w [(q7, 127, tbl (k + 1)), (q4, 80, rl 0), (q1, 80, rl a)] w') 9 ?_ ?_ ?_
 ·exact zex h13
 ·rintro k hk _ w15 ⟨u14, rfl, h16⟩
  refine wp_seq ?_
  refine zsr ?_
  refine zwv (iN .i64 (k + 1)) ?_
  refine zwu (run_lss (k := .i64) (a := k + 1) (b := 10) true (decide_eq_true (by omega))) ?_
  refine znt ?_
  refine zct ?_
  refine wp_skip ?_
  refine then_at rfl ?_
  refine wp_seq ?_
  refine wp_block ?_
  refine wl_region ?_
  refine zwv (iN .i64 (k + 1)) ?_
  refine zwv (iN .i64 (k + 1)) ?_
  refine zwu (run_sub (k := .i64) (a := k + 1) (b := 1) (by omega) (by simp only [top]; omega)) ?_
  refine zwu (run_addr57 (q := q7) (a := k) (by omega)) ?_
  refine zwu (run_row (q := q7) (a := k) (k := k + 1) (by kernel_rfl) (h16.get 0 rfl) (by omega) (by omega)) ?_
  refine zwc h16 enS101 (rdouble_pow k w15) ?_
  intro w17 h18
  refine zwu (run_addr57 (q := q7) (a := k + 1) (by omega)) ?_
  refine wl_fillp (off := 36 * (k + 1)) (c' := rl (2 ^ (k + 1) * Lq)) (c'' := tbl (k + 1 + 1)) h18 0 rfl (by kernel_rfl) (by kernel_rfl) (by kernel_rfl) (info_rl _) (one_rl _) (by rw [tbl_size, rl_size]; omega) (tbl_splice (k + 1) (by omega)) ?_
  intro w19 (h20 : HA w [(q7, 127, tbl (k + 1 + 1)), (q4, 80, rl 0), (q1, 80, rl a)] w19)
  refine wl_nil ?_
  refine block_normal ?_
  refine then_at rfl ?_
  refine wl_region ?_
  refine zwv (iN .i64 (k + 1)) ?_
  refine zwu (run_add (k := .i64) (a := k + 1) (b := 1) (by simp only [top]; omega)) ?_
  refine zwv (iN .i64 ((k + 1) + 1)) ?_
  refine wl_nil ?_
  exact then_I (zex h20)
 ·rintro _ w21 ⟨u14, rfl, h22⟩
  refine wp_seq ?_
  refine zsr ?_
  refine zwv (iN .i64 (9 + 1)) ?_
  refine zwu (run_lss (k := .i64) (a := 9 + 1) (b := 10) false (by decide)) ?_
  refine znt ?_
  refine zcf ?_
  refine wp_exit ?_
  repeat first | refine then_exit ?_ | refine block_exit ?_ | refine block_exit_ne (by decide) ?_
  refine then_at rfl ?_
  refine wp_seq ?_
  refine zsr ?_
  refine zwv (iN .i64 9) ?_
  refine znt ?_
  refine wp_block ?_
  refine wp_count (fun i A w' => ∃ u23 : Nat → Value, A = ⟨(rarr a :: pt q1 :: pt q4 :: pt q7 :: iN .i64 (9 + 1) :: dnv (10 - i) :: rarr (2 ^ 0 * Lq) :: .pointer (some ⟨q7, 36 * 0, none⟩) :: iN .i64 (9 + 1) :: .bool false :: u14 10 :: u14 11 :: u14 12 :: u14 13 :: u14 14 :: u14 15 :: u14 16 :: u14 17 :: u14 18 :: u23 19 :: u23 20 :: u23 21 :: u23 22 :: u23 23 :: u23 24 :: u23 25 :: u23 26 :: u23 27 :: u23 28 :: u23 29 :: u23 30 :: u23 31 :: u23 32 :: u23 33 :: List.replicate 1 un).toArray, []⟩ ∧ HA w [(q7, 127, tbl (9 + 1)), (q4, 80, rl 0), (q1, 80, rl (a % (2 ^ (10 - i) * Lq)))] w') 10 ?_ ?_ ?_
  ·exact zex ((by rw [Nat.sub_zero, Nat.mod_eq_of_lt ha]; exact h22))
  ·rintro i hi _ w24 ⟨u23, rfl, h25⟩
   obtain ⟨j, hj, ej⟩ : ∃ j, j < 10 ∧ 10 - i = j + 1 := ⟨9 - i, by omega, by omega⟩
   have ej2 : 10 - (i + 1) = j := by omega
   rw [ej] at h25
   rw [ej, ej2]
   obtain ⟨v, hv⟩ : ∃ v, v = a % (2 ^ (j + 1) * Lq) := ⟨_, rfl⟩
   rw [← hv] at h25
   have hv36 : v < 256 ^ 36 := by rw [hv]; exact Nat.lt_trans (Nat.mod_lt _ (Nat.mul_pos (Nat.pow_pos (by decide)) Lq_pos)) (pow_Lq_lt Lq (j + 1) rfl (by omega))
   have hred := red_step a v (2 ^ j * Lq) (Nat.mul_pos (Nat.pow_pos (by decide)) Lq_pos) (by rw [hv, Nat.pow_succ, Nat.mul_comm (2 ^ j) 2, Nat.mul_assoc])
   refine wp_seq ?_
   refine zsr ?_
   refine zwv (iN .i64 j) ?_
   refine zwu (run_geq0 (k := .i64) (a := ((j : Nat) : Int)) (b := 0) true (decide_eq_true (by omega))) ?_
   refine znt ?_
   refine zct ?_
   refine wp_skip ?_
   refine then_at rfl ?_
   refine wp_seq ?_
   refine wp_block ?_
   refine wp_seq ?_
   by_cases hlt : v < 2 ^ j * Lq
   · -- region 10
    refine zrs ⟨(rarr a :: pt q1 :: pt q4 :: pt q7 :: iN .i64 (9 + 1) :: iN .i64 j :: rarr (2 ^ 0 * Lq) :: .pointer (some ⟨q7, 36 * 0, none⟩) :: iN .i64 (9 + 1) :: .bool false :: u14 10 :: u14 11 :: u14 12 :: u14 13 :: u14 14 :: u14 15 :: u14 16 :: u14 17 :: u14 18 :: iN .i64 j :: .bool true :: u23 21 :: u23 22 :: rarr v :: iN .i64 j :: .pointer (some ⟨q7, 36 * j, none⟩) :: rarr (2 ^ j * Lq) :: .bool true :: .bool false :: u23 29 :: u23 30 :: u23 31 :: u23 32 :: u23 33 :: List.replicate 1 un).toArray, []⟩ (HA w [(q7, 127, tbl (9 + 1)), (q4, 80, rl 0), (q1, 80, rl v)]) h25.drew ?_ ?_
    ·refine zst (v := rarr v) (fun _ h => run_load_blk (h.get 2 rfl) Tryz.underlying80 rfl (info_rl _)) ?_
     refine zsp (iN .i64 j) ?_
     refine zst (fun _ _ => (run_addr57 (q := q7) (a := j) (by omega))) ?_
     refine zst (fun w' h' => run_row (q := q7) (a := j) (k := 9 + 1) (by kernel_rfl) (h'.get 0 rfl) (by omega) (by omega)) ?_
     refine zsc enS102 HA.keep (fun w' h' => rbelow_yes v (2 ^ j * Lq) hv36 (pow_Lq_lt Lq j rfl (by omega)) hlt w') ?_
     refine zsp (.bool false) ?_
     exact AllSure.nil
    intro w26 h27
    refine then_at rfl ?_
    refine zcf ?_
    refine wp_skip ?_
    refine block_normal ?_
    refine then_at rfl ?_
    refine wl_region ?_
    refine zwv (iN .i64 j) ?_
    refine zwu (run_dec (j := j) (by omega)) ?_
    refine zwv (dnv j) ?_
    refine wl_nil ?_
    exact then_I (zex ((by rw [← hred.1 hlt]; exact h27)))
   · -- region 10
    refine zrs ⟨(rarr a :: pt q1 :: pt q4 :: pt q7 :: iN .i64 (9 + 1) :: iN .i64 j :: rarr (2 ^ 0 * Lq) :: .pointer (some ⟨q7, 36 * 0, none⟩) :: iN .i64 (9 + 1) :: .bool false :: u14 10 :: u14 11 :: u14 12 :: u14 13 :: u14 14 :: u14 15 :: u14 16 :: u14 17 :: u14 18 :: iN .i64 j :: .bool true :: u23 21 :: u23 22 :: rarr v :: iN .i64 j :: .pointer (some ⟨q7, 36 * j, none⟩) :: rarr (2 ^ j * Lq) :: .bool false :: .bool true :: u23 29 :: u23 30 :: u23 31 :: u23 32 :: u23 33 :: List.replicate 1 un).toArray, []⟩ (HA w [(q7, 127, tbl (9 + 1)), (q4, 80, rl 0), (q1, 80, rl v)]) h25.drew ?_ ?_
    ·refine zst (v := rarr v) (fun _ h => run_load_blk (h.get 2 rfl) Tryz.underlying80 rfl (info_rl _)) ?_
     refine zsp (iN .i64 j) ?_
     refine zst (fun _ _ => (run_addr57 (q := q7) (a := j) (by omega))) ?_
     refine zst (fun w' h' => run_row (q := q7) (a := j) (k := 9 + 1) (by kernel_rfl) (h'.get 0 rfl) (by omega) (by omega)) ?_
     refine zsc enS102 HA.keep (fun w' h' => rbelow_no v (2 ^ j * Lq) hv36 (pow_Lq_lt Lq j rfl (by omega)) hlt w') ?_
     refine zsp (.bool true) ?_
     exact AllSure.nil
    intro w28 h29
    refine then_at rfl ?_
    refine zct ?_
    refine zrg (fun _ : Nat → Nat => (⟨(rarr a :: pt q1 :: pt q4 :: pt q7 :: iN .i64 (9 + 1) :: iN .i64 j :: rarr (2 ^ 0 * Lq) :: .pointer (some ⟨q7, 36 * 0, none⟩) :: iN .i64 (9 + 1) :: .bool false :: u14 10 :: u14 11 :: u14 12 :: u14 13 :: u14 14 :: u14 15 :: u14 16 :: u14 17 :: u14 18 :: iN .i64 j :: .bool true :: u23 21 :: u23 22 :: rarr v :: iN .i64 j :: .pointer (some ⟨q7, 36 * j, none⟩) :: rarr (2 ^ j * Lq) :: .bool false :: .bool true :: rarr v :: iN .i64 j :: .pointer (some ⟨q7, 36 * j, none⟩) :: rarr (2 ^ j * Lq) :: rarr (v - 2 ^ j * Lq) :: List.replicate 1 un).toArray, []⟩ : Act)) (GF w [(q7, 127, tbl (9 + 1)), (q4, 80, rl 0), (q1, 80, rl v)] 5 0 2 q1 80 (rl (v - 2 ^ j * Lq))) (fun d hd => GF.start h29.drew (hd 5 (by decide))) ?_ ?_
    ·refine zg (gf_load 2 rfl Tryz.underlying80 rfl (info_rl _)) ?_
     refine zg (gf_plain (v := iN .i64 j) (fun _ _ => (by kernel_rfl))) ?_
     refine zg (gf_plain (v := .pointer (some ⟨q7, 36 * j, none⟩)) (fun _ _ => (run_addr57 (q := q7) (a := j) (by omega)))) ?_
     refine zg (gf_read (v := rarr (2 ^ j * Lq)) 0 (by decide) rfl (by decide) (fun _ => by kernel_rfl) (fun _ => by kernel_rfl) (fun _ _ hb => run_row (q := q7) (a := j) (k := 9 + 1) (by kernel_rfl) hb (by omega) (by omega))) ?_
     refine zg (gf_call (v := rarr (v - 2 ^ j * Lq)) enS103 #[rarr v, rarr (2 ^ j * Lq)] (fun w' => rless_any v (2 ^ j * Lq) (Nat.le_of_not_lt hlt) w')) ?_
     refine zg (gf_fill rfl (rl_sz _ _) (info_rl _) (one_rl _)) ?_
     exact AllGhost.nil
    intro _ w30 g31
    have h32 : HA w [(q7, 127, tbl (9 + 1)), (q4, 80, rl 0), (q1, 80, rl (v - 2 ^ j * Lq))] w30 := g31.held
    clear g31
    refine block_normal ?_
    refine then_at rfl ?_
    refine wl_region ?_
    refine zwv (iN .i64 j) ?_
    refine zwu (run_dec (j := j) (by omega)) ?_
    refine zwv (dnv j) ?_
    refine wl_nil ?_
    exact then_I (zex ((by rw [← hred.2 hlt]; exact h32)))
  ·rintro _ w33 ⟨u23, rfl, h34⟩
   refine wp_seq ?_
   refine zsr ?_
   refine zwv (dnv 0) ?_
   refine zwu (run_geq0 (k := .i64) (a := -1) (b := 0) false (by decide)) ?_
   refine znt ?_
   refine zcf ?_
   refine wp_exit ?_
   repeat first | refine then_exit ?_ | refine block_exit ?_ | refine block_exit_ne (by decide) ?_
   have h35 : HA w [(q7, 127, tbl (9 + 1)), (q4, 80, rl 0), (q1, 80, rl (a % Lq))] w33 := by have e := h34; rw [Nat.sub_self, Nat.pow_zero, Nat.one_mul] at e; exact e
   refine then_at rfl ?_
   refine zsr ?_
   refine wl_load h35 2 rfl Tryz.underlying80 rfl (info_rl _) ?_
   refine wl_fill (c' := rl (a % Lq)) h35 1 rfl (rl_sz _ _) (info_rl _) (one_rl _) ?_
   intro w36 (h37 : HA w [(q7, 127, tbl (9 + 1)), (q4, 80, rl (a % Lq)), (q1, 80, rl (a % Lq))] w36)
   refine znt ?_
   refine wp_ret ?_
   repeat first | refine then_ret ?_ | refine block_ret ?_
   exact bodyPost_ret (res_cell (p := 2) (by kernel_rfl) (by kernel_rfl) (h37.get 1 rfl) Tryz.underlying80 rfl (info_rl _)) rfl ⟨rfl, h37.old⟩
end Go.Proofs.YtefjnfeckenmkaaGreatDoor.Sc

namespace Go.Proofs.YtefjnfeckenmkaaGreatDoor.Sc
set_option linter.unusedVariables false
set_option maxRecDepth 100000
set_option maxHeartbeats 2000000
open Go.RowKit Num
def dR (r : Nat) : Nat → Nat
 | 0 => 0
 | k + 1 => r / 256 ^ k % 256
theorem dR_eq (B r k : Nat) (hB : B = 256) : dR r k = r * B / B ^ k % B := by
 have hp : 0 < B := by omega
 cases k with
 | zero =>
  rw [Nat.pow_zero, Nat.div_one, Nat.mul_mod_left]
  rfl
 | succ k =>
  rw [Nat.pow_succ, Nat.mul_div_mul_right _ _ hp]
  subst hB
  rfl
theorem dR_lt (r k : Nat) : dR r k < 256 := by rw [dR_eq 256 r k rfl]; exact Nat.mod_lt _ (by decide)
def sS (r a n k : Nat) : Nat := r * 256 % 256 ^ k + a % 256 ^ k * n
def cyS (r a n : Nat) : Nat → Nat
 | 0 => 0
 | k + 1 => (cyS r a n k + a / 256 ^ k % 256 * n + dR r k) / 256
theorem sS_step (B r a n k : Nat) (hB : B = 256) : r * B % B ^ (k + 1) + a % B ^ (k + 1) * n = (r * B % B ^ k + a % B ^ k * n) + (a / B ^ k % B * n + dR r k) * B ^ k := by
 rw [mod_step B (r * B) k, mod_step B a k, dR_eq B r k hB, Nat.add_mul (a % B ^ k), Nat.add_mul (a / B ^ k % B * n), Nat.mul_right_comm]
 omega
theorem cyS_eq (B r a n : Nat) : ∀ k, (hB : B = 256) → cyS r a n k = (r * B % B ^ k + a % B ^ k * n) / B ^ k
 | 0, _ => by simp [cyS, Nat.mod_one]
 | k + 1, hB => by
  have h := (carry_step B _ _ k _ (by omega) (sS_step B r a n k hB)).2
  rw [h, ← cyS_eq B r a n k hB]
  subst hB
  show (cyS r a n k + a / 256 ^ k % 256 * n + dR r k) / 256 = _
  congr 1
  omega
theorem dn_le (a n k : Nat) (hn : n < 256) : a / 256 ^ k % 256 * n ≤ 255 * 255 := Nat.mul_le_mul (by have := Nat.mod_lt (a / 256 ^ k) (show 256 > 0 by decide); omega) (by omega)
theorem cyS_lt (r a n : Nat) (hn : n < 256) : ∀ k, cyS r a n k < 65536
 | 0 => Nat.zero_lt_succ 65535
 | k + 1 => by
  have h1 := cyS_lt r a n hn k
  have h2 := dn_le a n k hn
  have h3 := dR_lt r k
  show (cyS r a n k + a / 256 ^ k % 256 * n + dR r k) / 256 < 65536
  omega
theorem sS_push (r a n k : Nat) (hk : k < 36) : (rl (sS r a n k % 256 ^ k)).setIfInBounds k (.int .i64 (((cyS r a n k + a / 256 ^ k % 256 * n + dR r k) % 256 : Nat) : Int)) = rl (sS r a n (k + 1) % 256 ^ (k + 1)) := by
 rw [rl_put _ k _ (Nat.mod_lt _ (Nat.pow_pos (by decide))) hk (Nat.mod_lt _ (by decide))]
 have h := (carry_step 256 _ _ k _ (by decide) (sS_step 256 r a n k rfl)).1
 have e : (cyS r a n k + a / 256 ^ k % 256 * n + dR r k) % 256 = (a / 256 ^ k % 256 * n + dR r k + (r * 256 % 256 ^ k + a % 256 ^ k * n) / 256 ^ k) % 256 := by
  rw [← cyS_eq 256 r a n k rfl]
  congr 1
  omega
 rw [e]
 unfold sS
 rw [h]
theorem step_small (M r a n : Nat) (hr : r < M) (ha : a < M) (hn : n < 256) : r * 256 + a * n < 2 ^ 10 * M := by
 have h1 : a * n ≤ M * 255 := Nat.mul_le_mul (by omega) (by omega)
 omega
theorem sS_end (r a n : Nat) (hr : r < Lq) (ha : a < Lq) (hn : n < 256) : sS r a n 36 % 256 ^ 36 = r * 256 + a * n ∧ r * 256 + a * n < 2 ^ 10 * Lq := by
 have h2 := step_small Lq r a n hr ha hn
 have h3 := pow_Lq_lt Lq 10 rfl (Nat.le_refl _)
 have h4 : r * 256 < 256 ^ 36 := Nat.lt_of_le_of_lt (Nat.le_add_right _ _) (Nat.lt_trans h2 h3)
 have h5 : a < 256 ^ 36 := Nat.lt_trans ha (by decide)
 refine ⟨?_, h2⟩
 unfold sS
 rw [Nat.mod_eq_of_lt h4, Nat.mod_eq_of_lt h5, Nat.mod_eq_of_lt (Nat.lt_trans h2 h3)]
theorem run_gtr {ρ : Operand → Value} {x y : Operand} {w : World} {dst : Option Tmp} {T T2 ty : TypeId} {pos : String} {aft : Array Edge} {gd : Option (Nat × Bool)} {k : IntKind} {a b : Nat} {P : Program} (hx : ρ x = iN k a) (hy : ρ y = iN k b) (t : Bool) (ht : decide (b < a) = t) : (execOp ρ ⟨dst, .binOp .gtr T x y T2, ty, pos, aft, gd⟩).run P w = .ok (.value (.bool t)) w := by
 subst ht
 simp only [execOp, hx, hy, iN]
 simp [binOp, go_sem]
theorem rstep_any (r a n : Nat) (hr : r < Lq) (ha : a < Lq) (hn : n < 256) (w : World) :
  Calls Tryz.prog 64 #[rarr r, rarr a, iN .i64 n] w fun e w' => e = .returned (rarr ((r * 256 + a * n) % Lq)) ∧ Below w.heap.size w w' := by
 have hS := sS_end r a n hr ha hn
 have H0 := HA.start w
 go_enter Tryz.func64, Tryz.ntmps64
 refine zsr ?_
 refine wl_make H0 80 (run_box37 (c := rl r)) ?_
 intro q1 w2 h3
 refine wl_make h3 80 (run_box37 (c := rl a)) ?_
 intro q4 w5 h6
 refine wl_make h6 80 run_alloc37 ?_
 intro q7 w8 h9
 refine znt ?_
 refine zsr ?_
 refine wl_make h9 80 run_alloc37 ?_
 intro q10 w11 h12
 refine znt ?_
 refine zsr ?_
 refine zwv (iN .i64 0) ?_
 refine znt ?_
 refine wp_seq ?_
 refine zsr ?_
 refine zwv (iN .i64 0) ?_
 refine znt ?_
 refine wp_block ?_
 refine wp_count (fun k A w' => ∃ u13 : Nat → Value, A = ⟨(rarr r :: rarr a :: iN .i64 n :: pt q1 :: pt q4 :: un :: pt q7 :: pt q10 :: iN .i64 (cyS r a n k) :: iN .i64 k :: u13 10 :: u13 11 :: u13 12 :: u13 13 :: u13 14 :: u13 15 :: u13 16 :: u13 17 :: u13 18 :: u13 19 :: u13 20 :: u13 21 :: u13 22 :: u13 23 :: u13 24 :: u13 25 :: u13 26 :: u13 27 :: u13 28 :: u13 29 :: u13 30 :: u13 31 :: u13 32 :: u13 33 :: u13 34 :: u13 35 :: List.replicate 2 un).toArray, []⟩ ∧ HA w [(q10, 80, rl (sS r a n k % 256 ^ k)), (q7, 80, rl 0), (q4, 80, rl a), (q1, 80, rl r)] w') 36 ?_ ?_ ?_
 ·exact zex ((by rw [Nat.pow_zero, Nat.mod_one]; exact h12))
 ·rintro k hk _ w14 ⟨u13, rfl, h15⟩
  refine wp_seq ?_
  refine zsr ?_
  refine zwv (iN .i64 k) ?_
  refine zwu (run_lss (k := .i64) (a := k) (b := 36) true (decide_eq_true hk)) ?_
  refine znt ?_
  refine zct ?_
  refine wp_skip ?_
  refine then_at rfl ?_
  refine wp_seq ?_
  refine wp_block ?_
  refine wp_seq ?_
  rcases k with _ | j
  ·have h2 := dn_le a n 0 hn
   have h3 := dR_lt r 0
   have hcs := cyS_lt r a n hn 0
   refine wl_region ?_
   refine zwv (iN .i64 (cyS r a n 0)) ?_
   refine zwv (iN .i64 0) ?_
   refine zwu (run_addr_arr (q := q4) (a := 0) Tryz.underlying80 Tryz.sizeOf3 (by decide)) ?_
   refine zwu (run_load1 Tryz.isAgg3 (((h15.get 2 rfl).cell 0).trans (rl_get a 0 (by decide)))) ?_
   refine zwv (iN .i64 n) ?_
   refine zwu (run_mul (k := .i64) (a := a / 256 ^ 0 % 256) (b := n) (by simp only [top]; omega)) ?_
   refine zwu (run_add (k := .i64) (a := cyS r a n 0) (b := (a / 256 ^ 0 % 256) * n) (by simp only [top]; omega)) ?_
   refine zwv (iN .i64 ((cyS r a n 0) + ((a / 256 ^ 0 % 256) * n))) ?_
   refine znt ?_
   refine wp_seq ?_
   refine zsr ?_
   refine zwv (iN .i64 0) ?_
   refine zwu (run_gtr (k := .i64) (a := 0) (b := 0) (by kernel_rfl) (by kernel_rfl) false (by decide)) ?_
   refine znt ?_
   refine zcf ?_
   refine wp_skip ?_
   refine then_at rfl ?_
   refine zsr ?_
   refine zwv (iN .i64 0) ?_
   refine zwv (iN .i64 ((cyS r a n 0) + ((a / 256 ^ 0 % 256) * n))) ?_
   refine zwu (run_rem (k := .i64) (a := (cyS r a n 0) + ((a / 256 ^ 0 % 256) * n)) (b := 256) (by omega)) ?_
   refine zwu (run_addr_arr (q := q10) (a := 0) Tryz.underlying80 Tryz.sizeOf3 (by decide)) ?_
   refine wl_put (k := .i64) (z := ((((cyS r a n 0) + ((a / 256 ^ 0 % 256) * n)) % 256 : Nat) : Int)) h15 0 rfl 0 (by rw [rl_size]; decide) Tryz.sizeOf3 ?_
   intro w16 h17
   have h18 : HA w [(q10, 80, rl (sS r a n (0 + 1) % 256 ^ (0 + 1))), (q7, 80, rl 0), (q4, 80, rl a), (q1, 80, rl r)] w16 := (by rw [← sS_push r a n 0 hk]; exact h17)
   clear h17
   refine znt ?_
   refine wl_region ?_
   refine zwv (iN .i64 ((cyS r a n 0) + ((a / 256 ^ 0 % 256) * n))) ?_
   refine zwu (run_quo (k := .i64) (a := (cyS r a n 0) + ((a / 256 ^ 0 % 256) * n)) (b := 256) (by omega) (by simp only [top]; omega)) ?_
   refine zwv (iN .i64 (((cyS r a n 0) + ((a / 256 ^ 0 % 256) * n)) / 256)) ?_
   refine wl_nil ?_
   refine block_normal ?_
   refine then_at rfl ?_
   refine wl_region ?_
   refine zwv (iN .i64 0) ?_
   refine zwu (run_add (k := .i64) (a := 0) (b := 1) (by simp only [top]; omega)) ?_
   refine zwv (iN .i64 (0 + 1)) ?_
   refine wl_nil ?_
   exact then_I (zex h18)
  ·have h2 := dn_le a n (j + 1) hn
   have h3 := dR_lt r (j + 1)
   have hcs := cyS_lt r a n hn (j + 1)
   have h4 := Nat.mod_lt (r / 256 ^ j) (show 256 > 0 by decide)
   refine wl_region ?_
   refine zwv (iN .i64 (cyS r a n (j + 1))) ?_
   refine zwv (iN .i64 (j + 1)) ?_
   refine zwu (run_addr_arr (q := q4) (a := (j + 1)) Tryz.underlying80 Tryz.sizeOf3 (by omega)) ?_
   refine zwu (run_load1 Tryz.isAgg3 (((h15.get 2 rfl).cell ((j + 1))).trans (rl_get a ((j + 1)) (by omega)))) ?_
   refine zwv (iN .i64 n) ?_
   refine zwu (run_mul (k := .i64) (a := a / 256 ^ ((j + 1)) % 256) (b := n) (by simp only [top]; omega)) ?_
   refine zwu (run_add (k := .i64) (a := cyS r a n (j + 1)) (b := (a / 256 ^ ((j + 1)) % 256) * n) (by simp only [top]; omega)) ?_
   refine zwv (iN .i64 ((cyS r a n (j + 1)) + ((a / 256 ^ ((j + 1)) % 256) * n))) ?_
   refine zna ⟨(rarr r :: rarr a :: iN .i64 n :: pt q1 :: pt q4 :: un :: pt q7 :: pt q10 :: iN .i64 (cyS r a n (j + 1)) :: iN .i64 (j + 1) :: iN .i64 ((cyS r a n (j + 1)) + ((a / 256 ^ ((j + 1)) % 256) * n)) :: iN .i64 (j + 1) :: .bool true :: u13 13 :: u13 14 :: iN .i64 (cyS r a n (j + 1)) :: iN .i64 (j + 1) :: .pointer (some ⟨q4, (j + 1), none⟩) :: iN .i64 (a / 256 ^ ((j + 1)) % 256) :: iN .i64 n :: iN .i64 ((a / 256 ^ ((j + 1)) % 256) * n) :: iN .i64 ((cyS r a n (j + 1)) + ((a / 256 ^ ((j + 1)) % 256) * n)) :: u13 22 :: u13 23 :: u13 24 :: u13 25 :: u13 26 :: u13 27 :: u13 28 :: u13 29 :: u13 30 :: u13 31 :: u13 32 :: u13 33 :: u13 34 :: u13 35 :: List.replicate 2 un).toArray, []⟩ ?_
   refine wp_seq ?_
   refine zsr ?_
   refine zwv (iN .i64 (j + 1)) ?_
   refine zwu (run_gtr (k := .i64) (a := j + 1) (b := 0) (by kernel_rfl) (by kernel_rfl) true (decide_eq_true (by omega))) ?_
   refine znt ?_
   refine zct ?_
   refine wl_region ?_
   refine zwv (iN .i64 ((cyS r a n (j + 1)) + ((a / 256 ^ ((j + 1)) % 256) * n))) ?_
   refine zwv (iN .i64 (j + 1)) ?_
   refine zwu (run_sub (k := .i64) (a := j + 1) (b := 1) (by omega) (by simp only [top]; omega)) ?_
   refine zwu (run_addr_arr (q := q1) (a := j) Tryz.underlying80 Tryz.sizeOf3 (by omega)) ?_
   refine zwu (run_load1 Tryz.isAgg3 (((h15.get 3 rfl).cell j).trans (rl_get r j (by omega)))) ?_
   refine zwu (run_add (k := .i64) (a := (cyS r a n (j + 1)) + ((a / 256 ^ ((j + 1)) % 256) * n)) (b := r / 256 ^ j % 256) (by simp only [top]; omega)) ?_
   refine zwv (iN .i64 (((cyS r a n (j + 1)) + ((a / 256 ^ ((j + 1)) % 256) * n)) + (r / 256 ^ j % 256))) ?_
   refine znt ?_
   refine zsr ?_
   refine zwv (iN .i64 (j + 1)) ?_
   refine zwv (iN .i64 (((cyS r a n (j + 1)) + ((a / 256 ^ ((j + 1)) % 256) * n)) + (r / 256 ^ j % 256))) ?_
   refine zwu (run_rem (k := .i64) (a := ((cyS r a n (j + 1)) + ((a / 256 ^ ((j + 1)) % 256) * n)) + (r / 256 ^ j % 256)) (b := 256) (by omega)) ?_
   refine zwu (run_addr_arr (q := q10) (a := (j + 1)) Tryz.underlying80 Tryz.sizeOf3 (by omega)) ?_
   refine wl_put (k := .i64) (z := (((((cyS r a n (j + 1)) + ((a / 256 ^ ((j + 1)) % 256) * n)) + (r / 256 ^ j % 256)) % 256 : Nat) : Int)) h15 0 rfl ((j + 1)) (by rw [rl_size]; omega) Tryz.sizeOf3 ?_
   intro w19 h20
   have h21 : HA w [(q10, 80, rl (sS r a n (j + 1 + 1) % 256 ^ (j + 1 + 1))), (q7, 80, rl 0), (q4, 80, rl a), (q1, 80, rl r)] w19 := (by rw [← sS_push r a n (j + 1) hk]; exact h20)
   clear h20
   refine znt ?_
   refine wl_region ?_
   refine zwv (iN .i64 (((cyS r a n (j + 1)) + ((a / 256 ^ ((j + 1)) % 256) * n)) + (r / 256 ^ j % 256))) ?_
   refine zwu (run_quo (k := .i64) (a := ((cyS r a n (j + 1)) + ((a / 256 ^ ((j + 1)) % 256) * n)) + (r / 256 ^ j % 256)) (b := 256) (by omega) (by simp only [top]; omega)) ?_
   refine zwv (iN .i64 ((((cyS r a n (j + 1)) + ((a / 256 ^ ((j + 1)) % 256) * n)) + (r / 256 ^ j % 256)) / 256)) ?_
   refine wl_nil ?_
   refine block_normal ?_
   refine then_at rfl ?_
   refine wl_region ?_
   refine zwv (iN .i64 (j + 1)) ?_
   refine zwu (run_add (k := .i64) (a := (j + 1)) (b := 1) (by simp only [top]; omega)) ?_
   refine zwv (iN .i64 (((j + 1)) + 1)) ?_
   refine wl_nil ?_
   exact then_I (zex h21)
 ·rintro _ w22 ⟨u13, rfl, h23⟩
  refine wp_seq ?_
  refine zsr ?_
  refine zwv (iN .i64 36) ?_
  refine zwu (run_lss (k := .i64) (a := 36) (b := 36) false (by decide)) ?_
  refine zna ⟨(rarr r :: rarr a :: iN .i64 n :: pt q1 :: pt q4 :: un :: pt q7 :: pt q10 :: iN .i64 (cyS r a n 36) :: iN .i64 36 :: u13 10 :: iN .i64 36 :: .bool false :: u13 13 :: u13 14 :: u13 15 :: u13 16 :: u13 17 :: u13 18 :: u13 19 :: u13 20 :: u13 21 :: u13 22 :: u13 23 :: u13 24 :: u13 25 :: u13 26 :: u13 27 :: u13 28 :: u13 29 :: u13 30 :: u13 31 :: u13 32 :: u13 33 :: u13 34 :: u13 35 :: List.replicate 2 un).toArray, []⟩ ?_
  refine zcf ?_
  refine wp_exit ?_
  repeat first | refine then_exit ?_ | refine block_exit ?_ | refine block_exit_ne (by decide) ?_
  have h24 : HA w [(q10, 80, rl (r * 256 + a * n)), (q7, 80, rl 0), (q4, 80, rl a), (q1, 80, rl r)] w22 := by have e := h23; rw [hS.1] at e; exact e
  refine then_at rfl ?_
  refine zsr ?_
  refine wl_load h24 0 rfl Tryz.underlying80 rfl (info_rl _) ?_
  refine zwc h24 enS63 (rmodulo_any (r * 256 + a * n) hS.2 w22) ?_
  intro w25 h26
  refine wl_fill (c' := rl ((r * 256 + a * n) % Lq)) h26 1 rfl (rl_sz _ _) (info_rl _) (one_rl _) ?_
  intro w27 (h28 : HA w [(q10, 80, rl (r * 256 + a * n)), (q7, 80, rl ((r * 256 + a * n) % Lq)), (q4, 80, rl a), (q1, 80, rl r)] w27)
  refine znt ?_
  refine wp_ret ?_
  repeat first | refine then_ret ?_ | refine block_ret ?_
  exact bodyPost_ret (res_cell (p := 6) (by kernel_rfl) (by kernel_rfl) (h28.get 1 rfl) Tryz.underlying80 rfl (info_rl _)) rfl ⟨rfl, h28.old⟩
end Go.Proofs.YtefjnfeckenmkaaGreatDoor.Sc
