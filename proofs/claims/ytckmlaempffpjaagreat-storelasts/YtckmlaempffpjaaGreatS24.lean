/-
 says.
-/
import Derived.Test.YtckmlaempffpjaaGreatS23
namespace Go.Proofs.YtckmlaempffpjaaGreat
open Go.RowKit

def lnm (now : List ByteArray) : List ByteArray := (lst16 now).map fun b => ⟨b.toArray⟩
theorem lnm_enc (now : List ByteArray) : (lst16 now).map encStr = scl (lnm now) := by
 rw [scl, lnm, List.map_map]
 exact List.map_congr_left fun b _ => rfl
theorem lnm_len (now : List ByteArray) : (lnm now).length = cntR now 16 := by rw [lnm, List.length_map, lst16_len]
theorem lnm_at {now : List ByteArray} {k : Nat} (hk : k < 16) (h : atR now k ≠ eB) : (lnm now)[cntR now k]? = some (nmR k) := by
 rw [lnm, List.getElem?_map, lst_at hk h]
 simp [bl]
theorem cnt_lt {now : List ByteArray} {k : Nat} (hk : k < 16) (h : atR now k ≠ eB) : cntR now k < cntR now 16 := by
 have := (List.getElem?_eq_some_iff.1 (lnm_at hk h)).1
 rw [lnm_len] at this
 exact this
theorem first_diff {a b : List ByteArray} (hl : a.length = b.length) (h : a ≠ b) : ∃ k, k < a.length ∧ (∀ j, j < k → atR a j = atR b j) ∧ atR a k ≠ atR b k := by
 induction a generalizing b with
 | nil =>
  cases b with
  | nil => exact absurd rfl h
  | cons y b => simp at hl
 | cons x a ih =>
  cases b with
  | nil => simp at hl
  | cons y b =>
   by_cases e : x = y
   ·subst e
    obtain ⟨k, h1, h2, h3⟩ := ih (b := b) (by simpa using hl) (fun e => h (by rw [e]))
    refine ⟨k + 1, by simpa using h1, fun j hj => ?_, by simpa [atR] using h3⟩
    cases j with
    | zero => rfl
    | succ j => simpa [atR] using h2 j (by omega)
   ·exact ⟨0, by simp, fun j hj => by omega, by simpa [atR] using e⟩
set_option linter.unusedVariables false in
set_option maxRecDepth 100000 in
set_option maxHeartbeats 4000000 in
theorem says_yes {w0 : World} {M : ML} {s : Sk} {S : SS} {L : BL} {w : World} (hS : SH w0 M s S L w) {n : Nat} (hr : RB S.rows n) (hn : n ≤ 3000) {now r : List ByteArray} (hnl : now.length = 16) (hrl : r.length = 16) (hrw : S.rows.Perm (nowR now)) (hrn : r = now) :
  Calls Tryz.prog 19 #[pt s.q, .agg (stc r)] w fun e w' => e = .returned (.bool true) ∧ Below w.heap.size w w' := by
 have H0 := HA.start w
 go_enter Tryz.func19, Tryz.ntmps19
 refine wp_seq ?_
 refine wl_region ?_
 refine wl_make (c := stc r) H0 48 (by kernel_rfl) (by kernel_rfl) ?_
 intro q1 w2 (h3 : HA (bs w) [(q1, 48, stc r)] w2)
 refine zwv (.bool false) ?_
 refine wl_nil ?_
 refine then_at rfl ?_
 refine wp_seq ?_
 have h4 := h3
 clear h3
 generalize q1 = q3 at h4 ⊢
 refine wl_region ?_
 refine zwv (iN .i64 0) ?_
 refine wl_nil ?_
 refine then_at rfl ?_
 refine wp_seq ?_
 refine wl_region ?_
 refine zwv (.pointer (some ⟨s.q, 0, none⟩)) ?_
 refine wl_callx (by kernel_rfl) enter27 #[.pointer (some ⟨s.q, 0, none⟩), .string nR] (by kernel_rfl) (list_S (hS.keep h4.old.old) hr hn nR) ?_
 rintro _ w5 ⟨vl, Ll, rfl, hRl, hLl⟩
 refine ⟨_, rfl, ?_⟩
 rw [lst_now hrw, lst16_len, lnm_enc] at hRl
 obtain ⟨pl, cl, rfl⟩ := hRl.form
 have h6 : HA (bs w) (Ll ++ [(q3, 48, stc r)]) w5 := HA.join h4 hLl
 have h7 : HA (bs w) ((q3, 48, stc r) :: Ll) w5 := h6.perm List.perm_append_comm
 refine zwv (.slice pl (cntR now 16) cl) ?_
 refine wl_nil ?_
 refine then_at rfl ?_
 refine wp_seq ?_
 refine wp_seq ?_
 refine wl_region ?_
 refine zwv (iN .i64 0) ?_
 refine wl_nil ?_
 refine then_at rfl ?_
 refine wp_block ?_
 refine wp_count (fun k A w' => ∃ u8 : Nat → Value, A = ⟨(pt s.q :: .agg (stc r) :: un :: pt q3 :: u8 4 :: u8 5 :: .slice pl (cntR now 16) cl :: iN .i64 k :: u8 8 :: u8 9 :: pt s.q :: .slice pl (cntR now 16) cl :: u8 12 :: u8 13 :: u8 14 :: u8 15 :: u8 16 :: u8 17 :: u8 18 :: u8 19 :: u8 20 :: u8 21 :: u8 22 :: u8 23 :: u8 24 :: u8 25 :: u8 26 :: u8 27 :: u8 28 :: u8 29 :: u8 30 :: u8 31 :: u8 32 :: u8 33 :: u8 34 :: u8 35 :: u8 36 :: u8 37 :: u8 38 :: u8 39 :: u8 40 :: u8 41 :: u8 42 :: u8 43 :: u8 44 :: u8 45 :: u8 46 :: u8 47 :: u8 48 :: u8 49 :: u8 50 :: u8 51 :: List.replicate 10 un).toArray, []⟩ ∧ u8 5 = iN .i64 (cntR now k) ∧ HA (bs w) ((q3, 48, stc r) :: Ll) w') 16 ?_ ?_ ?_
 ·exact ⟨fun ii => (([(4, .bool false), (5, iN .i64 0), (8, undef), (9, undef), (12, undef), (13, undef), (14, undef), (15, undef), (16, undef), (17, undef), (18, undef), (19, undef), (20, undef), (21, undef), (22, undef), (23, undef), (24, undef), (25, undef), (26, undef), (27, undef), (28, undef), (29, undef), (30, undef), (31, undef), (32, undef), (33, undef), (34, undef), (35, undef), (36, undef), (37, undef), (38, undef), (39, undef), (40, undef), (41, undef), (42, undef), (43, undef), (44, undef), (45, undef), (46, undef), (47, undef), (48, undef), (49, undef), (50, undef), (51, undef)] : List (Nat × Value)).find? (·.1 == ii)).elim undef (·.2), by kernel_rfl, rfl, h7⟩
 ·rintro k hk _ w9 ⟨u8, rfl, hU, hL⟩
  rw [hU]
  have hkk : atR now k = atR r k := by rw [hrn]
  have hc16 := cnt_le now k
  have hc17 := cnt_le now 16
  refine wp_seq ?_
  refine wp_seq ?_
  refine wl_region ?_
  refine zwv (iN .i64 k) ?_
  refine zwx (.bool true) (run_lss (k := .i64) (a := k) (b := 16) (by kernel_rfl) (by kernel_rfl) true (decide_eq_true (by omega))) ?_
  refine wl_nil ?_
  refine then_at rfl ?_
  refine wp_cond_true (by kernel_rfl) ?_
  refine wp_skip ?_
  refine then_at rfl ?_
  refine wp_seq ?_
  refine wp_block ?_
  refine wp_seq ?_
  by_cases hz : atR now k = eB
  ·refine wl_region ?_
   refine zwv (.pointer (some ⟨s.q, 0, none⟩)) ?_
   refine zwv (iN .i64 k) ?_
   refine wl_call (v := .string (nmR (k))) hL (by kernel_rfl) enter50 #[iN .i64 k] (by kernel_rfl) (name_any (k := k) (by omega) w9) ?_
   intro w10 h11
   refine wl_call (v := .tuple #[.string (atR now k), .bool false]) h11 (by kernel_rfl) enter23 #[.pointer (some ⟨s.q, 0, none⟩), .string (nmR (k))] (by kernel_rfl) (by have h9 := get_S (hS.keep h11.old.old) hr (nmR k); rw [get_now hrw (by omega), decide_eq_false (fun e => e hz)] at h9; exact h9) ?_
   intro w12 h13
   refine zwv (.tuple #[.string (atR now k), .bool false]) ?_
   refine zwv (.string (atR now k)) ?_
   refine zwv (.bool false) ?_
   refine zwv (.string (atR now k)) ?_
   refine zwv (.bool false) ?_
   refine wl_nil ?_
   refine then_at rfl ?_
   refine wp_seq ?_
   refine wp_seq ?_
   refine wl_region ?_
   refine zwv (.string (atR now k)) ?_
   refine zwv (iN .i64 k) ?_
   refine zwx (.pointer (some ⟨q3, k, none⟩)) (run_addr16 (q := q3) (i := k) (by kernel_rfl) (by kernel_rfl) (by omega)) ?_
   refine zwx (.string (atR r k)) (run_load1 (fun w => Tryz.isAgg9 w) (by kernel_rfl) (((h13.get 0 rfl).cell k).trans (stc_get r k (by rw [hrl]; omega)))) ?_
   refine zwx (.bool false) (run_nes (s := atR now k) (t := atR r k) (by kernel_rfl) (by kernel_rfl) false (decide_eq_true hkk)) ?_
   refine zwv (.bool false) ?_
   refine zwv (.bool false) ?_
   refine zwv (iN .i64 k) ?_
   refine zwx (.pointer (some ⟨q3, k, none⟩)) (run_addr16 (q := q3) (i := k) (by kernel_rfl) (by kernel_rfl) (by omega)) ?_
   refine zwx (.string (atR r k)) (run_load1 (fun w => Tryz.isAgg9 w) (by kernel_rfl) (((h13.get 0 rfl).cell k).trans (stc_get r k (by rw [hrl]; omega)))) ?_
   refine zwx (.bool false) (run_nes (s := atR r k) (t := eB) (by kernel_rfl) (by kernel_rfl) false (decide_eq_true (by rw [← hkk]; exact hz))) ?_
   refine zwv (.bool false) ?_
   refine zwv (.bool false) ?_
   refine wl_nil ?_
   refine then_at rfl ?_
   refine wp_cond_false (by kernel_rfl) ?_
   refine wp_skip ?_
   refine then_at rfl ?_
   refine wp_seq ?_
   refine wl_region ?_
   refine zwv (.bool false) ?_
   refine wl_nil ?_
   refine then_at rfl ?_
   refine wp_cond_false (by kernel_rfl) ?_
   refine wp_skip ?_
   refine block_normal ?_
   refine then_at rfl ?_
   refine wl_region ?_
   refine zwv (iN .i64 k) ?_
   refine zwx (iN .i64 (k + 1)) (run_add (k := .i64) (a := k) (b := 1) (by kernel_rfl) (by kernel_rfl) (by first | omega | (simp only [top]; omega))) ?_
   refine zwv (iN .i64 (k + 1)) ?_
   refine wl_nil ?_
   exact then_I ⟨fun ii => (([(4, u8 4), (5, iN .i64 (cntR now k)), (8, .string (atR now k)), (9, .bool false), (12, iN .i64 k), (13, .bool true), (14, iN .i64 k), (15, iN .i64 (k + 1)), (16, .tuple #[.string (atR now k), .bool false]), (17, .pointer (some ⟨s.q, 0, none⟩)), (18, iN .i64 k), (19, .string (nmR (k))), (20, .tuple #[.string (atR now k), .bool false]), (21, .string (atR now k)), (22, .bool false), (23, .string (atR now k)), (24, iN .i64 k), (25, .pointer (some ⟨q3, k, none⟩)), (26, .string (atR r k)), (27, .bool false), (28, .bool false), (29, .bool false), (30, iN .i64 k), (31, .pointer (some ⟨q3, k, none⟩)), (32, .string (atR r k)), (33, .bool false), (34, .bool false), (35, .bool false), (36, .bool false), (37, u8 37), (38, u8 38), (39, u8 39), (40, u8 40), (41, u8 41), (42, u8 42), (43, u8 43), (44, u8 44), (45, u8 45), (46, u8 46), (47, u8 47), (48, u8 48), (49, u8 49), (50, u8 50), (51, u8 51)] : List (Nat × Value)).find? (·.1 == ii)).elim undef (·.2), by kernel_rfl, (by show iN .i64 _ = _; rw [cnt_succ, if_neg (fun e => e hz), Nat.add_zero]), h13⟩
  ·refine wl_region ?_
   refine zwv (.pointer (some ⟨s.q, 0, none⟩)) ?_
   refine zwv (iN .i64 k) ?_
   refine wl_call (v := .string (nmR (k))) hL (by kernel_rfl) enter50 #[iN .i64 k] (by kernel_rfl) (name_any (k := k) (by omega) w9) ?_
   intro w14 h15
   refine wl_call (v := .tuple #[.string (atR now k), .bool true]) h15 (by kernel_rfl) enter23 #[.pointer (some ⟨s.q, 0, none⟩), .string (nmR (k))] (by kernel_rfl) (by have h9 := get_S (hS.keep h15.old.old) hr (nmR k); rw [get_now hrw (by omega), decide_eq_true hz] at h9; exact h9) ?_
   intro w16 h17
   refine zwv (.tuple #[.string (atR now k), .bool true]) ?_
   refine zwv (.string (atR now k)) ?_
   refine zwv (.bool true) ?_
   refine zwv (.string (atR now k)) ?_
   refine zwv (.bool true) ?_
   refine wl_nil ?_
   refine then_at rfl ?_
   refine wp_seq ?_
   refine wp_seq ?_
   refine wl_region ?_
   refine zwv (.string (atR now k)) ?_
   refine zwv (iN .i64 k) ?_
   refine zwx (.pointer (some ⟨q3, k, none⟩)) (run_addr16 (q := q3) (i := k) (by kernel_rfl) (by kernel_rfl) (by omega)) ?_
   refine zwx (.string (atR r k)) (run_load1 (fun w => Tryz.isAgg9 w) (by kernel_rfl) (((h17.get 0 rfl).cell k).trans (stc_get r k (by rw [hrl]; omega)))) ?_
   refine zwx (.bool false) (run_nes (s := atR now k) (t := atR r k) (by kernel_rfl) (by kernel_rfl) false (decide_eq_true hkk)) ?_
   refine zwv (.bool false) ?_
   refine zwv (.bool true) ?_
   refine zwv (iN .i64 k) ?_
   refine zwx (.pointer (some ⟨q3, k, none⟩)) (run_addr16 (q := q3) (i := k) (by kernel_rfl) (by kernel_rfl) (by omega)) ?_
   refine zwx (.string (atR r k)) (run_load1 (fun w => Tryz.isAgg9 w) (by kernel_rfl) (((h17.get 0 rfl).cell k).trans (stc_get r k (by rw [hrl]; omega)))) ?_
   refine zwx (.bool true) (run_nes (s := atR r k) (t := eB) (by kernel_rfl) (by kernel_rfl) true (decide_eq_false (by rw [← hkk]; exact hz))) ?_
   refine zwv (.bool false) ?_
   refine zwv (.bool false) ?_
   refine wl_nil ?_
   refine then_at rfl ?_
   refine wp_cond_false (by kernel_rfl) ?_
   refine wp_skip ?_
   refine then_at rfl ?_
   refine wp_seq ?_
   refine wl_region ?_
   refine zwv (.bool true) ?_
   refine wl_nil ?_
   refine then_at rfl ?_
   refine wp_cond_true (by kernel_rfl) ?_
   refine wp_seq ?_
   refine wp_seq ?_
   have hclt := cnt_lt (now := now) (k := k) (by omega) hz
   obtain ⟨la, hla, hlk0⟩ : ∃ la, pl = some la ∧ ∀ w9, HA (bs w) ((q3, 48, stc r) :: Ll) w9 → w9.cell? (la.add (cntR now k)) = some (.string (nmR k)) := by
    have hKA := Row.keys (w := w16) (o := pl) (c := cl) (ds := lnm now) (by rw [lnm_len]; exact hRl) (fun y hy => h17.blk y (List.mem_cons_of_mem _ hy))
    obtain ⟨la, hla, _⟩ := hKA _ _ (lnm_at (by omega) hz)
    refine ⟨la, hla, fun w9 h9 => ?_⟩
    have hKA2 := Row.keys (w := w9) (o := pl) (c := cl) (ds := lnm now) (by rw [lnm_len]; exact hRl) (fun y hy => h9.blk y (List.mem_cons_of_mem _ hy))
    obtain ⟨la2, hla2, hc2⟩ := hKA2 _ _ (lnm_at (by omega) hz)
    rw [hla] at hla2
    cases hla2
    exact hc2
   have hlk := hlk0
   refine wp_region_sure ⟨(pt s.q :: .agg (stc r) :: un :: pt q3 :: u8 4 :: iN .i64 (cntR now k) :: .slice pl (cntR now 16) cl :: iN .i64 k :: .string (atR now k) :: .bool true :: pt s.q :: .slice pl (cntR now 16) cl :: iN .i64 k :: .bool true :: u8 14 :: u8 15 :: .tuple #[.string (atR now k), .bool true] :: pt s.q :: iN .i64 k :: .string (nmR (k)) :: .tuple #[.string (atR now k), .bool true] :: .string (atR now k) :: .bool true :: .string (atR now k) :: iN .i64 k :: .pointer (some ⟨q3, k, none⟩) :: .string (atR r k) :: .bool false :: .bool false :: .bool true :: iN .i64 k :: .pointer (some ⟨q3, k, none⟩) :: .string (atR r k) :: .bool true :: .bool false :: .bool false :: .bool true :: iN .i64 (cntR now k) :: .slice pl (cntR now 16) cl :: iN .i64 (cntR now 16) :: .bool false :: .bool false :: .slice pl (cntR now 16) cl :: iN .i64 (cntR now k) :: .pointer (some (la.add (cntR now k))) :: .string (nmR k) :: iN .i64 k :: .string (nmR (k)) :: .bool false :: .bool false :: u8 50 :: u8 51 :: List.replicate 10 un).toArray, []⟩ (HA (bs w) ((q3, 48, stc r) :: Ll)) [iN .i64 (cntR now k), .slice pl (cntR now 16) cl, iN .i64 (cntR now 16), .bool false, .bool false, .slice pl (cntR now 16) cl, iN .i64 (cntR now k), .pointer (some (la.add (cntR now k))), .string (nmR k), iN .i64 k, .string (nmR (k)), .bool false, .bool false] (by kernel_rfl) (by kernel_rfl) (by kernel_rfl) (by kernel_rfl) (fun _ _ _ h => h) h17.drew ?_ ?_
   ·refine AllSure.cons (OpSure.take (v := iN .i64 (cntR now k)) (by kernel_rfl) (by kernel_rfl) (fun _ _ => (by kernel_rfl))) ?_
    refine AllSure.cons (OpSure.take (v := .slice pl (cntR now 16) cl) (by kernel_rfl) (by kernel_rfl) (fun _ _ => (by kernel_rfl))) ?_
    refine AllSure.cons (OpSure.take (v := iN .i64 (cntR now 16)) (by kernel_rfl) (by kernel_rfl) (fun _ _ => (by kernel_rfl))) ?_
    refine AllSure.cons (OpSure.take (v := .bool false) (by kernel_rfl) (by kernel_rfl) (fun _ _ => (run_geq (k := .i64) (a := cntR now k) (b := cntR now 16) (by kernel_rfl) (by kernel_rfl) false (decide_eq_false (by omega))))) ?_
    refine AllSure.cons (OpSure.take (v := .bool false) (by kernel_rfl) (by kernel_rfl) (fun _ _ => (by kernel_rfl))) ?_
    refine AllSure.cons (OpSure.take (v := .slice pl (cntR now 16) cl) (by kernel_rfl) (by kernel_rfl) (fun _ _ => (by kernel_rfl))) ?_
    refine AllSure.cons (OpSure.take (v := iN .i64 (cntR now k)) (by kernel_rfl) (by kernel_rfl) (fun _ _ => (by kernel_rfl))) ?_
    refine AllSure.cons (OpSure.take (v := .pointer (some (la.add (cntR now k)))) (by kernel_rfl) (by kernel_rfl) (fun _ _ => (run_addr39 (o := pl) (a := la) (n := cntR now 16) (m := cl) (i := cntR now k) hla (by kernel_rfl) (by kernel_rfl) (by omega)))) ?_
    refine AllSure.cons (OpSure.take (v := .string (nmR k)) (by kernel_rfl) (by kernel_rfl) (fun w' h' => run_load_at (b := la.add (cntR now k)) (fun w => Tryz.isAgg9 w) (by kernel_rfl) (hlk _ h'))) ?_
    refine AllSure.cons (OpSure.take (v := iN .i64 k) (by kernel_rfl) (by kernel_rfl) (fun _ _ => (by kernel_rfl))) ?_
    refine AllSure.cons (sure_call (v := .string (nmR (k))) (by kernel_rfl) (by kernel_rfl) enter50 HA.keep #[iN .i64 k] (by kernel_rfl) (fun w' h' => name_any (k := k) (by omega) w')) ?_
    refine AllSure.cons (OpSure.take (v := .bool false) (by kernel_rfl) (by kernel_rfl) (fun _ _ => (run_nes (s := nmR k) (t := nmR (k)) (by kernel_rfl) (by kernel_rfl) false (decide_eq_true rfl)))) ?_
    refine AllSure.cons (OpSure.take (v := .bool false) (by kernel_rfl) (by kernel_rfl) (fun _ _ => (by kernel_rfl))) ?_
    exact AllSure.nil
   intro w18 h19
   refine then_at rfl ?_
   refine wp_cond_false (by kernel_rfl) ?_
   refine wp_skip ?_
   refine then_at rfl ?_
   refine wl_region ?_
   refine zwv (iN .i64 (cntR now k)) ?_
   refine zwx (iN .i64 ((cntR now k) + 1)) (run_add (k := .i64) (a := cntR now k) (b := 1) (by kernel_rfl) (by kernel_rfl) (by first | omega | (simp only [top]; omega))) ?_
   refine zwv (iN .i64 ((cntR now k) + 1)) ?_
   refine wl_nil ?_
   refine block_normal ?_
   refine then_at rfl ?_
   refine wl_region ?_
   refine zwv (iN .i64 k) ?_
   refine zwx (iN .i64 (k + 1)) (run_add (k := .i64) (a := k) (b := 1) (by kernel_rfl) (by kernel_rfl) (by first | omega | (simp only [top]; omega))) ?_
   refine zwv (iN .i64 (k + 1)) ?_
   refine wl_nil ?_
   exact then_I ⟨fun ii => (([(4, u8 4), (5, iN .i64 ((cntR now k) + 1)), (8, .string (atR now k)), (9, .bool true), (12, iN .i64 k), (13, .bool true), (14, iN .i64 k), (15, iN .i64 (k + 1)), (16, .tuple #[.string (atR now k), .bool true]), (17, .pointer (some ⟨s.q, 0, none⟩)), (18, iN .i64 k), (19, .string (nmR (k))), (20, .tuple #[.string (atR now k), .bool true]), (21, .string (atR now k)), (22, .bool true), (23, .string (atR now k)), (24, iN .i64 k), (25, .pointer (some ⟨q3, k, none⟩)), (26, .string (atR r k)), (27, .bool false), (28, .bool false), (29, .bool true), (30, iN .i64 k), (31, .pointer (some ⟨q3, k, none⟩)), (32, .string (atR r k)), (33, .bool true), (34, .bool false), (35, .bool false), (36, .bool true), (37, iN .i64 (cntR now k)), (38, .slice pl (cntR now 16) cl), (39, iN .i64 (cntR now 16)), (40, .bool false), (41, .bool false), (42, .slice pl (cntR now 16) cl), (43, iN .i64 (cntR now k)), (44, .pointer (some (la.add (cntR now k)))), (45, .string (nmR k)), (46, iN .i64 k), (47, .string (nmR (k))), (48, .bool false), (49, .bool false), (50, iN .i64 (cntR now k)), (51, iN .i64 ((cntR now k) + 1))] : List (Nat × Value)).find? (·.1 == ii)).elim undef (·.2), by kernel_rfl, (by show iN .i64 _ = _; rw [cnt_succ, if_pos hz]), h19⟩
 ·rintro _ w20 ⟨u8, rfl, hU, hL⟩
  rw [hU]
  refine wp_seq ?_
  refine wp_seq ?_
  refine wl_region ?_
  refine zwv (iN .i64 16) ?_
  refine zwx (.bool false) (run_lss (k := .i64) (a := 16) (b := 16) (by kernel_rfl) (by kernel_rfl) false (by decide)) ?_
  refine wl_nil ?_
  refine then_at rfl ?_
  refine wp_cond_false (by kernel_rfl) ?_
  refine wp_exit ?_
  repeat first | refine then_exit ?_ | refine block_exit ?_ | refine block_exit_ne (by decide) ?_
  refine then_at rfl ?_
  refine wp_seq ?_
  refine wl_region ?_
  refine zwv (iN .i64 (cntR now 16)) ?_
  refine zwv (.slice pl (cntR now 16) cl) ?_
  refine zwv (iN .i64 (cntR now 16)) ?_
  refine zwx (.bool true) (run_eqi (k := .i64) (a := cntR now 16) (b := cntR now 16) (by kernel_rfl) (by kernel_rfl) true (decide_eq_true rfl)) ?_
  refine zwv (.bool true) ?_
  refine zwv (.pointer (some ⟨s.q, 0, none⟩)) ?_
  refine wl_call (v := iN .i64 (cntR now 16)) hL (by kernel_rfl) enter26 #[.pointer (some ⟨s.q, 0, none⟩)] (by kernel_rfl) (by have h9 := len_S (hS.keep hL.old.old); rw [hrw.length_eq, now_cnt] at h9; exact h9) ?_
  intro w21 h22
  refine zwv (iN .i64 (cntR now 16)) ?_
  refine zwx (.bool true) (run_eqi (k := .i64) (a := cntR now 16) (b := cntR now 16) (by kernel_rfl) (by kernel_rfl) true (decide_eq_true rfl)) ?_
  refine zwv (.bool true) ?_
  refine zwv (.bool true) ?_
  refine wl_nil ?_
  refine then_at rfl ?_
  refine wp_ret ?_
  repeat first | refine then_ret ?_ | refine block_ret ?_
  exact bodyPost_ret (v := .bool true) (by kernel_rfl) rfl ⟨rfl, h22.old.old⟩
set_option linter.unusedVariables false in
set_option maxRecDepth 100000 in
set_option maxHeartbeats 4000000 in
theorem says_no {w0 : World} {M : ML} {s : Sk} {S : SS} {L : BL} {w : World} (hS : SH w0 M s S L w) {n : Nat} (hr : RB S.rows n) (hn : n ≤ 3000) {now r : List ByteArray} (hnl : now.length = 16) (hrl : r.length = 16) (hrw : S.rows.Perm (nowR now)) {k0 : Nat} (hk0 : k0 < 16) (hsame : ∀ j, j < k0 → atR r j = atR now j) (hne : atR r k0 ≠ atR now k0) :
  Calls Tryz.prog 19 #[pt s.q, .agg (stc r)] w fun e w' => e = .returned (.bool false) ∧ Below w.heap.size w w' := by
 have H0 := HA.start w
 have hdf : ¬ atR now k0 = atR r k0 := fun e => hne e.symm
 go_enter Tryz.func19, Tryz.ntmps19
 refine wp_seq ?_
 refine wl_region ?_
 refine wl_make (c := stc r) H0 48 (by kernel_rfl) (by kernel_rfl) ?_
 intro q1 w2 (h3 : HA (bs w) [(q1, 48, stc r)] w2)
 refine zwv (.bool false) ?_
 refine wl_nil ?_
 refine then_at rfl ?_
 refine wp_seq ?_
 have h4 := h3
 clear h3
 generalize q1 = q3 at h4 ⊢
 refine wl_region ?_
 refine zwv (iN .i64 0) ?_
 refine wl_nil ?_
 refine then_at rfl ?_
 refine wp_seq ?_
 refine wl_region ?_
 refine zwv (.pointer (some ⟨s.q, 0, none⟩)) ?_
 refine wl_callx (by kernel_rfl) enter27 #[.pointer (some ⟨s.q, 0, none⟩), .string nR] (by kernel_rfl) (list_S (hS.keep h4.old.old) hr hn nR) ?_
 rintro _ w5 ⟨vl, Ll, rfl, hRl, hLl⟩
 refine ⟨_, rfl, ?_⟩
 rw [lst_now hrw, lst16_len, lnm_enc] at hRl
 obtain ⟨pl, cl, rfl⟩ := hRl.form
 have h6 : HA (bs w) (Ll ++ [(q3, 48, stc r)]) w5 := HA.join h4 hLl
 have h7 : HA (bs w) ((q3, 48, stc r) :: Ll) w5 := h6.perm List.perm_append_comm
 refine zwv (.slice pl (cntR now 16) cl) ?_
 refine wl_nil ?_
 refine then_at rfl ?_
 refine wp_seq ?_
 refine wp_seq ?_
 refine wl_region ?_
 refine zwv (iN .i64 0) ?_
 refine wl_nil ?_
 refine then_at rfl ?_
 refine wp_block ?_
 refine wp_count (fun k A w' => ∃ u8 : Nat → Value, A = ⟨(pt s.q :: .agg (stc r) :: un :: pt q3 :: u8 4 :: u8 5 :: .slice pl (cntR now 16) cl :: iN .i64 k :: u8 8 :: u8 9 :: pt s.q :: .slice pl (cntR now 16) cl :: u8 12 :: u8 13 :: u8 14 :: u8 15 :: u8 16 :: u8 17 :: u8 18 :: u8 19 :: u8 20 :: u8 21 :: u8 22 :: u8 23 :: u8 24 :: u8 25 :: u8 26 :: u8 27 :: u8 28 :: u8 29 :: u8 30 :: u8 31 :: u8 32 :: u8 33 :: u8 34 :: u8 35 :: u8 36 :: u8 37 :: u8 38 :: u8 39 :: u8 40 :: u8 41 :: u8 42 :: u8 43 :: u8 44 :: u8 45 :: u8 46 :: u8 47 :: u8 48 :: u8 49 :: u8 50 :: u8 51 :: List.replicate 10 un).toArray, []⟩ ∧ u8 5 = iN .i64 (cntR now k) ∧ HA (bs w) ((q3, 48, stc r) :: Ll) w') k0 ?_ ?_ ?_
 ·exact ⟨fun ii => (([(4, .bool false), (5, iN .i64 0), (8, undef), (9, undef), (12, undef), (13, undef), (14, undef), (15, undef), (16, undef), (17, undef), (18, undef), (19, undef), (20, undef), (21, undef), (22, undef), (23, undef), (24, undef), (25, undef), (26, undef), (27, undef), (28, undef), (29, undef), (30, undef), (31, undef), (32, undef), (33, undef), (34, undef), (35, undef), (36, undef), (37, undef), (38, undef), (39, undef), (40, undef), (41, undef), (42, undef), (43, undef), (44, undef), (45, undef), (46, undef), (47, undef), (48, undef), (49, undef), (50, undef), (51, undef)] : List (Nat × Value)).find? (·.1 == ii)).elim undef (·.2), by kernel_rfl, rfl, h7⟩
 ·rintro k hk _ w9 ⟨u8, rfl, hU, hL⟩
  rw [hU]
  have hkk : atR now k = atR r k := (hsame k hk).symm
  have hc16 := cnt_le now k
  have hc17 := cnt_le now 16
  refine wp_seq ?_
  refine wp_seq ?_
  refine wl_region ?_
  refine zwv (iN .i64 k) ?_
  refine zwx (.bool true) (run_lss (k := .i64) (a := k) (b := 16) (by kernel_rfl) (by kernel_rfl) true (decide_eq_true (by omega))) ?_
  refine wl_nil ?_
  refine then_at rfl ?_
  refine wp_cond_true (by kernel_rfl) ?_
  refine wp_skip ?_
  refine then_at rfl ?_
  refine wp_seq ?_
  refine wp_block ?_
  refine wp_seq ?_
  by_cases hz : atR now k = eB
  ·refine wl_region ?_
   refine zwv (.pointer (some ⟨s.q, 0, none⟩)) ?_
   refine zwv (iN .i64 k) ?_
   refine wl_call (v := .string (nmR (k))) hL (by kernel_rfl) enter50 #[iN .i64 k] (by kernel_rfl) (name_any (k := k) (by omega) w9) ?_
   intro w10 h11
   refine wl_call (v := .tuple #[.string (atR now k), .bool false]) h11 (by kernel_rfl) enter23 #[.pointer (some ⟨s.q, 0, none⟩), .string (nmR (k))] (by kernel_rfl) (by have h9 := get_S (hS.keep h11.old.old) hr (nmR k); rw [get_now hrw (by omega), decide_eq_false (fun e => e hz)] at h9; exact h9) ?_
   intro w12 h13
   refine zwv (.tuple #[.string (atR now k), .bool false]) ?_
   refine zwv (.string (atR now k)) ?_
   refine zwv (.bool false) ?_
   refine zwv (.string (atR now k)) ?_
   refine zwv (.bool false) ?_
   refine wl_nil ?_
   refine then_at rfl ?_
   refine wp_seq ?_
   refine wp_seq ?_
   refine wl_region ?_
   refine zwv (.string (atR now k)) ?_
   refine zwv (iN .i64 k) ?_
   refine zwx (.pointer (some ⟨q3, k, none⟩)) (run_addr16 (q := q3) (i := k) (by kernel_rfl) (by kernel_rfl) (by omega)) ?_
   refine zwx (.string (atR r k)) (run_load1 (fun w => Tryz.isAgg9 w) (by kernel_rfl) (((h13.get 0 rfl).cell k).trans (stc_get r k (by rw [hrl]; omega)))) ?_
   refine zwx (.bool false) (run_nes (s := atR now k) (t := atR r k) (by kernel_rfl) (by kernel_rfl) false (decide_eq_true hkk)) ?_
   refine zwv (.bool false) ?_
   refine zwv (.bool false) ?_
   refine zwv (iN .i64 k) ?_
   refine zwx (.pointer (some ⟨q3, k, none⟩)) (run_addr16 (q := q3) (i := k) (by kernel_rfl) (by kernel_rfl) (by omega)) ?_
   refine zwx (.string (atR r k)) (run_load1 (fun w => Tryz.isAgg9 w) (by kernel_rfl) (((h13.get 0 rfl).cell k).trans (stc_get r k (by rw [hrl]; omega)))) ?_
   refine zwx (.bool false) (run_nes (s := atR r k) (t := eB) (by kernel_rfl) (by kernel_rfl) false (decide_eq_true (by rw [← hkk]; exact hz))) ?_
   refine zwv (.bool false) ?_
   refine zwv (.bool false) ?_
   refine wl_nil ?_
   refine then_at rfl ?_
   refine wp_cond_false (by kernel_rfl) ?_
   refine wp_skip ?_
   refine then_at rfl ?_
   refine wp_seq ?_
   refine wl_region ?_
   refine zwv (.bool false) ?_
   refine wl_nil ?_
   refine then_at rfl ?_
   refine wp_cond_false (by kernel_rfl) ?_
   refine wp_skip ?_
   refine block_normal ?_
   refine then_at rfl ?_
   refine wl_region ?_
   refine zwv (iN .i64 k) ?_
   refine zwx (iN .i64 (k + 1)) (run_add (k := .i64) (a := k) (b := 1) (by kernel_rfl) (by kernel_rfl) (by first | omega | (simp only [top]; omega))) ?_
   refine zwv (iN .i64 (k + 1)) ?_
   refine wl_nil ?_
   exact then_I ⟨fun ii => (([(4, u8 4), (5, iN .i64 (cntR now k)), (8, .string (atR now k)), (9, .bool false), (12, iN .i64 k), (13, .bool true), (14, iN .i64 k), (15, iN .i64 (k + 1)), (16, .tuple #[.string (atR now k), .bool false]), (17, .pointer (some ⟨s.q, 0, none⟩)), (18, iN .i64 k), (19, .string (nmR (k))), (20, .tuple #[.string (atR now k), .bool false]), (21, .string (atR now k)), (22, .bool false), (23, .string (atR now k)), (24, iN .i64 k), (25, .pointer (some ⟨q3, k, none⟩)), (26, .string (atR r k)), (27, .bool false), (28, .bool false), (29, .bool false), (30, iN .i64 k), (31, .pointer (some ⟨q3, k, none⟩)), (32, .string (atR r k)), (33, .bool false), (34, .bool false), (35, .bool false), (36, .bool false), (37, u8 37), (38, u8 38), (39, u8 39), (40, u8 40), (41, u8 41), (42, u8 42), (43, u8 43), (44, u8 44), (45, u8 45), (46, u8 46), (47, u8 47), (48, u8 48), (49, u8 49), (50, u8 50), (51, u8 51)] : List (Nat × Value)).find? (·.1 == ii)).elim undef (·.2), by kernel_rfl, (by show iN .i64 _ = _; rw [cnt_succ, if_neg (fun e => e hz), Nat.add_zero]), h13⟩
  ·refine wl_region ?_
   refine zwv (.pointer (some ⟨s.q, 0, none⟩)) ?_
   refine zwv (iN .i64 k) ?_
   refine wl_call (v := .string (nmR (k))) hL (by kernel_rfl) enter50 #[iN .i64 k] (by kernel_rfl) (name_any (k := k) (by omega) w9) ?_
   intro w14 h15
   refine wl_call (v := .tuple #[.string (atR now k), .bool true]) h15 (by kernel_rfl) enter23 #[.pointer (some ⟨s.q, 0, none⟩), .string (nmR (k))] (by kernel_rfl) (by have h9 := get_S (hS.keep h15.old.old) hr (nmR k); rw [get_now hrw (by omega), decide_eq_true hz] at h9; exact h9) ?_
   intro w16 h17
   refine zwv (.tuple #[.string (atR now k), .bool true]) ?_
   refine zwv (.string (atR now k)) ?_
   refine zwv (.bool true) ?_
   refine zwv (.string (atR now k)) ?_
   refine zwv (.bool true) ?_
   refine wl_nil ?_
   refine then_at rfl ?_
   refine wp_seq ?_
   refine wp_seq ?_
   refine wl_region ?_
   refine zwv (.string (atR now k)) ?_
   refine zwv (iN .i64 k) ?_
   refine zwx (.pointer (some ⟨q3, k, none⟩)) (run_addr16 (q := q3) (i := k) (by kernel_rfl) (by kernel_rfl) (by omega)) ?_
   refine zwx (.string (atR r k)) (run_load1 (fun w => Tryz.isAgg9 w) (by kernel_rfl) (((h17.get 0 rfl).cell k).trans (stc_get r k (by rw [hrl]; omega)))) ?_
   refine zwx (.bool false) (run_nes (s := atR now k) (t := atR r k) (by kernel_rfl) (by kernel_rfl) false (decide_eq_true hkk)) ?_
   refine zwv (.bool false) ?_
   refine zwv (.bool true) ?_
   refine zwv (iN .i64 k) ?_
   refine zwx (.pointer (some ⟨q3, k, none⟩)) (run_addr16 (q := q3) (i := k) (by kernel_rfl) (by kernel_rfl) (by omega)) ?_
   refine zwx (.string (atR r k)) (run_load1 (fun w => Tryz.isAgg9 w) (by kernel_rfl) (((h17.get 0 rfl).cell k).trans (stc_get r k (by rw [hrl]; omega)))) ?_
   refine zwx (.bool true) (run_nes (s := atR r k) (t := eB) (by kernel_rfl) (by kernel_rfl) true (decide_eq_false (by rw [← hkk]; exact hz))) ?_
   refine zwv (.bool false) ?_
   refine zwv (.bool false) ?_
   refine wl_nil ?_
   refine then_at rfl ?_
   refine wp_cond_false (by kernel_rfl) ?_
   refine wp_skip ?_
   refine then_at rfl ?_
   refine wp_seq ?_
   refine wl_region ?_
   refine zwv (.bool true) ?_
   refine wl_nil ?_
   refine then_at rfl ?_
   refine wp_cond_true (by kernel_rfl) ?_
   refine wp_seq ?_
   refine wp_seq ?_
   have hclt := cnt_lt (now := now) (k := k) (by omega) hz
   obtain ⟨la, hla, hlk0⟩ : ∃ la, pl = some la ∧ ∀ w9, HA (bs w) ((q3, 48, stc r) :: Ll) w9 → w9.cell? (la.add (cntR now k)) = some (.string (nmR k)) := by
    have hKA := Row.keys (w := w16) (o := pl) (c := cl) (ds := lnm now) (by rw [lnm_len]; exact hRl) (fun y hy => h17.blk y (List.mem_cons_of_mem _ hy))
    obtain ⟨la, hla, _⟩ := hKA _ _ (lnm_at (by omega) hz)
    refine ⟨la, hla, fun w9 h9 => ?_⟩
    have hKA2 := Row.keys (w := w9) (o := pl) (c := cl) (ds := lnm now) (by rw [lnm_len]; exact hRl) (fun y hy => h9.blk y (List.mem_cons_of_mem _ hy))
    obtain ⟨la2, hla2, hc2⟩ := hKA2 _ _ (lnm_at (by omega) hz)
    rw [hla] at hla2
    cases hla2
    exact hc2
   have hlk := hlk0
   refine wp_region_sure ⟨(pt s.q :: .agg (stc r) :: un :: pt q3 :: u8 4 :: iN .i64 (cntR now k) :: .slice pl (cntR now 16) cl :: iN .i64 k :: .string (atR now k) :: .bool true :: pt s.q :: .slice pl (cntR now 16) cl :: iN .i64 k :: .bool true :: u8 14 :: u8 15 :: .tuple #[.string (atR now k), .bool true] :: pt s.q :: iN .i64 k :: .string (nmR (k)) :: .tuple #[.string (atR now k), .bool true] :: .string (atR now k) :: .bool true :: .string (atR now k) :: iN .i64 k :: .pointer (some ⟨q3, k, none⟩) :: .string (atR r k) :: .bool false :: .bool false :: .bool true :: iN .i64 k :: .pointer (some ⟨q3, k, none⟩) :: .string (atR r k) :: .bool true :: .bool false :: .bool false :: .bool true :: iN .i64 (cntR now k) :: .slice pl (cntR now 16) cl :: iN .i64 (cntR now 16) :: .bool false :: .bool false :: .slice pl (cntR now 16) cl :: iN .i64 (cntR now k) :: .pointer (some (la.add (cntR now k))) :: .string (nmR k) :: iN .i64 k :: .string (nmR (k)) :: .bool false :: .bool false :: u8 50 :: u8 51 :: List.replicate 10 un).toArray, []⟩ (HA (bs w) ((q3, 48, stc r) :: Ll)) [iN .i64 (cntR now k), .slice pl (cntR now 16) cl, iN .i64 (cntR now 16), .bool false, .bool false, .slice pl (cntR now 16) cl, iN .i64 (cntR now k), .pointer (some (la.add (cntR now k))), .string (nmR k), iN .i64 k, .string (nmR (k)), .bool false, .bool false] (by kernel_rfl) (by kernel_rfl) (by kernel_rfl) (by kernel_rfl) (fun _ _ _ h => h) h17.drew ?_ ?_
   ·refine AllSure.cons (OpSure.take (v := iN .i64 (cntR now k)) (by kernel_rfl) (by kernel_rfl) (fun _ _ => (by kernel_rfl))) ?_
    refine AllSure.cons (OpSure.take (v := .slice pl (cntR now 16) cl) (by kernel_rfl) (by kernel_rfl) (fun _ _ => (by kernel_rfl))) ?_
    refine AllSure.cons (OpSure.take (v := iN .i64 (cntR now 16)) (by kernel_rfl) (by kernel_rfl) (fun _ _ => (by kernel_rfl))) ?_
    refine AllSure.cons (OpSure.take (v := .bool false) (by kernel_rfl) (by kernel_rfl) (fun _ _ => (run_geq (k := .i64) (a := cntR now k) (b := cntR now 16) (by kernel_rfl) (by kernel_rfl) false (decide_eq_false (by omega))))) ?_
    refine AllSure.cons (OpSure.take (v := .bool false) (by kernel_rfl) (by kernel_rfl) (fun _ _ => (by kernel_rfl))) ?_
    refine AllSure.cons (OpSure.take (v := .slice pl (cntR now 16) cl) (by kernel_rfl) (by kernel_rfl) (fun _ _ => (by kernel_rfl))) ?_
    refine AllSure.cons (OpSure.take (v := iN .i64 (cntR now k)) (by kernel_rfl) (by kernel_rfl) (fun _ _ => (by kernel_rfl))) ?_
    refine AllSure.cons (OpSure.take (v := .pointer (some (la.add (cntR now k)))) (by kernel_rfl) (by kernel_rfl) (fun _ _ => (run_addr39 (o := pl) (a := la) (n := cntR now 16) (m := cl) (i := cntR now k) hla (by kernel_rfl) (by kernel_rfl) (by omega)))) ?_
    refine AllSure.cons (OpSure.take (v := .string (nmR k)) (by kernel_rfl) (by kernel_rfl) (fun w' h' => run_load_at (b := la.add (cntR now k)) (fun w => Tryz.isAgg9 w) (by kernel_rfl) (hlk _ h'))) ?_
    refine AllSure.cons (OpSure.take (v := iN .i64 k) (by kernel_rfl) (by kernel_rfl) (fun _ _ => (by kernel_rfl))) ?_
    refine AllSure.cons (sure_call (v := .string (nmR (k))) (by kernel_rfl) (by kernel_rfl) enter50 HA.keep #[iN .i64 k] (by kernel_rfl) (fun w' h' => name_any (k := k) (by omega) w')) ?_
    refine AllSure.cons (OpSure.take (v := .bool false) (by kernel_rfl) (by kernel_rfl) (fun _ _ => (run_nes (s := nmR k) (t := nmR (k)) (by kernel_rfl) (by kernel_rfl) false (decide_eq_true rfl)))) ?_
    refine AllSure.cons (OpSure.take (v := .bool false) (by kernel_rfl) (by kernel_rfl) (fun _ _ => (by kernel_rfl))) ?_
    exact AllSure.nil
   intro w18 h19
   refine then_at rfl ?_
   refine wp_cond_false (by kernel_rfl) ?_
   refine wp_skip ?_
   refine then_at rfl ?_
   refine wl_region ?_
   refine zwv (iN .i64 (cntR now k)) ?_
   refine zwx (iN .i64 ((cntR now k) + 1)) (run_add (k := .i64) (a := cntR now k) (b := 1) (by kernel_rfl) (by kernel_rfl) (by first | omega | (simp only [top]; omega))) ?_
   refine zwv (iN .i64 ((cntR now k) + 1)) ?_
   refine wl_nil ?_
   refine block_normal ?_
   refine then_at rfl ?_
   refine wl_region ?_
   refine zwv (iN .i64 k) ?_
   refine zwx (iN .i64 (k + 1)) (run_add (k := .i64) (a := k) (b := 1) (by kernel_rfl) (by kernel_rfl) (by first | omega | (simp only [top]; omega))) ?_
   refine zwv (iN .i64 (k + 1)) ?_
   refine wl_nil ?_
   exact then_I ⟨fun ii => (([(4, u8 4), (5, iN .i64 ((cntR now k) + 1)), (8, .string (atR now k)), (9, .bool true), (12, iN .i64 k), (13, .bool true), (14, iN .i64 k), (15, iN .i64 (k + 1)), (16, .tuple #[.string (atR now k), .bool true]), (17, .pointer (some ⟨s.q, 0, none⟩)), (18, iN .i64 k), (19, .string (nmR (k))), (20, .tuple #[.string (atR now k), .bool true]), (21, .string (atR now k)), (22, .bool true), (23, .string (atR now k)), (24, iN .i64 k), (25, .pointer (some ⟨q3, k, none⟩)), (26, .string (atR r k)), (27, .bool false), (28, .bool false), (29, .bool true), (30, iN .i64 k), (31, .pointer (some ⟨q3, k, none⟩)), (32, .string (atR r k)), (33, .bool true), (34, .bool false), (35, .bool false), (36, .bool true), (37, iN .i64 (cntR now k)), (38, .slice pl (cntR now 16) cl), (39, iN .i64 (cntR now 16)), (40, .bool false), (41, .bool false), (42, .slice pl (cntR now 16) cl), (43, iN .i64 (cntR now k)), (44, .pointer (some (la.add (cntR now k)))), (45, .string (nmR k)), (46, iN .i64 k), (47, .string (nmR (k))), (48, .bool false), (49, .bool false), (50, iN .i64 (cntR now k)), (51, iN .i64 ((cntR now k) + 1))] : List (Nat × Value)).find? (·.1 == ii)).elim undef (·.2), by kernel_rfl, (by show iN .i64 _ = _; rw [cnt_succ, if_pos hz]), h19⟩
 ·rintro _ w20 ⟨u8, rfl, hU, hL⟩
  rw [hU]
  have hc16 := cnt_le now k0
  refine wp_seq ?_
  refine wp_seq ?_
  refine wl_region ?_
  refine zwv (iN .i64 k0) ?_
  refine zwx (.bool true) (run_lss (k := .i64) (a := k0) (b := 16) (by kernel_rfl) (by kernel_rfl) true (decide_eq_true (by omega))) ?_
  refine wl_nil ?_
  refine then_at rfl ?_
  refine wp_cond_true (by kernel_rfl) ?_
  refine wp_skip ?_
  refine then_at rfl ?_
  refine wp_seq ?_
  refine wp_block ?_
  refine wp_seq ?_
  by_cases hz : atR now k0 = eB
  ·refine wl_region ?_
   refine zwv (.pointer (some ⟨s.q, 0, none⟩)) ?_
   refine zwv (iN .i64 k0) ?_
   refine wl_call (v := .string (nmR (k0))) hL (by kernel_rfl) enter50 #[iN .i64 k0] (by kernel_rfl) (name_any (k := k0) (by omega) w20) ?_
   intro w21 h22
   refine wl_call (v := .tuple #[.string (atR now k0), .bool false]) h22 (by kernel_rfl) enter23 #[.pointer (some ⟨s.q, 0, none⟩), .string (nmR (k0))] (by kernel_rfl) (by have h9 := get_S (hS.keep h22.old.old) hr (nmR k0); rw [get_now hrw (by omega), decide_eq_false (fun e => e hz)] at h9; exact h9) ?_
   intro w23 h24
   refine zwv (.tuple #[.string (atR now k0), .bool false]) ?_
   refine zwv (.string (atR now k0)) ?_
   refine zwv (.bool false) ?_
   refine zwv (.string (atR now k0)) ?_
   refine zwv (.bool false) ?_
   refine wl_nil ?_
   refine then_at rfl ?_
   refine wp_seq ?_
   refine wp_seq ?_
   refine wl_region ?_
   refine zwv (.string (atR now k0)) ?_
   refine zwv (iN .i64 k0) ?_
   refine zwx (.pointer (some ⟨q3, k0, none⟩)) (run_addr16 (q := q3) (i := k0) (by kernel_rfl) (by kernel_rfl) (by omega)) ?_
   refine zwx (.string (atR r k0)) (run_load1 (fun w => Tryz.isAgg9 w) (by kernel_rfl) (((h24.get 0 rfl).cell k0).trans (stc_get r k0 (by rw [hrl]; omega)))) ?_
   refine zwx (.bool true) (run_nes (s := atR now k0) (t := atR r k0) (by kernel_rfl) (by kernel_rfl) true (decide_eq_false hdf)) ?_
   refine zwv (.bool true) ?_
   refine wl_skip (by kernel_rfl) ?_
   refine wl_skip (by kernel_rfl) ?_
   refine wl_skip (by kernel_rfl) ?_
   refine wl_skip (by kernel_rfl) ?_
   refine wl_skip (by kernel_rfl) ?_
   refine wl_skip (by kernel_rfl) ?_
   refine zwv (.bool true) ?_
   refine wl_nil ?_
   refine then_at rfl ?_
   refine wp_cond_true (by kernel_rfl) ?_
   refine wp_seq ?_
   refine wl_region ?_
   refine zwv (.bool false) ?_
   refine wl_nil ?_
   refine then_at rfl ?_
   refine wp_ret ?_
   repeat first | refine then_ret ?_ | refine block_ret ?_
   exact bodyPost_ret (v := .bool false) (by kernel_rfl) rfl ⟨rfl, h24.old.old⟩
  ·refine wl_region ?_
   refine zwv (.pointer (some ⟨s.q, 0, none⟩)) ?_
   refine zwv (iN .i64 k0) ?_
   refine wl_call (v := .string (nmR (k0))) hL (by kernel_rfl) enter50 #[iN .i64 k0] (by kernel_rfl) (name_any (k := k0) (by omega) w20) ?_
   intro w25 h26
   refine wl_call (v := .tuple #[.string (atR now k0), .bool true]) h26 (by kernel_rfl) enter23 #[.pointer (some ⟨s.q, 0, none⟩), .string (nmR (k0))] (by kernel_rfl) (by have h9 := get_S (hS.keep h26.old.old) hr (nmR k0); rw [get_now hrw (by omega), decide_eq_true hz] at h9; exact h9) ?_
   intro w27 h28
   refine zwv (.tuple #[.string (atR now k0), .bool true]) ?_
   refine zwv (.string (atR now k0)) ?_
   refine zwv (.bool true) ?_
   refine zwv (.string (atR now k0)) ?_
   refine zwv (.bool true) ?_
   refine wl_nil ?_
   refine then_at rfl ?_
   refine wp_seq ?_
   refine wp_seq ?_
   refine wl_region ?_
   refine zwv (.string (atR now k0)) ?_
   refine zwv (iN .i64 k0) ?_
   refine zwx (.pointer (some ⟨q3, k0, none⟩)) (run_addr16 (q := q3) (i := k0) (by kernel_rfl) (by kernel_rfl) (by omega)) ?_
   refine zwx (.string (atR r k0)) (run_load1 (fun w => Tryz.isAgg9 w) (by kernel_rfl) (((h28.get 0 rfl).cell k0).trans (stc_get r k0 (by rw [hrl]; omega)))) ?_
   refine zwx (.bool true) (run_nes (s := atR now k0) (t := atR r k0) (by kernel_rfl) (by kernel_rfl) true (decide_eq_false hdf)) ?_
   refine zwv (.bool true) ?_
   refine wl_skip (by kernel_rfl) ?_
   refine wl_skip (by kernel_rfl) ?_
   refine wl_skip (by kernel_rfl) ?_
   refine wl_skip (by kernel_rfl) ?_
   refine wl_skip (by kernel_rfl) ?_
   refine wl_skip (by kernel_rfl) ?_
   refine zwv (.bool true) ?_
   refine wl_nil ?_
   refine then_at rfl ?_
   refine wp_cond_true (by kernel_rfl) ?_
   refine wp_seq ?_
   refine wl_region ?_
   refine zwv (.bool false) ?_
   refine wl_nil ?_
   refine then_at rfl ?_
   refine wp_ret ?_
   repeat first | refine then_ret ?_ | refine block_ret ?_
   exact bodyPost_ret (v := .bool false) (by kernel_rfl) rfl ⟨rfl, h28.old.old⟩
end Go.Proofs.YtckmlaempffpjaaGreat
