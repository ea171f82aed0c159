/-
  ShakeHidden: the law walked.
-/
import Derived.Test.YtcjjbpbehapjpaaGreatH4
namespace Go.Proofs.YtcjjbpbehapjpaaGreat
open Go.RowKit

theorem Known_E {w : World} {t : Tb} {es : List Ent} (h : TV w t es) (hok : OkT es) (hm : es.length ≤ 400) {m0 : Int} (hv : w.cell? ⟨0, 0, none⟩ = some (.int .i64 m0)) (ss : List ByteArray) {m g c : Nat} {cur : Array Value} (hl : ss.length = m) (hp : ∀ j, j < m → cur[j]? = some (.string (ss.getD j ByteArray.empty))) (hb : Blk w g 9 cur) (hss : ∀ s ∈ ss, s.size ≤ 1000) (hsl : m ≤ 100) {A : List Ent} (hz : Z es = A) :
    Calls Tryz.prog 26 #[pt t.q, .slice (some ⟨g, 0, none⟩) m c] w fun e w' => ∃ kb, e = .returned (.slice (some ⟨kb, 0, none⟩) es.length es.length) ∧ w.heap.size ≤ kb ∧ Blk w' kb 4 (boc (knownF A ss)) ∧ Below w.heap.size w w' := by
  subst hl
  have h2 := Known_any h hok.wf hok.wg hm (fun i s he => hok.dd s (List.mem_of_getElem? he)) hv ss (some ⟨g, 0, none⟩) c (.inr ⟨g, cur, rfl, hp, hb⟩) (fun i => Nat.le_trans (getD_size hss i) (by decide)) (by omega)
  rw [known_Z es ss, hz] at h2
  exact h2
theorem Within_E {w : World} {t : Tb} {es : List Ent} (h : TV w t es) (hm : es.length ≤ 400) {m0 : Int} (hv : w.cell? ⟨0, 0, none⟩ = some (.int .i64 m0)) (s : ByteArray) (hs : s.size ≤ 1000) {x : Nat} (hx : wth es.length s = [x]) :
    Calls Tryz.prog 27 #[pt t.q, .string s] w fun e w' => ∃ q c c', e = .returned (.slice (some ⟨q, 0, none⟩) 1 c') ∧ w.heap.size ≤ q ∧ Blk w' q 3 c ∧ c[0]? = some (iN .i64 x) ∧ Below w.heap.size w w' := by
  obtain ⟨v, hq, hrow⟩ := h.row
  obtain ⟨p, c, rfl⟩ : ∃ p c, v = .slice p es.length c := by
    rcases hrow with ⟨e1, h2⟩ | ⟨g, cap, cur, h2, _⟩
    · exact ⟨none, 0, by rw [h2, e1]; rfl⟩
    · exact ⟨_, _, h2⟩
  have h2 := Within_blk hq (by omega) hv s (by omega)
  rw [hx] at h2
  refine h2.mono ?_
  rintro e w' ⟨o', c', rfl, hr, hb⟩
  obtain ⟨q, cc, rfl, h3, h4, h5⟩ := hr.resolve_left (by intro e; cases e)
  exact ⟨q, cc, c', rfl, h3, h4, h5 0 (Nat.zero_lt_one), hb⟩
theorem keys_size : ∀ k, ∀ s ∈ keysL k, s.size ≤ 1000
  | 0, s, h => by cases h
  | k + 1, s, h => by
    rcases List.mem_append.1 h with h | h
    · exact keys_size k s h
    · simp only [List.mem_cons, List.not_mem_nil, or_false] at h
      rcases h with rfl | rfl <;> rw [txt_size] <;> decide
theorem kn_lt {N i : Nat} (hi : i < 2 * N) (h1 : 1 ≤ N) : kn i < lnF N := by
  unfold kn lnF oF
  rw [if_neg (show ¬ N = 0 by omega)]
  split <;> omega
theorem belowT {w v u : World} (h1 : Below w.heap.size w v) (h2 : Below v.heap.size v u) : Below w.heap.size w u := by
  exact h1.trans (h2.mono h1.size)
set_option linter.unusedVariables false in
set_option maxRecDepth 100000 in
set_option maxHeartbeats 8000000 in
theorem hiddenL {w : World} {m0 : Int} (hv : w.cell? ⟨0, 0, none⟩ = some (.int .i64 m0)) (n0 : Nat) (hn0 : n0 < 256) :
    Calls Tryz.prog 6 #[iN .u8 n0] w fun e w' => e = .returned (.bool true) ∧ Below w.heap.size w w' := by
  have H0 : HA ⟨w, []⟩ [] w := HA.start w
  obtain ⟨N, hN⟩ : ∃ N, N = 1 + n0 % 4 := ⟨_, rfl⟩
  have hN1 : 1 ≤ N := by omega
  have hN4 : N ≤ 4 := by omega
  go_enter Tryz.func6, Tryz.ntmps6
  refine wp_seq (wl_region ?_)
  refine zv (.bool false) ?_
  refine wl_nil (then_at rfl (wp_seq (wp_seq (wl_region ?_))))
  refine wl_call (v := .bool true) H0 ky enter10 #[] ky (works_P w) ?_
  intro w1 h2
  refine zv (.bool false) ?_
  refine wl_nil (then_at rfl ?_)
  refine wp_cond_false ky ?_
  refine wp_skip (then_at rfl (wp_seq (wl_region ?_)))
  refine wl_callx ky enter24 #[iN .i64 1, .string ({ data := #[] }), .string ({ data := #[] })] ky (made_H h2) ?_
  rintro _ w5 ⟨p3, rfl, hD4⟩
  refine ⟨_, rfl, ?_⟩
  obtain ⟨z6, X7, hcl8, hbe9, h10⟩ := PH.front hD4
  have h11 : HA z6 X7 w5 := h10
  refine zv (.tuple #[.pointer (some ⟨p3.q, 0, none⟩), .agg #[.string (txt 0), .string (txt 1)], .agg #[.string (txt 2), .string (txt 3)]]) ?_
  refine zv (.pointer (some ⟨p3.q, 0, none⟩)) ?_
  refine zv (.agg #[.string (txt 0), .string (txt 1)]) ?_
  refine zv (.agg #[.string (txt 2), .string (txt 3)]) ?_
  refine wl_make (c := #[.string ({ data := #[] }), .string ({ data := #[] })]) h11 22 ky ky ?_
  intro q12 w13 (h14 : HA z6 ((q12, 22, #[.string ({ data := #[] }), .string ({ data := #[] })]) :: X7) w13)
  refine wl_make (c := #[.string ({ data := #[] }), .string ({ data := #[] })]) h14 22 ky ky ?_
  intro q15 w16 (h17 : HA z6 ((q15, 22, #[.string ({ data := #[] }), .string ({ data := #[] })]) :: (q12, 22, #[.string ({ data := #[] }), .string ({ data := #[] })]) :: X7) w16)
  refine zv (.pointer (some ⟨p3.q, 0, none⟩)) ?_
  refine wl_fill (c' := #[.string (txt 0), .string (txt 1)]) h17 1 rfl ky ky ky rfl ky ky ?_
  intro w18 (h19 : HA z6 ((q15, 22, #[.string ({ data := #[] }), .string ({ data := #[] })]) :: (q12, 22, #[.string (txt 0), .string (txt 1)]) :: X7) w18)
  refine wl_fill (c' := #[.string (txt 2), .string (txt 3)]) h19 0 rfl ky ky ky rfl ky ky ?_
  intro w20 (h21 : HA z6 ((q15, 22, #[.string (txt 2), .string (txt 3)]) :: (q12, 22, #[.string (txt 0), .string (txt 1)]) :: X7) w20)
  refine wl_nil (then_at rfl (wp_seq (wp_seq (wl_region ?_))))
  refine zv (.pointer (some ⟨p3.q, 0, none⟩)) ?_
  refine zv (.bool false) ?_
  refine wl_nil (then_at rfl ?_)
  refine wp_cond_false ky ?_
  refine wp_skip (then_at rfl (wp_seq (wl_region ?_)))
  refine zu (.pointer (some ⟨q15, 0, none⟩)) (run_addr_arr (q := q15) (a := 0) Tryz.underlying22 (fun w => Tryz.sizeOf9 w) ky ky (by decide)) ?_
  refine zu (.string (txt 2)) (run_load1 (fun w => Tryz.isAgg9 w) ky (((h21.get 0 rfl).cell 0).trans rfl)) ?_
  refine zu (.pointer (some ⟨q15, 1, none⟩)) (run_addr_arr (q := q15) (a := 1) Tryz.underlying22 (fun w => Tryz.sizeOf9 w) ky ky (by decide)) ?_
  refine zu (.string (txt 3)) (run_load1 (fun w => Tryz.isAgg9 w) ky (((h21.get 0 rfl).cell 1).trans rfl)) ?_
  refine wl_mks (n := 2) (m := 2) (c := #[.string (txt 2), .string (txt 3)]) h21 9 ky ky ?_
  intro q22 w23 (h24 : HA z6 ((q22, 9, #[.string (txt 2), .string (txt 3)]) :: (q15, 22, #[.string (txt 2), .string (txt 3)]) :: (q12, 22, #[.string (txt 0), .string (txt 1)]) :: X7) w23)
  refine zv (.slice (some ⟨q22, 0, none⟩) 2 2) ?_
  refine wl_nil (then_at rfl (wp_seq (wl_region ?_)))
  refine zv (.slice none 0 0) ?_
  refine wl_nil (then_at rfl (wp_seq (wp_seq (wl_region ?_))))
  refine zv (iN .i64 0) ?_
  refine wl_nil (then_at rfl ?_)
  have hD0 : PH w [] p3 (hk 0) 0 ((q15, 22, #[.string (txt 2), .string (txt 3)]) :: (q12, 22, #[.string (txt 0), .string (txt 1)]) :: ([(q22, 9, #[.string (txt 2), .string (txt 3)])] ++ [])) w23 := (PH.perm (hcl8 ((q22, 9, #[.string (txt 2), .string (txt 3)]) :: (q15, 22, #[.string (txt 2), .string (txt 3)]) :: (q12, 22, #[.string (txt 0), .string (txt 1)]) :: []) _ h24) (List.Perm.trans (List.Perm.swap _ _ _) (List.Perm.cons _ (List.Perm.swap _ _ _))))
  have hR0 : Row 9 1 (.slice (some ⟨q22, 0, none⟩) (2 * 0 + 2) 2) (2 * 0 + 2) ((seenL 0).map Value.string) [(q22, 9, #[.string (txt 2), .string (txt 3)])] := ⟨rfl, .inr ⟨_, 2, _, rfl, rfl, Nat.le_refl _, by decide, rfl, rfl⟩⟩
  refine wp_block ?_
  refine wp_while (fun mq AQ w' => ∃ (k nn : Nat) (so ko : Option Addr) (sc kc : Nat) (Ls Lk : BL) (u25 : Nat → Value), mq = N - k ∧ AQ = ⟨(iN .u8 n0 :: un :: u25 2 :: pt p3.q :: pt q12 :: pt q15 :: .slice so (2 * k + 2) sc :: .slice ko (2 * k) kc :: iN .i64 k :: u25 9 :: u25 10 :: u25 11 :: u25 12 :: u25 13 :: u25 14 :: u25 15 :: u25 16 :: u25 17 :: u25 18 :: u25 19 :: un :: un :: un :: un :: un :: un :: .bool true :: .bool false :: .tuple #[pt p3.q, .agg #[.string (txt 0), .string (txt 1)], .agg #[.string (txt 2), .string (txt 3)]] :: .tuple #[pt p3.q, .agg #[.string (txt 0), .string (txt 1)], .agg #[.string (txt 2), .string (txt 3)]] :: pt p3.q :: .agg #[.string (txt 0), .string (txt 1)] :: .agg #[.string (txt 2), .string (txt 3)] :: pt p3.q :: .bool false :: pt q15 :: .string (txt 2) :: .pointer (some ⟨q15, 1, none⟩) :: .string (txt 3) :: .slice (some ⟨q22, 0, none⟩) 2 2 :: u25 40 :: u25 41 :: u25 42 :: u25 43 :: u25 44 :: u25 45 :: u25 46 :: u25 47 :: u25 48 :: u25 49 :: u25 50 :: u25 51 :: u25 52 :: u25 53 :: u25 54 :: u25 55 :: u25 56 :: u25 57 :: u25 58 :: u25 59 :: u25 60 :: u25 61 :: u25 62 :: u25 63 :: u25 64 :: u25 65 :: u25 66 :: u25 67 :: u25 68 :: u25 69 :: u25 70 :: u25 71 :: u25 72 :: u25 73 :: u25 74 :: u25 75 :: u25 76 :: u25 77 :: u25 78 :: u25 79 :: u25 80 :: u25 81 :: u25 82 :: u25 83 :: u25 84 :: u25 85 :: u25 86 :: u25 87 :: u25 88 :: u25 89 :: u25 90 :: u25 91 :: u25 92 :: u25 93 :: u25 94 :: u25 95 :: u25 96 :: u25 97 :: u25 98 :: List.replicate 49 un).toArray, []⟩ ∧ k ≤ N ∧ nn ≤ 4 * k ∧ Row 9 1 (.slice so (2 * k + 2) sc) (2 * k + 2) ((seenL k).map Value.string) Ls ∧ Row 9 1 (.slice ko (2 * k) kc) (2 * k) ((keysL k).map Value.string) Lk ∧ PH w [] p3 (hk k) nn ((q15, 22, #[.string (txt 2), .string (txt 3)]) :: (q12, 22, #[.string (txt 0), .string (txt 1)]) :: (Ls ++ Lk)) w') (N - 0) ?_ ?_
  · exact ⟨0, 0, some ⟨q22, 0, none⟩, none, 2, 0, [(q22, 9, #[.string (txt 2), .string (txt 3)])], [], fun ii => (([(2, .bool false), (9, undef), (10, undef), (11, undef), (12, undef), (13, undef), (14, undef), (15, undef), (16, undef), (17, undef), (18, undef), (19, undef), (40, undef), (41, undef), (42, undef), (43, undef), (44, undef), (45, undef), (46, undef), (47, undef), (48, undef), (49, undef), (50, undef), (51, undef), (52, undef), (53, undef), (54, undef), (55, undef), (56, undef), (57, undef), (58, undef), (59, undef), (60, undef), (61, undef), (62, undef), (63, undef), (64, undef), (65, undef), (66, undef), (67, undef), (68, undef), (69, undef), (70, undef), (71, undef), (72, undef), (73, undef), (74, undef), (75, undef), (76, undef), (77, undef), (78, undef), (79, undef), (80, undef), (81, undef), (82, undef), (83, undef), (84, undef), (85, undef), (86, undef), (87, undef), (88, undef), (89, undef), (90, undef), (91, undef), (92, undef), (93, undef), (94, undef), (95, undef), (96, undef), (97, undef), (98, undef)] : List (Nat × Value)).find? (·.1 == ii)).elim undef (·.2), rfl, by kernel_rfl, Nat.zero_le _, Nat.le_refl _, hR0, Row.nil 9 1, hD0⟩
  rintro _ _ w26 ⟨k, nn, so, ko, sc, kc, Ls, Lk, u25, rfl, rfl, hkN, hnn, hRs, hRk, hD⟩
  rcases Nat.lt_or_ge k N with hlt | hge
  · obtain ⟨z27, X28, hcl29, hbe30, h31⟩ := PH.front hD
    have h32 : HA z27 ((q15, 22, #[.string (txt 2), .string (txt 3)]) :: (q12, 22, #[.string (txt 0), .string (txt 1)]) :: ((Ls ++ Lk) ++ X28)) w26 := h31
    refine wp_seq (wp_seq (wl_region ?_))
    refine zv (iN .i64 k) ?_
    refine zv (iN .u8 n0) ?_
    refine zu (iN .u8 (n0 % 4)) (run_rem (k := .u8) (a := n0) (b := 4) ky ky (by omega)) ?_
    refine zu (iN .i64 (n0 % 4)) (run_conv .i64 Tryz.underlying5 Tryz.underlying3 ky (by first | omega | (simp only [top]; omega))) ?_
    refine zu (iN .i64 (1 + (n0 % 4))) (run_add (k := .i64) (a := 1) (b := n0 % 4) ky ky (by first | omega | (simp only [top]; omega))) ?_
    refine zu (.bool true) (run_lss (k := .i64) (a := k) (b := 1 + (n0 % 4)) ky ky true (decide_eq_true (by omega))) ?_
    refine wl_nil (then_at rfl ?_)
    refine wp_cond_true ky ?_
    refine wp_skip (then_at rfl (wp_seq (wp_block (wp_seq (wl_region ?_)))))
    refine zv (.pointer (some ⟨p3.q, 0, none⟩)) ?_
    refine zu (.pointer (some ⟨q12, 0, none⟩)) (run_addr_arr (q := q12) (a := 0) Tryz.underlying22 (fun w => Tryz.sizeOf9 w) ky ky (by decide)) ?_
    refine zu (.string (txt 0)) (run_load1 (fun w => Tryz.isAgg9 w) ky (((h32.get 1 rfl).cell 0).trans rfl)) ?_
    refine zu (.pointer (some ⟨q15, 1, none⟩)) (run_addr_arr (q := q15) (a := 1) Tryz.underlying22 (fun w => Tryz.sizeOf9 w) ky ky (by decide)) ?_
    refine zu (.string (txt 3)) (run_load1 (fun w => Tryz.isAgg9 w) ky (((h32.get 0 rfl).cell 1).trans rfl)) ?_
    refine wl_callx ky enter15 #[.pointer (some ⟨p3.q, 0, none⟩), iN .i64 0, .string (txt 0), .string (txt 3), .string ({ data := #[] })] ky (Begin_H (by omega) (hcl29 ((q15, 22, #[.string (txt 2), .string (txt 3)]) :: (q12, 22, #[.string (txt 0), .string (txt 1)]) :: (Ls ++ Lk)) _ h32) (by omega)) ?_
    rintro _ w35 ⟨qc33, rfl, hD34⟩
    refine ⟨_, rfl, ?_⟩
    obtain ⟨z36, X37, hcl38, hbe39, h40⟩ := PH.front hD34
    have h41 : HA z36 ((qc33, 89, #[.pointer (some ⟨p3.q, 0, none⟩), .string (txt 0), .string (txt (hk k).length), .string (heF k), .string (txt (frF k + 2)), .string (txt 7)]) :: (q15, 22, #[.string (txt 2), .string (txt 3)]) :: (q12, 22, #[.string (txt 0), .string (txt 1)]) :: ((Ls ++ Lk) ++ X37)) w35 := h40
    refine zv (.tuple #[.pointer (some ⟨qc33, 0, none⟩), .string (heF k), iN .i64 0]) ?_
    refine zv (.pointer (some ⟨qc33, 0, none⟩)) ?_
    refine zv (.string (heF k)) ?_
    refine zv (iN .i64 0) ?_
    refine zv (.pointer (some ⟨qc33, 0, none⟩)) ?_
    refine zv (.string (heF k)) ?_
    refine zv (iN .i64 0) ?_
    refine wl_nil ?_
    refine then_at (F := ⟨(iN .u8 n0 :: un :: u25 2 :: pt p3.q :: pt q12 :: pt q15 :: .slice so (2 * k + 2) sc :: .slice ko (2 * k) kc :: iN .i64 k :: pt qc33 :: .string (heF k) :: iN .i64 0 :: u25 12 :: u25 13 :: u25 14 :: u25 15 :: u25 16 :: u25 17 :: u25 18 :: u25 19 :: un :: un :: un :: un :: un :: un :: .bool true :: .bool false :: .tuple #[pt p3.q, .agg #[.string (txt 0), .string (txt 1)], .agg #[.string (txt 2), .string (txt 3)]] :: .tuple #[pt p3.q, .agg #[.string (txt 0), .string (txt 1)], .agg #[.string (txt 2), .string (txt 3)]] :: pt p3.q :: .agg #[.string (txt 0), .string (txt 1)] :: .agg #[.string (txt 2), .string (txt 3)] :: pt p3.q :: .bool false :: pt q15 :: .string (txt 2) :: .pointer (some ⟨q15, 1, none⟩) :: .string (txt 3) :: .slice (some ⟨q22, 0, none⟩) 2 2 :: iN .i64 k :: iN .u8 n0 :: iN .u8 (n0 % 4) :: iN .i64 (n0 % 4) :: iN .i64 (1 + (n0 % 4)) :: .bool true :: u25 46 :: u25 47 :: .tuple #[pt qc33, .string (heF k), iN .i64 0] :: pt p3.q :: pt q12 :: .string (txt 0) :: .pointer (some ⟨q15, 1, none⟩) :: .string (txt 3) :: .tuple #[pt qc33, .string (heF k), iN .i64 0] :: pt qc33 :: .string (heF k) :: iN .i64 0 :: u25 58 :: u25 59 :: u25 60 :: u25 61 :: u25 62 :: u25 63 :: u25 64 :: u25 65 :: u25 66 :: u25 67 :: u25 68 :: u25 69 :: u25 70 :: u25 71 :: u25 72 :: u25 73 :: u25 74 :: u25 75 :: u25 76 :: u25 77 :: u25 78 :: u25 79 :: u25 80 :: u25 81 :: u25 82 :: u25 83 :: u25 84 :: u25 85 :: u25 86 :: u25 87 :: u25 88 :: u25 89 :: u25 90 :: u25 91 :: u25 92 :: u25 93 :: u25 94 :: u25 95 :: u25 96 :: u25 97 :: u25 98 :: List.replicate 49 un).toArray, []⟩) ky ?_
    refine wp_seq (wl_region ?_)
    refine zv (.pointer (some ⟨p3.q, 0, none⟩)) ?_
    refine zu (.pointer (some ⟨q12, 1, none⟩)) (run_addr_arr (q := q12) (a := 1) Tryz.underlying22 (fun w => Tryz.sizeOf9 w) ky ky (by decide)) ?_
    refine zu (.string (txt 1)) (run_load1 (fun w => Tryz.isAgg9 w) ky (((h41.get 2 rfl).cell 1).trans rfl)) ?_
    refine zu (.pointer (some ⟨q15, 0, none⟩)) (run_addr_arr (q := q15) (a := 0) Tryz.underlying22 (fun w => Tryz.sizeOf9 w) ky ky (by decide)) ?_
    refine zu (.string (txt 2)) (run_load1 (fun w => Tryz.isAgg9 w) ky (((h41.get 1 rfl).cell 0).trans rfl)) ?_
    refine wl_mks (n := 1) (m := 1) (c := #[.string (txt 2)]) h41 9 ky ky ?_
    intro q42 w43 (h44 : HA z36 ((q42, 9, #[.string (txt 2)]) :: (qc33, 89, #[.pointer (some ⟨p3.q, 0, none⟩), .string (txt 0), .string (txt (hk k).length), .string (heF k), .string (txt (frF k + 2)), .string (txt 7)]) :: (q15, 22, #[.string (txt 2), .string (txt 3)]) :: (q12, 22, #[.string (txt 0), .string (txt 1)]) :: ((Ls ++ Lk) ++ X37)) w43)
    refine zv (.string (heF k)) ?_
    refine wl_callx ky enter18 #[.pointer (some ⟨p3.q, 0, none⟩), .string (txt 1), .slice (some ⟨q42, 0, none⟩) 1 1, .string (heF k), .string ({ data := #[] })] ky (Accept_H (by omega) (hcl38 ((q42, 9, #[.string (txt 2)]) :: (qc33, 89, #[.pointer (some ⟨p3.q, 0, none⟩), .string (txt 0), .string (txt (hk k).length), .string (heF k), .string (txt (frF k + 2)), .string (txt 7)]) :: (q15, 22, #[.string (txt 2), .string (txt 3)]) :: (q12, 22, #[.string (txt 0), .string (txt 1)]) :: (Ls ++ Lk)) _ h44) (by omega) q42 1 (List.mem_of_getElem? (i := 0) rfl)) ?_
    rintro _ w46 ⟨rfl, hD45⟩
    refine ⟨_, rfl, ?_⟩
    obtain ⟨z47, X48, hcl49, hbe50, h51⟩ := PH.front hD45
    have h52 : HA z47 ((q42, 9, #[.string (txt 2)]) :: (qc33, 89, #[.pointer (some ⟨p3.q, 0, none⟩), .string (txt 0), .string (txt (hk k).length), .string (heF k), .string (txt (frF k + 2)), .string (txt 7)]) :: (q15, 22, #[.string (txt 2), .string (txt 3)]) :: (q12, 22, #[.string (txt 0), .string (txt 1)]) :: ((Ls ++ Lk) ++ X48)) w46 := h51
    refine zv (.tuple #[iN .i64 0, .string (reF k), .string (txt (oF k + 16)), .string (txt (oF k + 15)), iN .i64 0]) ?_
    refine zv (iN .i64 0) ?_
    refine zv (.string (reF k)) ?_
    refine zv (.string (txt (oF k + 16))) ?_
    refine zv (.string (txt (oF k + 15))) ?_
    refine zv (iN .i64 0) ?_
    refine zv (iN .i64 0) ?_
    refine zv (.string (reF k)) ?_
    refine zv (.string (txt (oF k + 16))) ?_
    refine zv (.string (txt (oF k + 15))) ?_
    refine zv (iN .i64 0) ?_
    refine wl_nil (then_at rfl (wp_seq (wl_region ?_)))
    refine zv (.pointer (some ⟨qc33, 0, none⟩)) ?_
    refine zv (.string (reF k)) ?_
    refine wl_callx ky enter21 #[.pointer (some ⟨qc33, 0, none⟩), .string (reF k)] ky (Finish_H (q := qc33) (by omega) (hcl49 ((q42, 9, #[.string (txt 2)]) :: (qc33, 89, #[.pointer (some ⟨p3.q, 0, none⟩), .string (txt 0), .string (txt (hk k).length), .string (heF k), .string (txt (frF k + 2)), .string (txt 7)]) :: (q15, 22, #[.string (txt 2), .string (txt 3)]) :: (q12, 22, #[.string (txt 0), .string (txt 1)]) :: (Ls ++ Lk)) _ h52) (by omega) (List.mem_of_getElem? (i := 1) rfl)) ?_
    rintro _ w54 ⟨rfl, hD53⟩
    refine ⟨_, rfl, ?_⟩
    obtain ⟨z55, X56, hcl57, hbe58, h59⟩ := PH.front hD53
    have h60 : HA z55 ((q42, 9, #[.string (txt 2)]) :: (qc33, 89, #[.pointer (some ⟨p3.q, 0, none⟩), .string (txt 0), .string (txt (hk k).length), .string (heF k), .string (txt (frF k + 2)), .string (txt 7)]) :: (q15, 22, #[.string (txt 2), .string (txt 3)]) :: (q12, 22, #[.string (txt 0), .string (txt 1)]) :: ((Ls ++ Lk) ++ X56)) w54 := h59
    refine zv (.tuple #[.string (txt (oF k + 15)), .string (txt (oF k + 16)), iN .i64 0]) ?_
    refine zv (.string (txt (oF k + 15))) ?_
    refine zv (.string (txt (oF k + 16))) ?_
    refine zv (iN .i64 0) ?_
    refine zv (.string (txt (oF k + 15))) ?_
    refine zv (.string (txt (oF k + 16))) ?_
    refine zv (iN .i64 0) ?_
    refine wl_nil (then_at rfl (wp_seq (wp_seq (wl_region ?_))))
    refine zv (iN .i64 0) ?_
    refine zu (.bool false) (run_nei (k := .i64) (a := 0) (b := 0) ky ky false (by decide)) ?_
    refine zv (.bool false) ?_
    refine zv (iN .i64 0) ?_
    refine zu (.bool false) (run_nei (k := .i64) (a := 0) (b := 0) ky ky false (by decide)) ?_
    refine zv (.bool false) ?_
    refine zv (.bool false) ?_
    refine zv (iN .i64 0) ?_
    refine zu (.bool false) (run_nei (k := .i64) (a := 0) (b := 0) ky ky false (by decide)) ?_
    refine zv (.bool false) ?_
    refine wl_nil (then_at rfl ?_)
    refine wp_cond_false ky ?_
    refine wp_skip (then_at rfl (wp_seq (wl_region ?_)))
    refine zv (.slice so (2 * k + 2) sc) ?_
    refine zv (.string (heF k)) ?_
    refine zv (.string (reF k)) ?_
    refine wl_mks (n := 2) (m := 2) (c := #[.string (heF k), .string (reF k)]) h60 9 ky ky ?_
    intro q61 w62 (h63 : HA z55 ((q61, 9, #[.string (heF k), .string (reF k)]) :: (q42, 9, #[.string (txt 2)]) :: (qc33, 89, #[.pointer (some ⟨p3.q, 0, none⟩), .string (txt 0), .string (txt (hk k).length), .string (heF k), .string (txt (frF k + 2)), .string (txt 7)]) :: (q15, 22, #[.string (txt 2), .string (txt 3)]) :: (q12, 22, #[.string (txt 0), .string (txt 1)]) :: ((Ls ++ Lk) ++ X56)) w62)
    refine wl_append (m := 2) (c := 2) hRs (HA.mvS (F := [(q42, 9, #[.string (txt 2)]), (qc33, 89, #[.pointer (some ⟨p3.q, 0, none⟩), .string (txt 0), .string (txt (hk k).length), .string (heF k), .string (txt (frF k + 2)), .string (txt 7)]), (q15, 22, #[.string (txt 2), .string (txt 3)]), (q12, 22, #[.string (txt 0), .string (txt 1)])]) h63) (by decide) _ 16 Tryz.underlying58 infos9 rfl (by decide) ky ky ky rfl ky (by unfold maxLen; omega) (by omega) (by decide) ?_
    intro v2 w64 Ls2 hRs2 h65
    obtain ⟨sp, sd, rfl⟩ := hRs2.form
    have h66 : HA z55 ((q42, 9, #[.string (txt 2)]) :: (qc33, 89, #[.pointer (some ⟨p3.q, 0, none⟩), .string (txt 0), .string (txt (hk k).length), .string (heF k), .string (txt (frF k + 2)), .string (txt 7)]) :: (q15, 22, #[.string (txt 2), .string (txt 3)]) :: (q12, 22, #[.string (txt 0), .string (txt 1)]) :: ((Ls2 ++ Lk) ++ X56)) w64 := HA.bkS (F := [(q42, 9, #[.string (txt 2)]), (qc33, 89, #[.pointer (some ⟨p3.q, 0, none⟩), .string (txt 0), .string (txt (hk k).length), .string (heF k), .string (txt (frF k + 2)), .string (txt 7)]), (q15, 22, #[.string (txt 2), .string (txt 3)]), (q12, 22, #[.string (txt 0), .string (txt 1)])]) h65
    refine zv (.slice sp (2 * k + 2 + 2) sd) ?_
    refine wl_nil (then_at rfl (wl_region ?_))
    refine zv (.slice ko (2 * k) kc) ?_
    refine zv (.string (txt (oF k + 16))) ?_
    refine zv (.string (txt (oF k + 15))) ?_
    refine wl_mks (n := 2) (m := 2) (c := #[.string (txt (oF k + 16)), .string (txt (oF k + 15))]) h66 9 ky ky ?_
    intro q67 w68 (h69 : HA z55 ((q67, 9, #[.string (txt (oF k + 16)), .string (txt (oF k + 15))]) :: (q42, 9, #[.string (txt 2)]) :: (qc33, 89, #[.pointer (some ⟨p3.q, 0, none⟩), .string (txt 0), .string (txt (hk k).length), .string (heF k), .string (txt (frF k + 2)), .string (txt 7)]) :: (q15, 22, #[.string (txt 2), .string (txt 3)]) :: (q12, 22, #[.string (txt 0), .string (txt 1)]) :: ((Ls2 ++ Lk) ++ X56)) w68)
    refine wl_append (m := 2) (c := 2) hRk (HA.mvK (F := [(q42, 9, #[.string (txt 2)]), (qc33, 89, #[.pointer (some ⟨p3.q, 0, none⟩), .string (txt 0), .string (txt (hk k).length), .string (heF k), .string (txt (frF k + 2)), .string (txt 7)]), (q15, 22, #[.string (txt 2), .string (txt 3)]), (q12, 22, #[.string (txt 0), .string (txt 1)])]) h69) (by decide) _ 16 Tryz.underlying58 infos9 rfl (by decide) ky ky ky rfl ky (by unfold maxLen; omega) (by omega) (by decide) ?_
    intro v3 w70 Lk2 hRk2 h71
    obtain ⟨kp, kd, rfl⟩ := hRk2.form
    have h72 : HA z55 ((q42, 9, #[.string (txt 2)]) :: (qc33, 89, #[.pointer (some ⟨p3.q, 0, none⟩), .string (txt 0), .string (txt (hk k).length), .string (heF k), .string (txt (frF k + 2)), .string (txt 7)]) :: (q15, 22, #[.string (txt 2), .string (txt 3)]) :: (q12, 22, #[.string (txt 0), .string (txt 1)]) :: ((Ls2 ++ Lk2) ++ X56)) w70 := HA.bkK (F := [(q42, 9, #[.string (txt 2)]), (qc33, 89, #[.pointer (some ⟨p3.q, 0, none⟩), .string (txt 0), .string (txt (hk k).length), .string (heF k), .string (txt (frF k + 2)), .string (txt 7)]), (q15, 22, #[.string (txt 2), .string (txt 3)]), (q12, 22, #[.string (txt 0), .string (txt 1)])]) h71
    refine zv (.slice kp (2 * k + 2) kd) ?_
    refine wl_nil (block_normal (then_at rfl (wl_region ?_)))
    refine zv (iN .i64 k) ?_
    refine zu (iN .i64 (k + 1)) (run_add (k := .i64) (a := k) (b := 1) ky ky (by first | omega | (simp only [top]; omega))) ?_
    refine zv (iN .i64 (k + 1)) ?_
    refine wl_nil ?_
    have hRs3 : Row 9 1 (.slice sp (2 * (k + 1) + 2) sd) (2 * (k + 1) + 2) ((seenL (k + 1)).map Value.string) Ls2 := by rw [show 2 * (k + 1) + 2 = 2 * k + 2 + 2 by omega, seenL, List.map_append]; exact hRs2
    have hRk3 : Row 9 1 (.slice kp (2 * (k + 1)) kd) (2 * (k + 1)) ((keysL (k + 1)).map Value.string) Lk2 := by rw [show 2 * (k + 1) = 2 * k + 2 by omega, keysL, List.map_append]; exact hRk2
    exact then_I ⟨N - (k + 1), (by omega), k + 1, _, sp, kp, sd, kd, Ls2, Lk2, fun ii => (([(2, u25 2), (9, .pointer (some ⟨qc33, 0, none⟩)), (10, .string (heF k)), (11, iN .i64 0), (12, iN .i64 0), (13, .string (reF k)), (14, .string (txt (oF k + 16))), (15, .string (txt (oF k + 15))), (16, iN .i64 0), (17, .string (txt (oF k + 15))), (18, .string (txt (oF k + 16))), (19, iN .i64 0), (40, iN .i64 k), (41, iN .u8 n0), (42, iN .u8 (n0 % 4)), (43, iN .i64 (n0 % 4)), (44, iN .i64 (1 + (n0 % 4))), (45, .bool true), (46, iN .i64 k), (47, iN .i64 (k + 1)), (48, .tuple #[.pointer (some ⟨qc33, 0, none⟩), .string (heF k), iN .i64 0]), (49, .pointer (some ⟨p3.q, 0, none⟩)), (50, .pointer (some ⟨q12, 0, none⟩)), (51, .string (txt 0)), (52, .pointer (some ⟨q15, 1, none⟩)), (53, .string (txt 3)), (54, .tuple #[.pointer (some ⟨qc33, 0, none⟩), .string (heF k), iN .i64 0]), (55, .pointer (some ⟨qc33, 0, none⟩)), (56, .string (heF k)), (57, iN .i64 0), (58, .tuple #[iN .i64 0, .string (reF k), .string (txt (oF k + 16)), .string (txt (oF k + 15)), iN .i64 0]), (59, .pointer (some ⟨p3.q, 0, none⟩)), (60, .pointer (some ⟨q12, 1, none⟩)), (61, .string (txt 1)), (62, .pointer (some ⟨q15, 0, none⟩)), (63, .string (txt 2)), (64, .slice (some ⟨q42, 0, none⟩) 1 1), (65, .string (heF k)), (66, .tuple #[iN .i64 0, .string (reF k), .string (txt (oF k + 16)), .string (txt (oF k + 15)), iN .i64 0]), (67, iN .i64 0), (68, .string (reF k)), (69, .string (txt (oF k + 16))), (70, .string (txt (oF k + 15))), (71, iN .i64 0), (72, .tuple #[.string (txt (oF k + 15)), .string (txt (oF k + 16)), iN .i64 0]), (73, .pointer (some ⟨qc33, 0, none⟩)), (74, .string (reF k)), (75, .tuple #[.string (txt (oF k + 15)), .string (txt (oF k + 16)), iN .i64 0]), (76, .string (txt (oF k + 15))), (77, .string (txt (oF k + 16))), (78, iN .i64 0), (79, iN .i64 0), (80, .bool false), (81, .bool false), (82, iN .i64 0), (83, .bool false), (84, .bool false), (85, .bool false), (86, iN .i64 0), (87, .bool false), (88, .bool false), (89, .slice so (2 * k + 2) sc), (90, .string (heF k)), (91, .string (reF k)), (92, .slice (some ⟨q61, 0, none⟩) 2 2), (93, .slice sp (2 * k + 2 + 2) sd), (94, .slice ko (2 * k) kc), (95, .string (txt (oF k + 16))), (96, .string (txt (oF k + 15))), (97, .slice (some ⟨q67, 0, none⟩) 2 2), (98, .slice kp (2 * k + 2) kd)] : List (Nat × Value)).find? (·.1 == ii)).elim undef (·.2), rfl, by kernel_rfl, ⟨by omega, by omega, hRs3, hRk3, PH.sub (hcl57 ((q42, 9, #[.string (txt 2)]) :: (qc33, 89, #[.pointer (some ⟨p3.q, 0, none⟩), .string (txt 0), .string (txt (hk k).length), .string (heF k), .string (txt (frF k + 2)), .string (txt 7)]) :: (q15, 22, #[.string (txt 2), .string (txt 3)]) :: (q12, 22, #[.string (txt 0), .string (txt 1)]) :: (Ls2 ++ Lk2)) _ h72) (List.Sublist.cons _ (List.Sublist.cons _ (List.Sublist.cons_cons _ (List.Sublist.cons_cons _ (List.Sublist.refl _)))))⟩⟩
  · obtain rfl : N = k := by omega
    obtain ⟨gs, c0, curs, e6, rfl, hcs⟩ := hRs.texts (by omega)
    obtain ⟨rfl, -, rfl⟩ := Value.slice.inj e6
    obtain ⟨gk, c1, curk, e7, rfl, hck⟩ := hRk.texts (by omega)
    obtain ⟨rfl, -, rfl⟩ := Value.slice.inj e7
    obtain ⟨z73, X74, hcl75, hbe76, h77⟩ := PH.front hD
    have h78 : HA z73 ((q15, 22, #[.string (txt 2), .string (txt 3)]) :: (q12, 22, #[.string (txt 0), .string (txt 1)]) :: (gs, 9, curs) :: (gk, 9, curk) :: X74) w26 := h77
    refine wp_seq (wp_seq (wl_region ?_))
    refine zv (iN .i64 N) ?_
    refine zv (iN .u8 n0) ?_
    refine zu (iN .u8 (n0 % 4)) (run_rem (k := .u8) (a := n0) (b := 4) ky ky (by omega)) ?_
    refine zu (iN .i64 (n0 % 4)) (run_conv .i64 Tryz.underlying5 Tryz.underlying3 ky (by first | omega | (simp only [top]; omega))) ?_
    refine zu (iN .i64 (1 + (n0 % 4))) (run_add (k := .i64) (a := 1) (b := n0 % 4) ky ky (by first | omega | (simp only [top]; omega))) ?_
    refine zu (.bool false) (run_lss (k := .i64) (a := N) (b := 1 + (n0 % 4)) ky ky false (decide_eq_false (by omega))) ?_
    refine wl_nil (then_at rfl ?_)
    refine wp_cond_false ky ?_
    refine wp_exit ?_
    repeat first | refine then_exit ?_ | refine block_exit ?_ | refine block_exit_ne (by decide) ?_
    refine then_at rfl (wp_seq (wl_region ?_))
    refine zv (.pointer (some ⟨p3.q, 0, none⟩)) ?_
    have hDx := (hcl75 ((q15, 22, #[.string (txt 2), .string (txt 3)]) :: (q12, 22, #[.string (txt 0), .string (txt 1)]) :: (gs, 9, curs) :: (gk, 9, curk) :: []) _ h78)
    obtain ⟨es, hz, hok, hT⟩ := PH.tv hDx
    have hes : es.length = lnF N := by rw [← Z_len es, hz]; exact (hid hN1 hN4).1
    have hln : 1 ≤ lnF N ∧ lnF N ≤ 82 := by unfold lnF; rw [if_neg (show ¬ N = 0 by omega)]; omega
    refine wl_callx ky enter25 #[pt p3.q] ky (Table_P hDx hT hok.wf.few (by omega)) ?_
    rintro _ wT ⟨tc, rfl, hTc, hbT⟩
    refine ⟨_, rfl, ?_⟩
    have h79 := HA.keep _ _ h78 hbT
    have hbs := h79.get 2 rfl
    have hbk := h79.get 3 rfl
    have hb4 := h79.get 1 rfl
    have hbw : Below w.heap.size w wT := hbe76 _ _ h79
    have hvT := cell_below hbw hv
    have HT := HA.start wT
    refine zv (.pointer (some ⟨tc.q, 0, none⟩)) ?_
    refine wl_nil (then_at rfl (wp_seq (wl_region ?_)))
    refine zv (.pointer (some ⟨tc.q, 0, none⟩)) ?_
    refine zv (.slice (some ⟨gs, 0, none⟩) (2 * N + 2) sc) ?_
    refine wl_callx ky enter26 #[.pointer (some ⟨tc.q, 0, none⟩), .slice (some ⟨gs, 0, none⟩) (2 * N + 2) sc] ky (Known_E (hTc.keep HT.old.old) hok (by omega) (cell_below HT.old.old hvT) (seenL N) (seenL_len N) hcs (hbs.keep HT.old.old) (seenL_size N) (by omega) hz) ?_
    rintro _ w84 ⟨kb80, rfl, hl81, hk82, hb83⟩
    refine ⟨_, rfl, ?_⟩
    have h85 := HA.addNew HT hb83 hl81 hk82
    have h86 : HA (bs wT) [(kb80, 4, boc (knownF (hk N) (seenL N)))] w84 := h85
    refine zv (.slice (some ⟨kb80, 0, none⟩) es.length es.length) ?_
    refine wl_nil (then_at rfl (wp_seq (wl_region ?_)))
    refine zv (.slice none 0 0) ?_
    refine wl_nil (then_at rfl (wp_seq (wl_region ?_)))
    refine zv (.slice none 0 0) ?_
    refine zv (.slice (some ⟨gs, 0, none⟩) (2 * N + 2) sc) ?_
    refine wl_appendR (p := gs) (m := 2 * N + 2) (c := sc) (news := (seenL N).map Value.string) (Lr := []) (L := [(kb80, 4, boc (knownF (hk N) (seenL N)))]) (Row.nil 9 1) h86 (by decide) _ 16 Tryz.underlying58 infos9 rfl (by decide) ky ky ky (by rw [List.length_map, seenL_len]; omega) (fun j u hu => ?_) (fun u hu => by obtain ⟨e, _, rfl⟩ := List.mem_map.1 hu; rfl) (by unfold maxLen; omega) (by omega) (by omega) ?_
    · have hj : j < 2 * N + 2 := by have := (List.getElem?_eq_some_iff.1 hu).1; rw [List.length_map, seenL_len] at this; exact this
      rw [(hbs.keep h86.old.old).cell j, hcs j hj, ← hu, List.getElem?_map, List.getD_eq_getElem?_getD, List.getElem?_eq_getElem (by rw [seenL_len]; exact hj)]
      rfl
    intro v4 w87 La hRa h88
    obtain ⟨ap, ad, rfl⟩ := hRa.form
    refine zv (.slice ap (0 + (2 * N + 2)) ad) ?_
    refine wl_nil ?_
    refine then_at (F := ⟨(iN .u8 n0 :: un :: u25 2 :: pt p3.q :: pt q12 :: pt q15 :: .slice (some ⟨gs, 0, none⟩) (2 * N + 2) sc :: .slice (some ⟨gk, 0, none⟩) (2 * N) kc :: iN .i64 N :: u25 9 :: u25 10 :: u25 11 :: u25 12 :: u25 13 :: u25 14 :: u25 15 :: u25 16 :: u25 17 :: u25 18 :: u25 19 :: pt tc.q :: .slice (some ⟨kb80, 0, none⟩) es.length es.length :: .slice ap (0 + (2 * N + 2)) ad :: un :: un :: un :: .bool true :: .bool false :: .tuple #[pt p3.q, .agg #[.string (txt 0), .string (txt 1)], .agg #[.string (txt 2), .string (txt 3)]] :: .tuple #[pt p3.q, .agg #[.string (txt 0), .string (txt 1)], .agg #[.string (txt 2), .string (txt 3)]] :: pt p3.q :: .agg #[.string (txt 0), .string (txt 1)] :: .agg #[.string (txt 2), .string (txt 3)] :: pt p3.q :: .bool false :: pt q15 :: .string (txt 2) :: .pointer (some ⟨q15, 1, none⟩) :: .string (txt 3) :: .slice (some ⟨q22, 0, none⟩) 2 2 :: iN .i64 N :: iN .u8 n0 :: iN .u8 (n0 % 4) :: iN .i64 (n0 % 4) :: iN .i64 (1 + (n0 % 4)) :: .bool false :: u25 46 :: u25 47 :: u25 48 :: u25 49 :: u25 50 :: u25 51 :: u25 52 :: u25 53 :: u25 54 :: u25 55 :: u25 56 :: u25 57 :: u25 58 :: u25 59 :: u25 60 :: u25 61 :: u25 62 :: u25 63 :: u25 64 :: u25 65 :: u25 66 :: u25 67 :: u25 68 :: u25 69 :: u25 70 :: u25 71 :: u25 72 :: u25 73 :: u25 74 :: u25 75 :: u25 76 :: u25 77 :: u25 78 :: u25 79 :: u25 80 :: u25 81 :: u25 82 :: u25 83 :: u25 84 :: u25 85 :: u25 86 :: u25 87 :: u25 88 :: u25 89 :: u25 90 :: u25 91 :: u25 92 :: u25 93 :: u25 94 :: u25 95 :: u25 96 :: u25 97 :: u25 98 :: pt p3.q :: pt tc.q :: pt tc.q :: .slice (some ⟨gs, 0, none⟩) (2 * N + 2) sc :: .slice (some ⟨kb80, 0, none⟩) es.length es.length :: .slice none 0 0 :: .slice (some ⟨gs, 0, none⟩) (2 * N + 2) sc :: .slice ap (0 + (2 * N + 2)) ad :: List.replicate 41 un).toArray, []⟩) ky ?_
    refine wp_seq (wl_region ?_)
    refine zv (.slice ap (0 + (2 * N + 2)) ad) ?_
    refine zu (.pointer (some ⟨q12, 0, none⟩)) (run_addr_arr (q := q12) (a := 0) Tryz.underlying22 (fun w => Tryz.sizeOf9 w) ky ky (by decide)) ?_
    refine zu (.string (txt 0)) (run_load1 (fun w => Tryz.isAgg9 w) ky (((hb4.keep h88.old.old).cell 0).trans rfl)) ?_
    refine zu (.pointer (some ⟨q12, 1, none⟩)) (run_addr_arr (q := q12) (a := 1) Tryz.underlying22 (fun w => Tryz.sizeOf9 w) ky ky (by decide)) ?_
    refine zu (.string (txt 1)) (run_load1 (fun w => Tryz.isAgg9 w) ky (((hb4.keep h88.old.old).cell 1).trans rfl)) ?_
    refine wl_mks (n := 2) (m := 2) (c := #[.string (txt 0), .string (txt 1)]) h88 9 ky ky ?_
    intro q89 w90 (h91 : HA (bs wT) ((q89, 9, #[.string (txt 0), .string (txt 1)]) :: (La ++ [(kb80, 4, boc (knownF (hk N) (seenL N)))])) w90)
    refine wl_append (m := 2) (c := 2) hRa h91 (by decide) _ 16 Tryz.underlying58 infos9 rfl (by decide) ky ky ky rfl ky (by unfold maxLen; omega) (by omega) (by decide) ?_
    intro v5 w92 Lb hRb h93
    obtain ⟨bp, bd, rfl⟩ := hRb.form
    have hRb2 : Row 9 1 (.slice bp (0 + (2 * N + 2) + 2) bd) (0 + (2 * N + 2) + 2) ((allL N).map Value.string) Lb := by rw [allL, List.map_append]; exact hRb
    obtain ⟨ga, c2, cura, e8, rfl, hca⟩ := hRb2.texts (by omega)
    obtain ⟨rfl, -, rfl⟩ := Value.slice.inj e8
    have h94 : HA (bs wT) [(ga, 9, cura), (kb80, 4, boc (knownF (hk N) (seenL N)))] w92 := h93
    refine zv (.slice (some ⟨ga, 0, none⟩) (0 + (2 * N + 2) + 2) bd) ?_
    refine wl_nil (then_at rfl (wp_seq (wl_region ?_)))
    refine zv (.pointer (some ⟨tc.q, 0, none⟩)) ?_
    refine zv (.slice (some ⟨ga, 0, none⟩) (0 + (2 * N + 2) + 2) bd) ?_
    refine wl_callx ky enter26 #[.pointer (some ⟨tc.q, 0, none⟩), .slice (some ⟨ga, 0, none⟩) (0 + (2 * N + 2) + 2) bd] ky (Known_E (hTc.keep h94.old.old) hok (by omega) (cell_below h94.old.old hvT) (allL N) (by rw [allL, List.length_append, seenL_len]; simp only [List.length_cons, List.length_nil]; omega) hca (h94.get 0 rfl) (allL_size N) (by omega) hz) ?_
    rintro _ w99 ⟨kb95, rfl, hl96, hk97, hb98⟩
    refine ⟨_, rfl, ?_⟩
    have h100 := HA.addNew h94 hb98 hl96 hk97
    have h101 : HA (bs wT) [(kb95, 4, boc (knownF (hk N) (allL N))), (ga, 9, cura), (kb80, 4, boc (knownF (hk N) (seenL N)))] w99 := h100
    refine zv (.slice (some ⟨kb95, 0, none⟩) es.length es.length) ?_
    refine wl_nil (then_at rfl (wp_seq (wp_seq (wl_region ?_))))
    refine zv (iN .i64 0) ?_
    refine wl_nil (then_at rfl (wp_block ?_))
    refine wp_count (fun i AQ w' => ∃ u102 : Nat → Value, AQ = ⟨(iN .u8 n0 :: un :: u102 2 :: pt p3.q :: pt q12 :: pt q15 :: .slice (some ⟨gs, 0, none⟩) (2 * N + 2) sc :: .slice (some ⟨gk, 0, none⟩) (2 * N) kc :: iN .i64 N :: u25 9 :: u25 10 :: u25 11 :: u25 12 :: u25 13 :: u25 14 :: u25 15 :: u25 16 :: u25 17 :: u25 18 :: u25 19 :: pt tc.q :: .slice (some ⟨kb80, 0, none⟩) es.length es.length :: .slice (some ⟨ga, 0, none⟩) (0 + (2 * N + 2) + 2) bd :: .slice (some ⟨kb95, 0, none⟩) es.length es.length :: iN .i64 i :: u102 25 :: .bool true :: .bool false :: .tuple #[pt p3.q, .agg #[.string (txt 0), .string (txt 1)], .agg #[.string (txt 2), .string (txt 3)]] :: .tuple #[pt p3.q, .agg #[.string (txt 0), .string (txt 1)], .agg #[.string (txt 2), .string (txt 3)]] :: pt p3.q :: .agg #[.string (txt 0), .string (txt 1)] :: .agg #[.string (txt 2), .string (txt 3)] :: pt p3.q :: .bool false :: pt q15 :: .string (txt 2) :: .pointer (some ⟨q15, 1, none⟩) :: .string (txt 3) :: .slice (some ⟨q22, 0, none⟩) 2 2 :: iN .i64 N :: iN .u8 n0 :: iN .u8 (n0 % 4) :: iN .i64 (n0 % 4) :: iN .i64 (1 + (n0 % 4)) :: .bool false :: u25 46 :: u25 47 :: u25 48 :: u25 49 :: u25 50 :: u25 51 :: u25 52 :: u25 53 :: u25 54 :: u25 55 :: u25 56 :: u25 57 :: u25 58 :: u25 59 :: u25 60 :: u25 61 :: u25 62 :: u25 63 :: u25 64 :: u25 65 :: u25 66 :: u25 67 :: u25 68 :: u25 69 :: u25 70 :: u25 71 :: u25 72 :: u25 73 :: u25 74 :: u25 75 :: u25 76 :: u25 77 :: u25 78 :: u25 79 :: u25 80 :: u25 81 :: u25 82 :: u25 83 :: u25 84 :: u25 85 :: u25 86 :: u25 87 :: u25 88 :: u25 89 :: u25 90 :: u25 91 :: u25 92 :: u25 93 :: u25 94 :: u25 95 :: u25 96 :: u25 97 :: u25 98 :: pt p3.q :: pt tc.q :: pt tc.q :: .slice (some ⟨gs, 0, none⟩) (2 * N + 2) sc :: .slice (some ⟨kb80, 0, none⟩) es.length es.length :: .slice none 0 0 :: .slice (some ⟨gs, 0, none⟩) (2 * N + 2) sc :: .slice ap (0 + (2 * N + 2)) ad :: .slice ap (0 + (2 * N + 2)) ad :: pt q12 :: .string (txt 0) :: .pointer (some ⟨q12, 1, none⟩) :: .string (txt 1) :: .slice (some ⟨q89, 0, none⟩) 2 2 :: .slice (some ⟨ga, 0, none⟩) (0 + (2 * N + 2) + 2) bd :: pt tc.q :: .slice (some ⟨ga, 0, none⟩) (0 + (2 * N + 2) + 2) bd :: .slice (some ⟨kb95, 0, none⟩) es.length es.length :: u102 117 :: u102 118 :: u102 119 :: u102 120 :: u102 121 :: u102 122 :: u102 123 :: u102 124 :: u102 125 :: u102 126 :: u102 127 :: u102 128 :: u102 129 :: u102 130 :: u102 131 :: u102 132 :: u102 133 :: u102 134 :: u102 135 :: u102 136 :: u102 137 :: u102 138 :: u102 139 :: u102 140 :: u102 141 :: u102 142 :: u102 143 :: u102 144 :: u102 145 :: u102 146 :: u102 147 :: List.replicate 0 un).toArray, []⟩ ∧ HA (bs wT) [(kb95, 4, boc (knownF (hk N) (allL N))), (ga, 9, cura), (kb80, 4, boc (knownF (hk N) (seenL N)))] w') (2 * N) ?_ ?_ ?_
    · exact ⟨fun ii => (([(2, u25 2), (25, undef), (117, undef), (118, undef), (119, undef), (120, undef), (121, undef), (122, undef), (123, undef), (124, undef), (125, undef), (126, undef), (127, undef), (128, undef), (129, undef), (130, undef), (131, undef), (132, undef), (133, undef), (134, undef), (135, undef), (136, undef), (137, undef), (138, undef), (139, undef), (140, undef), (141, undef), (142, undef), (143, undef), (144, undef), (145, undef), (146, undef), (147, undef)] : List (Nat × Value)).find? (·.1 == ii)).elim undef (·.2), by kernel_rfl, h101⟩
    · rintro i hi _ w103 ⟨u102, rfl, hA⟩
      obtain ⟨hi1, hi2, hi3⟩ := hid_at hN1 hN4 hi
      have hkn := kn_lt hi hN1
      refine wp_seq (wp_seq (wl_region ?_))
      refine zv (iN .i64 i) ?_
      refine zv (.slice (some ⟨gk, 0, none⟩) (2 * N) kc) ?_
      refine zv (iN .i64 (2 * N)) ?_
      refine zu (.bool true) (run_lss (k := .i64) (a := i) (b := 2 * N) ky ky true (decide_eq_true (by omega))) ?_
      refine wl_nil (then_at rfl ?_)
      refine wp_cond_true ky ?_
      refine wp_skip (then_at rfl (wp_seq (wp_block (wp_seq (wl_region ?_)))))
      refine zv (.pointer (some ⟨tc.q, 0, none⟩)) ?_
      refine zv (.slice (some ⟨gk, 0, none⟩) (2 * N) kc) ?_
      refine zv (iN .i64 i) ?_
      refine zu (.pointer (some ⟨gk, i, none⟩)) (run_addr_slice (q := gk) (n := 2 * N) (m := kc) (a := i) Tryz.underlying58 (fun w => Tryz.sizeOf9 w) ky ky (by omega)) ?_
      refine zu (.string ((keysL N).getD i ByteArray.empty)) (run_load1 (fun w => Tryz.isAgg9 w) ky (((hbk.keep hA.old.old).cell i).trans (hck i (by omega)))) ?_
      refine wl_callx ky enter27 #[.pointer (some ⟨tc.q, 0, none⟩), .string ((keysL N).getD i ByteArray.empty)] ky (Within_E (hTc.keep hA.old.old) (by omega) (cell_below hA.old.old hvT) ((keysL N).getD i ByteArray.empty) (getD_size (keys_size N) i) (x := kn i) (by rw [hes, ← (hid hN1 hN4).1]; exact hi1)) ?_
      rintro _ w111 ⟨q104, c105, c106, rfl, hl107, hk108, hc109, hb110⟩
      refine ⟨_, rfl, ?_⟩
      have h112 := HA.addNew hA hb110 hl107 hk108
      refine zv (.slice (some ⟨q104, 0, none⟩) 1 c106) ?_
      refine wl_nil (then_at rfl (wp_seq (wl_region ?_)))
      refine zv (.slice (some ⟨q104, 0, none⟩) 1 c106) ?_
      refine zv (iN .i64 1) ?_
      refine zu (.bool false) (run_nei (k := .i64) (a := 1) (b := 1) ky ky false (by decide)) ?_
      refine zv (.bool false) ?_
      refine zv (.slice (some ⟨kb80, 0, none⟩) es.length es.length) ?_
      refine zv (.slice (some ⟨q104, 0, none⟩) 1 c106) ?_
      refine zu (.pointer (some ⟨q104, 0, none⟩)) (run_addr_slice (q := q104) (n := 1) (m := c106) (a := 0) Tryz.underlying81 (fun w => Tryz.sizeOf3 w) ky ky (by decide)) ?_
      refine zu (iN .i64 (kn i)) (run_load1 (fun w => Tryz.isAgg3 w) ky (((h112.get 0 rfl).cell 0).trans hc109)) ?_
      refine zu (.pointer (some ⟨kb80, kn i, none⟩)) (run_addr_slice (q := kb80) (n := es.length) (m := es.length) (a := kn i) Tryz.underlying79 (fun w => Tryz.sizeOf4 w) ky ky (by omega)) ?_
      refine zu (.bool false) (run_load1 (fun w => Tryz.isAgg4 w) ky (((h112.get 3 rfl).cell (kn i)).trans (boc_at hi2))) ?_
      refine zv (.bool false) ?_
      refine zv (.bool false) ?_
      refine zv (.slice (some ⟨kb95, 0, none⟩) es.length es.length) ?_
      refine zv (.slice (some ⟨q104, 0, none⟩) 1 c106) ?_
      refine zu (.pointer (some ⟨q104, 0, none⟩)) (run_addr_slice (q := q104) (n := 1) (m := c106) (a := 0) Tryz.underlying81 (fun w => Tryz.sizeOf3 w) ky ky (by decide)) ?_
      refine zu (iN .i64 (kn i)) (run_load1 (fun w => Tryz.isAgg3 w) ky (((h112.get 0 rfl).cell 0).trans hc109)) ?_
      refine zu (.pointer (some ⟨kb95, kn i, none⟩)) (run_addr_slice (q := kb95) (n := es.length) (m := es.length) (a := kn i) Tryz.underlying79 (fun w => Tryz.sizeOf4 w) ky ky (by omega)) ?_
      refine zu (.bool false) (run_load1 (fun w => Tryz.isAgg4 w) ky (((h112.get 1 rfl).cell (kn i)).trans (boc_at hi3))) ?_
      refine zv (.bool false) ?_
      refine wl_nil (then_at rfl ?_)
      refine wp_cond_false ky ?_
      refine wp_skip (block_normal (then_at rfl (wl_region ?_)))
      refine zv (iN .i64 i) ?_
      refine zu (iN .i64 (i + 1)) (run_add (k := .i64) (a := i) (b := 1) ky ky (by first | omega | (simp only [top]; omega))) ?_
      refine zv (iN .i64 (i + 1)) ?_
      refine wl_nil ?_
      exact then_I ⟨fun ii => (([(2, u102 2), (25, .slice (some ⟨q104, 0, none⟩) 1 c106), (117, iN .i64 i), (118, .slice (some ⟨gk, 0, none⟩) (2 * N) kc), (119, iN .i64 (2 * N)), (120, .bool true), (121, iN .i64 i), (122, iN .i64 (i + 1)), (123, .pointer (some ⟨tc.q, 0, none⟩)), (124, .slice (some ⟨gk, 0, none⟩) (2 * N) kc), (125, iN .i64 i), (126, .pointer (some ⟨gk, i, none⟩)), (127, .string ((keysL N).getD i ByteArray.empty)), (128, .slice (some ⟨q104, 0, none⟩) 1 c106), (129, .slice (some ⟨q104, 0, none⟩) 1 c106), (130, iN .i64 1), (131, .bool false), (132, .bool false), (133, .slice (some ⟨kb80, 0, none⟩) es.length es.length), (134, .slice (some ⟨q104, 0, none⟩) 1 c106), (135, .pointer (some ⟨q104, 0, none⟩)), (136, iN .i64 (kn i)), (137, .pointer (some ⟨kb80, kn i, none⟩)), (138, .bool false), (139, .bool false), (140, .bool false), (141, .slice (some ⟨kb95, 0, none⟩) es.length es.length), (142, .slice (some ⟨q104, 0, none⟩) 1 c106), (143, .pointer (some ⟨q104, 0, none⟩)), (144, iN .i64 (kn i)), (145, .pointer (some ⟨kb95, kn i, none⟩)), (146, .bool false), (147, .bool false)] : List (Nat × Value)).find? (·.1 == ii)).elim undef (·.2), by kernel_rfl, HA.sub h112 (List.Sublist.cons _ (List.Sublist.cons_cons _ (List.Sublist.cons_cons _ (List.Sublist.cons_cons _ (List.Sublist.refl _)))))⟩
    · rintro _ w113 ⟨u102, rfl, hA⟩
      refine wp_seq (wp_seq (wl_region ?_))
      refine zv (iN .i64 (2 * N)) ?_
      refine zv (.slice (some ⟨gk, 0, none⟩) (2 * N) kc) ?_
      refine zv (iN .i64 (2 * N)) ?_
      refine zu (.bool false) (run_lss (k := .i64) (a := 2 * N) (b := 2 * N) ky ky false (decide_eq_false (by omega))) ?_
      refine wl_nil (then_at rfl ?_)
      refine wp_cond_false ky ?_
      refine wp_exit ?_
      repeat first | refine then_exit ?_ | refine block_exit ?_ | refine block_exit_ne (by decide) ?_
      refine then_at rfl (wp_seq (wl_region ?_))
      refine zv (.bool true) ?_
      refine wl_nil (then_at rfl ?_)
      refine wp_ret ?_
      repeat first | refine then_ret ?_ | refine block_ret ?_
      exact bodyPost_ret (v := .bool true) ky rfl ⟨rfl, belowT hbw hA.old.old⟩
end Go.Proofs.YtcjjbpbehapjpaaGreat

namespace Go.Proofs.YtcjjbpbehapjpaaGreat
open Go.RowKit

theorem hiddenW {w : World} {m0 : Int} (hv : w.cell? ⟨0, 0, none⟩ = some (.int .i64 m0)) (z0 : Nat) (h0 : z0 < 256) :
    Calls Tryz.prog 6 #[.int .u8 (z0 : Int)] w fun e w' => e = .returned (.bool true) ∧ Below w.heap.size w w' := hiddenL hv z0 h0
end Go.Proofs.YtcjjbpbehapjpaaGreat
