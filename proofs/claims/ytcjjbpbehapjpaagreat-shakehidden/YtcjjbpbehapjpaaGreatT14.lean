/-
  spread: till nothing more comes.
-/
import Derived.Test.YtcjjbpbehapjpaaGreatT13
namespace Go.Proofs.YtcjjbpbehapjpaaGreat
open Go.RowKit

section
variable {ρ : Operand → Value} {x y : Operand} {w : World} {dst : Option Tmp} {T T2 ty : TypeId} {pos : String} {aft : Array Edge} {gd : Option (Nat × Bool)}
theorem run_cutI {q m c b : Nat} (hx : ρ x = .slice (some ⟨q, 0, none⟩) m c) (hy : ρ y = iN .i64 b) (hb : b ≤ c) : (execOp ρ ⟨dst, .slice 81 x none (some y) none, ty, pos, aft, gd⟩).run Tryz.prog w = .ok (.value (.slice (some ⟨q, 0, none⟩) b c)) w := by
  simp only [execOp, hx, Option.map, hy, iN]
  go_simp
theorem run_addr92 {q n m a : Nat} (hx : ρ x = .slice (some ⟨q, 0, none⟩) n m) (hy : ρ y = iN .i64 a) (ha : a < n) : (execOp ρ ⟨dst, .indexAddr 155 x y, ty, pos, aft, gd⟩).run Tryz.prog w = .ok (.value (.pointer (some ⟨q, 2 * a, none⟩))) w := by
  simp only [execOp, hx, hy, iN]
  go_simp
theorem run_subz {z : Int} (hx : ρ x = .int .i64 z) (hy : ρ y = iN .i64 1) : (execOp ρ ⟨dst, .binOp .sub 3 x y 3, ty, pos, aft, gd⟩).run Tryz.prog w = .ok (.value (.int .i64 (IntKind.i64.wrap (z - 1)))) w := by
  simp only [execOp, hx, hy, iN]
  simp [binOp, go_sem]
end
theorem rrow_get {cur : Array Value} {rs : List (Int × Nat)} {r : Nat} {z : Int} {x : Nat} (h : cur.toList.take (rs.length * 2) = rcl rs) (hr : rs[r]? = some (z, x)) : cur[2 * r]? = some (.int .i64 z) ∧ cur[2 * r + 1]? = some (iN .i64 x) := by
  have hlt : r < rs.length := (List.getElem?_eq_some_iff.1 hr).1
  obtain ⟨h1, h2⟩ := rcl_get rs r (z, x) hr
  have e : ∀ j, j < rs.length * 2 → cur[j]? = (rcl rs)[j]? := fun j hj => by
    rw [← h, List.getElem?_take, if_pos hj]
    simp
  exact ⟨(e _ (by omega)).trans h1, (e _ (by omega)).trans h2⟩
theorem rrow_set {cur : Array Value} {rs : List (Int × Nat)} {r : Nat} {z : Int} {x : Nat} (h : cur.toList.take (rs.length * 2) = rcl rs) (hr : rs[r]? = some (z, x)) (z' : Int) : (cur.setIfInBounds (2 * r) (.int .i64 z')).toList.take ((rs.set r (z', x)).length * 2) = rcl (rs.set r (z', x)) := by
  rw [List.length_set, ← rcl_set rs r z x hr z', ← h, Array.toList_setIfInBounds, List.take_set]
theorem nrow_pop {cur : Array Value} {ns : List Nat} (h : cur.toList.take (ns.length * 1) = inl ns) : cur.toList.take ((ns.length - 1) * 1) = inl (ns.take (ns.length - 1)) := by
  rw [Nat.mul_one] at h ⊢
  have : cur.toList.take (ns.length - 1) = (cur.toList.take ns.length).take (ns.length - 1) := by rw [List.take_take, Nat.min_eq_left (by omega)]
  rw [this, h, inl, inl, List.map_take]
theorem nrow_get {cur : Array Value} {ns : List Nat} (h : cur.toList.take (ns.length * 1) = inl ns) {j : Nat} (hj : j < ns.length) : cur[j]? = some (iN .i64 (ns.getD j 0)) := by
  have h1 : (cur.toList.take (ns.length * 1))[j]? = (inl ns)[j]? := by rw [h]
  rw [Nat.mul_one, List.getElem?_take, if_pos hj, inl, List.getElem?_map, List.getElem?_eq_getElem hj] at h1
  rw [List.getD_eq_getElem?_getD, List.getElem?_eq_getElem hj]
  simpa using h1
theorem Row.blk {e : TypeId} {sz n : Nat} {v : Value} {xs : List Value} {Lr : BL} (h : Row e sz v n xs Lr) (hn : n ≠ 0) : ∃ g cap cur, v = .slice (some ⟨g, 0, none⟩) n cap ∧ Lr = [(g, e, cur)] ∧ n ≤ cap ∧ cap ≤ maxLen ∧ cur.size = cap * sz ∧ cur.toList.take (n * sz) = xs := by
  rcases h.2 with ⟨_, h2, _⟩ | h2
  · exact absurd h2 hn
  · exact h2
theorem rrow_ok {cur : Array Value} {rs : List (Int × Nat)} {r g cap : Nat} {z : Int} {x : Nat} (h : cur.toList.take (rs.length * 2) = rcl rs) (hr : rs[r]? = some (z, x)) {z' : Int} (h1 : rs.length ≤ cap) (h2 : cap ≤ maxLen) (h3 : cur.size = cap * 2) : Row 210 2 (.slice (some ⟨g, 0, none⟩) rs.length cap) (rs.set r (z', x)).length (rcl (rs.set r (z', x))) [(g, 210, cur.setIfInBounds (2 * r) (.int .i64 z'))] := by
  refine ⟨rcl_len _, .inr ⟨g, cap, _, by rw [List.length_set], rfl, by rw [List.length_set]; exact h1, h2, by rw [Array.size_setIfInBounds]; exact h3, rrow_set h hr z'⟩⟩
theorem getD_mem {l : List (List Nat)} {i : Nat} (h : i < l.length) : l.getD i [] ∈ l := by
  rw [List.getD_eq_getElem?_getD, List.getElem?_eq_getElem h]
  exact List.getElem_mem _
theorem foldl_take_succ {α : Type} {f : α → Nat → α} {a : α} (l : List Nat) (i : Nat) (h : i < l.length) : (l.take (i + 1)).foldl f a = f ((l.take i).foldl f a) (l.getD i 0) := by
  rw [List.take_succ_eq_append_getElem h, List.foldl_append, List.getD_eq_getElem?_getD, List.getElem?_eq_getElem h]
  rfl
theorem decS1_ok {m : Nat} {st2 : St} (h : Wok m st2) {r : Nat} {zz : Int} {x : Nat} (hr : st2.rules[r]? = some (zz, x)) : Wok m { st2 with rules := st2.rules.set r (IntKind.i64.wrap (zz - 1), x) } :=
  ⟨h.al, h.kl, fun y hy => by
    rcases List.mem_or_eq_of_mem_set hy with hy | rfl
    · exact h.th y hy
    · exact (h.th (zz, x) (List.mem_of_getElem? hr) : x < m), fun l hl y hy => by simpa using h.rl l hl y hy, h.nx, h.nl⟩
set_option linter.unusedVariables false in
set_option maxRecDepth 100000 in
set_option maxHeartbeats 2000000 in
theorem spread_any {z : Base} {b : Wb} {m : Nat} {st : St} {L : BL} {w : World} (H : WH z b m st L w) (hw : Wok m st) (hm : m ≤ 100000) :
    Calls Tryz.prog 76 #[pt b.p] w fun e w' => e = .returned (.tuple #[]) ∧ WH z b m (spreadS st) L w' := by
  go_enter Tryz.func76, Tryz.ntmps76
  refine wp_block ?_
  refine wp_while (fun mq A w' => ∃ (st1 : St) (u1 : Nat → Value), mq = mu st1 ∧ A = ⟨(pt b.p :: un :: u1 2 :: u1 3 :: un :: u1 5 :: u1 6 :: u1 7 :: u1 8 :: u1 9 :: u1 10 :: u1 11 :: u1 12 :: u1 13 :: u1 14 :: u1 15 :: u1 16 :: u1 17 :: u1 18 :: u1 19 :: u1 20 :: u1 21 :: u1 22 :: u1 23 :: u1 24 :: u1 25 :: u1 26 :: u1 27 :: u1 28 :: u1 29 :: u1 30 :: u1 31 :: u1 32 :: u1 33 :: u1 34 :: u1 35 :: u1 36 :: u1 37 :: u1 38 :: u1 39 :: u1 40 :: u1 41 :: u1 42 :: u1 43 :: u1 44 :: u1 45 :: u1 46 :: u1 47 :: u1 48 :: u1 49 :: u1 50 :: u1 51 :: u1 52 :: u1 53 :: u1 54 :: u1 55 :: u1 56 :: u1 57 :: u1 58 :: u1 59 :: u1 60 :: u1 61 :: u1 62 :: u1 63 :: u1 64 :: u1 65 :: u1 66 :: u1 67 :: u1 68 :: u1 69 :: u1 70 :: u1 71 :: u1 72 :: u1 73 :: u1 74 :: u1 75 :: u1 76 :: List.replicate 0 un).toArray, []⟩ ∧ WH z b m st1 L w' ∧ Wok m st1 ∧ spreadS st1 = spreadS st) (mu st) ?_ ?_
  · exact ⟨st, fun ii => (([(2, undef), (3, undef), (5, undef), (6, undef), (7, undef), (8, undef), (9, undef), (10, undef), (11, undef), (12, undef), (13, undef), (14, undef), (15, undef), (16, undef), (17, undef), (18, undef), (19, undef), (20, undef), (21, undef), (22, undef), (23, undef), (24, undef), (25, undef), (26, undef), (27, undef), (28, undef), (29, undef), (30, undef), (31, undef), (32, undef), (33, undef), (34, undef), (35, undef), (36, undef), (37, undef), (38, undef), (39, undef), (40, undef), (41, undef), (42, undef), (43, undef), (44, undef), (45, undef), (46, undef), (47, undef), (48, undef), (49, undef), (50, undef), (51, undef), (52, undef), (53, undef), (54, undef), (55, undef), (56, undef), (57, undef), (58, undef), (59, undef), (60, undef), (61, undef), (62, undef), (63, undef), (64, undef), (65, undef), (66, undef), (67, undef), (68, undef), (69, undef), (70, undef), (71, undef), (72, undef), (73, undef), (74, undef), (75, undef), (76, undef)] : List (Nat × Value)).find? (·.1 == ii)).elim undef (·.2), rfl, by kernel_rfl, H, hw, rfl⟩
  rintro _ _ w2 ⟨st1, u1, rfl, rfl, hW, hok, hsp⟩
  by_cases hne : st1.next = []
  · obtain ⟨rv, nv, avs, Lr, Ln, La, hR, hN, hA, hH⟩ := hW
    rw [hne] at hN
    obtain ⟨pn, cn, rfl⟩ := hN.form
    refine wp_seq (wp_seq (wl_region ?_))
    refine zv (.pointer (some ⟨b.p, 0, none⟩)) ?_
    refine zv (.pointer (some ⟨b.p, 0, none⟩)) ?_
    refine zv (.pointer (some ⟨b.p, 3, none⟩)) ?_
    refine zu (.slice pn 0 cn) (run_load1 (fun w => Tryz.isAgg81 w) ky (((hH.get 0 rfl).cell 3).trans rfl)) ?_
    refine zv (iN .i64 0) ?_
    refine zu (.bool false) (run_gtr (k := .i64) (a := 0) (b := 0) ky ky false (by decide)) ?_
    refine wl_nil (then_at rfl ?_)
    refine wp_cond_false ky ?_
    refine wp_exit ?_
    repeat first | refine then_exit ?_ | refine block_exit ?_ | refine block_exit_ne (by decide) ?_
    exact bodyPost_end (v := .tuple #[]) ky rfl ⟨rfl, by rw [← hsp, spreadS_end hne]; exact ⟨_, _, avs, Lr, Ln, La, hR, by rw [hne]; exact hN, hA, hH⟩⟩
  · obtain ⟨avs, La, hA, rv, nv, Lr, Ln, hR, hN, hH⟩ := hW.open
    have hnn : st1.next.length ≠ 0 := fun e => hne (List.length_eq_zero_iff.1 e)
    obtain ⟨g, cap, cur, rfl, rfl, hc3, hc4, hc5, hcn⟩ := hN.blk hnn
    have hxm : st1.next.getD (st1.next.length - 1) 0 < m := hok.nx _ (by rw [List.getD_eq_getElem?_getD, List.getElem?_eq_getElem (by omega)]; exact List.getElem_mem _)
    obtain ⟨v, LB, LC, LD, hav, hLa, hv, _⟩ := hA.at (st1.next.getD (st1.next.length - 1) 0) (by rw [hok.al]; exact hxm)
    obtain ⟨pv, cv, rfl⟩ := hv.form
    have hnl1 := hok.nl
    have havs : avs.length = m := by rw [hA.len, hok.al]
    obtain ⟨askL, hask⟩ : ∃ l, l = st1.asked.getD (st1.next.getD (st1.next.length - 1) 0) [] := ⟨_, rfl⟩
    rw [← hask] at hv hav
    refine wp_seq (wp_seq (wl_region ?_))
    refine zv (.pointer (some ⟨b.p, 0, none⟩)) ?_
    refine zv (.pointer (some ⟨b.p, 0, none⟩)) ?_
    refine zv (.pointer (some ⟨b.p, 3, none⟩)) ?_
    refine zu (.slice (some ⟨g, 0, none⟩) st1.next.length cap) (run_load1 (fun w => Tryz.isAgg81 w) ky (((hH.get 0 rfl).cell 3).trans rfl)) ?_
    refine zv (iN .i64 st1.next.length) ?_
    refine zu (.bool true) (run_gtr (k := .i64) (a := st1.next.length) (b := 0) ky ky true (decide_eq_true (by omega))) ?_
    refine wl_nil (then_at rfl ?_)
    refine wp_cond_true ky ?_
    refine wp_skip (then_at rfl (wp_block (wp_seq (wl_region ?_))))
    refine zv (.pointer (some ⟨b.p, 0, none⟩)) ?_
    refine zv (.pointer (some ⟨b.p, 0, none⟩)) ?_
    refine zv (.pointer (some ⟨b.p, 3, none⟩)) ?_
    refine zu (.slice (some ⟨g, 0, none⟩) st1.next.length cap) (run_load1 (fun w => Tryz.isAgg81 w) ky (((hH.get 0 rfl).cell 3).trans rfl)) ?_
    refine zv (iN .i64 st1.next.length) ?_
    refine zu (iN .i64 (st1.next.length - 1)) (run_sub (k := .i64) (a := st1.next.length) (b := 1) ky ky (by first | decide | omega | (simp only [top]; omega)) (by first | decide | omega | (simp only [top]; omega))) ?_
    refine zv (iN .i64 (st1.next.length - 1)) ?_
    refine wl_nil (then_at rfl (wp_seq (wl_region ?_)))
    refine zv (.pointer (some ⟨b.p, 0, none⟩)) ?_
    refine zv (.pointer (some ⟨b.p, 0, none⟩)) ?_
    refine zv (.pointer (some ⟨b.p, 3, none⟩)) ?_
    refine zu (.slice (some ⟨g, 0, none⟩) st1.next.length cap) (run_load1 (fun w => Tryz.isAgg81 w) ky (((hH.get 0 rfl).cell 3).trans rfl)) ?_
    refine zv (iN .i64 (st1.next.length - 1)) ?_
    refine zu (.pointer (some ⟨g, st1.next.length - 1, none⟩)) (run_addr_slice (q := g) (n := st1.next.length) (m := cap) (a := st1.next.length - 1) Tryz.underlying81 (fun w => Tryz.sizeOf3 w) ky ky (by omega)) ?_
    refine zu (iN .i64 (st1.next.getD (st1.next.length - 1) 0)) (run_load1 (fun w => Tryz.isAgg3 w) ky (((hH.blk (g, 3, cur) (by simp)).cell (st1.next.length - 1)).trans (nrow_get hcn (by omega)))) ?_
    refine zv (iN .i64 (st1.next.getD (st1.next.length - 1) 0)) ?_
    refine wl_nil (then_at rfl (wp_seq (wl_region ?_)))
    refine zv (.pointer (some ⟨b.p, 0, none⟩)) ?_
    refine zv (.pointer (some ⟨b.p, 0, none⟩)) ?_
    refine zv (.pointer (some ⟨b.p, 0, none⟩)) ?_
    refine zv (.pointer (some ⟨b.p, 3, none⟩)) ?_
    refine zu (.slice (some ⟨g, 0, none⟩) st1.next.length cap) (run_load1 (fun w => Tryz.isAgg81 w) ky (((hH.get 0 rfl).cell 3).trans rfl)) ?_
    refine zv (iN .i64 (st1.next.length - 1)) ?_
    refine zu (.slice (some ⟨g, 0, none⟩) (st1.next.length - 1) cap) (run_cutI (m := st1.next.length) ky ky (by omega)) ?_
    refine zv (.pointer (some ⟨b.p, 0, none⟩)) ?_
    refine zv (.pointer (some ⟨b.p, 3, none⟩)) ?_
    refine wl_putv (v := .slice (some ⟨g, 0, none⟩) (st1.next.length - 1) cap) hH 0 rfl 3 (by show 3 < 4; decide) ky (fun w => Tryz.sizeOf81 w) ky ky ky ?_
    intro w3 (h4 : HA z ((b.p, 157, wcell b m rv (.slice (some ⟨g, 0, none⟩) (st1.next.length - 1) cap)) :: (b.ab, 81, avs.toArray) :: (b.kb, 4, boc st1.known) :: (Lr ++ ([(g, 3, cur)] ++ (La ++ L)))) w3)
    refine wl_nil (then_at rfl (wp_seq (wl_region ?_)))
    refine zv (.pointer (some ⟨b.p, 0, none⟩)) ?_
    refine zv (.pointer (some ⟨b.p, 0, none⟩)) ?_
    refine zv (.pointer (some ⟨b.p, 1, none⟩)) ?_
    refine zu (.slice (some ⟨b.ab, 0, none⟩) m m) (run_load1 (fun w => Tryz.isAgg149 w) ky (((h4.get 0 rfl).cell 1).trans rfl)) ?_
    refine zv (iN .i64 (st1.next.getD (st1.next.length - 1) 0)) ?_
    refine zu (.pointer (some ⟨b.ab, st1.next.getD (st1.next.length - 1) 0, none⟩)) (run_addr_slice (q := b.ab) (n := m) (m := m) (a := st1.next.getD (st1.next.length - 1) 0) Tryz.underlying149 (fun w => Tryz.sizeOf81 w) ky ky (by omega)) ?_
    refine zu (.slice pv askL.length cv) (run_load1 (fun w => Tryz.isAgg81 w) ky (((h4.get 1 rfl).cell (st1.next.getD (st1.next.length - 1) 0)).trans (by simpa using hav))) ?_
    refine zv (iN .i64 askL.length) ?_
    refine zv (iN .i64 0) ?_
    refine wl_nil ?_
    have hNp : Row 3 1 (.slice (some ⟨g, 0, none⟩) (st1.next.length - 1) cap) (st1.next.take (st1.next.length - 1)).length (inl (st1.next.take (st1.next.length - 1))) [(g, 3, cur)] := by
      have hlt : (st1.next.take (st1.next.length - 1)).length = st1.next.length - 1 := by rw [List.length_take]; omega
      rw [hlt]
      exact ⟨by rw [inl, List.length_map, hlt, Nat.mul_one], .inr ⟨g, cap, cur, rfl, rfl, by omega, hc4, hc5, nrow_pop hcn⟩⟩
    have hX0 : WX z b m ((askL.take 0).foldl decS { st1 with next := st1.next.take (st1.next.length - 1) }) avs La L w3 := ⟨_, _, Lr, [(g, 3, cur)], hR, hNp, h4⟩
    refine then_at rfl (wp_block ?_)
    refine wp_count (fun i A w' => ∃ u5 : Nat → Value, A = ⟨(pt b.p :: un :: iN .i64 (st1.next.length - 1) :: iN .i64 (st1.next.getD (st1.next.length - 1) 0) :: un :: u5 5 :: pt b.p :: pt b.p :: .pointer (some ⟨b.p, 3, none⟩) :: .slice (some ⟨g, 0, none⟩) st1.next.length cap :: iN .i64 st1.next.length :: .bool true :: pt b.p :: pt b.p :: .pointer (some ⟨b.p, 3, none⟩) :: .slice (some ⟨g, 0, none⟩) st1.next.length cap :: iN .i64 st1.next.length :: iN .i64 (st1.next.length - 1) :: pt b.p :: pt b.p :: .pointer (some ⟨b.p, 3, none⟩) :: .slice (some ⟨g, 0, none⟩) st1.next.length cap :: iN .i64 (st1.next.length - 1) :: .pointer (some ⟨g, st1.next.length - 1, none⟩) :: iN .i64 (st1.next.getD (st1.next.length - 1) 0) :: pt b.p :: pt b.p :: pt b.p :: .pointer (some ⟨b.p, 3, none⟩) :: .slice (some ⟨g, 0, none⟩) st1.next.length cap :: iN .i64 (st1.next.length - 1) :: .slice (some ⟨g, 0, none⟩) (st1.next.length - 1) cap :: pt b.p :: .pointer (some ⟨b.p, 3, none⟩) :: pt b.p :: pt b.p :: .pointer (some ⟨b.p, 1, none⟩) :: .slice (some ⟨b.ab, 0, none⟩) m m :: iN .i64 (st1.next.getD (st1.next.length - 1) 0) :: .pointer (some ⟨b.ab, st1.next.getD (st1.next.length - 1) 0, none⟩) :: .slice pv askL.length cv :: iN .i64 askL.length :: iN .i64 i :: u5 43 :: u5 44 :: u5 45 :: u5 46 :: u5 47 :: u5 48 :: u5 49 :: u5 50 :: u5 51 :: u5 52 :: u5 53 :: u5 54 :: u5 55 :: u5 56 :: u5 57 :: u5 58 :: u5 59 :: u5 60 :: u5 61 :: u5 62 :: u5 63 :: u5 64 :: u5 65 :: u5 66 :: u5 67 :: u5 68 :: u5 69 :: u5 70 :: u5 71 :: u5 72 :: u5 73 :: u5 74 :: u5 75 :: u5 76 :: List.replicate 0 un).toArray, []⟩ ∧ WX z b m ((askL.take i).foldl decS { st1 with next := st1.next.take (st1.next.length - 1) }) avs La L w') askL.length ?_ ?_ ?_
    · exact ⟨fun ii => (([(5, u1 5), (43, u1 43), (44, u1 44), (45, u1 45), (46, u1 46), (47, u1 47), (48, u1 48), (49, u1 49), (50, u1 50), (51, u1 51), (52, u1 52), (53, u1 53), (54, u1 54), (55, u1 55), (56, u1 56), (57, u1 57), (58, u1 58), (59, u1 59), (60, u1 60), (61, u1 61), (62, u1 62), (63, u1 63), (64, u1 64), (65, u1 65), (66, u1 66), (67, u1 67), (68, u1 68), (69, u1 69), (70, u1 70), (71, u1 71), (72, u1 72), (73, u1 73), (74, u1 74), (75, u1 75), (76, u1 76)] : List (Nat × Value)).find? (·.1 == ii)).elim undef (·.2), by kernel_rfl, hX0⟩
    · rintro i hk _ w6 ⟨u5, rfl, hX⟩
      obtain ⟨gv, capv, curv, hvv, hLC, hv3, hv4, hv5, hvn⟩ := hv.blk (by omega)
      cases hvv
      unfold maxLen at hv4
      have hoks := (decs_ok (askL.take i) { st1 with next := st1.next.take (st1.next.length - 1) } (pop_ok hok)).1
      have hrln := (decs_ok (askL.take i) { st1 with next := st1.next.take (st1.next.length - 1) } (pop_ok hok)).2.2.1
      obtain ⟨st2, hst2⟩ : ∃ s2, s2 = ((askL.take i).foldl decS { st1 with next := st1.next.take (st1.next.length - 1) }) := ⟨_, rfl⟩
      rw [← hst2] at hX hoks hrln
      have hrr : askL.getD i 0 < st2.rules.length := by rw [hrln]; exact hok.rl askL (by rw [hask]; exact getD_mem (by rw [hok.al]; exact hxm)) _ (by rw [List.getD_eq_getElem?_getD, List.getElem?_eq_getElem hk]; exact List.getElem_mem _)
      obtain ⟨r, hrv⟩ : ∃ r, r = askL.getD i 0 := ⟨_, rfl⟩
      rw [← hrv] at hrr
      obtain ⟨⟨zz, x⟩, hr⟩ : ∃ y, st2.rules[r]? = some y := ⟨_, List.getElem?_eq_getElem hrr⟩
      obtain ⟨rv, nv, Lr, Ln, hR2, hN2, hH2⟩ := hX
      obtain ⟨gr, capr, cur, rfl, rfl, hc3, hc4, hc5, hc6⟩ := hR2.blk (by omega)
      have hxm2 : x < m := hoks.th _ (List.mem_of_getElem? hr)
      have hnl2 := hoks.nl
      refine wp_seq (wl_region ?_)
      refine zu (.bool true) (run_lss (k := .i64) (a := i) (b := askL.length) ky ky true (decide_eq_true (by omega))) ?_
      refine wl_nil (then_at rfl (wp_seq ?_))
      refine wp_cond_true ky ?_
      refine wp_skip (then_at rfl (wp_seq (wp_block (wp_seq (wl_region ?_)))))
      refine zu (.pointer (some ⟨gv, i, none⟩)) (run_addr_slice (q := gv) (n := askL.length) (m := cv) (a := i) Tryz.underlying81 (fun w => Tryz.sizeOf3 w) ky ky (by omega)) ?_
      refine zu (iN .i64 r) (run_load1 (fun w => Tryz.isAgg3 w) ky (((hH2.blk (gv, 3, curv) (by rw [hLa, hLC]; simp)).cell i).trans (by rw [hrv]; exact nrow_get hvn hk))) ?_
      refine zv (iN .i64 r) ?_
      refine wl_nil (then_at rfl (wp_seq (wl_region ?_)))
      refine zv (.pointer (some ⟨b.p, 0, none⟩)) ?_
      refine zv (.pointer (some ⟨b.p, 0, none⟩)) ?_
      refine zv (.pointer (some ⟨b.p, 0, none⟩)) ?_
      refine zu (.slice (some ⟨gr, 0, none⟩) st2.rules.length capr) (run_load1 (fun w => Tryz.isAgg155 w) ky (((hH2.get 0 rfl).cell 0).trans rfl)) ?_
      refine zv (iN .i64 r) ?_
      refine zu (.pointer (some ⟨gr, 2 * r, none⟩)) (run_addr92 (n := st2.rules.length) (m := capr) (a := r) ky ky hrr) ?_
      refine zv (.pointer (some ⟨gr, 2 * r, none⟩)) ?_
      refine zu (.int .i64 zz) (run_load1 (fun w => Tryz.isAgg3 w) ky (((hH2.get 3 rfl).cell (2 * r)).trans (rrow_get hc6 hr).1)) ?_
      refine zu (.int .i64 (IntKind.i64.wrap (zz - 1))) (run_subz (z := zz) ky ky) ?_
      refine zu (.pointer (some ⟨gr, 2 * r, none⟩)) (run_addr92 (n := st2.rules.length) (m := capr) (a := r) ky ky hrr) ?_
      refine zv (.pointer (some ⟨gr, 2 * r, none⟩)) ?_
      refine wl_putv (v := .int .i64 (IntKind.i64.wrap (zz - 1))) hH2 3 rfl (2 * r) (by have := (rrow_get hc6 hr).1; exact (Array.getElem?_eq_some_iff.1 this).1) ky (fun w => Tryz.sizeOf3 w) ky ky ky ?_
      intro w7 (h8 : HA z ((b.p, 157, wcell b m (.slice (some ⟨gr, 0, none⟩) st2.rules.length capr) nv) :: (b.ab, 81, avs.toArray) :: (b.kb, 4, boc st2.known) :: (gr, 210, cur.setIfInBounds (2 * r) (.int .i64 (IntKind.i64.wrap (zz - 1)))) :: (Ln ++ (La ++ L))) w7)
      refine wl_nil (then_at rfl (wp_seq ?_))
      by_cases hz0 : IntKind.i64.wrap (zz - 1) = 0
      · refine wl_region ?_
        refine zv (.pointer (some ⟨b.p, 0, none⟩)) ?_
        refine zv (.pointer (some ⟨b.p, 0, none⟩)) ?_
        refine zv (.pointer (some ⟨b.p, 0, none⟩)) ?_
        refine zu (.slice (some ⟨gr, 0, none⟩) st2.rules.length capr) (run_load1 (fun w => Tryz.isAgg155 w) ky (((h8.get 0 rfl).cell 0).trans rfl)) ?_
        refine zv (iN .i64 r) ?_
        refine zu (.pointer (some ⟨gr, 2 * r, none⟩)) (run_addr92 (n := st2.rules.length) (m := capr) (a := r) ky ky hrr) ?_
        refine zv (.pointer (some ⟨gr, 2 * r, none⟩)) ?_
        refine zu (.int .i64 (IntKind.i64.wrap (zz - 1))) (run_load1 (fun w => Tryz.isAgg3 w) ky (((h8.get 3 rfl).cell (2 * r)).trans (by rw [Array.getElem?_setIfInBounds_self_of_lt (by have := (rrow_get hc6 hr).1; exact (Array.getElem?_eq_some_iff.1 this).1)]))) ?_
        refine zu (.bool true) (run_eqz (k := .i64) (a := IntKind.i64.wrap (zz - 1)) (b := 0) ky ky true (decide_eq_true hz0)) ?_
        refine wl_nil ?_
        refine then_at (F := ⟨(pt b.p :: un :: iN .i64 (st1.next.length - 1) :: iN .i64 (st1.next.getD (st1.next.length - 1) 0) :: un :: iN .i64 r :: pt b.p :: pt b.p :: .pointer (some ⟨b.p, 3, none⟩) :: .slice (some ⟨g, 0, none⟩) st1.next.length cap :: iN .i64 st1.next.length :: .bool true :: pt b.p :: pt b.p :: .pointer (some ⟨b.p, 3, none⟩) :: .slice (some ⟨g, 0, none⟩) st1.next.length cap :: iN .i64 st1.next.length :: iN .i64 (st1.next.length - 1) :: pt b.p :: pt b.p :: .pointer (some ⟨b.p, 3, none⟩) :: .slice (some ⟨g, 0, none⟩) st1.next.length cap :: iN .i64 (st1.next.length - 1) :: .pointer (some ⟨g, st1.next.length - 1, none⟩) :: iN .i64 (st1.next.getD (st1.next.length - 1) 0) :: pt b.p :: pt b.p :: pt b.p :: .pointer (some ⟨b.p, 3, none⟩) :: .slice (some ⟨g, 0, none⟩) st1.next.length cap :: iN .i64 (st1.next.length - 1) :: .slice (some ⟨g, 0, none⟩) (st1.next.length - 1) cap :: pt b.p :: .pointer (some ⟨b.p, 3, none⟩) :: pt b.p :: pt b.p :: .pointer (some ⟨b.p, 1, none⟩) :: .slice (some ⟨b.ab, 0, none⟩) m m :: iN .i64 (st1.next.getD (st1.next.length - 1) 0) :: .pointer (some ⟨b.ab, st1.next.getD (st1.next.length - 1) 0, none⟩) :: .slice (some ⟨gv, 0, none⟩) askL.length cv :: iN .i64 askL.length :: iN .i64 i :: .bool true :: .pointer (some ⟨gv, i, none⟩) :: iN .i64 r :: pt b.p :: pt b.p :: pt b.p :: .slice (some ⟨gr, 0, none⟩) st2.rules.length capr :: iN .i64 r :: .pointer (some ⟨gr, 2 * r, none⟩) :: .pointer (some ⟨gr, 2 * r, none⟩) :: .int .i64 zz :: .int .i64 (IntKind.i64.wrap (zz - 1)) :: .pointer (some ⟨gr, 2 * r, none⟩) :: .pointer (some ⟨gr, 2 * r, none⟩) :: pt b.p :: pt b.p :: pt b.p :: .slice (some ⟨gr, 0, none⟩) st2.rules.length capr :: iN .i64 r :: .pointer (some ⟨gr, 2 * r, none⟩) :: .pointer (some ⟨gr, 2 * r, none⟩) :: .int .i64 (IntKind.i64.wrap (zz - 1)) :: .bool true :: u5 66 :: u5 67 :: u5 68 :: u5 69 :: u5 70 :: u5 71 :: u5 72 :: u5 73 :: u5 74 :: u5 75 :: u5 76 :: List.replicate 0 un).toArray, []⟩) ky ?_
        refine wp_cond_true ky ?_
        refine wl_region ?_
        refine zv (.pointer (some ⟨b.p, 0, none⟩)) ?_
        refine zv (.pointer (some ⟨b.p, 0, none⟩)) ?_
        refine zv (.pointer (some ⟨b.p, 0, none⟩)) ?_
        refine zv (.pointer (some ⟨b.p, 0, none⟩)) ?_
        refine zu (.slice (some ⟨gr, 0, none⟩) st2.rules.length capr) (run_load1 (fun w => Tryz.isAgg155 w) ky (((h8.get 0 rfl).cell 0).trans rfl)) ?_
        refine zv (iN .i64 r) ?_
        refine zu (.pointer (some ⟨gr, 2 * r, none⟩)) (run_addr92 (n := st2.rules.length) (m := capr) (a := r) ky ky hrr) ?_
        refine zv (.pointer (some ⟨gr, 2 * r + 1, none⟩)) ?_
        refine zu (iN .i64 x) (run_load1 (fun w => Tryz.isAgg3 w) ky (((h8.get 3 rfl).cell (2 * r + 1)).trans (by rw [Array.getElem?_setIfInBounds_ne (by omega)]; exact (rrow_get hc6 hr).2))) ?_
        have hX2 : WX z b m { st2 with rules := st2.rules.set r (IntKind.i64.wrap (zz - 1), x) } avs La L w7 := ⟨_, _, _, Ln, rrow_ok hc6 hr hc3 hc4 hc5, hN2, h8⟩
        have hok2 : Wok m { st2 with rules := st2.rules.set r (IntKind.i64.wrap (zz - 1), x) } := by have := decS1_ok hoks hr; exact this
        refine wl_callx ky enter75 #[.pointer (some ⟨b.p, 0, none⟩), iN .i64 x] ky (learn_x hX2 hok2 hxm2 (by show st2.next.length ≤ 1000000; omega)) ?_
        rintro _ w9 ⟨rfl, hX3⟩
        refine ⟨_, rfl, ?_⟩
        refine wl_nil (block_normal (then_at rfl (wl_region ?_)))
        refine zu (iN .i64 (i + 1)) (run_add (k := .i64) (a := i) (b := 1) ky ky (by first | decide | omega | (simp only [top]; omega))) ?_
        refine zv (iN .i64 (i + 1)) ?_
        refine wl_nil ?_
        exact then_I ⟨fun ii => (([(5, iN .i64 r), (43, .bool true), (44, .pointer (some ⟨gv, i, none⟩)), (45, iN .i64 r), (46, .pointer (some ⟨b.p, 0, none⟩)), (47, .pointer (some ⟨b.p, 0, none⟩)), (48, .pointer (some ⟨b.p, 0, none⟩)), (49, .slice (some ⟨gr, 0, none⟩) st2.rules.length capr), (50, iN .i64 r), (51, .pointer (some ⟨gr, 2 * r, none⟩)), (52, .pointer (some ⟨gr, 2 * r, none⟩)), (53, .int .i64 zz), (54, .int .i64 (IntKind.i64.wrap (zz - 1))), (55, .pointer (some ⟨gr, 2 * r, none⟩)), (56, .pointer (some ⟨gr, 2 * r, none⟩)), (57, .pointer (some ⟨b.p, 0, none⟩)), (58, .pointer (some ⟨b.p, 0, none⟩)), (59, .pointer (some ⟨b.p, 0, none⟩)), (60, .slice (some ⟨gr, 0, none⟩) st2.rules.length capr), (61, iN .i64 r), (62, .pointer (some ⟨gr, 2 * r, none⟩)), (63, .pointer (some ⟨gr, 2 * r, none⟩)), (64, .int .i64 (IntKind.i64.wrap (zz - 1))), (65, .bool true), (66, .pointer (some ⟨b.p, 0, none⟩)), (67, .pointer (some ⟨b.p, 0, none⟩)), (68, .pointer (some ⟨b.p, 0, none⟩)), (69, .pointer (some ⟨b.p, 0, none⟩)), (70, .slice (some ⟨gr, 0, none⟩) st2.rules.length capr), (71, iN .i64 r), (72, .pointer (some ⟨gr, 2 * r, none⟩)), (73, .pointer (some ⟨gr, 2 * r + 1, none⟩)), (74, iN .i64 x), (75, .tuple #[]), (76, iN .i64 (i + 1))] : List (Nat × Value)).find? (·.1 == ii)).elim undef (·.2), by kernel_rfl, (by rw [foldl_take_succ askL i hk, ← hst2, ← hrv]; unfold decS; rw [hr]; simp only; rw [if_pos hz0]; exact hX3)⟩
      · refine wl_region ?_
        refine zv (.pointer (some ⟨b.p, 0, none⟩)) ?_
        refine zv (.pointer (some ⟨b.p, 0, none⟩)) ?_
        refine zv (.pointer (some ⟨b.p, 0, none⟩)) ?_
        refine zu (.slice (some ⟨gr, 0, none⟩) st2.rules.length capr) (run_load1 (fun w => Tryz.isAgg155 w) ky (((h8.get 0 rfl).cell 0).trans rfl)) ?_
        refine zv (iN .i64 r) ?_
        refine zu (.pointer (some ⟨gr, 2 * r, none⟩)) (run_addr92 (n := st2.rules.length) (m := capr) (a := r) ky ky hrr) ?_
        refine zv (.pointer (some ⟨gr, 2 * r, none⟩)) ?_
        refine zu (.int .i64 (IntKind.i64.wrap (zz - 1))) (run_load1 (fun w => Tryz.isAgg3 w) ky (((h8.get 3 rfl).cell (2 * r)).trans (by rw [Array.getElem?_setIfInBounds_self_of_lt (by have := (rrow_get hc6 hr).1; exact (Array.getElem?_eq_some_iff.1 this).1)]))) ?_
        refine zu (.bool false) (run_eqz (k := .i64) (a := IntKind.i64.wrap (zz - 1)) (b := 0) ky ky false (decide_eq_false hz0)) ?_
        refine wl_nil (then_at rfl ?_)
        refine wp_cond_false ky ?_
        refine wp_skip (block_normal (then_at rfl (wl_region ?_)))
        refine zu (iN .i64 (i + 1)) (run_add (k := .i64) (a := i) (b := 1) ky ky (by first | decide | omega | (simp only [top]; omega))) ?_
        refine zv (iN .i64 (i + 1)) ?_
        refine wl_nil ?_
        exact then_I ⟨fun ii => (([(5, iN .i64 r), (43, .bool true), (44, .pointer (some ⟨gv, i, none⟩)), (45, iN .i64 r), (46, .pointer (some ⟨b.p, 0, none⟩)), (47, .pointer (some ⟨b.p, 0, none⟩)), (48, .pointer (some ⟨b.p, 0, none⟩)), (49, .slice (some ⟨gr, 0, none⟩) st2.rules.length capr), (50, iN .i64 r), (51, .pointer (some ⟨gr, 2 * r, none⟩)), (52, .pointer (some ⟨gr, 2 * r, none⟩)), (53, .int .i64 zz), (54, .int .i64 (IntKind.i64.wrap (zz - 1))), (55, .pointer (some ⟨gr, 2 * r, none⟩)), (56, .pointer (some ⟨gr, 2 * r, none⟩)), (57, .pointer (some ⟨b.p, 0, none⟩)), (58, .pointer (some ⟨b.p, 0, none⟩)), (59, .pointer (some ⟨b.p, 0, none⟩)), (60, .slice (some ⟨gr, 0, none⟩) st2.rules.length capr), (61, iN .i64 r), (62, .pointer (some ⟨gr, 2 * r, none⟩)), (63, .pointer (some ⟨gr, 2 * r, none⟩)), (64, .int .i64 (IntKind.i64.wrap (zz - 1))), (65, .bool false), (66, u5 66), (67, u5 67), (68, u5 68), (69, u5 69), (70, u5 70), (71, u5 71), (72, u5 72), (73, u5 73), (74, u5 74), (75, u5 75), (76, iN .i64 (i + 1))] : List (Nat × Value)).find? (·.1 == ii)).elim undef (·.2), by kernel_rfl, (by rw [foldl_take_succ askL i hk, ← hst2, ← hrv]; unfold decS; rw [hr]; simp only; rw [if_neg hz0]; exact ⟨_, _, _, Ln, rrow_ok hc6 hr hc3 hc4 hc5, hN2, h8⟩)⟩
    · rintro _ w10 ⟨u5, rfl, hX⟩
      refine wp_seq (wl_region ?_)
      refine zu (.bool false) (run_lss (k := .i64) (a := askL.length) (b := askL.length) ky ky false (decide_eq_false (by omega))) ?_
      refine wl_nil (then_at rfl (wp_seq ?_))
      refine wp_cond_false ky ?_
      refine wp_exit ?_
      repeat first | refine then_exit ?_ | refine block_exit ?_ | refine block_exit_ne (by decide) ?_
      refine block_normal ?_
      exact then_I ⟨mu (stepS st1), (stepS_ok hok hne).2, stepS st1, fun ii => (([(2, iN .i64 (st1.next.length - 1)), (3, iN .i64 (st1.next.getD (st1.next.length - 1) 0)), (5, u5 5), (6, .pointer (some ⟨b.p, 0, none⟩)), (7, .pointer (some ⟨b.p, 0, none⟩)), (8, .pointer (some ⟨b.p, 3, none⟩)), (9, .slice (some ⟨g, 0, none⟩) st1.next.length cap), (10, iN .i64 st1.next.length), (11, .bool true), (12, .pointer (some ⟨b.p, 0, none⟩)), (13, .pointer (some ⟨b.p, 0, none⟩)), (14, .pointer (some ⟨b.p, 3, none⟩)), (15, .slice (some ⟨g, 0, none⟩) st1.next.length cap), (16, iN .i64 st1.next.length), (17, iN .i64 (st1.next.length - 1)), (18, .pointer (some ⟨b.p, 0, none⟩)), (19, .pointer (some ⟨b.p, 0, none⟩)), (20, .pointer (some ⟨b.p, 3, none⟩)), (21, .slice (some ⟨g, 0, none⟩) st1.next.length cap), (22, iN .i64 (st1.next.length - 1)), (23, .pointer (some ⟨g, st1.next.length - 1, none⟩)), (24, iN .i64 (st1.next.getD (st1.next.length - 1) 0)), (25, .pointer (some ⟨b.p, 0, none⟩)), (26, .pointer (some ⟨b.p, 0, none⟩)), (27, .pointer (some ⟨b.p, 0, none⟩)), (28, .pointer (some ⟨b.p, 3, none⟩)), (29, .slice (some ⟨g, 0, none⟩) st1.next.length cap), (30, iN .i64 (st1.next.length - 1)), (31, .slice (some ⟨g, 0, none⟩) (st1.next.length - 1) cap), (32, .pointer (some ⟨b.p, 0, none⟩)), (33, .pointer (some ⟨b.p, 3, none⟩)), (34, .pointer (some ⟨b.p, 0, none⟩)), (35, .pointer (some ⟨b.p, 0, none⟩)), (36, .pointer (some ⟨b.p, 1, none⟩)), (37, .slice (some ⟨b.ab, 0, none⟩) m m), (38, iN .i64 (st1.next.getD (st1.next.length - 1) 0)), (39, .pointer (some ⟨b.ab, st1.next.getD (st1.next.length - 1) 0, none⟩)), (40, .slice pv askL.length cv), (41, iN .i64 askL.length), (42, iN .i64 askL.length), (43, .bool false), (44, u5 44), (45, u5 45), (46, u5 46), (47, u5 47), (48, u5 48), (49, u5 49), (50, u5 50), (51, u5 51), (52, u5 52), (53, u5 53), (54, u5 54), (55, u5 55), (56, u5 56), (57, u5 57), (58, u5 58), (59, u5 59), (60, u5 60), (61, u5 61), (62, u5 62), (63, u5 63), (64, u5 64), (65, u5 65), (66, u5 66), (67, u5 67), (68, u5 68), (69, u5 69), (70, u5 70), (71, u5 71), (72, u5 72), (73, u5 73), (74, u5 74), (75, u5 75), (76, u5 76)] : List (Nat × Value)).find? (·.1 == ii)).elim undef (·.2), rfl, by kernel_rfl, (by unfold stepS; rw [← hask]; rw [List.take_length] at hX; exact WX.close hX (by rw [(decs_ok askL _ (pop_ok hok)).2.1]; exact hA)), (stepS_ok hok hne).1, (spreadS_step hok hne).trans hsp⟩
end Go.Proofs.YtcjjbpbehapjpaaGreat
