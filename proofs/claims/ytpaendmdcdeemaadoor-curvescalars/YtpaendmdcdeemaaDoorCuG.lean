/-
  ladder.
-/
import Derived.Test.YtpaendmdcdeemaaDoorCuF
namespace Go.Proofs.YtpaendmdcdeemaaDoor
open Go.RowKit Num


def dbx (a b : Nat) : Nat := mulP (mulP (addP a b) (addP a b)) (mulP (subP a b) (subP a b))
def dbz (a b : Nat) : Nat := mulP (subP (mulP (addP a b) (addP a b)) (mulP (subP a b) (subP a b))) (addP (mulP (addP a b) (addP a b)) (mulP (subP (mulP (addP a b) (addP a b)) (mulP (subP a b) (subP a b))) 121665))
def lsx (a b c d : Nat) : Nat := mulP (addP (mulP (addP a b) (subP c d)) (mulP (subP a b) (addP c d))) (addP (mulP (addP a b) (subP c d)) (mulP (subP a b) (addP c d)))
def lsz (u a b c d : Nat) : Nat := mulP (mulP (subP (mulP (addP a b) (subP c d)) (mulP (subP a b) (addP c d))) (subP (mulP (addP a b) (subP c d)) (mulP (subP a b) (addP c d)))) u
/-- the ladder behind k bits, the highest first -/
def lad (s : ByteArray) (u : Nat) : Nat → (Nat × Nat) × (Nat × Nat)
  | 0 => ((1, 0), (u, 1))
  | k + 1 =>
    if numS s / 2 ^ (255 - k) % 2 = 1 then
      ((lsx (lad s u k).1.1 (lad s u k).1.2 (lad s u k).2.1 (lad s u k).2.2, lsz u (lad s u k).1.1 (lad s u k).1.2 (lad s u k).2.1 (lad s u k).2.2), (dbx (lad s u k).2.1 (lad s u k).2.2, dbz (lad s u k).2.1 (lad s u k).2.2))
    else
      ((dbx (lad s u k).1.1 (lad s u k).1.2, dbz (lad s u k).1.1 (lad s u k).1.2), (lsx (lad s u k).1.1 (lad s u k).1.2 (lad s u k).2.1 (lad s u k).2.2, lsz u (lad s u k).1.1 (lad s u k).1.2 (lad s u k).2.1 (lad s u k).2.2))
theorem lad_one (s : ByteArray) (u k : Nat) (h : numS s / 2 ^ (255 - k) % 2 = 1) : lad s u (k + 1) = ((lsx (lad s u k).1.1 (lad s u k).1.2 (lad s u k).2.1 (lad s u k).2.2, lsz u (lad s u k).1.1 (lad s u k).1.2 (lad s u k).2.1 (lad s u k).2.2), (dbx (lad s u k).2.1 (lad s u k).2.2, dbz (lad s u k).2.1 (lad s u k).2.2)) := by
  rw [lad, if_pos h]
theorem lad_nil (s : ByteArray) (u k : Nat) (h : ¬ numS s / 2 ^ (255 - k) % 2 = 1) : lad s u (k + 1) = ((dbx (lad s u k).1.1 (lad s u k).1.2, dbz (lad s u k).1.1 (lad s u k).1.2), (lsx (lad s u k).1.1 (lad s u k).1.2 (lad s u k).2.1 (lad s u k).2.2, lsz u (lad s u k).1.1 (lad s u k).1.2 (lad s u k).2.1 (lad s u k).2.2)) := by
  rw [lad, if_neg h]
theorem lad_lt (s : ByteArray) (u : Nat) (hu : u < P) (k : Nat) : (lad s u k).1.1 < P ∧ (lad s u k).1.2 < P ∧ (lad s u k).2.1 < P ∧ (lad s u k).2.2 < P := by
  cases k with
  | zero => exact ⟨show 1 < P by decide, show 0 < P by decide, hu, show 1 < P by decide⟩
  | succ k =>
    by_cases h : numS s / 2 ^ (255 - k) % 2 = 1
    · rw [lad_one s u k h]; exact ⟨mulP_lt _ _, mulP_lt _ _, mulP_lt _ _, mulP_lt _ _⟩
    · rw [lad_nil s u k h]; exact ⟨mulP_lt _ _, mulP_lt _ _, mulP_lt _ _, mulP_lt _ _⟩
theorem enter94v (args : Array Value) (w : World) : (callFunc 94 args).run Tryd.prog w = .ok (.enter 94 args) w := by go_simp

set_option linter.unusedVariables false in
set_option maxRecDepth 100000 in
set_option maxHeartbeats 2000000 in
theorem ladder_any (s : ByteArray) (u : Nat) (hs : s.size = 32) (hu : u < P) (w : World) (VV : Vars w) :
    Calls Tryd.prog 63 #[.string s, arr u] w fun e w' => e = .returned (arr (mulP (lad s u 256).1.1 (invE (lad s u 256).1.2))) ∧ Below w.heap.size w w' := by
  have H0 := HA.start w
  go_enter Tryd.func63, Tryd.ntmps63
  refine wp_seq ?_
  -- region 0
  refine wl_region ?_
  refine wl_make H0 25 (by kernel_rfl) (run_box25 (c := el u) (by kernel_rfl)) ?_
  intro q1 w2 h3
  refine wl_make h3 25 (by kernel_rfl) run_alloc25 ?_
  intro q4 w5 h6
  refine wl_nil ?_
  refine then_at (F := ⟨(.string s :: arr u :: un :: pt q1 :: pt q4 :: List.replicate 36 un).toArray, []⟩) (by kernel_rfl) ?_
  refine wp_seq ?_
  -- region 1
  refine wl_region ?_
  refine wl_val (.func (.func 94) #[] #[.pointer (some ⟨q1, 0, none⟩)]) (by kernel_rfl) (by kernel_rfl) ?_
  refine wl_val (.func (.func 94) #[] #[.pointer (some ⟨q1, 0, none⟩)]) (by kernel_rfl) (by kernel_rfl) ?_
  refine wl_nil ?_
  refine then_at (F := ⟨(.string s :: arr u :: un :: pt q1 :: pt q4 :: .func (.func 94) #[] #[pt q1] :: un :: un :: un :: .func (.func 94) #[] #[pt q1] :: List.replicate 31 un).toArray, []⟩) (by kernel_rfl) ?_
  refine wp_seq ?_
  -- region 2
  obtain ⟨B7, eB7⟩ : ∃ B, B = w5.heap.size := ⟨_, rfl⟩
  refine wp_region_ghost (fun g : Nat → Nat => (⟨(.string s :: arr u :: un :: pt q1 :: pt q4 :: .func (.func 94) #[] #[pt q1] :: pt (g 5) :: pt (g 6) :: un :: .func (.func 94) #[] #[pt q1] :: arr 1 :: .agg (pr 1 0) :: arr u :: arr 1 :: .agg (pr u 1) :: List.replicate 26 un).toArray, []⟩ : Act)) (GS w [(q4, 25, el 0), (q1, 25, el u)] B7 2 5 7 113 (pr 0 0) (fun j => match j with | 0 => pr 1 0 | _ => pr u 1)) [arr 1, .agg (pr 1 0), arr u, arr 1, .agg (pr u 1), .pointer (some ⟨0, 0, none⟩), .pointer (some ⟨0, 0, none⟩), undef, undef] (by kernel_rfl) (by kernel_rfl) (by kernel_rfl) (by kernel_rfl) (fun _ _ _ _ h => h) (fun d hd => GS.start h6.drew eB7 (by decide) (fun j _ => by rcases j with _ | j <;> exact (pr_sz _ _ _ _)) (fun j hj => hd j (Nat.lt_of_lt_of_le hj (by decide)))) ?_ ?_
  · refine AllGhost.cons (ghost_call (v := arr 1) (by decide) (fun _ => by kernel_rfl) (fun _ => by kernel_rfl) enter41 #[iN .u32 1] (fun _ => by kernel_rfl) (fun w' h' => Small_any 1 (by decide) w')) ?_
    refine AllGhost.cons (ghost_plain (v := .agg (pr 1 0)) (by decide) (fun _ => by kernel_rfl) (fun _ => by kernel_rfl) (fun _ _ => (run_build113a (a := 1) (by kernel_rfl)))) ?_
    refine AllGhost.cons (ghost_load 1 rfl (by decide) (fun _ => by kernel_rfl) (fun _ => by kernel_rfl) (fun _ => by kernel_rfl) Tryd.underlying25 rfl (info_el _)) ?_
    refine AllGhost.cons (ghost_call (v := arr 1) (by decide) (fun _ => by kernel_rfl) (fun _ => by kernel_rfl) enter41 #[iN .u32 1] (fun _ => by kernel_rfl) (fun w' h' => Small_any 1 (by decide) w')) ?_
    refine AllGhost.cons (ghost_plain (v := .agg (pr u 1)) (by decide) (fun _ => by kernel_rfl) (fun _ => by kernel_rfl) (fun _ _ => (run_build113 (a := u) (b := 1) (by kernel_rfl) (by kernel_rfl)))) ?_
    refine AllGhost.cons (ghost_make 0 (by decide) rfl (fun _ => by kernel_rfl) (fun _ _ => by kernel_rfl) (fun _ _ => run_alloc113)) ?_
    refine AllGhost.cons (ghost_make 1 (by decide) rfl (fun _ => by kernel_rfl) (fun _ _ => by kernel_rfl) (fun _ _ => run_alloc113)) ?_
    refine AllGhost.cons (ghost_fill 0 (by decide) rfl (fun _ => by kernel_rfl) (fun _ => by kernel_rfl) (fun _ => by kernel_rfl) (fun _ => by kernel_rfl) (info113p 1 0) (one_pr 1 0) (by kernel_rfl)) ?_
    refine AllGhost.cons (ghost_fill 1 (by decide) rfl (fun _ => by kernel_rfl) (fun _ => by kernel_rfl) (fun _ => by kernel_rfl) (fun _ => by kernel_rfl) (info113p u 1) (one_pr u 1) (by kernel_rfl)) ?_
    exact AllGhost.nil
  intro g w8 g9
  have h10 : HA w [(g 6, 113, pr u 1), (g 5, 113, pr 1 0), (q4, 25, el 0), (q1, 25, el u)] w8 := g9.two
  clear g9 eB7
  generalize g 5 = q11 at h10 ⊢
  generalize g 6 = q12 at h10 ⊢
  clear g
  refine then_at (F := ⟨(.string s :: arr u :: un :: pt q1 :: pt q4 :: .func (.func 94) #[] #[pt q1] :: pt q11 :: pt q12 :: un :: .func (.func 94) #[] #[pt q1] :: arr 1 :: .agg (pr 1 0) :: arr u :: arr 1 :: .agg (pr u 1) :: List.replicate 26 un).toArray, []⟩) (by kernel_rfl) ?_
  refine wp_seq ?_
  refine wp_seq ?_
  -- region 3
  refine wl_region ?_
  refine wl_val (iN .i64 0) (by kernel_rfl) (by kernel_rfl) ?_
  refine wl_nil ?_
  refine then_at (F := ⟨(.string s :: arr u :: un :: pt q1 :: pt q4 :: .func (.func 94) #[] #[pt q1] :: pt q11 :: pt q12 :: un :: .func (.func 94) #[] #[pt q1] :: arr 1 :: .agg (pr 1 0) :: arr u :: arr 1 :: .agg (pr u 1) :: iN .i64 0 :: List.replicate 25 un).toArray, []⟩) (by kernel_rfl) ?_
  refine wp_block ?_
  refine wp_count (fun k A w' => ∃ u13 : Nat → Value, A = ⟨(.string s :: arr u :: un :: pt q1 :: pt q4 :: .func (.func 94) #[] #[pt q1] :: pt q11 :: pt q12 :: u13 8 :: .func (.func 94) #[] #[pt q1] :: arr 1 :: .agg (pr 1 0) :: arr u :: arr 1 :: .agg (pr u 1) :: iN .i64 k :: u13 16 :: u13 17 :: u13 18 :: u13 19 :: u13 20 :: u13 21 :: u13 22 :: u13 23 :: u13 24 :: u13 25 :: u13 26 :: u13 27 :: u13 28 :: u13 29 :: u13 30 :: u13 31 :: u13 32 :: u13 33 :: u13 34 :: List.replicate 6 un).toArray, []⟩ ∧ HA w [(q12, 113, pr ((lad s u k).2.1) ((lad s u k).2.2)), (q11, 113, pr ((lad s u k).1.1) ((lad s u k).1.2)), (q4, 25, el 0), (q1, 25, el u)] w') 256 ?_ ?_ ?_
  · exact ⟨fun ii => (([(8, undef), (16, undef), (17, undef), (18, undef), (19, undef), (20, undef), (21, undef), (22, undef), (23, undef), (24, undef), (25, undef), (26, undef), (27, undef), (28, undef), (29, undef), (30, undef), (31, undef), (32, undef), (33, undef), (34, undef)] : List (Nat × Value)).find? (·.1 == ii)).elim undef (·.2), by kernel_rfl, h10⟩
  · rintro k hk _ w14 ⟨u13, rfl, h15⟩
    refine wp_seq ?_
    -- region 4
    refine wl_region ?_
    refine wl_val (.bool true) (by kernel_rfl) (run_lss (k := .i64) (a := k) (b := 256) (by kernel_rfl) (by kernel_rfl) true (decide_eq_true hk)) ?_
    refine wl_nil ?_
    refine then_at (F := ⟨(.string s :: arr u :: un :: pt q1 :: pt q4 :: .func (.func 94) #[] #[pt q1] :: pt q11 :: pt q12 :: u13 8 :: .func (.func 94) #[] #[pt q1] :: arr 1 :: .agg (pr 1 0) :: arr u :: arr 1 :: .agg (pr u 1) :: iN .i64 k :: .bool true :: u13 17 :: u13 18 :: u13 19 :: u13 20 :: u13 21 :: u13 22 :: u13 23 :: u13 24 :: u13 25 :: u13 26 :: u13 27 :: u13 28 :: u13 29 :: u13 30 :: u13 31 :: u13 32 :: u13 33 :: u13 34 :: List.replicate 6 un).toArray, []⟩) (by kernel_rfl) ?_
    refine wp_seq ?_
    refine wp_cond_true (by kernel_rfl) ?_
    refine wp_skip ?_
    refine then_at (F := ⟨(.string s :: arr u :: un :: pt q1 :: pt q4 :: .func (.func 94) #[] #[pt q1] :: pt q11 :: pt q12 :: u13 8 :: .func (.func 94) #[] #[pt q1] :: arr 1 :: .agg (pr 1 0) :: arr u :: arr 1 :: .agg (pr u 1) :: iN .i64 k :: .bool true :: u13 17 :: u13 18 :: u13 19 :: u13 20 :: u13 21 :: u13 22 :: u13 23 :: u13 24 :: u13 25 :: u13 26 :: u13 27 :: u13 28 :: u13 29 :: u13 30 :: u13 31 :: u13 32 :: u13 33 :: u13 34 :: List.replicate 6 un).toArray, []⟩) (by kernel_rfl) ?_
    refine wp_seq ?_
    refine wp_block ?_
    refine wp_seq ?_
    -- region 5
    refine wl_region ?_
    refine wl_val (iN .i64 k) (by kernel_rfl) (by kernel_rfl) ?_
    refine wl_val (iN .i64 k) (by kernel_rfl) (by kernel_rfl) ?_
    refine wl_nil ?_
    refine then_at (F := ⟨(.string s :: arr u :: un :: pt q1 :: pt q4 :: .func (.func 94) #[] #[pt q1] :: pt q11 :: pt q12 :: iN .i64 k :: .func (.func 94) #[] #[pt q1] :: arr 1 :: .agg (pr 1 0) :: arr u :: arr 1 :: .agg (pr u 1) :: iN .i64 k :: .bool true :: iN .i64 k :: u13 18 :: u13 19 :: u13 20 :: u13 21 :: u13 22 :: u13 23 :: u13 24 :: u13 25 :: u13 26 :: u13 27 :: u13 28 :: u13 29 :: u13 30 :: u13 31 :: u13 32 :: u13 33 :: u13 34 :: List.replicate 6 un).toArray, []⟩) (by kernel_rfl) ?_
    refine wp_seq ?_
    by_cases hbit : numS s / 2 ^ (255 - k) % 2 = 1
    · -- region 6
      refine wl_region ?_
      refine wl_val (.string s) (by kernel_rfl) (by kernel_rfl) ?_
      refine wl_val (iN .i64 k) (by kernel_rfl) (by kernel_rfl) ?_
      refine wl_val (iN .i64 (255 - k)) (by kernel_rfl) (run_sub (k := .i64) (a := 255) (b := k) (by kernel_rfl) (by kernel_rfl) (by omega) (by simp only [top]; omega)) ?_
      refine wl_call (v := .bool true) h15 (by kernel_rfl) enter62 #[.string s, iN .i64 (255 - k)] (by kernel_rfl) ((by have hz := bit_any s (255 - k) hs (by omega) w14; rw [decide_eq_true hbit] at hz; exact hz)) ?_
      intro w16 h17
      refine wl_nil ?_
      refine then_at (F := ⟨(.string s :: arr u :: un :: pt q1 :: pt q4 :: .func (.func 94) #[] #[pt q1] :: pt q11 :: pt q12 :: iN .i64 k :: .func (.func 94) #[] #[pt q1] :: arr 1 :: .agg (pr 1 0) :: arr u :: arr 1 :: .agg (pr u 1) :: iN .i64 k :: .bool true :: iN .i64 k :: .string s :: iN .i64 k :: iN .i64 (255 - k) :: .bool true :: u13 22 :: u13 23 :: u13 24 :: u13 25 :: u13 26 :: u13 27 :: u13 28 :: u13 29 :: u13 30 :: u13 31 :: u13 32 :: u13 33 :: u13 34 :: List.replicate 6 un).toArray, []⟩) (by kernel_rfl) ?_
      refine wp_cond_true (by kernel_rfl) ?_
      -- region 7
      obtain ⟨X18, hX18⟩ : ∃ x, x = lsx ((lad s u k).1.1) ((lad s u k).1.2) ((lad s u k).2.1) ((lad s u k).2.2) := ⟨_, rfl⟩
      obtain ⟨Z19, hZ19⟩ : ∃ x, x = lsz u ((lad s u k).1.1) ((lad s u k).1.2) ((lad s u k).2.1) ((lad s u k).2.2) := ⟨_, rfl⟩
      obtain ⟨X20, hX20⟩ : ∃ x, x = dbx ((lad s u k).2.1) ((lad s u k).2.2) := ⟨_, rfl⟩
      obtain ⟨Z21, hZ21⟩ : ∃ x, x = dbz ((lad s u k).2.1) ((lad s u k).2.2) := ⟨_, rfl⟩
      refine wp_region_ghost (fun _ : Nat → Nat => (⟨(.string s :: arr u :: un :: pt q1 :: pt q4 :: .func (.func 94) #[] #[pt q1] :: pt q11 :: pt q12 :: iN .i64 k :: .func (.func 94) #[] #[pt q1] :: arr 1 :: .agg (pr 1 0) :: arr u :: arr 1 :: .agg (pr u 1) :: iN .i64 k :: .bool true :: iN .i64 k :: .string s :: iN .i64 k :: iN .i64 (255 - k) :: .bool true :: .func (.func 94) #[] #[pt q1] :: .agg (pr ((lad s u k).1.1) ((lad s u k).1.2)) :: .agg (pr ((lad s u k).2.1) ((lad s u k).2.2)) :: .agg (pr X18 Z19) :: .agg (pr ((lad s u k).2.1) ((lad s u k).2.2)) :: .agg (pr X20 Z21) :: u13 28 :: u13 29 :: u13 30 :: u13 31 :: u13 32 :: u13 33 :: u13 34 :: List.replicate 6 un).toArray, []⟩ : Act)) (GB w [(q12, 113, pr ((lad s u k).2.1) ((lad s u k).2.2)), (q11, 113, pr ((lad s u k).1.1) ((lad s u k).1.2)), (q4, 25, el 0), (q1, 25, el u)] (fun i => ([[], [], [], [0, 1, 2], [], [4], [5, 3], [6]] : List (List Nat)).getD i []) 6 1 (q11, 113, pr X18 Z19) 7 0 (q12, 113, pr X20 Z21)) [.func (.func 94) #[] #[.pointer (some ⟨q1, 0, none⟩)], .agg (pr ((lad s u k).1.1) ((lad s u k).1.2)), .agg (pr ((lad s u k).2.1) ((lad s u k).2.2)), .agg (pr X18 Z19), .agg (pr ((lad s u k).2.1) ((lad s u k).2.2)), .agg (pr X20 Z21), undef, undef] (by kernel_rfl) (by kernel_rfl) (by kernel_rfl) (by kernel_rfl) (fun _ _ _ _ h => h) (fun d hd => GB.start h17.drew (hd 6 (by decide)) (hd 7 (by decide)) (Cl.start hd (by decide))) ?_ ?_
      · refine AllGhost.cons (gb_plain (v := .func (.func 94) #[] #[.pointer (some ⟨q1, 0, none⟩)]) (by decide) (by decide) (by kernel_rfl) (fun _ => by kernel_rfl) (fun _ => by kernel_rfl) (fun _ _ => (by kernel_rfl))) ?_
        refine AllGhost.cons (gb_load 1 rfl (by decide) (by decide) (fun d C h => (C 3 (C 6 h 3 (by decide)) 1 (by decide))) (fun d C h => (C 3 (C 6 (C 7 h 6 (by decide)) 3 (by decide)) 1 (by decide))) (by kernel_rfl) (fun _ => by kernel_rfl) (fun _ => by kernel_rfl) (fun _ => by kernel_rfl) Tryd.underlying113 rfl (info113p ((lad s u k).1.1) ((lad s u k).1.2))) ?_
        refine AllGhost.cons (gb_load 0 rfl (by decide) (by decide) (fun d C h => (C 3 (C 6 h 3 (by decide)) 2 (by decide))) (fun d C h => (C 3 (C 6 (C 7 h 6 (by decide)) 3 (by decide)) 2 (by decide))) (by kernel_rfl) (fun _ => by kernel_rfl) (fun _ => by kernel_rfl) (fun _ => by kernel_rfl) Tryd.underlying113 rfl (info113p ((lad s u k).2.1) ((lad s u k).2.2))) ?_
        refine AllGhost.cons (gb_callv (v := .agg (pr X18 Z19)) (cap := #[.pointer (some ⟨q1, 0, none⟩)]) 3 rfl (by decide) (by decide) (by decide) (by decide) (by kernel_rfl) (fun _ => by kernel_rfl) (fun _ => by kernel_rfl) enter94v (fun _ => by kernel_rfl) #[.agg (pr ((lad s u k).1.1) ((lad s u k).1.2)), .agg (pr ((lad s u k).2.1) ((lad s u k).2.2)), .pointer (some ⟨q1, 0, none⟩)] (fun _ => by kernel_rfl) (fun w' ho hb => (by rw [hX18, hZ19]; exact lsum_any ((lad s u k).1.1) ((lad s u k).1.2) ((lad s u k).2.1) ((lad s u k).2.2) (lad_lt s u hu k).1 (lad_lt s u hu k).2.1 (lad_lt s u hu k).2.2.1 (lad_lt s u hu k).2.2.2 u q1 hu w' (VV.below ho VV.big) hb))) ?_
        refine AllGhost.cons (gb_load 0 rfl (by decide) (by decide) (fun d C h => (C 5 (C 6 h 5 (by decide)) 4 (by decide))) (fun d C h => (C 5 (C 6 (C 7 h 6 (by decide)) 5 (by decide)) 4 (by decide))) (by kernel_rfl) (fun _ => by kernel_rfl) (fun _ => by kernel_rfl) (fun _ => by kernel_rfl) Tryd.underlying113 rfl (info113p ((lad s u k).2.1) ((lad s u k).2.2))) ?_
        refine AllGhost.cons (gb_callh (v := .agg (pr X20 Z21)) (by decide) (by decide) (by kernel_rfl) (fun _ => by kernel_rfl) (fun _ => by kernel_rfl) enter95 #[.agg (pr ((lad s u k).2.1) ((lad s u k).2.2))] (fun _ => by kernel_rfl) (fun w' ho => (by rw [hX20, hZ21]; exact fdouble_any ((lad s u k).2.1) ((lad s u k).2.2) (lad_lt s u hu k).2.2.1 (lad_lt s u hu k).2.2.2 w' (VV.below ho VV.big)))) ?_
        refine AllGhost.cons (gb_fill0 rfl (pr_sz X18 Z19 ((lad s u k).1.1) ((lad s u k).1.2)) (by decide) (by decide) (by kernel_rfl) (fun _ => by kernel_rfl) (fun _ => by kernel_rfl) (fun _ => by kernel_rfl) (fun _ => by kernel_rfl) (info113p X18 Z19) (one_pr X18 Z19)) ?_
        refine AllGhost.cons (gb_fill1 rfl (pr_sz X20 Z21 ((lad s u k).2.1) ((lad s u k).2.2)) (by decide) (by decide) (by kernel_rfl) (fun _ => by kernel_rfl) (fun _ => by kernel_rfl) (fun _ => by kernel_rfl) (fun _ => by kernel_rfl) (info113p X20 Z21) (one_pr X20 Z21)) ?_
        exact AllGhost.nil
      intro _ w22 g23
      have h24 : HA w [(q12, 113, pr X20 Z21), (q11, 113, pr X18 Z19), (q4, 25, el 0), (q1, 25, el u)] w22 := g23.held
      clear g23
      subst hX18
      subst hZ19
      subst hX20
      subst hZ21
      refine block_normal ?_
      refine then_at (F := ⟨(.string s :: arr u :: un :: pt q1 :: pt q4 :: .func (.func 94) #[] #[pt q1] :: pt q11 :: pt q12 :: iN .i64 k :: .func (.func 94) #[] #[pt q1] :: arr 1 :: .agg (pr 1 0) :: arr u :: arr 1 :: .agg (pr u 1) :: iN .i64 k :: .bool true :: iN .i64 k :: .string s :: iN .i64 k :: iN .i64 (255 - k) :: .bool true :: .func (.func 94) #[] #[pt q1] :: .agg (pr ((lad s u k).1.1) ((lad s u k).1.2)) :: .agg (pr ((lad s u k).2.1) ((lad s u k).2.2)) :: .agg (pr (lsx ((lad s u k).1.1) ((lad s u k).1.2) ((lad s u k).2.1) ((lad s u k).2.2)) (lsz u ((lad s u k).1.1) ((lad s u k).1.2) ((lad s u k).2.1) ((lad s u k).2.2))) :: .agg (pr ((lad s u k).2.1) ((lad s u k).2.2)) :: .agg (pr (dbx ((lad s u k).2.1) ((lad s u k).2.2)) (dbz ((lad s u k).2.1) ((lad s u k).2.2))) :: u13 28 :: u13 29 :: u13 30 :: u13 31 :: u13 32 :: u13 33 :: u13 34 :: List.replicate 6 un).toArray, []⟩) (by kernel_rfl) ?_
      -- region 9
      refine wl_region ?_
      refine wl_val (iN .i64 (k + 1)) (by kernel_rfl) (run_add (k := .i64) (a := k) (b := 1) (by kernel_rfl) (by kernel_rfl) (by simp only [top]; omega)) ?_
      refine wl_val (iN .i64 (k + 1)) (by kernel_rfl) (by kernel_rfl) ?_
      refine wl_nil ?_
      exact then_I ⟨fun ii => (([(8, iN .i64 k), (16, .bool true), (17, iN .i64 k), (18, .string s), (19, iN .i64 k), (20, iN .i64 (255 - k)), (21, .bool true), (22, .func (.func 94) #[] #[.pointer (some ⟨q1, 0, none⟩)]), (23, .agg (pr ((lad s u k).1.1) ((lad s u k).1.2))), (24, .agg (pr ((lad s u k).2.1) ((lad s u k).2.2))), (25, .agg (pr (lsx ((lad s u k).1.1) ((lad s u k).1.2) ((lad s u k).2.1) ((lad s u k).2.2)) (lsz u ((lad s u k).1.1) ((lad s u k).1.2) ((lad s u k).2.1) ((lad s u k).2.2)))), (26, .agg (pr ((lad s u k).2.1) ((lad s u k).2.2))), (27, .agg (pr (dbx ((lad s u k).2.1) ((lad s u k).2.2)) (dbz ((lad s u k).2.1) ((lad s u k).2.2)))), (28, u13 28), (29, u13 29), (30, u13 30), (31, u13 31), (32, u13 32), (33, u13 33), (34, iN .i64 (k + 1))] : List (Nat × Value)).find? (·.1 == ii)).elim undef (·.2), by kernel_rfl, (by rw [lad_one s u k hbit]; exact h24)⟩
    · -- region 6
      refine wl_region ?_
      refine wl_val (.string s) (by kernel_rfl) (by kernel_rfl) ?_
      refine wl_val (iN .i64 k) (by kernel_rfl) (by kernel_rfl) ?_
      refine wl_val (iN .i64 (255 - k)) (by kernel_rfl) (run_sub (k := .i64) (a := 255) (b := k) (by kernel_rfl) (by kernel_rfl) (by omega) (by simp only [top]; omega)) ?_
      refine wl_call (v := .bool false) h15 (by kernel_rfl) enter62 #[.string s, iN .i64 (255 - k)] (by kernel_rfl) ((by have hz := bit_any s (255 - k) hs (by omega) w14; rw [decide_eq_false hbit] at hz; exact hz)) ?_
      intro w25 h26
      refine wl_nil ?_
      refine then_at (F := ⟨(.string s :: arr u :: un :: pt q1 :: pt q4 :: .func (.func 94) #[] #[pt q1] :: pt q11 :: pt q12 :: iN .i64 k :: .func (.func 94) #[] #[pt q1] :: arr 1 :: .agg (pr 1 0) :: arr u :: arr 1 :: .agg (pr u 1) :: iN .i64 k :: .bool true :: iN .i64 k :: .string s :: iN .i64 k :: iN .i64 (255 - k) :: .bool false :: u13 22 :: u13 23 :: u13 24 :: u13 25 :: u13 26 :: u13 27 :: u13 28 :: u13 29 :: u13 30 :: u13 31 :: u13 32 :: u13 33 :: u13 34 :: List.replicate 6 un).toArray, []⟩) (by kernel_rfl) ?_
      refine wp_cond_false (by kernel_rfl) ?_
      -- region 8
      obtain ⟨X27, hX27⟩ : ∃ x, x = dbx ((lad s u k).1.1) ((lad s u k).1.2) := ⟨_, rfl⟩
      obtain ⟨Z28, hZ28⟩ : ∃ x, x = dbz ((lad s u k).1.1) ((lad s u k).1.2) := ⟨_, rfl⟩
      obtain ⟨X29, hX29⟩ : ∃ x, x = lsx ((lad s u k).1.1) ((lad s u k).1.2) ((lad s u k).2.1) ((lad s u k).2.2) := ⟨_, rfl⟩
      obtain ⟨Z30, hZ30⟩ : ∃ x, x = lsz u ((lad s u k).1.1) ((lad s u k).1.2) ((lad s u k).2.1) ((lad s u k).2.2) := ⟨_, rfl⟩
      refine wp_region_ghost (fun _ : Nat → Nat => (⟨(.string s :: arr u :: un :: pt q1 :: pt q4 :: .func (.func 94) #[] #[pt q1] :: pt q11 :: pt q12 :: iN .i64 k :: .func (.func 94) #[] #[pt q1] :: arr 1 :: .agg (pr 1 0) :: arr u :: arr 1 :: .agg (pr u 1) :: iN .i64 k :: .bool true :: iN .i64 k :: .string s :: iN .i64 k :: iN .i64 (255 - k) :: .bool false :: u13 22 :: u13 23 :: u13 24 :: u13 25 :: u13 26 :: u13 27 :: .agg (pr ((lad s u k).1.1) ((lad s u k).1.2)) :: .agg (pr X27 Z28) :: .func (.func 94) #[] #[pt q1] :: .agg (pr ((lad s u k).1.1) ((lad s u k).1.2)) :: .agg (pr ((lad s u k).2.1) ((lad s u k).2.2)) :: .agg (pr X29 Z30) :: u13 34 :: List.replicate 6 un).toArray, []⟩ : Act)) (GB w [(q12, 113, pr ((lad s u k).2.1) ((lad s u k).2.2)), (q11, 113, pr ((lad s u k).1.1) ((lad s u k).1.2)), (q4, 25, el 0), (q1, 25, el u)] (fun i => ([[], [0], [], [], [], [1, 2, 3, 4], [5, 1], [6]] : List (List Nat)).getD i []) 6 1 (q11, 113, pr X27 Z28) 7 0 (q12, 113, pr X29 Z30)) [.agg (pr ((lad s u k).1.1) ((lad s u k).1.2)), .agg (pr X27 Z28), .func (.func 94) #[] #[.pointer (some ⟨q1, 0, none⟩)], .agg (pr ((lad s u k).1.1) ((lad s u k).1.2)), .agg (pr ((lad s u k).2.1) ((lad s u k).2.2)), .agg (pr X29 Z30), undef, undef] (by kernel_rfl) (by kernel_rfl) (by kernel_rfl) (by kernel_rfl) (fun _ _ _ _ h => h) (fun d hd => GB.start h26.drew (hd 6 (by decide)) (hd 7 (by decide)) (Cl.start hd (by decide))) ?_ ?_
      · refine AllGhost.cons (gb_load 1 rfl (by decide) (by decide) (fun d C h => (C 1 (C 6 h 1 (by decide)) 0 (by decide))) (fun d C h => (C 1 (C 6 (C 7 h 6 (by decide)) 1 (by decide)) 0 (by decide))) (by kernel_rfl) (fun _ => by kernel_rfl) (fun _ => by kernel_rfl) (fun _ => by kernel_rfl) Tryd.underlying113 rfl (info113p ((lad s u k).1.1) ((lad s u k).1.2))) ?_
        refine AllGhost.cons (gb_callh (v := .agg (pr X27 Z28)) (by decide) (by decide) (by kernel_rfl) (fun _ => by kernel_rfl) (fun _ => by kernel_rfl) enter95 #[.agg (pr ((lad s u k).1.1) ((lad s u k).1.2))] (fun _ => by kernel_rfl) (fun w' ho => (by rw [hX27, hZ28]; exact fdouble_any ((lad s u k).1.1) ((lad s u k).1.2) (lad_lt s u hu k).1 (lad_lt s u hu k).2.1 w' (VV.below ho VV.big)))) ?_
        refine AllGhost.cons (gb_plain (v := .func (.func 94) #[] #[.pointer (some ⟨q1, 0, none⟩)]) (by decide) (by decide) (by kernel_rfl) (fun _ => by kernel_rfl) (fun _ => by kernel_rfl) (fun _ _ => (by kernel_rfl))) ?_
        refine AllGhost.cons (gb_load 1 rfl (by decide) (by decide) (fun d C h => (C 5 (C 6 h 5 (by decide)) 3 (by decide))) (fun d C h => (C 5 (C 6 (C 7 h 6 (by decide)) 5 (by decide)) 3 (by decide))) (by kernel_rfl) (fun _ => by kernel_rfl) (fun _ => by kernel_rfl) (fun _ => by kernel_rfl) Tryd.underlying113 rfl (info113p ((lad s u k).1.1) ((lad s u k).1.2))) ?_
        refine AllGhost.cons (gb_load 0 rfl (by decide) (by decide) (fun d C h => (C 5 (C 6 h 5 (by decide)) 4 (by decide))) (fun d C h => (C 5 (C 6 (C 7 h 6 (by decide)) 5 (by decide)) 4 (by decide))) (by kernel_rfl) (fun _ => by kernel_rfl) (fun _ => by kernel_rfl) (fun _ => by kernel_rfl) Tryd.underlying113 rfl (info113p ((lad s u k).2.1) ((lad s u k).2.2))) ?_
        refine AllGhost.cons (gb_callv (v := .agg (pr X29 Z30)) (cap := #[.pointer (some ⟨q1, 0, none⟩)]) 3 rfl (by decide) (by decide) (by decide) (by decide) (by kernel_rfl) (fun _ => by kernel_rfl) (fun _ => by kernel_rfl) enter94v (fun _ => by kernel_rfl) #[.agg (pr ((lad s u k).1.1) ((lad s u k).1.2)), .agg (pr ((lad s u k).2.1) ((lad s u k).2.2)), .pointer (some ⟨q1, 0, none⟩)] (fun _ => by kernel_rfl) (fun w' ho hb => (by rw [hX29, hZ30]; exact lsum_any ((lad s u k).1.1) ((lad s u k).1.2) ((lad s u k).2.1) ((lad s u k).2.2) (lad_lt s u hu k).1 (lad_lt s u hu k).2.1 (lad_lt s u hu k).2.2.1 (lad_lt s u hu k).2.2.2 u q1 hu w' (VV.below ho VV.big) hb))) ?_
        refine AllGhost.cons (gb_fill0 rfl (pr_sz X27 Z28 ((lad s u k).1.1) ((lad s u k).1.2)) (by decide) (by decide) (by kernel_rfl) (fun _ => by kernel_rfl) (fun _ => by kernel_rfl) (fun _ => by kernel_rfl) (fun _ => by kernel_rfl) (info113p X27 Z28) (one_pr X27 Z28)) ?_
        refine AllGhost.cons (gb_fill1 rfl (pr_sz X29 Z30 ((lad s u k).2.1) ((lad s u k).2.2)) (by decide) (by decide) (by kernel_rfl) (fun _ => by kernel_rfl) (fun _ => by kernel_rfl) (fun _ => by kernel_rfl) (fun _ => by kernel_rfl) (info113p X29 Z30) (one_pr X29 Z30)) ?_
        exact AllGhost.nil
      intro _ w31 g32
      have h33 : HA w [(q12, 113, pr X29 Z30), (q11, 113, pr X27 Z28), (q4, 25, el 0), (q1, 25, el u)] w31 := g32.held
      clear g32
      subst hX27
      subst hZ28
      subst hX29
      subst hZ30
      refine block_normal ?_
      refine then_at (F := ⟨(.string s :: arr u :: un :: pt q1 :: pt q4 :: .func (.func 94) #[] #[pt q1] :: pt q11 :: pt q12 :: iN .i64 k :: .func (.func 94) #[] #[pt q1] :: arr 1 :: .agg (pr 1 0) :: arr u :: arr 1 :: .agg (pr u 1) :: iN .i64 k :: .bool true :: iN .i64 k :: .string s :: iN .i64 k :: iN .i64 (255 - k) :: .bool false :: u13 22 :: u13 23 :: u13 24 :: u13 25 :: u13 26 :: u13 27 :: .agg (pr ((lad s u k).1.1) ((lad s u k).1.2)) :: .agg (pr (dbx ((lad s u k).1.1) ((lad s u k).1.2)) (dbz ((lad s u k).1.1) ((lad s u k).1.2))) :: .func (.func 94) #[] #[pt q1] :: .agg (pr ((lad s u k).1.1) ((lad s u k).1.2)) :: .agg (pr ((lad s u k).2.1) ((lad s u k).2.2)) :: .agg (pr (lsx ((lad s u k).1.1) ((lad s u k).1.2) ((lad s u k).2.1) ((lad s u k).2.2)) (lsz u ((lad s u k).1.1) ((lad s u k).1.2) ((lad s u k).2.1) ((lad s u k).2.2))) :: u13 34 :: List.replicate 6 un).toArray, []⟩) (by kernel_rfl) ?_
      -- region 9
      refine wl_region ?_
      refine wl_val (iN .i64 (k + 1)) (by kernel_rfl) (run_add (k := .i64) (a := k) (b := 1) (by kernel_rfl) (by kernel_rfl) (by simp only [top]; omega)) ?_
      refine wl_val (iN .i64 (k + 1)) (by kernel_rfl) (by kernel_rfl) ?_
      refine wl_nil ?_
      exact then_I ⟨fun ii => (([(8, iN .i64 k), (16, .bool true), (17, iN .i64 k), (18, .string s), (19, iN .i64 k), (20, iN .i64 (255 - k)), (21, .bool false), (22, u13 22), (23, u13 23), (24, u13 24), (25, u13 25), (26, u13 26), (27, u13 27), (28, .agg (pr ((lad s u k).1.1) ((lad s u k).1.2))), (29, .agg (pr (dbx ((lad s u k).1.1) ((lad s u k).1.2)) (dbz ((lad s u k).1.1) ((lad s u k).1.2)))), (30, .func (.func 94) #[] #[.pointer (some ⟨q1, 0, none⟩)]), (31, .agg (pr ((lad s u k).1.1) ((lad s u k).1.2))), (32, .agg (pr ((lad s u k).2.1) ((lad s u k).2.2))), (33, .agg (pr (lsx ((lad s u k).1.1) ((lad s u k).1.2) ((lad s u k).2.1) ((lad s u k).2.2)) (lsz u ((lad s u k).1.1) ((lad s u k).1.2) ((lad s u k).2.1) ((lad s u k).2.2)))), (34, iN .i64 (k + 1))] : List (Nat × Value)).find? (·.1 == ii)).elim undef (·.2), by kernel_rfl, (by rw [lad_nil s u k hbit]; exact h33)⟩
  · rintro _ w34 ⟨u13, rfl, h35⟩
    refine wp_seq ?_
    -- region 4
    refine wl_region ?_
    refine wl_val (.bool false) (by kernel_rfl) (run_lss (k := .i64) (a := 256) (b := 256) (by kernel_rfl) (by kernel_rfl) false (by decide)) ?_
    refine wl_nil ?_
    refine then_at (F := ⟨(.string s :: arr u :: un :: pt q1 :: pt q4 :: .func (.func 94) #[] #[pt q1] :: pt q11 :: pt q12 :: u13 8 :: .func (.func 94) #[] #[pt q1] :: arr 1 :: .agg (pr 1 0) :: arr u :: arr 1 :: .agg (pr u 1) :: iN .i64 256 :: .bool false :: u13 17 :: u13 18 :: u13 19 :: u13 20 :: u13 21 :: u13 22 :: u13 23 :: u13 24 :: u13 25 :: u13 26 :: u13 27 :: u13 28 :: u13 29 :: u13 30 :: u13 31 :: u13 32 :: u13 33 :: u13 34 :: List.replicate 6 un).toArray, []⟩) (by kernel_rfl) ?_
    refine wp_seq ?_
    refine wp_cond_false (by kernel_rfl) ?_
    refine wp_exit ?_
    repeat first | refine then_exit ?_ | refine block_exit ?_ | refine block_exit_ne (by decide) ?_
    refine then_at (F := ⟨(.string s :: arr u :: un :: pt q1 :: pt q4 :: .func (.func 94) #[] #[pt q1] :: pt q11 :: pt q12 :: u13 8 :: .func (.func 94) #[] #[pt q1] :: arr 1 :: .agg (pr 1 0) :: arr u :: arr 1 :: .agg (pr u 1) :: iN .i64 256 :: .bool false :: u13 17 :: u13 18 :: u13 19 :: u13 20 :: u13 21 :: u13 22 :: u13 23 :: u13 24 :: u13 25 :: u13 26 :: u13 27 :: u13 28 :: u13 29 :: u13 30 :: u13 31 :: u13 32 :: u13 33 :: u13 34 :: List.replicate 6 un).toArray, []⟩) (by kernel_rfl) ?_
    refine wp_seq ?_
    -- region 10
    refine wp_region_ghost (fun _ : Nat → Nat => (⟨(.string s :: arr u :: un :: pt q1 :: pt q4 :: .func (.func 94) #[] #[pt q1] :: pt q11 :: pt q12 :: u13 8 :: .func (.func 94) #[] #[pt q1] :: arr 1 :: .agg (pr 1 0) :: arr u :: arr 1 :: .agg (pr u 1) :: iN .i64 256 :: .bool false :: u13 17 :: u13 18 :: u13 19 :: u13 20 :: u13 21 :: u13 22 :: u13 23 :: u13 24 :: u13 25 :: u13 26 :: u13 27 :: u13 28 :: u13 29 :: u13 30 :: u13 31 :: u13 32 :: u13 33 :: u13 34 :: pt q11 :: arr ((lad s u 256).1.1) :: .pointer (some ⟨q11, 4, none⟩) :: arr ((lad s u 256).1.2) :: arr (invE ((lad s u 256).1.2)) :: arr (mulP ((lad s u 256).1.1) (invE ((lad s u 256).1.2))) :: List.replicate 0 un).toArray, []⟩ : Act)) (GF w [(q12, 113, pr ((lad s u 256).2.1) ((lad s u 256).2.2)), (q11, 113, pr ((lad s u 256).1.1) ((lad s u 256).1.2)), (q4, 25, el 0), (q1, 25, el u)] 6 5 2 q4 25 (el (mulP ((lad s u 256).1.1) (invE ((lad s u 256).1.2))))) [.pointer (some ⟨q11, 0, none⟩), arr ((lad s u 256).1.1), .pointer (some ⟨q11, 4, none⟩), arr ((lad s u 256).1.2), arr (invE ((lad s u 256).1.2)), arr (mulP ((lad s u 256).1.1) (invE ((lad s u 256).1.2))), undef] (by kernel_rfl) (by kernel_rfl) (by kernel_rfl) (by kernel_rfl) (fun _ _ _ _ h => h) (fun d hd => GF.start h35.drew (hd 6 (by decide))) ?_ ?_
    · refine AllGhost.cons (gf_plain (v := .pointer (some ⟨q11, 0, none⟩)) (by decide) (fun _ => by kernel_rfl) (fun _ => by kernel_rfl) (fun _ _ => (by kernel_rfl))) ?_
      refine AllGhost.cons (gf_read (v := arr ((lad s u 256).1.1)) 1 (by decide) rfl (by decide) (fun _ => by kernel_rfl) (fun _ => by kernel_rfl) (fun _ _ hb => run_part (q := q11) (off := 4 * 0) (n := (lad s u 256).1.1) (by kernel_rfl) hb (fun i hi => pr_get0 ((lad s u 256).1.1) ((lad s u 256).1.2) i hi))) ?_
      refine AllGhost.cons (gf_plain (v := .pointer (some ⟨q11, 4, none⟩)) (by decide) (fun _ => by kernel_rfl) (fun _ => by kernel_rfl) (fun _ _ => (by kernel_rfl))) ?_
      refine AllGhost.cons (gf_read (v := arr ((lad s u 256).1.2)) 1 (by decide) rfl (by decide) (fun _ => by kernel_rfl) (fun _ => by kernel_rfl) (fun _ _ hb => run_part (q := q11) (off := 4 * 1) (n := (lad s u 256).1.2) (by kernel_rfl) hb (fun i _ => pr_get1 ((lad s u 256).1.1) ((lad s u 256).1.2) i))) ?_
      refine AllGhost.cons (gf_callh (v := arr (invE ((lad s u 256).1.2))) (by decide) (fun _ => by kernel_rfl) (fun _ => by kernel_rfl) enter81 #[arr ((lad s u 256).1.2)] (fun _ => by kernel_rfl) (fun w' ho => Inv_any ((lad s u 256).1.2) (lad_lt s u hu 256).2.1 w' (VV.below ho VV.big))) ?_
      refine AllGhost.cons (gf_callh (v := arr (mulP ((lad s u 256).1.1) (invE ((lad s u 256).1.2)))) (by decide) (fun _ => by kernel_rfl) (fun _ => by kernel_rfl) enter80 #[arr ((lad s u 256).1.1), arr (invE ((lad s u 256).1.2))] (fun _ => by kernel_rfl) (fun w' ho => Mul_any ((lad s u 256).1.1) (invE ((lad s u 256).1.2)) (lad_lt s u hu 256).1 (invE_lt _) w' (VV.below ho VV.big))) ?_
      refine AllGhost.cons (gf_fill rfl (el_sz _ _) (fun _ => by kernel_rfl) (fun _ => by kernel_rfl) (fun _ => by kernel_rfl) (fun _ => by kernel_rfl) (info_el _) (one_el _) (by decide) (by kernel_rfl)) ?_
      exact AllGhost.nil
    intro _ w36 g37
    have h38 : HA w [(q12, 113, pr ((lad s u 256).2.1) ((lad s u 256).2.2)), (q11, 113, pr ((lad s u 256).1.1) ((lad s u 256).1.2)), (q4, 25, el (mulP ((lad s u 256).1.1) (invE ((lad s u 256).1.2)))), (q1, 25, el u)] w36 := g37.held
    clear g37
    refine then_at (F := ⟨(.string s :: arr u :: un :: pt q1 :: pt q4 :: .func (.func 94) #[] #[pt q1] :: pt q11 :: pt q12 :: u13 8 :: .func (.func 94) #[] #[pt q1] :: arr 1 :: .agg (pr 1 0) :: arr u :: arr 1 :: .agg (pr u 1) :: iN .i64 256 :: .bool false :: u13 17 :: u13 18 :: u13 19 :: u13 20 :: u13 21 :: u13 22 :: u13 23 :: u13 24 :: u13 25 :: u13 26 :: u13 27 :: u13 28 :: u13 29 :: u13 30 :: u13 31 :: u13 32 :: u13 33 :: u13 34 :: pt q11 :: arr ((lad s u 256).1.1) :: .pointer (some ⟨q11, 4, none⟩) :: arr ((lad s u 256).1.2) :: arr (invE ((lad s u 256).1.2)) :: arr (mulP ((lad s u 256).1.1) (invE ((lad s u 256).1.2))) :: List.replicate 0 un).toArray, []⟩) (by kernel_rfl) ?_
    refine wp_ret ?_
    repeat first | refine then_ret ?_ | refine block_ret ?_
    exact bodyPost_ret (v := arr (mulP (lad s u 256).1.1 (invE (lad s u 256).1.2))) (res_cell (p := 4) (by kernel_rfl) (by kernel_rfl) (h38.get 2 rfl) Tryd.underlying25 rfl (info_el _)) rfl ⟨rfl, h38.old⟩
end Go.Proofs.YtpaendmdcdeemaaDoor
