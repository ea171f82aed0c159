/-
  The reference's Same.
-/
import Derived.Test.YtjedhnjjgmbcbaaR10
namespace Go.Proofs.Ytjedhnjjgmbcbaa
open Go.RowKit

/-- a row of texts somewhere -/
def RTx (w : World) (o : Option Addr) (ss : List ByteArray) : Prop := ss = [] ∨ ∃ g cu, o = some ⟨g, 0, none⟩ ∧ Blk w g 9 cu ∧ ∀ i, i < ss.length → cu[i]? = some (.string (ss.getD i ByteArray.empty))
theorem RTx.keep {w w' : World} {o : Option Addr} {ss : List ByteArray} (h : RTx w o ss) (hb : Below w.heap.size w w') : RTx w' o ss := h.imp id (fun ⟨g, c, h1, h2, h3⟩ => ⟨g, c, h1, h2.keep hb, h3⟩)
section
variable {ρ : Operand → Value} {x y : Operand} {w : World} {dst : Option Tmp} {T T2 ty : TypeId} {pos : String} {aft : Array Edge} {gd : Option (Nat × Bool)}
theorem run_addr50p {p : Option Addr} {q n m a : Nat} (hp : p = some ⟨q, 0, none⟩) (hx : ρ x = .slice p n m) (hy : ρ y = iN .i64 a) (ha : a < n) : (execOp ρ ⟨dst, .indexAddr 50 x y, ty, pos, aft, gd⟩).run Try.prog w = .ok (.value (.pointer (some ⟨q, a, none⟩))) w := by
  subst hp
  exact run_addr_slice Try.underlying50 (fun w => Try.sizeOf9 w) hx hy ha
end
set_option linter.unusedVariables false in
set_option maxRecDepth 100000 in
set_option maxHeartbeats 2000000 in
theorem rsame_eq {w : World} {ss : List ByteArray} {o1 o2 : Option Addr} {c1 c2 : Nat} (h1 : RTx w o1 ss) (h2 : RTx w o2 ss) (hl : ss.length ≤ 1000000) :
    Calls Try.prog 56 #[.slice o1 ss.length c1, .slice o2 ss.length c2] w fun e w' => e = .returned (.bool true) ∧ Below w.heap.size w w' := by
  have H0 := HA.start w
  go_enter Try.func56, Try.ntmps56
  refine wp_seq ?_
  refine wl_region ?_
  refine wl_val (.bool false) (by kernel_rfl) (by kernel_rfl) ?_
  refine wl_nil ?_
  refine then_at (F := ⟨(.slice o1 ss.length c1 :: .slice o2 ss.length c2 :: un :: un :: .bool false :: List.replicate 21 un).toArray, []⟩) (by kernel_rfl) ?_
  refine wp_seq ?_
  refine wp_seq ?_
  refine wl_region ?_
  refine wl_val (.slice o1 ss.length c1) (by kernel_rfl) (by kernel_rfl) ?_
  refine wl_val (iN .i64 ss.length) (by kernel_rfl) (by kernel_rfl) ?_
  refine wl_val (.slice o2 ss.length c2) (by kernel_rfl) (by kernel_rfl) ?_
  refine wl_val (iN .i64 ss.length) (by kernel_rfl) (by kernel_rfl) ?_
  refine wl_val (.bool false) (by kernel_rfl) (run_nei (k := .i64) (a := ss.length) (b := ss.length) (by kernel_rfl) (by kernel_rfl) false (by simp)) ?_
  refine wl_nil ?_
  refine then_at (F := ⟨(.slice o1 ss.length c1 :: .slice o2 ss.length c2 :: un :: un :: .bool false :: un :: .slice o1 ss.length c1 :: iN .i64 ss.length :: .slice o2 ss.length c2 :: iN .i64 ss.length :: .bool false :: List.replicate 15 un).toArray, []⟩) (by kernel_rfl) ?_
  refine wp_cond_false (by kernel_rfl) ?_
  refine wp_skip ?_
  refine then_at (F := ⟨(.slice o1 ss.length c1 :: .slice o2 ss.length c2 :: un :: un :: .bool false :: un :: .slice o1 ss.length c1 :: iN .i64 ss.length :: .slice o2 ss.length c2 :: iN .i64 ss.length :: .bool false :: List.replicate 15 un).toArray, []⟩) (by kernel_rfl) ?_
  refine wp_seq ?_
  refine wp_seq ?_
  refine wl_region ?_
  refine wl_val (iN .i64 0) (by kernel_rfl) (by kernel_rfl) ?_
  refine wl_nil ?_
  refine then_at (F := ⟨(.slice o1 ss.length c1 :: .slice o2 ss.length c2 :: un :: un :: .bool false :: iN .i64 0 :: .slice o1 ss.length c1 :: iN .i64 ss.length :: .slice o2 ss.length c2 :: iN .i64 ss.length :: .bool false :: List.replicate 15 un).toArray, []⟩) (by kernel_rfl) ?_
  refine wp_block ?_
  refine wp_count (fun i A w' => ∃ u1 : Nat → Value, A = ⟨(.slice o1 ss.length c1 :: .slice o2 ss.length c2 :: un :: un :: u1 4 :: iN .i64 i :: .slice o1 ss.length c1 :: iN .i64 ss.length :: .slice o2 ss.length c2 :: iN .i64 ss.length :: .bool false :: u1 11 :: u1 12 :: u1 13 :: u1 14 :: u1 15 :: u1 16 :: u1 17 :: u1 18 :: u1 19 :: u1 20 :: u1 21 :: u1 22 :: u1 23 :: u1 24 :: u1 25 :: List.replicate 0 un).toArray, []⟩ ∧ HA (bs w) [] w') ss.length ?_ ?_ ?_
  · exact ⟨fun ii => (([(4, .bool false), (11, undef), (12, undef), (13, undef), (14, undef), (15, undef), (16, undef), (17, undef), (18, undef), (19, undef), (20, undef), (21, undef), (22, undef), (23, undef), (24, undef), (25, undef)] : List (Nat × Value)).find? (·.1 == ii)).elim undef (·.2), by kernel_rfl, H0⟩
  · rintro i hi _ w2 ⟨u1, rfl, h3⟩
    obtain ⟨g1, cu1, ho1, hb1, hc1⟩ := h1.resolve_left (fun e => by rw [e] at hi; cases hi)
    obtain ⟨g2, cu2, ho2, hb2, hc2⟩ := h2.resolve_left (fun e => by rw [e] at hi; cases hi)
    refine wp_seq ?_
    refine wp_seq ?_
    refine wl_region ?_
    refine wl_val (iN .i64 i) (by kernel_rfl) (by kernel_rfl) ?_
    refine wl_val (.slice o1 ss.length c1) (by kernel_rfl) (by kernel_rfl) ?_
    refine wl_val (iN .i64 ss.length) (by kernel_rfl) (by kernel_rfl) ?_
    refine wl_val (.bool true) (by kernel_rfl) (run_lss (k := .i64) (a := i) (b := ss.length) (by kernel_rfl) (by kernel_rfl) true (decide_eq_true (by omega))) ?_
    refine wl_nil ?_
    refine then_at (F := ⟨(.slice o1 ss.length c1 :: .slice o2 ss.length c2 :: un :: un :: u1 4 :: iN .i64 i :: .slice o1 ss.length c1 :: iN .i64 ss.length :: .slice o2 ss.length c2 :: iN .i64 ss.length :: .bool false :: iN .i64 i :: .slice o1 ss.length c1 :: iN .i64 ss.length :: .bool true :: u1 15 :: u1 16 :: u1 17 :: u1 18 :: u1 19 :: u1 20 :: u1 21 :: u1 22 :: u1 23 :: u1 24 :: u1 25 :: List.replicate 0 un).toArray, []⟩) (by kernel_rfl) ?_
    refine wp_cond_true (by kernel_rfl) ?_
    refine wp_skip ?_
    refine then_at (F := ⟨(.slice o1 ss.length c1 :: .slice o2 ss.length c2 :: un :: un :: u1 4 :: iN .i64 i :: .slice o1 ss.length c1 :: iN .i64 ss.length :: .slice o2 ss.length c2 :: iN .i64 ss.length :: .bool false :: iN .i64 i :: .slice o1 ss.length c1 :: iN .i64 ss.length :: .bool true :: u1 15 :: u1 16 :: u1 17 :: u1 18 :: u1 19 :: u1 20 :: u1 21 :: u1 22 :: u1 23 :: u1 24 :: u1 25 :: List.replicate 0 un).toArray, []⟩) (by kernel_rfl) ?_
    refine wp_seq ?_
    refine wp_block ?_
    refine wp_seq ?_
    refine wp_region_sure ⟨(.slice o1 ss.length c1 :: .slice o2 ss.length c2 :: un :: un :: u1 4 :: iN .i64 i :: .slice o1 ss.length c1 :: iN .i64 ss.length :: .slice o2 ss.length c2 :: iN .i64 ss.length :: .bool false :: iN .i64 i :: .slice o1 ss.length c1 :: iN .i64 ss.length :: .bool true :: u1 15 :: u1 16 :: .slice o1 ss.length c1 :: iN .i64 i :: .pointer (some ⟨g1, i, none⟩) :: .string (ss.getD i ByteArray.empty) :: .slice o2 ss.length c2 :: iN .i64 i :: .pointer (some ⟨g2, i, none⟩) :: .string (ss.getD i ByteArray.empty) :: .bool false :: List.replicate 0 un).toArray, []⟩ (HA (bs w) []) [.slice o1 ss.length c1, iN .i64 i, .pointer (some ⟨g1, i, none⟩), .string (ss.getD i ByteArray.empty), .slice o2 ss.length c2, iN .i64 i, .pointer (some ⟨g2, i, none⟩), .string (ss.getD i ByteArray.empty), .bool false] (by kernel_rfl) (by kernel_rfl) (by kernel_rfl) (by kernel_rfl) (fun _ _ _ h => h) h3.drew ?_ ?_
    · refine AllSure.cons (OpSure.take (v := .slice o1 ss.length c1) (by kernel_rfl) (by kernel_rfl) (fun _ _ => (by kernel_rfl))) ?_
      refine AllSure.cons (OpSure.take (v := iN .i64 i) (by kernel_rfl) (by kernel_rfl) (fun _ _ => (by kernel_rfl))) ?_
      refine AllSure.cons (OpSure.take (v := .pointer (some ⟨g1, i, none⟩)) (by kernel_rfl) (by kernel_rfl) (fun _ _ => (run_addr50p (q := g1) (n := ss.length) (m := c1) (a := i) ho1 (by kernel_rfl) (by kernel_rfl) hi))) ?_
      refine AllSure.cons (OpSure.take (v := .string (ss.getD i ByteArray.empty)) (by kernel_rfl) (by kernel_rfl) (fun w' h' => run_load1 (fun w => Try.isAgg9 w) (by kernel_rfl) (((hb1.keep h'.old.old).cell i).trans (hc1 i hi)))) ?_
      refine AllSure.cons (OpSure.take (v := .slice o2 ss.length c2) (by kernel_rfl) (by kernel_rfl) (fun _ _ => (by kernel_rfl))) ?_
      refine AllSure.cons (OpSure.take (v := iN .i64 i) (by kernel_rfl) (by kernel_rfl) (fun _ _ => (by kernel_rfl))) ?_
      refine AllSure.cons (OpSure.take (v := .pointer (some ⟨g2, i, none⟩)) (by kernel_rfl) (by kernel_rfl) (fun _ _ => (run_addr50p (q := g2) (n := ss.length) (m := c2) (a := i) ho2 (by kernel_rfl) (by kernel_rfl) hi))) ?_
      refine AllSure.cons (OpSure.take (v := .string (ss.getD i ByteArray.empty)) (by kernel_rfl) (by kernel_rfl) (fun w' h' => run_load1 (fun w => Try.isAgg9 w) (by kernel_rfl) (((hb2.keep h'.old.old).cell i).trans (hc2 i hi)))) ?_
      refine AllSure.cons (OpSure.take (v := .bool false) (by kernel_rfl) (by kernel_rfl) (fun _ _ => (run_nes (s := ss.getD i ByteArray.empty) (t := ss.getD i ByteArray.empty) (by kernel_rfl) (by kernel_rfl) false (decide_eq_true rfl)))) ?_
      exact AllSure.nil
    intro w4 h5
    refine then_at (F := ⟨(.slice o1 ss.length c1 :: .slice o2 ss.length c2 :: un :: un :: u1 4 :: iN .i64 i :: .slice o1 ss.length c1 :: iN .i64 ss.length :: .slice o2 ss.length c2 :: iN .i64 ss.length :: .bool false :: iN .i64 i :: .slice o1 ss.length c1 :: iN .i64 ss.length :: .bool true :: u1 15 :: u1 16 :: .slice o1 ss.length c1 :: iN .i64 i :: .pointer (some ⟨g1, i, none⟩) :: .string (ss.getD i ByteArray.empty) :: .slice o2 ss.length c2 :: iN .i64 i :: .pointer (some ⟨g2, i, none⟩) :: .string (ss.getD i ByteArray.empty) :: .bool false :: List.replicate 0 un).toArray, []⟩) (by kernel_rfl) ?_
    refine wp_cond_false (by kernel_rfl) ?_
    refine wp_skip ?_
    refine block_normal ?_
    refine then_at (F := ⟨(.slice o1 ss.length c1 :: .slice o2 ss.length c2 :: un :: un :: u1 4 :: iN .i64 i :: .slice o1 ss.length c1 :: iN .i64 ss.length :: .slice o2 ss.length c2 :: iN .i64 ss.length :: .bool false :: iN .i64 i :: .slice o1 ss.length c1 :: iN .i64 ss.length :: .bool true :: u1 15 :: u1 16 :: .slice o1 ss.length c1 :: iN .i64 i :: .pointer (some ⟨g1, i, none⟩) :: .string (ss.getD i ByteArray.empty) :: .slice o2 ss.length c2 :: iN .i64 i :: .pointer (some ⟨g2, i, none⟩) :: .string (ss.getD i ByteArray.empty) :: .bool false :: List.replicate 0 un).toArray, []⟩) (by kernel_rfl) ?_
    refine wl_region ?_
    refine wl_val (iN .i64 i) (by kernel_rfl) (by kernel_rfl) ?_
    refine wl_val (iN .i64 (i + 1)) (by kernel_rfl) (run_add (k := .i64) (a := i) (b := 1) (by kernel_rfl) (by kernel_rfl) (by first | omega | (simp only [top]; omega))) ?_
    refine wl_val (iN .i64 (i + 1)) (by kernel_rfl) (by kernel_rfl) ?_
    refine wl_nil ?_
    exact then_I ⟨fun ii => (([(4, u1 4), (11, iN .i64 i), (12, .slice o1 ss.length c1), (13, iN .i64 ss.length), (14, .bool true), (15, iN .i64 i), (16, iN .i64 (i + 1)), (17, .slice o1 ss.length c1), (18, iN .i64 i), (19, .pointer (some ⟨g1, i, none⟩)), (20, .string (ss.getD i ByteArray.empty)), (21, .slice o2 ss.length c2), (22, iN .i64 i), (23, .pointer (some ⟨g2, i, none⟩)), (24, .string (ss.getD i ByteArray.empty)), (25, .bool false)] : List (Nat × Value)).find? (·.1 == ii)).elim undef (·.2), by kernel_rfl, h5⟩
  · rintro _ w6 ⟨u1, rfl, h7⟩
    refine wp_seq ?_
    refine wp_seq ?_
    refine wl_region ?_
    refine wl_val (iN .i64 ss.length) (by kernel_rfl) (by kernel_rfl) ?_
    refine wl_val (.slice o1 ss.length c1) (by kernel_rfl) (by kernel_rfl) ?_
    refine wl_val (iN .i64 ss.length) (by kernel_rfl) (by kernel_rfl) ?_
    refine wl_val (.bool false) (by kernel_rfl) (run_lss (k := .i64) (a := ss.length) (b := ss.length) (by kernel_rfl) (by kernel_rfl) false (decide_eq_false (by omega))) ?_
    refine wl_nil ?_
    refine then_at (F := ⟨(.slice o1 ss.length c1 :: .slice o2 ss.length c2 :: un :: un :: u1 4 :: iN .i64 ss.length :: .slice o1 ss.length c1 :: iN .i64 ss.length :: .slice o2 ss.length c2 :: iN .i64 ss.length :: .bool false :: iN .i64 ss.length :: .slice o1 ss.length c1 :: iN .i64 ss.length :: .bool false :: u1 15 :: u1 16 :: u1 17 :: u1 18 :: u1 19 :: u1 20 :: u1 21 :: u1 22 :: u1 23 :: u1 24 :: u1 25 :: List.replicate 0 un).toArray, []⟩) (by kernel_rfl) ?_
    refine wp_cond_false (by kernel_rfl) ?_
    refine wp_exit ?_
    repeat first | refine then_exit ?_ | refine block_exit ?_ | refine block_exit_ne (by decide) ?_
    refine then_at (F := ⟨(.slice o1 ss.length c1 :: .slice o2 ss.length c2 :: un :: un :: u1 4 :: iN .i64 ss.length :: .slice o1 ss.length c1 :: iN .i64 ss.length :: .slice o2 ss.length c2 :: iN .i64 ss.length :: .bool false :: iN .i64 ss.length :: .slice o1 ss.length c1 :: iN .i64 ss.length :: .bool false :: u1 15 :: u1 16 :: u1 17 :: u1 18 :: u1 19 :: u1 20 :: u1 21 :: u1 22 :: u1 23 :: u1 24 :: u1 25 :: List.replicate 0 un).toArray, []⟩) (by kernel_rfl) ?_
    refine wp_seq ?_
    refine wl_region ?_
    refine wl_val (.bool true) (by kernel_rfl) (by kernel_rfl) ?_
    refine wl_nil ?_
    refine then_at (F := ⟨(.slice o1 ss.length c1 :: .slice o2 ss.length c2 :: un :: un :: .bool true :: iN .i64 ss.length :: .slice o1 ss.length c1 :: iN .i64 ss.length :: .slice o2 ss.length c2 :: iN .i64 ss.length :: .bool false :: iN .i64 ss.length :: .slice o1 ss.length c1 :: iN .i64 ss.length :: .bool false :: u1 15 :: u1 16 :: u1 17 :: u1 18 :: u1 19 :: u1 20 :: u1 21 :: u1 22 :: u1 23 :: u1 24 :: u1 25 :: List.replicate 0 un).toArray, []⟩) (by kernel_rfl) ?_
    refine wp_ret ?_
    repeat first | refine then_ret ?_ | refine block_ret ?_
    exact bodyPost_ret (v := .bool true) (by kernel_rfl) rfl ⟨rfl, h7.old.old⟩
end Go.Proofs.Ytjedhnjjgmbcbaa
