/-
  The reference's gate, Name, Arm, New.
-/
import Derived.Test.YtjedhnjjgmbcbaaRM
namespace Go.Proofs.Ytjedhnjjgmbcbaa
open Go.RowKit

section
variable {P : Program} {ops : Array Oper} {S : World → Prop} {J : Act → World → Prop} {n : Nat} {l lp : List Nat} {a : Act} {w : World} {z : Base} {L : BL} {i : Nat}
theorem ex_skipS {o : Oper} (ho : ops.toList[i]? = some o) (hw : Region.wanted o (yielded ops a.tmps) = true) (H : HA z L w)
    (h : ∀ w1, HA z L w1 → ∃ w', (execOp a.eval o).run P w1 = .ok .skip w' ∧ S w' ∧ WXS P ops J n S (i :: l) lp (a.put o.dst undef) w') : EX P ops J n S l lp i a w := ⟨fun x hx => by
  rw [lget ho] at hx
  cases hx
  refine ⟨hw, fun w1 hb1 _ => ?_⟩
  obtain ⟨w', hr, hS', hK⟩ := h w1 (HA.keep _ _ H hb1)
  unfold Oper.wp
  rw [hr]
  exact ⟨⟨_, rfl⟩, S, .inr rfl, hS', hK.go⟩⟩
end
set_option linter.unusedVariables false in
set_option maxRecDepth 100000 in
set_option maxHeartbeats 2000000 in
theorem gate_d {w : World} {rm lf nf cf nz cz : Nat} {pf pz : Option Addr} :
    Calls Try.prog 36 #[.agg #[iN .i64 rm, .slice pf nf cf, .bool true, iN .i64 lf, .slice pz nz cz]] w fun e w' => e = .returned (.tuple #[.agg #[iN .i64 rm, .slice pf nf cf, .bool true, iN .i64 lf, .slice pz nz cz], .bool false]) ∧ Below w.heap.size w w' := by
  have H0 := HA.start w
  go_enter Try.func36, Try.ntmps36
  refine wp_seq ?_
  refine wl_region ?_
  refine wl_make (c := #[iN .i64 rm, .slice pf nf cf, .bool true, iN .i64 lf, .slice pz nz cz]) H0 28 (by kernel_rfl) (by kernel_rfl) ?_
  intro q1 w2 (h3 : HA (bs w) [(q1, 28, #[iN .i64 rm, .slice pf nf cf, .bool true, iN .i64 lf, .slice pz nz cz])] w2)
  refine wl_make (c := #[iN .i64 0, .slice none 0 0, .bool false, iN .i64 0, .slice none 0 0]) h3 28 (by kernel_rfl) (by kernel_rfl) ?_
  intro q4 w5 (h6 : HA (bs w) [(q4, 28, #[iN .i64 0, .slice none 0 0, .bool false, iN .i64 0, .slice none 0 0]), (q1, 28, #[iN .i64 rm, .slice pf nf cf, .bool true, iN .i64 lf, .slice pz nz cz])] w5)
  refine wl_val (.bool false) (by kernel_rfl) (by kernel_rfl) ?_
  refine wl_nil ?_
  refine then_at rfl ?_
  refine wp_seq ?_
  refine wp_seq ?_
  refine wl_region ?_
  refine wl_val (.pointer (some ⟨q1, 2, none⟩)) (by kernel_rfl) (by kernel_rfl) ?_
  refine wl_val (.bool true) (by kernel_rfl) (run_load1 (fun w => Try.isAgg4 w) (by kernel_rfl) (((h6.get 1 rfl).cell 2).trans rfl)) ?_
  refine wl_nil ?_
  refine then_at rfl ?_
  refine wp_cond_true (by kernel_rfl) ?_
  refine wp_seq ?_
  refine wl_region ?_
  refine wl_load h6 1 rfl (by kernel_rfl) (by kernel_rfl) Try.underlying28 rfl (by kernel_rfl) ?_
  refine wl_fill (c' := #[iN .i64 rm, .slice pf nf cf, .bool true, iN .i64 lf, .slice pz nz cz]) h6 0 rfl (by kernel_rfl) (by kernel_rfl) (by kernel_rfl) rfl (by kernel_rfl) (by kernel_rfl) ?_
  intro w7 (h8 : HA (bs w) [(q4, 28, #[iN .i64 rm, .slice pf nf cf, .bool true, iN .i64 lf, .slice pz nz cz]), (q1, 28, #[iN .i64 rm, .slice pf nf cf, .bool true, iN .i64 lf, .slice pz nz cz])] w7)
  refine wl_val (.bool false) (by kernel_rfl) (by kernel_rfl) ?_
  refine wl_nil ?_
  refine then_at rfl ?_
  refine wp_ret ?_
  repeat first | refine then_ret ?_ | refine block_ret ?_
  exact bodyPost_ret (v := .tuple #[.agg (#[iN .i64 rm, .slice pf nf cf, .bool true, iN .i64 lf, .slice pz nz cz]), .bool false]) (res_cell_tmp (p := 2) (r := 3) (by kernel_rfl) (by kernel_rfl) (by kernel_rfl) (h8.get 0 rfl) Try.underlying28 rfl (by kernel_rfl)) rfl ⟨rfl, h8.old.old⟩
set_option linter.unusedVariables false in
set_option maxRecDepth 100000 in
set_option maxHeartbeats 2000000 in
theorem gate_0 {w : World} {rm lf nf cf nz cz : Nat} {pf pz : Option Addr} (hl : lf = 0) :
    Calls Try.prog 36 #[.agg #[iN .i64 rm, .slice pf nf cf, .bool false, iN .i64 lf, .slice pz nz cz]] w fun e w' => e = .returned (.tuple #[.agg #[iN .i64 rm, .slice pf nf cf, .bool false, iN .i64 lf, .slice pz nz cz], .bool true]) ∧ Below w.heap.size w w' := by
  have H0 := HA.start w
  go_enter Try.func36, Try.ntmps36
  refine wp_seq ?_
  refine wl_region ?_
  refine wl_make (c := #[iN .i64 rm, .slice pf nf cf, .bool false, iN .i64 lf, .slice pz nz cz]) H0 28 (by kernel_rfl) (by kernel_rfl) ?_
  intro q1 w2 (h3 : HA (bs w) [(q1, 28, #[iN .i64 rm, .slice pf nf cf, .bool false, iN .i64 lf, .slice pz nz cz])] w2)
  refine wl_make (c := #[iN .i64 0, .slice none 0 0, .bool false, iN .i64 0, .slice none 0 0]) h3 28 (by kernel_rfl) (by kernel_rfl) ?_
  intro q4 w5 (h6 : HA (bs w) [(q4, 28, #[iN .i64 0, .slice none 0 0, .bool false, iN .i64 0, .slice none 0 0]), (q1, 28, #[iN .i64 rm, .slice pf nf cf, .bool false, iN .i64 lf, .slice pz nz cz])] w5)
  refine wl_val (.bool false) (by kernel_rfl) (by kernel_rfl) ?_
  refine wl_nil ?_
  refine then_at rfl ?_
  refine wp_seq ?_
  refine wp_seq ?_
  refine wl_region ?_
  refine wl_val (.pointer (some ⟨q1, 2, none⟩)) (by kernel_rfl) (by kernel_rfl) ?_
  refine wl_val (.bool false) (by kernel_rfl) (run_load1 (fun w => Try.isAgg4 w) (by kernel_rfl) (((h6.get 1 rfl).cell 2).trans rfl)) ?_
  refine wl_nil ?_
  refine then_at rfl ?_
  refine wp_cond_false (by kernel_rfl) ?_
  refine wp_skip ?_
  refine then_at rfl ?_
  refine wp_seq ?_
  refine wp_seq ?_
  refine wl_region ?_
  refine wl_val (.pointer (some ⟨q1, 3, none⟩)) (by kernel_rfl) (by kernel_rfl) ?_
  refine wl_val (iN .i64 lf) (by kernel_rfl) (run_load1 (fun w => Try.isAgg3 w) (by kernel_rfl) (((h6.get 1 rfl).cell 3).trans rfl)) ?_
  refine wl_val (.bool true) (by kernel_rfl) (run_eqi (k := .i64) (a := lf) (b := 0) (by kernel_rfl) (by kernel_rfl) true (decide_eq_true hl)) ?_
  refine wl_nil ?_
  refine then_at rfl ?_
  refine wp_cond_true (by kernel_rfl) ?_
  refine wp_seq ?_
  refine wl_region ?_
  refine wl_load h6 1 rfl (by kernel_rfl) (by kernel_rfl) Try.underlying28 rfl (by kernel_rfl) ?_
  refine wl_fill (c' := #[iN .i64 rm, .slice pf nf cf, .bool false, iN .i64 lf, .slice pz nz cz]) h6 0 rfl (by kernel_rfl) (by kernel_rfl) (by kernel_rfl) rfl (by kernel_rfl) (by kernel_rfl) ?_
  intro w7 (h8 : HA (bs w) [(q4, 28, #[iN .i64 rm, .slice pf nf cf, .bool false, iN .i64 lf, .slice pz nz cz]), (q1, 28, #[iN .i64 rm, .slice pf nf cf, .bool false, iN .i64 lf, .slice pz nz cz])] w7)
  refine wl_val (.bool true) (by kernel_rfl) (by kernel_rfl) ?_
  refine wl_nil ?_
  refine then_at rfl ?_
  refine wp_ret ?_
  repeat first | refine then_ret ?_ | refine block_ret ?_
  exact bodyPost_ret (v := .tuple #[.agg (#[iN .i64 rm, .slice pf nf cf, .bool false, iN .i64 lf, .slice pz nz cz]), .bool true]) (res_cell_tmp (p := 2) (r := 3) (by kernel_rfl) (by kernel_rfl) (by kernel_rfl) (h8.get 0 rfl) Try.underlying28 rfl (by kernel_rfl)) rfl ⟨rfl, h8.old.old⟩
set_option linter.unusedVariables false in
set_option maxRecDepth 100000 in
set_option maxHeartbeats 2000000 in
theorem gate_1 {w : World} {rm lf nf cf nz cz : Nat} {pf pz : Option Addr} (hl : lf = 1) :
    Calls Try.prog 36 #[.agg #[iN .i64 rm, .slice pf nf cf, .bool false, iN .i64 lf, .slice pz nz cz]] w fun e w' => e = .returned (.tuple #[.agg #[iN .i64 rm, .slice pf nf cf, .bool true, iN .i64 ((lf - 1)), .slice pz nz cz], .bool false]) ∧ Below w.heap.size w w' := by
  have H0 := HA.start w
  go_enter Try.func36, Try.ntmps36
  refine wp_seq ?_
  refine wl_region ?_
  refine wl_make (c := #[iN .i64 rm, .slice pf nf cf, .bool false, iN .i64 lf, .slice pz nz cz]) H0 28 (by kernel_rfl) (by kernel_rfl) ?_
  intro q1 w2 (h3 : HA (bs w) [(q1, 28, #[iN .i64 rm, .slice pf nf cf, .bool false, iN .i64 lf, .slice pz nz cz])] w2)
  refine wl_make (c := #[iN .i64 0, .slice none 0 0, .bool false, iN .i64 0, .slice none 0 0]) h3 28 (by kernel_rfl) (by kernel_rfl) ?_
  intro q4 w5 (h6 : HA (bs w) [(q4, 28, #[iN .i64 0, .slice none 0 0, .bool false, iN .i64 0, .slice none 0 0]), (q1, 28, #[iN .i64 rm, .slice pf nf cf, .bool false, iN .i64 lf, .slice pz nz cz])] w5)
  refine wl_val (.bool false) (by kernel_rfl) (by kernel_rfl) ?_
  refine wl_nil ?_
  refine then_at rfl ?_
  refine wp_seq ?_
  refine wp_seq ?_
  refine wl_region ?_
  refine wl_val (.pointer (some ⟨q1, 2, none⟩)) (by kernel_rfl) (by kernel_rfl) ?_
  refine wl_val (.bool false) (by kernel_rfl) (run_load1 (fun w => Try.isAgg4 w) (by kernel_rfl) (((h6.get 1 rfl).cell 2).trans rfl)) ?_
  refine wl_nil ?_
  refine then_at rfl ?_
  refine wp_cond_false (by kernel_rfl) ?_
  refine wp_skip ?_
  refine then_at rfl ?_
  refine wp_seq ?_
  refine wp_seq ?_
  refine wl_region ?_
  refine wl_val (.pointer (some ⟨q1, 3, none⟩)) (by kernel_rfl) (by kernel_rfl) ?_
  refine wl_val (iN .i64 lf) (by kernel_rfl) (run_load1 (fun w => Try.isAgg3 w) (by kernel_rfl) (((h6.get 1 rfl).cell 3).trans rfl)) ?_
  refine wl_val (.bool false) (by kernel_rfl) (run_eqi (k := .i64) (a := lf) (b := 0) (by kernel_rfl) (by kernel_rfl) false (decide_eq_false (by omega))) ?_
  refine wl_nil ?_
  refine then_at rfl ?_
  refine wp_cond_false (by kernel_rfl) ?_
  refine wp_skip ?_
  refine then_at rfl ?_
  refine wp_seq ?_
  refine wl_region ?_
  refine wl_val (.pointer (some ⟨q1, 3, none⟩)) (by kernel_rfl) (by kernel_rfl) ?_
  refine wl_val (iN .i64 lf) (by kernel_rfl) (run_load1 (fun w => Try.isAgg3 w) (by kernel_rfl) (((h6.get 1 rfl).cell 3).trans rfl)) ?_
  refine wl_val (iN .i64 (lf - 1)) (by kernel_rfl) (run_sub (k := .i64) (a := lf) (b := 1) (by kernel_rfl) (by kernel_rfl) (by first | omega | (simp only [top]; omega)) (by first | omega | (simp only [top]; omega))) ?_
  refine wl_val (.pointer (some ⟨q1, 3, none⟩)) (by kernel_rfl) (by kernel_rfl) ?_
  refine wl_putv (v := iN .i64 (lf - 1)) h6 1 rfl 3 (by show 3 < 5; decide) (by kernel_rfl) (fun w => Try.sizeOf3 w) (by kernel_rfl) (by kernel_rfl) (by kernel_rfl) ?_
  intro w7 (h8 : HA (bs w) [(q4, 28, #[iN .i64 0, .slice none 0 0, .bool false, iN .i64 0, .slice none 0 0]), (q1, 28, #[iN .i64 rm, .slice pf nf cf, .bool false, iN .i64 (lf - 1), .slice pz nz cz])] w7)
  refine wl_nil ?_
  refine then_at (F := ⟨(.agg #[iN .i64 rm, .slice pf nf cf, .bool false, iN .i64 lf, .slice pz nz cz] :: pt q1 :: pt q4 :: .bool false :: .pointer (some ⟨q1, 2, none⟩) :: .bool false :: un :: .pointer (some ⟨q1, 3, none⟩) :: iN .i64 lf :: .bool false :: un :: .pointer (some ⟨q1, 3, none⟩) :: iN .i64 lf :: iN .i64 (lf - 1) :: .pointer (some ⟨q1, 3, none⟩) :: List.replicate 8 un).toArray, []⟩) (by kernel_rfl) ?_
  refine wp_seq ?_
  refine wp_seq ?_
  refine wl_region ?_
  refine wl_val (.pointer (some ⟨q1, 3, none⟩)) (by kernel_rfl) (by kernel_rfl) ?_
  refine wl_val (iN .i64 (lf - 1)) (by kernel_rfl) (run_load1 (fun w => Try.isAgg3 w) (by kernel_rfl) (((h8.get 1 rfl).cell 3).trans rfl)) ?_
  refine wl_val (.bool true) (by kernel_rfl) (run_eqi (k := .i64) (a := lf - 1) (b := 0) (by kernel_rfl) (by kernel_rfl) true (decide_eq_true (by omega))) ?_
  refine wl_nil ?_
  refine then_at rfl ?_
  refine wp_cond_true (by kernel_rfl) ?_
  refine wl_region ?_
  refine wl_val (.pointer (some ⟨q1, 2, none⟩)) (by kernel_rfl) (by kernel_rfl) ?_
  refine wl_putv (v := .bool true) h8 1 rfl 2 (by show 2 < 5; decide) (by kernel_rfl) (fun w => Try.sizeOf4 w) (by kernel_rfl) (by kernel_rfl) (by kernel_rfl) ?_
  intro w9 (h10 : HA (bs w) [(q4, 28, #[iN .i64 0, .slice none 0 0, .bool false, iN .i64 0, .slice none 0 0]), (q1, 28, #[iN .i64 rm, .slice pf nf cf, .bool true, iN .i64 (lf - 1), .slice pz nz cz])] w9)
  refine wl_nil ?_
  refine then_at rfl ?_
  refine wp_seq ?_
  refine wp_region_wx (HA (bs w) [(q1, 28, #[iN .i64 rm, .slice pf nf cf, .bool true, iN .i64 (lf - 1), .slice pz nz cz])]) (fun AQ w' => AQ = ⟨(.agg #[iN .i64 rm, .slice pf nf cf, .bool false, iN .i64 lf, .slice pz nz cz] :: pt q1 :: pt q4 :: .bool false :: .pointer (some ⟨q1, 2, none⟩) :: .bool false :: un :: .pointer (some ⟨q1, 3, none⟩) :: iN .i64 lf :: .bool false :: un :: .pointer (some ⟨q1, 3, none⟩) :: iN .i64 lf :: iN .i64 (lf - 1) :: .pointer (some ⟨q1, 3, none⟩) :: .pointer (some ⟨q1, 3, none⟩) :: iN .i64 (lf - 1) :: .bool true :: .pointer (some ⟨q1, 2, none⟩) :: .agg (#[iN .i64 rm, .slice pf nf cf, .bool true, iN .i64 (lf - 1), .slice pz nz cz]) :: .pointer (some ⟨q1, 2, none⟩) :: .bool true :: .bool false :: List.replicate 0 un).toArray, []⟩ ∧ HA (bs w) [(q4, 28, #[iN .i64 rm, .slice pf nf cf, .bool true, iN .i64 (lf - 1), .slice pz nz cz]), (q1, 28, #[iN .i64 rm, .slice pf nf cf, .bool true, iN .i64 (lf - 1), .slice pz nz cz])] w') 6 (by kernel_rfl) (by kernel_rfl) (by kernel_rfl) (by kernel_rfl) (by kernel_rfl) (h10.drew.sub (List.Sublist.cons _ (List.Sublist.cons_cons _ (List.Sublist.refl _)))) ?_ ?_
  · have h11 := h10.drew
    refine wx_val (i := 0) (.agg (#[iN .i64 rm, .slice pf nf cf, .bool true, iN .i64 (lf - 1), .slice pz nz cz])) rfl rfl (by kernel_rfl) (by kernel_rfl) (fun w' h' => run_load_blk (by kernel_rfl) (h'.get 0 rfl) Try.underlying28 rfl (by kernel_rfl)) ?_
    refine wx_pure (i := 1) (.pointer (some ⟨q1, 2, none⟩)) rfl rfl (by kernel_rfl) (by kernel_rfl) (fun _ => (by kernel_rfl)) ?_
    refine wx_val (i := 2) (.bool true) rfl rfl (by kernel_rfl) (by kernel_rfl) (fun w' h' => run_load1 (fun w => Try.isAgg4 w) (by kernel_rfl) (((h'.get 0 rfl).cell 2).trans rfl)) ?_
    refine wx_pure (i := 3) (.bool false) rfl rfl (by kernel_rfl) (by kernel_rfl) (fun _ => (by kernel_rfl)) ?_
    refine wx_one 4 (by kernel_rfl) ?_
    refine ex_skipS rfl (by kernel_rfl) h11 fun w12 h13 => ⟨_, run_store_blk (c' := #[iN .i64 rm, .slice pf nf cf, .bool true, iN .i64 (lf - 1), .slice pz nz cz]) (by kernel_rfl) (by kernel_rfl) (h13.get 0 rfl) rfl (by kernel_rfl) (by kernel_rfl), (h13.fill 0 rfl (c' := #[iN .i64 rm, .slice pf nf cf, .bool true, iN .i64 (lf - 1), .slice pz nz cz]) rfl).sub (List.Sublist.cons _ (List.Sublist.cons_cons _ (List.Sublist.refl _))), ?_⟩
    have h14 : HA (bs w) [(q4, 28, #[iN .i64 rm, .slice pf nf cf, .bool true, iN .i64 (lf - 1), .slice pz nz cz]), (q1, 28, #[iN .i64 rm, .slice pf nf cf, .bool true, iN .i64 (lf - 1), .slice pz nz cz])] _ := h13.fill 0 rfl (c' := #[iN .i64 rm, .slice pf nf cf, .bool true, iN .i64 (lf - 1), .slice pz nz cz]) rfl
    refine wx_pure (i := 5) (.bool false) rfl rfl (by kernel_rfl) (by kernel_rfl) (fun _ => (by kernel_rfl)) ?_
    refine wx_end fun w15 hbx _ => ?_
    have h16 := HA.keep _ _ h14 hbx
    exact ⟨by kernel_rfl, h16⟩
  · rintro _ w17 ⟨rfl, h18⟩
    refine then_at rfl ?_
    refine wp_ret ?_
    repeat first | refine then_ret ?_ | refine block_ret ?_
    exact bodyPost_ret (v := .tuple #[.agg (#[iN .i64 rm, .slice pf nf cf, .bool true, iN .i64 (lf - 1), .slice pz nz cz]), .bool false]) (res_cell_tmp (p := 2) (r := 3) (by kernel_rfl) (by kernel_rfl) (by kernel_rfl) (h18.get 0 rfl) Try.underlying28 rfl (by kernel_rfl)) rfl ⟨rfl, h18.old.old⟩
set_option linter.unusedVariables false in
set_option maxRecDepth 100000 in
set_option maxHeartbeats 2000000 in
theorem gate_n {w : World} {rm lf nf cf nz cz : Nat} {pf pz : Option Addr} (hl : 2 ≤ lf) (hb : lf ≤ 9223372036854775807) :
    Calls Try.prog 36 #[.agg #[iN .i64 rm, .slice pf nf cf, .bool false, iN .i64 lf, .slice pz nz cz]] w fun e w' => e = .returned (.tuple #[.agg #[iN .i64 rm, .slice pf nf cf, .bool false, iN .i64 ((lf - 1)), .slice pz nz cz], .bool true]) ∧ Below w.heap.size w w' := by
  have H0 := HA.start w
  go_enter Try.func36, Try.ntmps36
  refine wp_seq ?_
  refine wl_region ?_
  refine wl_make (c := #[iN .i64 rm, .slice pf nf cf, .bool false, iN .i64 lf, .slice pz nz cz]) H0 28 (by kernel_rfl) (by kernel_rfl) ?_
  intro q1 w2 (h3 : HA (bs w) [(q1, 28, #[iN .i64 rm, .slice pf nf cf, .bool false, iN .i64 lf, .slice pz nz cz])] w2)
  refine wl_make (c := #[iN .i64 0, .slice none 0 0, .bool false, iN .i64 0, .slice none 0 0]) h3 28 (by kernel_rfl) (by kernel_rfl) ?_
  intro q4 w5 (h6 : HA (bs w) [(q4, 28, #[iN .i64 0, .slice none 0 0, .bool false, iN .i64 0, .slice none 0 0]), (q1, 28, #[iN .i64 rm, .slice pf nf cf, .bool false, iN .i64 lf, .slice pz nz cz])] w5)
  refine wl_val (.bool false) (by kernel_rfl) (by kernel_rfl) ?_
  refine wl_nil ?_
  refine then_at rfl ?_
  refine wp_seq ?_
  refine wp_seq ?_
  refine wl_region ?_
  refine wl_val (.pointer (some ⟨q1, 2, none⟩)) (by kernel_rfl) (by kernel_rfl) ?_
  refine wl_val (.bool false) (by kernel_rfl) (run_load1 (fun w => Try.isAgg4 w) (by kernel_rfl) (((h6.get 1 rfl).cell 2).trans rfl)) ?_
  refine wl_nil ?_
  refine then_at rfl ?_
  refine wp_cond_false (by kernel_rfl) ?_
  refine wp_skip ?_
  refine then_at rfl ?_
  refine wp_seq ?_
  refine wp_seq ?_
  refine wl_region ?_
  refine wl_val (.pointer (some ⟨q1, 3, none⟩)) (by kernel_rfl) (by kernel_rfl) ?_
  refine wl_val (iN .i64 lf) (by kernel_rfl) (run_load1 (fun w => Try.isAgg3 w) (by kernel_rfl) (((h6.get 1 rfl).cell 3).trans rfl)) ?_
  refine wl_val (.bool false) (by kernel_rfl) (run_eqi (k := .i64) (a := lf) (b := 0) (by kernel_rfl) (by kernel_rfl) false (decide_eq_false (by omega))) ?_
  refine wl_nil ?_
  refine then_at rfl ?_
  refine wp_cond_false (by kernel_rfl) ?_
  refine wp_skip ?_
  refine then_at rfl ?_
  refine wp_seq ?_
  refine wl_region ?_
  refine wl_val (.pointer (some ⟨q1, 3, none⟩)) (by kernel_rfl) (by kernel_rfl) ?_
  refine wl_val (iN .i64 lf) (by kernel_rfl) (run_load1 (fun w => Try.isAgg3 w) (by kernel_rfl) (((h6.get 1 rfl).cell 3).trans rfl)) ?_
  refine wl_val (iN .i64 (lf - 1)) (by kernel_rfl) (run_sub (k := .i64) (a := lf) (b := 1) (by kernel_rfl) (by kernel_rfl) (by first | omega | (simp only [top]; omega)) (by first | omega | (simp only [top]; omega))) ?_
  refine wl_val (.pointer (some ⟨q1, 3, none⟩)) (by kernel_rfl) (by kernel_rfl) ?_
  refine wl_putv (v := iN .i64 (lf - 1)) h6 1 rfl 3 (by show 3 < 5; decide) (by kernel_rfl) (fun w => Try.sizeOf3 w) (by kernel_rfl) (by kernel_rfl) (by kernel_rfl) ?_
  intro w7 (h8 : HA (bs w) [(q4, 28, #[iN .i64 0, .slice none 0 0, .bool false, iN .i64 0, .slice none 0 0]), (q1, 28, #[iN .i64 rm, .slice pf nf cf, .bool false, iN .i64 (lf - 1), .slice pz nz cz])] w7)
  refine wl_nil ?_
  refine then_at (F := ⟨(.agg #[iN .i64 rm, .slice pf nf cf, .bool false, iN .i64 lf, .slice pz nz cz] :: pt q1 :: pt q4 :: .bool false :: .pointer (some ⟨q1, 2, none⟩) :: .bool false :: un :: .pointer (some ⟨q1, 3, none⟩) :: iN .i64 lf :: .bool false :: un :: .pointer (some ⟨q1, 3, none⟩) :: iN .i64 lf :: iN .i64 (lf - 1) :: .pointer (some ⟨q1, 3, none⟩) :: List.replicate 8 un).toArray, []⟩) (by kernel_rfl) ?_
  refine wp_seq ?_
  refine wp_seq ?_
  refine wl_region ?_
  refine wl_val (.pointer (some ⟨q1, 3, none⟩)) (by kernel_rfl) (by kernel_rfl) ?_
  refine wl_val (iN .i64 (lf - 1)) (by kernel_rfl) (run_load1 (fun w => Try.isAgg3 w) (by kernel_rfl) (((h8.get 1 rfl).cell 3).trans rfl)) ?_
  refine wl_val (.bool false) (by kernel_rfl) (run_eqi (k := .i64) (a := lf - 1) (b := 0) (by kernel_rfl) (by kernel_rfl) false (decide_eq_false (by omega))) ?_
  refine wl_nil ?_
  refine then_at rfl ?_
  refine wp_cond_false (by kernel_rfl) ?_
  refine wp_skip ?_
  refine then_at rfl ?_
  refine wp_seq ?_
  refine wp_region_wx (HA (bs w) [(q1, 28, #[iN .i64 rm, .slice pf nf cf, .bool false, iN .i64 (lf - 1), .slice pz nz cz])]) (fun AQ w' => AQ = ⟨(.agg #[iN .i64 rm, .slice pf nf cf, .bool false, iN .i64 lf, .slice pz nz cz] :: pt q1 :: pt q4 :: .bool true :: .pointer (some ⟨q1, 2, none⟩) :: .bool false :: un :: .pointer (some ⟨q1, 3, none⟩) :: iN .i64 lf :: .bool false :: un :: .pointer (some ⟨q1, 3, none⟩) :: iN .i64 lf :: iN .i64 (lf - 1) :: .pointer (some ⟨q1, 3, none⟩) :: .pointer (some ⟨q1, 3, none⟩) :: iN .i64 (lf - 1) :: .bool false :: un :: .agg (#[iN .i64 rm, .slice pf nf cf, .bool false, iN .i64 (lf - 1), .slice pz nz cz]) :: .pointer (some ⟨q1, 2, none⟩) :: .bool false :: .bool true :: List.replicate 0 un).toArray, []⟩ ∧ HA (bs w) [(q4, 28, #[iN .i64 rm, .slice pf nf cf, .bool false, iN .i64 (lf - 1), .slice pz nz cz]), (q1, 28, #[iN .i64 rm, .slice pf nf cf, .bool false, iN .i64 (lf - 1), .slice pz nz cz])] w') 6 (by kernel_rfl) (by kernel_rfl) (by kernel_rfl) (by kernel_rfl) (by kernel_rfl) (h8.drew.sub (List.Sublist.cons _ (List.Sublist.cons_cons _ (List.Sublist.refl _)))) ?_ ?_
  · have h9 := h8.drew
    refine wx_val (i := 0) (.agg (#[iN .i64 rm, .slice pf nf cf, .bool false, iN .i64 (lf - 1), .slice pz nz cz])) rfl rfl (by kernel_rfl) (by kernel_rfl) (fun w' h' => run_load_blk (by kernel_rfl) (h'.get 0 rfl) Try.underlying28 rfl (by kernel_rfl)) ?_
    refine wx_pure (i := 1) (.pointer (some ⟨q1, 2, none⟩)) rfl rfl (by kernel_rfl) (by kernel_rfl) (fun _ => (by kernel_rfl)) ?_
    refine wx_val (i := 2) (.bool false) rfl rfl (by kernel_rfl) (by kernel_rfl) (fun w' h' => run_load1 (fun w => Try.isAgg4 w) (by kernel_rfl) (((h'.get 0 rfl).cell 2).trans rfl)) ?_
    refine wx_pure (i := 3) (.bool true) rfl rfl (by kernel_rfl) (by kernel_rfl) (fun _ => (by kernel_rfl)) ?_
    refine wx_one 4 (by kernel_rfl) ?_
    refine ex_skipS rfl (by kernel_rfl) h9 fun w10 h11 => ⟨_, run_store_blk (c' := #[iN .i64 rm, .slice pf nf cf, .bool false, iN .i64 (lf - 1), .slice pz nz cz]) (by kernel_rfl) (by kernel_rfl) (h11.get 0 rfl) rfl (by kernel_rfl) (by kernel_rfl), (h11.fill 0 rfl (c' := #[iN .i64 rm, .slice pf nf cf, .bool false, iN .i64 (lf - 1), .slice pz nz cz]) rfl).sub (List.Sublist.cons _ (List.Sublist.cons_cons _ (List.Sublist.refl _))), ?_⟩
    have h12 : HA (bs w) [(q4, 28, #[iN .i64 rm, .slice pf nf cf, .bool false, iN .i64 (lf - 1), .slice pz nz cz]), (q1, 28, #[iN .i64 rm, .slice pf nf cf, .bool false, iN .i64 (lf - 1), .slice pz nz cz])] _ := h11.fill 0 rfl (c' := #[iN .i64 rm, .slice pf nf cf, .bool false, iN .i64 (lf - 1), .slice pz nz cz]) rfl
    refine wx_pure (i := 5) (.bool true) rfl rfl (by kernel_rfl) (by kernel_rfl) (fun _ => (by kernel_rfl)) ?_
    refine wx_end fun w13 hbx _ => ?_
    have h14 := HA.keep _ _ h12 hbx
    exact ⟨by kernel_rfl, h14⟩
  · rintro _ w15 ⟨rfl, h16⟩
    refine then_at rfl ?_
    refine wp_ret ?_
    repeat first | refine then_ret ?_ | refine block_ret ?_
    exact bodyPost_ret (v := .tuple #[.agg (#[iN .i64 rm, .slice pf nf cf, .bool false, iN .i64 (lf - 1), .slice pz nz cz]), .bool true]) (res_cell_tmp (p := 2) (r := 3) (by kernel_rfl) (by kernel_rfl) (by kernel_rfl) (h16.get 0 rfl) Try.underlying28 rfl (by kernel_rfl)) rfl ⟨rfl, h16.old.old⟩
set_option linter.unusedVariables false in
set_option maxRecDepth 100000 in
set_option maxHeartbeats 2000000 in
theorem rname_0 {w : World} {s : ByteArray} (hs : s.size = 0) :
    Calls Try.prog 37 #[.string s] w fun e w' => e = .returned (.bool false) ∧ Below w.heap.size w w' := by
  have H0 := HA.start w
  go_enter Try.func37, Try.ntmps37
  refine wp_seq ?_
  refine wl_region ?_
  refine wl_val (.bool false) (by kernel_rfl) (by kernel_rfl) ?_
  refine wl_nil ?_
  refine then_at rfl ?_
  refine wp_seq ?_
  refine wl_region ?_
  refine wl_val (.string s) (by kernel_rfl) (by kernel_rfl) ?_
  refine wl_val (iN .i64 s.size) (by kernel_rfl) (run_len (s := s) (by kernel_rfl)) ?_
  refine wl_val (.bool false) (by kernel_rfl) (run_geq (k := .i64) (a := s.size) (b := 1) (by kernel_rfl) (by kernel_rfl) false (decide_eq_false (by omega))) ?_
  refine wl_val (.bool false) (by kernel_rfl) (by kernel_rfl) ?_
  refine wl_skip (by kernel_rfl) ?_
  refine wl_skip (by kernel_rfl) ?_
  refine wl_skip (by kernel_rfl) ?_
  refine wl_val (.bool false) (by kernel_rfl) (by kernel_rfl) ?_
  refine wl_val (.bool false) (by kernel_rfl) (by kernel_rfl) ?_
  refine wl_nil ?_
  refine then_at rfl ?_
  refine wp_ret ?_
  repeat first | refine then_ret ?_ | refine block_ret ?_
  exact bodyPost_ret (v := .bool false) (by kernel_rfl) rfl ⟨rfl, H0.old.old⟩
set_option linter.unusedVariables false in
set_option maxRecDepth 100000 in
set_option maxHeartbeats 2000000 in
theorem rname_y {w : World} {s : ByteArray} (h1 : 1 ≤ s.size) (h2 : s.size ≤ 64) :
    Calls Try.prog 37 #[.string s] w fun e w' => e = .returned (.bool true) ∧ Below w.heap.size w w' := by
  have H0 := HA.start w
  go_enter Try.func37, Try.ntmps37
  refine wp_seq ?_
  refine wl_region ?_
  refine wl_val (.bool false) (by kernel_rfl) (by kernel_rfl) ?_
  refine wl_nil ?_
  refine then_at rfl ?_
  refine wp_seq ?_
  refine wl_region ?_
  refine wl_val (.string s) (by kernel_rfl) (by kernel_rfl) ?_
  refine wl_val (iN .i64 s.size) (by kernel_rfl) (run_len (s := s) (by kernel_rfl)) ?_
  refine wl_val (.bool true) (by kernel_rfl) (run_geq (k := .i64) (a := s.size) (b := 1) (by kernel_rfl) (by kernel_rfl) true (decide_eq_true (by omega))) ?_
  refine wl_val (.bool true) (by kernel_rfl) (by kernel_rfl) ?_
  refine wl_val (.string s) (by kernel_rfl) (by kernel_rfl) ?_
  refine wl_val (iN .i64 s.size) (by kernel_rfl) (run_len (s := s) (by kernel_rfl)) ?_
  refine wl_val (.bool true) (by kernel_rfl) (run_leq (k := .i64) (a := s.size) (b := 64) (by kernel_rfl) (by kernel_rfl) true (decide_eq_true (by omega))) ?_
  refine wl_val (.bool true) (by kernel_rfl) (by kernel_rfl) ?_
  refine wl_val (.bool true) (by kernel_rfl) (by kernel_rfl) ?_
  refine wl_nil ?_
  refine then_at rfl ?_
  refine wp_ret ?_
  repeat first | refine then_ret ?_ | refine block_ret ?_
  exact bodyPost_ret (v := .bool true) (by kernel_rfl) rfl ⟨rfl, H0.old.old⟩
set_option linter.unusedVariables false in
set_option maxRecDepth 100000 in
set_option maxHeartbeats 2000000 in
theorem rname_n {w : World} {s : ByteArray} (h2 : 64 < s.size) :
    Calls Try.prog 37 #[.string s] w fun e w' => e = .returned (.bool false) ∧ Below w.heap.size w w' := by
  have H0 := HA.start w
  go_enter Try.func37, Try.ntmps37
  refine wp_seq ?_
  refine wl_region ?_
  refine wl_val (.bool false) (by kernel_rfl) (by kernel_rfl) ?_
  refine wl_nil ?_
  refine then_at rfl ?_
  refine wp_seq ?_
  refine wl_region ?_
  refine wl_val (.string s) (by kernel_rfl) (by kernel_rfl) ?_
  refine wl_val (iN .i64 s.size) (by kernel_rfl) (run_len (s := s) (by kernel_rfl)) ?_
  refine wl_val (.bool true) (by kernel_rfl) (run_geq (k := .i64) (a := s.size) (b := 1) (by kernel_rfl) (by kernel_rfl) true (decide_eq_true (by omega))) ?_
  refine wl_val (.bool true) (by kernel_rfl) (by kernel_rfl) ?_
  refine wl_val (.string s) (by kernel_rfl) (by kernel_rfl) ?_
  refine wl_val (iN .i64 s.size) (by kernel_rfl) (run_len (s := s) (by kernel_rfl)) ?_
  refine wl_val (.bool false) (by kernel_rfl) (run_leq (k := .i64) (a := s.size) (b := 64) (by kernel_rfl) (by kernel_rfl) false (decide_eq_false (by omega))) ?_
  refine wl_val (.bool false) (by kernel_rfl) (by kernel_rfl) ?_
  refine wl_val (.bool false) (by kernel_rfl) (by kernel_rfl) ?_
  refine wl_nil ?_
  refine then_at rfl ?_
  refine wp_ret ?_
  repeat first | refine then_ret ?_ | refine block_ret ?_
  exact bodyPost_ret (v := .bool false) (by kernel_rfl) rfl ⟨rfl, H0.old.old⟩
theorem rname_any (w : World) (s : ByteArray) :
    Calls Try.prog 37 #[.string s] w fun e w' => e = .returned (.bool (decide (1 ≤ s.size ∧ s.size ≤ 64))) ∧ Below w.heap.size w w' := by
  by_cases h1 : 1 ≤ s.size
  · by_cases h2 : s.size ≤ 64
    · rw [decide_eq_true ⟨h1, h2⟩]; exact rname_y h1 h2
    · rw [decide_eq_false (fun h => h2 h.2)]; exact rname_n (by omega)
  · rw [decide_eq_false (fun h => h1 h.1)]; exact rname_0 (by omega)
end Go.Proofs.Ytjedhnjjgmbcbaa
