/-
  spend, operate, New, Arm.
-/
import Derived.Test.YtjedhnjjgmbcbaaD1
import Derived.Test.YtjedhnjjgmbcbaaSh
namespace Go.Proofs.Ytjedhnjjgmbcbaa
open Go.RowKit

theorem perm_mv (A B C : BL) : (A ++ (B ++ C)).Perm (B ++ (A ++ C)) := by
  rw [← List.append_assoc, ← List.append_assoc]
  exact List.perm_append_comm.append_right C
theorem Row.form {e : TypeId} {sz n : Nat} {v : Value} {xs : List Value} {Lr : BL} (h : Row e sz v n xs Lr) : ∃ p c, v = .slice p n c := by
  rcases h.2 with ⟨h1, h2, _⟩ | ⟨g, cap, cur, h1, _⟩
  · exact ⟨none, 0, by rw [h1, h2]⟩
  · exact ⟨_, _, h1⟩
theorem info3 : (Try.prog.info? 3).map (fun i => (i.zero, i.size, i.bytes)) = some (some (.int .i64 0), 1, 8) := by kernel_rfl
theorem run_maxz {ρ : Operand → Value} {x y : Operand} {w : World} {dst : Option Tmp} {ty : TypeId} {pos : String} {aft : Array Edge} {gd : Option (Nat × Bool)} {z : Int} (hx : ρ x = .int .i64 z) (hy : ρ y = iN .i64 0) : (execOp ρ ⟨dst, .call { callee := .builtin .max, args := #[x, y], argTypes := #[3, 3] }, ty, pos, aft, gd⟩).run Try.prog w = .ok (.value (iN .i64 z.toNat)) w := by
  simp only [execOp, iN] at hx hy ⊢
  go_simp
def spendD (D : DS) : DS := { D with left := D.left - 1, down := if D.left = 0 then D.down else decide (D.left = 1) }
set_option linter.unusedVariables false in
set_option maxRecDepth 100000 in
set_option maxHeartbeats 2000000 in
theorem spend_z {z : Base} {q r fr lf : Nat} {dn : Bool} {v : Value} {T : BL} {w : World} (H0 : HA z ((q, 61, dcell r fr lf dn v) :: T) w) (hl : lf = 0) :
    Calls Try.prog 62 #[pt q] w fun e w' => e = .returned (.tuple #[]) ∧ HA z ((q, 61, dcell r fr (lf - 1) (if lf = 0 then dn else decide (lf = 1)) v) :: T) w' := by
  go_enter Try.func62, Try.ntmps62
  refine wp_seq ?_
  refine wp_seq ?_
  refine wl_region ?_
  refine wl_val (.pointer (some ⟨q, 0, none⟩)) (by kernel_rfl) (by kernel_rfl) ?_
  refine wl_call (v := .bool false) H0 (by kernel_rfl) enter50 #[.pointer (some ⟨q, 0, none⟩)] (by kernel_rfl) (none_no (H0.get 0 rfl)) ?_
  intro w1 h2
  refine wl_val (.bool false) (by kernel_rfl) (by kernel_rfl) ?_
  refine wl_val (.pointer (some ⟨q, 0, none⟩)) (by kernel_rfl) (by kernel_rfl) ?_
  refine wl_val (.pointer (some ⟨q, 0, none⟩)) (by kernel_rfl) (by kernel_rfl) ?_
  refine wl_val (.pointer (some ⟨q, 2, none⟩)) (by kernel_rfl) (by kernel_rfl) ?_
  refine wl_val (iN .i64 lf) (by kernel_rfl) (run_load1 (fun w => Try.isAgg3 w) (by kernel_rfl) (((h2.get 0 rfl).cell 2).trans rfl)) ?_
  refine wl_val (.bool true) (by kernel_rfl) (run_eqi (k := .i64) (a := lf) (b := 0) (by kernel_rfl) (by kernel_rfl) true (decide_eq_true hl)) ?_
  refine wl_val (.bool true) (by kernel_rfl) (by kernel_rfl) ?_
  refine wl_nil ?_
  refine then_at (F := ⟨(pt q :: un :: pt q :: .bool false :: .bool false :: pt q :: pt q :: .pointer (some ⟨q, 2, none⟩) :: iN .i64 lf :: .bool true :: .bool true :: List.replicate 15 un).toArray, []⟩) (by kernel_rfl) ?_
  refine wp_cond_true (by kernel_rfl) ?_
  refine wp_ret ?_
  repeat first | refine then_ret ?_ | refine block_ret ?_
  exact bodyPost_ret (v := .tuple #[]) (by kernel_rfl) rfl ⟨rfl, by rw [if_pos hl, show lf - 1 = lf by omega]; exact h2⟩
set_option linter.unusedVariables false in
set_option maxRecDepth 100000 in
set_option maxHeartbeats 2000000 in
theorem spend_s {z : Base} {q r fr lf : Nat} {dn : Bool} {v : Value} {T : BL} {w : World} (H0 : HA z ((q, 61, dcell r fr lf dn v) :: T) w) (hl : ¬ lf = 0) (hb : lf ≤ 9223372036854775807) :
    Calls Try.prog 62 #[pt q] w fun e w' => e = .returned (.tuple #[]) ∧ HA z ((q, 61, dcell r fr (lf - 1) (if lf = 0 then dn else decide (lf = 1)) v) :: T) w' := by
  go_enter Try.func62, Try.ntmps62
  refine wp_seq ?_
  refine wp_seq ?_
  refine wl_region ?_
  refine wl_val (.pointer (some ⟨q, 0, none⟩)) (by kernel_rfl) (by kernel_rfl) ?_
  refine wl_call (v := .bool false) H0 (by kernel_rfl) enter50 #[.pointer (some ⟨q, 0, none⟩)] (by kernel_rfl) (none_no (H0.get 0 rfl)) ?_
  intro w1 h2
  refine wl_val (.bool false) (by kernel_rfl) (by kernel_rfl) ?_
  refine wl_val (.pointer (some ⟨q, 0, none⟩)) (by kernel_rfl) (by kernel_rfl) ?_
  refine wl_val (.pointer (some ⟨q, 0, none⟩)) (by kernel_rfl) (by kernel_rfl) ?_
  refine wl_val (.pointer (some ⟨q, 2, none⟩)) (by kernel_rfl) (by kernel_rfl) ?_
  refine wl_val (iN .i64 lf) (by kernel_rfl) (run_load1 (fun w => Try.isAgg3 w) (by kernel_rfl) (((h2.get 0 rfl).cell 2).trans rfl)) ?_
  refine wl_val (.bool false) (by kernel_rfl) (run_eqi (k := .i64) (a := lf) (b := 0) (by kernel_rfl) (by kernel_rfl) false (decide_eq_false hl)) ?_
  refine wl_val (.bool false) (by kernel_rfl) (by kernel_rfl) ?_
  refine wl_nil ?_
  refine then_at (F := ⟨(pt q :: un :: pt q :: .bool false :: .bool false :: pt q :: pt q :: .pointer (some ⟨q, 2, none⟩) :: iN .i64 lf :: .bool false :: .bool false :: List.replicate 15 un).toArray, []⟩) (by kernel_rfl) ?_
  refine wp_cond_false (by kernel_rfl) ?_
  refine wp_skip ?_
  refine then_at (F := ⟨(pt q :: un :: pt q :: .bool false :: .bool false :: pt q :: pt q :: .pointer (some ⟨q, 2, none⟩) :: iN .i64 lf :: .bool false :: .bool false :: List.replicate 15 un).toArray, []⟩) (by kernel_rfl) ?_
  refine wp_seq ?_
  refine wl_region ?_
  refine wl_val (.pointer (some ⟨q, 0, none⟩)) (by kernel_rfl) (by kernel_rfl) ?_
  refine wl_val (.pointer (some ⟨q, 0, none⟩)) (by kernel_rfl) (by kernel_rfl) ?_
  refine wl_val (.pointer (some ⟨q, 2, none⟩)) (by kernel_rfl) (by kernel_rfl) ?_
  refine wl_val (iN .i64 lf) (by kernel_rfl) (run_load1 (fun w => Try.isAgg3 w) (by kernel_rfl) (((h2.get 0 rfl).cell 2).trans rfl)) ?_
  refine wl_val (iN .i64 (lf - 1)) (by kernel_rfl) (run_sub (k := .i64) (a := lf) (b := 1) (by kernel_rfl) (by kernel_rfl) (by first | omega | (simp only [top]; omega)) (by first | omega | (simp only [top]; omega))) ?_
  refine wl_val (.pointer (some ⟨q, 0, none⟩)) (by kernel_rfl) (by kernel_rfl) ?_
  refine wl_val (.pointer (some ⟨q, 2, none⟩)) (by kernel_rfl) (by kernel_rfl) ?_
  refine wl_putv (v := iN .i64 (lf - 1)) h2 0 rfl 2 (by show 2 < 5; decide) (by kernel_rfl) (fun w => Try.sizeOf3 w) (by kernel_rfl) (by kernel_rfl) (by kernel_rfl) ?_
  intro w3 (h4 : HA z ((q, 61, dcell r fr (lf - 1) dn v) :: T) w3)
  refine wl_nil ?_
  refine then_at (F := ⟨(pt q :: un :: pt q :: .bool false :: .bool false :: pt q :: pt q :: .pointer (some ⟨q, 2, none⟩) :: iN .i64 lf :: .bool false :: .bool false :: pt q :: pt q :: .pointer (some ⟨q, 2, none⟩) :: iN .i64 lf :: iN .i64 (lf - 1) :: pt q :: .pointer (some ⟨q, 2, none⟩) :: List.replicate 8 un).toArray, []⟩) (by kernel_rfl) ?_
  refine wl_region ?_
  refine wl_val (.pointer (some ⟨q, 0, none⟩)) (by kernel_rfl) (by kernel_rfl) ?_
  refine wl_val (.pointer (some ⟨q, 0, none⟩)) (by kernel_rfl) (by kernel_rfl) ?_
  refine wl_val (.pointer (some ⟨q, 0, none⟩)) (by kernel_rfl) (by kernel_rfl) ?_
  refine wl_val (.pointer (some ⟨q, 2, none⟩)) (by kernel_rfl) (by kernel_rfl) ?_
  refine wl_val (iN .i64 (lf - 1)) (by kernel_rfl) (run_load1 (fun w => Try.isAgg3 w) (by kernel_rfl) (((h4.get 0 rfl).cell 2).trans rfl)) ?_
  refine wl_val (.bool (decide (lf - 1 = 0))) (by kernel_rfl) (run_eqi (k := .i64) (a := lf - 1) (b := 0) (by kernel_rfl) (by kernel_rfl) _ rfl) ?_
  refine wl_val (.pointer (some ⟨q, 0, none⟩)) (by kernel_rfl) (by kernel_rfl) ?_
  refine wl_val (.pointer (some ⟨q, 3, none⟩)) (by kernel_rfl) (by kernel_rfl) ?_
  refine wl_putv (v := .bool (decide (lf - 1 = 0))) h4 0 rfl 3 (by show 3 < 5; decide) (by kernel_rfl) (fun w => Try.sizeOf4 w) (by kernel_rfl) (by kernel_rfl) (by kernel_rfl) ?_
  intro w5 (h6 : HA z ((q, 61, dcell r fr (lf - 1) ((decide (lf - 1 = 0))) v) :: T) w5)
  refine wl_nil ?_
  exact bodyPost_end (v := .tuple #[]) (by kernel_rfl) rfl ⟨rfl, by rw [if_neg hl, show decide (lf = 1) = decide (lf - 1 = 0) by congr 1; exact propext (by omega)]; exact h6⟩
theorem spend_any {z : Base} {q r fr lf : Nat} {dn : Bool} {v : Value} {T : BL} {w : World} (H0 : HA z ((q, 61, dcell r fr lf dn v) :: T) w) (hb : lf ≤ 9223372036854775807) :
    Calls Try.prog 62 #[pt q] w fun e w' => e = .returned (.tuple #[]) ∧ HA z ((q, 61, dcell r fr (lf - 1) (if lf = 0 then dn else decide (lf = 1)) v) :: T) w' := by
  by_cases hl : lf = 0
  · exact spend_z H0 hl
  · exact spend_s H0 hl hb
set_option linter.unusedVariables false in
set_option maxRecDepth 100000 in
set_option maxHeartbeats 2000000 in
theorem New_any (z : Int) {w0 : World} {M : ML} {L : BL} {w : World} (H0 : HA ⟨w0, M⟩ L w) :
    Calls Try.prog 7 #[.int .i64 z] w fun e w' => ∃ d, e = .returned (pt d.q) ∧ DH w0 M d ⟨[], z.toNat, 0, false, []⟩ L w' := by
  go_enter Try.func7, Try.ntmps7
  refine wp_seq ?_
  refine wl_region ?_
  refine wl_val (.pointer none) (by kernel_rfl) (by kernel_rfl) ?_
  refine wl_nil ?_
  refine then_at (F := ⟨(.int .i64 z :: un :: .pointer none :: List.replicate 5 un).toArray, []⟩) (by kernel_rfl) ?_
  refine wp_seq ?_
  refine wl_region ?_
  refine wl_newMap H0 (by kernel_rfl) ?_
  intro b1 w3 h2
  refine wl_val (.int .i64 z) (by kernel_rfl) (by kernel_rfl) ?_
  refine wl_val (iN .i64 z.toNat) (by kernel_rfl) (run_maxz (z := z) (by kernel_rfl) (by kernel_rfl)) ?_
  refine wl_val (.agg #[.map (some b1), iN .i64 z.toNat, iN .i64 0, .bool false, .slice none 0 0]) (by kernel_rfl) (by kernel_rfl) ?_
  refine wl_make (c := #[.map (some b1), iN .i64 z.toNat, iN .i64 0, .bool false, .slice none 0 0]) h2 61 (by kernel_rfl) (by kernel_rfl) ?_
  intro q4 w5 (h6 : HA ⟨w0, (b1, .mp #[] 0) :: M⟩ ((q4, 61, #[.map (some b1), iN .i64 z.toNat, iN .i64 0, .bool false, .slice none 0 0]) :: L) w5)
  refine wl_val (.pointer (some ⟨q4, 0, none⟩)) (by kernel_rfl) (by kernel_rfl) ?_
  refine wl_nil ?_
  refine then_at (F := ⟨(.int .i64 z :: un :: pt q4 :: .map (some b1) :: .int .i64 z :: iN .i64 z.toNat :: .agg #[.map (some b1), iN .i64 z.toNat, iN .i64 0, .bool false, .slice none 0 0] :: pt q4 :: List.replicate 0 un).toArray, []⟩) (by kernel_rfl) ?_
  refine wp_ret ?_
  repeat first | refine then_ret ?_ | refine block_ret ?_
  exact bodyPost_ret (v := pt q4) (by kernel_rfl) rfl ⟨⟨q4, b1⟩, rfl, [], 0, .slice none 0 0, [], rfl, ⟨fun _ h => (by cases h), fun _ h => (by cases h), List.nodup_nil, fun _ h => (by cases h), List.nodup_nil⟩, Row.nil 3 1, h6⟩
def armD (D : DS) (z : Int) : DS × Nat := if D.down = true then (D, 16) else if z < 0 then (D, 2) else ({ D with left := z.toNat }, 0)
theorem run_ltz {ρ : Operand → Value} {x y : Operand} {w : World} {dst : Option Tmp} {T T2 ty : TypeId} {pos : String} {aft : Array Edge} {gd : Option (Nat × Bool)} {P : Program} {a : Int} {b : Nat} (hx : ρ x = .int .i64 a) (hy : ρ y = iN .i64 b) (t : Bool) (ht : decide (a < (b : Int)) = t) : (execOp ρ ⟨dst, .binOp .lss T x y T2, ty, pos, aft, gd⟩).run P w = .ok (.value (.bool t)) w := by
  subst ht
  simp only [execOp, hx, hy, iN]
  simp [binOp, go_sem]
set_option linter.unusedVariables false in
set_option maxRecDepth 100000 in
set_option maxHeartbeats 2000000 in
theorem Arm_d {w0 : World} {M : ML} {d : Dk} {D : DS} {L : BL} {w : World} (hD : DH w0 M d D L w) {z : Int} (hd : D.down = true)  :
    Calls Try.prog 18 #[pt d.q, .int .i64 z] w fun e w' => e = .returned (iN .i64 (armD D z).2) ∧ DH w0 M d (armD D z).1 L w' := by
  obtain ⟨fl, nx, v, Lr, hfl, hK, hR, H0⟩ := hD
  rw [hd] at H0
  go_enter Try.func18, Try.ntmps18
  refine wp_seq ?_
  refine wl_region ?_
  refine wl_val (iN .i64 0) (by kernel_rfl) (by kernel_rfl) ?_
  refine wl_nil ?_
  refine then_at (F := ⟨(pt d.q :: .int .i64 z :: un :: un :: iN .i64 0 :: List.replicate 12 un).toArray, []⟩) (by kernel_rfl) ?_
  refine wp_seq ?_
  refine wp_seq ?_
  refine wl_region ?_
  refine wl_val (.pointer (some ⟨d.q, 0, none⟩)) (by kernel_rfl) (by kernel_rfl) ?_
  refine wl_call (v := iN .i64 16) H0 (by kernel_rfl) enter49 #[.pointer (some ⟨d.q, 0, none⟩)] (by kernel_rfl) (refused_true (H0.get 0 rfl)) ?_
  intro w1 h2
  refine wl_val (iN .i64 16) (by kernel_rfl) (by kernel_rfl) ?_
  refine wl_nil ?_
  refine then_at (F := ⟨(pt d.q :: .int .i64 z :: un :: un :: iN .i64 0 :: iN .i64 16 :: pt d.q :: iN .i64 16 :: List.replicate 9 un).toArray, []⟩) (by kernel_rfl) ?_
  refine wp_seq ?_
  refine wl_region ?_
  refine wl_val (iN .i64 16) (by kernel_rfl) (by kernel_rfl) ?_
  refine wl_val (.bool true) (by kernel_rfl) (run_nei (k := .i64) (a := 16) (b := 0) (by kernel_rfl) (by kernel_rfl) true (by decide)) ?_
  refine wl_nil ?_
  refine then_at (F := ⟨(pt d.q :: .int .i64 z :: un :: un :: iN .i64 0 :: iN .i64 16 :: pt d.q :: iN .i64 16 :: iN .i64 16 :: .bool true :: List.replicate 7 un).toArray, []⟩) (by kernel_rfl) ?_
  refine wp_cond_true (by kernel_rfl) ?_
  refine wp_seq ?_
  refine wl_region ?_
  refine wl_val (iN .i64 16) (by kernel_rfl) (by kernel_rfl) ?_
  refine wl_val (iN .i64 16) (by kernel_rfl) (by kernel_rfl) ?_
  refine wl_nil ?_
  refine then_at (F := ⟨(pt d.q :: .int .i64 z :: un :: un :: iN .i64 16 :: iN .i64 16 :: pt d.q :: iN .i64 16 :: iN .i64 16 :: .bool true :: iN .i64 16 :: List.replicate 6 un).toArray, []⟩) (by kernel_rfl) ?_
  refine wp_ret ?_
  repeat first | refine then_ret ?_ | refine block_ret ?_
  exact bodyPost_ret (v := iN .i64 16) (by kernel_rfl) rfl ⟨by rw [armD, if_pos hd], by rw [armD, if_pos hd]; exact ⟨fl, nx, v, Lr, hfl, hK, hR, by rw [hd]; exact h2⟩⟩
set_option linter.unusedVariables false in
set_option maxRecDepth 100000 in
set_option maxHeartbeats 2000000 in
theorem Arm_n {w0 : World} {M : ML} {d : Dk} {D : DS} {L : BL} {w : World} (hD : DH w0 M d D L w) {z : Int} (hd : D.down = false) (hz : z < 0) :
    Calls Try.prog 18 #[pt d.q, .int .i64 z] w fun e w' => e = .returned (iN .i64 (armD D z).2) ∧ DH w0 M d (armD D z).1 L w' := by
  obtain ⟨fl, nx, v, Lr, hfl, hK, hR, H0⟩ := hD
  rw [hd] at H0
  go_enter Try.func18, Try.ntmps18
  refine wp_seq ?_
  refine wl_region ?_
  refine wl_val (iN .i64 0) (by kernel_rfl) (by kernel_rfl) ?_
  refine wl_nil ?_
  refine then_at (F := ⟨(pt d.q :: .int .i64 z :: un :: un :: iN .i64 0 :: List.replicate 12 un).toArray, []⟩) (by kernel_rfl) ?_
  refine wp_seq ?_
  refine wp_seq ?_
  refine wl_region ?_
  refine wl_val (.pointer (some ⟨d.q, 0, none⟩)) (by kernel_rfl) (by kernel_rfl) ?_
  refine wl_call (v := iN .i64 0) H0 (by kernel_rfl) enter49 #[.pointer (some ⟨d.q, 0, none⟩)] (by kernel_rfl) (refused_false (H0.get 0 rfl)) ?_
  intro w1 h2
  refine wl_val (iN .i64 0) (by kernel_rfl) (by kernel_rfl) ?_
  refine wl_nil ?_
  refine then_at (F := ⟨(pt d.q :: .int .i64 z :: un :: un :: iN .i64 0 :: iN .i64 0 :: pt d.q :: iN .i64 0 :: List.replicate 9 un).toArray, []⟩) (by kernel_rfl) ?_
  refine wp_seq ?_
  refine wl_region ?_
  refine wl_val (iN .i64 0) (by kernel_rfl) (by kernel_rfl) ?_
  refine wl_val (.bool false) (by kernel_rfl) (run_nei (k := .i64) (a := 0) (b := 0) (by kernel_rfl) (by kernel_rfl) false (by decide)) ?_
  refine wl_nil ?_
  refine then_at (F := ⟨(pt d.q :: .int .i64 z :: un :: un :: iN .i64 0 :: iN .i64 0 :: pt d.q :: iN .i64 0 :: iN .i64 0 :: .bool false :: List.replicate 7 un).toArray, []⟩) (by kernel_rfl) ?_
  refine wp_cond_false (by kernel_rfl) ?_
  refine wp_skip ?_
  refine then_at (F := ⟨(pt d.q :: .int .i64 z :: un :: un :: iN .i64 0 :: iN .i64 0 :: pt d.q :: iN .i64 0 :: iN .i64 0 :: .bool false :: List.replicate 7 un).toArray, []⟩) (by kernel_rfl) ?_
  refine wp_seq ?_
  refine wp_seq ?_
  refine wl_region ?_
  refine wl_val (.int .i64 z) (by kernel_rfl) (by kernel_rfl) ?_
  refine wl_val (.bool true) (by kernel_rfl) (run_ltz (a := z) (b := 0) (by kernel_rfl) (by kernel_rfl) true (decide_eq_true hz)) ?_
  refine wl_nil ?_
  refine then_at (F := ⟨(pt d.q :: .int .i64 z :: un :: un :: iN .i64 0 :: iN .i64 0 :: pt d.q :: iN .i64 0 :: iN .i64 0 :: .bool false :: un :: .int .i64 z :: .bool true :: List.replicate 4 un).toArray, []⟩) (by kernel_rfl) ?_
  refine wp_cond_true (by kernel_rfl) ?_
  refine wp_seq ?_
  refine wl_region ?_
  refine wl_val (iN .i64 2) (by kernel_rfl) (by kernel_rfl) ?_
  refine wl_nil ?_
  refine then_at (F := ⟨(pt d.q :: .int .i64 z :: un :: un :: iN .i64 2 :: iN .i64 0 :: pt d.q :: iN .i64 0 :: iN .i64 0 :: .bool false :: un :: .int .i64 z :: .bool true :: List.replicate 4 un).toArray, []⟩) (by kernel_rfl) ?_
  refine wp_ret ?_
  repeat first | refine then_ret ?_ | refine block_ret ?_
  exact bodyPost_ret (v := iN .i64 2) (by kernel_rfl) rfl ⟨by rw [armD, if_neg (by rw [hd]; decide), if_pos hz], by rw [armD, if_neg (by rw [hd]; decide), if_pos hz]; exact ⟨fl, nx, v, Lr, hfl, hK, hR, by rw [hd]; exact h2⟩⟩
set_option linter.unusedVariables false in
set_option maxRecDepth 100000 in
set_option maxHeartbeats 2000000 in
theorem Arm_y {w0 : World} {M : ML} {d : Dk} {D : DS} {L : BL} {w : World} (hD : DH w0 M d D L w) {z : Int} (hd : D.down = false) (hz : ¬ z < 0) :
    Calls Try.prog 18 #[pt d.q, .int .i64 z] w fun e w' => e = .returned (iN .i64 (armD D z).2) ∧ DH w0 M d (armD D z).1 L w' := by
  obtain ⟨fl, nx, v, Lr, hfl, hK, hR, H0⟩ := hD
  rw [hd] at H0
  obtain ⟨n, rfl⟩ : ∃ n : Nat, z = n := ⟨z.toNat, by omega⟩
  go_enter Try.func18, Try.ntmps18
  refine wp_seq ?_
  refine wl_region ?_
  refine wl_val (iN .i64 0) (by kernel_rfl) (by kernel_rfl) ?_
  refine wl_nil ?_
  refine then_at (F := ⟨(pt d.q :: iN .i64 n :: un :: un :: iN .i64 0 :: List.replicate 12 un).toArray, []⟩) (by kernel_rfl) ?_
  refine wp_seq ?_
  refine wp_seq ?_
  refine wl_region ?_
  refine wl_val (.pointer (some ⟨d.q, 0, none⟩)) (by kernel_rfl) (by kernel_rfl) ?_
  refine wl_call (v := iN .i64 0) H0 (by kernel_rfl) enter49 #[.pointer (some ⟨d.q, 0, none⟩)] (by kernel_rfl) (refused_false (H0.get 0 rfl)) ?_
  intro w1 h2
  refine wl_val (iN .i64 0) (by kernel_rfl) (by kernel_rfl) ?_
  refine wl_nil ?_
  refine then_at (F := ⟨(pt d.q :: iN .i64 n :: un :: un :: iN .i64 0 :: iN .i64 0 :: pt d.q :: iN .i64 0 :: List.replicate 9 un).toArray, []⟩) (by kernel_rfl) ?_
  refine wp_seq ?_
  refine wl_region ?_
  refine wl_val (iN .i64 0) (by kernel_rfl) (by kernel_rfl) ?_
  refine wl_val (.bool false) (by kernel_rfl) (run_nei (k := .i64) (a := 0) (b := 0) (by kernel_rfl) (by kernel_rfl) false (by decide)) ?_
  refine wl_nil ?_
  refine then_at (F := ⟨(pt d.q :: iN .i64 n :: un :: un :: iN .i64 0 :: iN .i64 0 :: pt d.q :: iN .i64 0 :: iN .i64 0 :: .bool false :: List.replicate 7 un).toArray, []⟩) (by kernel_rfl) ?_
  refine wp_cond_false (by kernel_rfl) ?_
  refine wp_skip ?_
  refine then_at (F := ⟨(pt d.q :: iN .i64 n :: un :: un :: iN .i64 0 :: iN .i64 0 :: pt d.q :: iN .i64 0 :: iN .i64 0 :: .bool false :: List.replicate 7 un).toArray, []⟩) (by kernel_rfl) ?_
  refine wp_seq ?_
  refine wp_seq ?_
  refine wl_region ?_
  refine wl_val (iN .i64 n) (by kernel_rfl) (by kernel_rfl) ?_
  refine wl_val (.bool false) (by kernel_rfl) (run_ltz (a := (n : Int)) (b := 0) (by kernel_rfl) (by kernel_rfl) false (decide_eq_false hz)) ?_
  refine wl_nil ?_
  refine then_at (F := ⟨(pt d.q :: iN .i64 n :: un :: un :: iN .i64 0 :: iN .i64 0 :: pt d.q :: iN .i64 0 :: iN .i64 0 :: .bool false :: un :: iN .i64 n :: .bool false :: List.replicate 4 un).toArray, []⟩) (by kernel_rfl) ?_
  refine wp_cond_false (by kernel_rfl) ?_
  refine wp_skip ?_
  refine then_at (F := ⟨(pt d.q :: iN .i64 n :: un :: un :: iN .i64 0 :: iN .i64 0 :: pt d.q :: iN .i64 0 :: iN .i64 0 :: .bool false :: un :: iN .i64 n :: .bool false :: List.replicate 4 un).toArray, []⟩) (by kernel_rfl) ?_
  refine wp_seq ?_
  refine wl_region ?_
  refine wl_val (.pointer (some ⟨d.q, 0, none⟩)) (by kernel_rfl) (by kernel_rfl) ?_
  refine wl_val (iN .i64 n) (by kernel_rfl) (by kernel_rfl) ?_
  refine wl_val (.pointer (some ⟨d.q, 0, none⟩)) (by kernel_rfl) (by kernel_rfl) ?_
  refine wl_val (.pointer (some ⟨d.q, 2, none⟩)) (by kernel_rfl) (by kernel_rfl) ?_
  refine wl_putv (v := iN .i64 n) h2 0 rfl 2 (by show 2 < 5; decide) (by kernel_rfl) (fun w => Try.sizeOf3 w) (by kernel_rfl) (by kernel_rfl) (by kernel_rfl) ?_
  intro w3 (h4 : HA ⟨w0, (d.r, .mp (eF fl) nx) :: M⟩ ((d.q, 61, dcell d.r D.free n false v) :: (Lr ++ (FB fl ++ L))) w3)
  refine wl_nil ?_
  refine then_at (F := ⟨(pt d.q :: iN .i64 n :: un :: un :: iN .i64 0 :: iN .i64 0 :: pt d.q :: iN .i64 0 :: iN .i64 0 :: .bool false :: un :: iN .i64 n :: .bool false :: pt d.q :: iN .i64 n :: pt d.q :: .pointer (some ⟨d.q, 2, none⟩) :: List.replicate 0 un).toArray, []⟩) (by kernel_rfl) ?_
  refine wp_seq ?_
  refine wl_region ?_
  refine wl_val (iN .i64 0) (by kernel_rfl) (by kernel_rfl) ?_
  refine wl_nil ?_
  refine then_at (F := ⟨(pt d.q :: iN .i64 n :: un :: un :: iN .i64 0 :: iN .i64 0 :: pt d.q :: iN .i64 0 :: iN .i64 0 :: .bool false :: un :: iN .i64 n :: .bool false :: pt d.q :: iN .i64 n :: pt d.q :: .pointer (some ⟨d.q, 2, none⟩) :: List.replicate 0 un).toArray, []⟩) (by kernel_rfl) ?_
  refine wp_ret ?_
  repeat first | refine then_ret ?_ | refine block_ret ?_
  exact bodyPost_ret (v := iN .i64 0) (by kernel_rfl) rfl ⟨by rw [armD, if_neg (by rw [hd]; decide), if_neg hz], by rw [armD, if_neg (by rw [hd]; decide), if_neg hz]; exact ⟨fl, nx, v, Lr, hfl, hK, hR, by rw [hd]; exact h4⟩⟩
theorem Arm_any {w0 : World} {M : ML} {d : Dk} {D : DS} {L : BL} {w : World} (hD : DH w0 M d D L w) (z : Int) :
    Calls Try.prog 18 #[pt d.q, .int .i64 z] w fun e w' => e = .returned (iN .i64 (armD D z).2) ∧ DH w0 M d (armD D z).1 L w' := by
  cases hd : D.down with
  | true => exact Arm_d hD hd
  | false =>
    by_cases hz : z < 0
    · exact Arm_n hD hd hz
    · exact Arm_y hD hd hz
/-- an operation behind its gate -/
def opD (D D2 : DS) (put er : Nat) : DS × Nat := if (spendD D).down = true then (spendD D, 16) else if er = 0 then ({ D2 with sizes := D2.sizes ++ [put] }, 0) else (D2, er)
def intc (ps : List Nat) : Array Value := (ps.map (iN .i64 ·)).toArray
theorem intc_size (ps : List Nat) : (intc ps).size = ps.length := by simp [intc]
theorem intc_get (ps : List Nat) (i : Nat) (h : i < ps.length) : (intc ps)[i]? = some (iN .i64 (ps.getD i 0)) := by
  simp [intc, h]
theorem one_intc (ps : List Nat) : (intc ps).all (·.oneCell') = true := all_oneCell_toArray fun v hv => by
  obtain ⟨u, _, rfl⟩ := List.mem_map.1 hv
  rfl
set_option linter.unusedVariables false in
set_option maxRecDepth 100000 in
set_option maxHeartbeats 2000000 in
theorem operate_d {w0 : World} {M : ML} {d : Dk} {D : DS} {L : BL} {w : World} (hD : DH w0 M d D L w) {F : FuncId} {cap : Array Value} {D2 : DS} {put er : Nat} (hF : ∀ args w, (callFunc F args).run Try.prog w = .ok (.enter F args) w) (hlf : D.left ≤ 9223372036854775807) (hsz : D2.sizes.length ≤ 1000000) (hd2 : (spendD D).down = true) (hdeed : ∀ w, DH w0 M d (spendD D) L w → Calls Try.prog F cap w fun e w' => e = .returned (.tuple #[iN .i64 put, iN .i64 er]) ∧ DH w0 M d D2 L w')  :
    Calls Try.prog 32 #[pt d.q, .func (.func F) #[] cap] w fun e w' => e = .returned (iN .i64 (opD D D2 put er).2) ∧ DH w0 M d (opD D D2 put er).1 L w' := by
  obtain ⟨fl, nx, v, Lr, hfl, hK, hR, H0⟩ := hD
  have hd : (if D.left = 0 then D.down else decide (D.left = 1)) = true := hd2
  go_enter Try.func32, Try.ntmps32
  refine wp_seq ?_
  refine wl_region ?_
  refine wl_val (iN .i64 0) (by kernel_rfl) (by kernel_rfl) ?_
  refine wl_nil ?_
  refine then_at (F := ⟨(pt d.q :: .func (.func F) #[] cap :: un :: un :: iN .i64 0 :: List.replicate 28 un).toArray, []⟩) (by kernel_rfl) ?_
  refine wp_seq ?_
  refine wl_region ?_
  refine wl_val (.pointer (some ⟨d.q, 0, none⟩)) (by kernel_rfl) (by kernel_rfl) ?_
  refine wl_callx (by kernel_rfl) enter62 #[.pointer (some ⟨d.q, 0, none⟩)] (by kernel_rfl) (spend_any H0 hlf) ?_
  rintro _ w2 ⟨rfl, h1⟩
  refine ⟨_, rfl, ?_⟩
  rw [hd] at h1
  have h3 : HA ⟨w0, (d.r, .mp (eF fl) nx) :: M⟩ ((d.q, 61, dcell d.r D.free (D.left - 1) true v) :: (Lr ++ (FB fl ++ L))) w2 := h1
  refine wl_nil ?_
  refine then_at (F := ⟨(pt d.q :: .func (.func F) #[] cap :: un :: un :: iN .i64 0 :: un :: un :: un :: pt d.q :: .tuple #[] :: List.replicate 23 un).toArray, []⟩) (by kernel_rfl) ?_
  refine wp_seq ?_
  refine wp_seq ?_
  refine wl_region ?_
  refine wl_val (.pointer (some ⟨d.q, 0, none⟩)) (by kernel_rfl) (by kernel_rfl) ?_
  refine wl_call (v := iN .i64 16) h3 (by kernel_rfl) enter49 #[.pointer (some ⟨d.q, 0, none⟩)] (by kernel_rfl) (refused_true (h3.get 0 rfl)) ?_
  intro w4 h5
  refine wl_val (iN .i64 16) (by kernel_rfl) (by kernel_rfl) ?_
  refine wl_nil ?_
  refine then_at (F := ⟨(pt d.q :: .func (.func F) #[] cap :: un :: un :: iN .i64 0 :: iN .i64 16 :: un :: un :: pt d.q :: .tuple #[] :: pt d.q :: iN .i64 16 :: List.replicate 21 un).toArray, []⟩) (by kernel_rfl) ?_
  refine wp_seq ?_
  refine wl_region ?_
  refine wl_val (iN .i64 16) (by kernel_rfl) (by kernel_rfl) ?_
  refine wl_val (.bool true) (by kernel_rfl) (run_nei (k := .i64) (a := 16) (b := 0) (by kernel_rfl) (by kernel_rfl) true (by decide)) ?_
  refine wl_nil ?_
  refine then_at (F := ⟨(pt d.q :: .func (.func F) #[] cap :: un :: un :: iN .i64 0 :: iN .i64 16 :: un :: un :: pt d.q :: .tuple #[] :: pt d.q :: iN .i64 16 :: iN .i64 16 :: .bool true :: List.replicate 19 un).toArray, []⟩) (by kernel_rfl) ?_
  refine wp_cond_true (by kernel_rfl) ?_
  refine wp_seq ?_
  refine wl_region ?_
  refine wl_val (iN .i64 16) (by kernel_rfl) (by kernel_rfl) ?_
  refine wl_val (iN .i64 16) (by kernel_rfl) (by kernel_rfl) ?_
  refine wl_nil ?_
  refine then_at (F := ⟨(pt d.q :: .func (.func F) #[] cap :: un :: un :: iN .i64 16 :: iN .i64 16 :: un :: un :: pt d.q :: .tuple #[] :: pt d.q :: iN .i64 16 :: iN .i64 16 :: .bool true :: iN .i64 16 :: List.replicate 18 un).toArray, []⟩) (by kernel_rfl) ?_
  refine wp_ret ?_
  repeat first | refine then_ret ?_ | refine block_ret ?_
  exact bodyPost_ret (v := iN .i64 16) (by kernel_rfl) rfl ⟨by rw [opD, if_pos hd2], by rw [opD, if_pos hd2]; exact ⟨fl, nx, v, Lr, hfl, hK, hR, by rw [hd2]; exact h5⟩⟩
set_option linter.unusedVariables false in
set_option maxRecDepth 100000 in
set_option maxHeartbeats 2000000 in
theorem operate_no {w0 : World} {M : ML} {d : Dk} {D : DS} {L : BL} {w : World} (hD : DH w0 M d D L w) {F : FuncId} {cap : Array Value} {D2 : DS} {put er : Nat} (hF : ∀ args w, (callFunc F args).run Try.prog w = .ok (.enter F args) w) (hlf : D.left ≤ 9223372036854775807) (hsz : D2.sizes.length ≤ 1000000) (hd2 : (spendD D).down = false) (hdeed : ∀ w, DH w0 M d (spendD D) L w → Calls Try.prog F cap w fun e w' => e = .returned (.tuple #[iN .i64 put, iN .i64 er]) ∧ DH w0 M d D2 L w') (he : ¬ er = 0) :
    Calls Try.prog 32 #[pt d.q, .func (.func F) #[] cap] w fun e w' => e = .returned (iN .i64 (opD D D2 put er).2) ∧ DH w0 M d (opD D D2 put er).1 L w' := by
  obtain ⟨fl, nx, v, Lr, hfl, hK, hR, H0⟩ := hD
  have hd : (if D.left = 0 then D.down else decide (D.left = 1)) = false := hd2
  go_enter Try.func32, Try.ntmps32
  refine wp_seq ?_
  refine wl_region ?_
  refine wl_val (iN .i64 0) (by kernel_rfl) (by kernel_rfl) ?_
  refine wl_nil ?_
  refine then_at (F := ⟨(pt d.q :: .func (.func F) #[] cap :: un :: un :: iN .i64 0 :: List.replicate 28 un).toArray, []⟩) (by kernel_rfl) ?_
  refine wp_seq ?_
  refine wl_region ?_
  refine wl_val (.pointer (some ⟨d.q, 0, none⟩)) (by kernel_rfl) (by kernel_rfl) ?_
  refine wl_callx (by kernel_rfl) enter62 #[.pointer (some ⟨d.q, 0, none⟩)] (by kernel_rfl) (spend_any H0 hlf) ?_
  rintro _ w2 ⟨rfl, h1⟩
  refine ⟨_, rfl, ?_⟩
  rw [hd] at h1
  have h3 : HA ⟨w0, (d.r, .mp (eF fl) nx) :: M⟩ ((d.q, 61, dcell d.r D.free (D.left - 1) false v) :: (Lr ++ (FB fl ++ L))) w2 := h1
  refine wl_nil ?_
  refine then_at (F := ⟨(pt d.q :: .func (.func F) #[] cap :: un :: un :: iN .i64 0 :: un :: un :: un :: pt d.q :: .tuple #[] :: List.replicate 23 un).toArray, []⟩) (by kernel_rfl) ?_
  refine wp_seq ?_
  refine wp_seq ?_
  refine wl_region ?_
  refine wl_val (.pointer (some ⟨d.q, 0, none⟩)) (by kernel_rfl) (by kernel_rfl) ?_
  refine wl_call (v := iN .i64 0) h3 (by kernel_rfl) enter49 #[.pointer (some ⟨d.q, 0, none⟩)] (by kernel_rfl) (refused_false (h3.get 0 rfl)) ?_
  intro w4 h5
  refine wl_val (iN .i64 0) (by kernel_rfl) (by kernel_rfl) ?_
  refine wl_nil ?_
  refine then_at (F := ⟨(pt d.q :: .func (.func F) #[] cap :: un :: un :: iN .i64 0 :: iN .i64 0 :: un :: un :: pt d.q :: .tuple #[] :: pt d.q :: iN .i64 0 :: List.replicate 21 un).toArray, []⟩) (by kernel_rfl) ?_
  refine wp_seq ?_
  refine wl_region ?_
  refine wl_val (iN .i64 0) (by kernel_rfl) (by kernel_rfl) ?_
  refine wl_val (.bool false) (by kernel_rfl) (run_nei (k := .i64) (a := 0) (b := 0) (by kernel_rfl) (by kernel_rfl) false (by decide)) ?_
  refine wl_nil ?_
  refine then_at (F := ⟨(pt d.q :: .func (.func F) #[] cap :: un :: un :: iN .i64 0 :: iN .i64 0 :: un :: un :: pt d.q :: .tuple #[] :: pt d.q :: iN .i64 0 :: iN .i64 0 :: .bool false :: List.replicate 19 un).toArray, []⟩) (by kernel_rfl) ?_
  refine wp_cond_false (by kernel_rfl) ?_
  refine wp_skip ?_
  refine then_at (F := ⟨(pt d.q :: .func (.func F) #[] cap :: un :: un :: iN .i64 0 :: iN .i64 0 :: un :: un :: pt d.q :: .tuple #[] :: pt d.q :: iN .i64 0 :: iN .i64 0 :: .bool false :: List.replicate 19 un).toArray, []⟩) (by kernel_rfl) ?_
  refine wp_seq ?_
  refine wl_region ?_
  refine wl_val (.func (.func F) #[] cap) (by kernel_rfl) (by kernel_rfl) ?_
  refine wl_callvx (cap := cap) (args := cap) (by kernel_rfl) hF (by kernel_rfl) (by simp) (hdeed w4 ⟨fl, nx, v, Lr, hfl, hK, hR, by rw [show (spendD D).down = false from hd]; exact h5⟩) ?_
  rintro _ w6 ⟨rfl, fl2, nx2, v2, Lr2, hfl2, hK2, hR2, H2⟩
  refine ⟨_, rfl, ?_⟩
  obtain ⟨p2, c2, rfl⟩ := hR2.form
  refine wl_val (.tuple #[iN .i64 put, iN .i64 er]) (by kernel_rfl) (by kernel_rfl) ?_
  refine wl_val (iN .i64 put) (by kernel_rfl) (by kernel_rfl) ?_
  refine wl_val (iN .i64 er) (by kernel_rfl) (by kernel_rfl) ?_
  refine wl_val (iN .i64 put) (by kernel_rfl) (by kernel_rfl) ?_
  refine wl_val (iN .i64 er) (by kernel_rfl) (by kernel_rfl) ?_
  refine wl_nil ?_
  refine then_at (F := ⟨(pt d.q :: .func (.func F) #[] cap :: un :: un :: iN .i64 0 :: iN .i64 0 :: iN .i64 put :: iN .i64 er :: pt d.q :: .tuple #[] :: pt d.q :: iN .i64 0 :: iN .i64 0 :: .bool false :: un :: .tuple #[iN .i64 put, iN .i64 er] :: .func (.func F) #[] cap :: .tuple #[iN .i64 put, iN .i64 er] :: iN .i64 put :: iN .i64 er :: List.replicate 13 un).toArray, []⟩) (by kernel_rfl) ?_
  refine wp_seq ?_
  refine wp_seq ?_
  refine wl_region ?_
  refine wl_val (iN .i64 er) (by kernel_rfl) (by kernel_rfl) ?_
  refine wl_val (.bool false) (by kernel_rfl) (run_eqi (k := .i64) (a := er) (b := 0) (by kernel_rfl) (by kernel_rfl) false (decide_eq_false he)) ?_
  refine wl_nil ?_
  refine then_at (F := ⟨(pt d.q :: .func (.func F) #[] cap :: un :: un :: iN .i64 0 :: iN .i64 0 :: iN .i64 put :: iN .i64 er :: pt d.q :: .tuple #[] :: pt d.q :: iN .i64 0 :: iN .i64 0 :: .bool false :: un :: .tuple #[iN .i64 put, iN .i64 er] :: .func (.func F) #[] cap :: .tuple #[iN .i64 put, iN .i64 er] :: iN .i64 put :: iN .i64 er :: iN .i64 er :: .bool false :: List.replicate 11 un).toArray, []⟩) (by kernel_rfl) ?_
  refine wp_cond_false (by kernel_rfl) ?_
  refine wp_skip ?_
  refine then_at (F := ⟨(pt d.q :: .func (.func F) #[] cap :: un :: un :: iN .i64 0 :: iN .i64 0 :: iN .i64 put :: iN .i64 er :: pt d.q :: .tuple #[] :: pt d.q :: iN .i64 0 :: iN .i64 0 :: .bool false :: un :: .tuple #[iN .i64 put, iN .i64 er] :: .func (.func F) #[] cap :: .tuple #[iN .i64 put, iN .i64 er] :: iN .i64 put :: iN .i64 er :: iN .i64 er :: .bool false :: List.replicate 11 un).toArray, []⟩) (by kernel_rfl) ?_
  refine wp_seq ?_
  refine wl_region ?_
  refine wl_val (iN .i64 er) (by kernel_rfl) (by kernel_rfl) ?_
  refine wl_val (iN .i64 er) (by kernel_rfl) (by kernel_rfl) ?_
  refine wl_nil ?_
  refine then_at (F := ⟨(pt d.q :: .func (.func F) #[] cap :: un :: un :: iN .i64 er :: iN .i64 0 :: iN .i64 put :: iN .i64 er :: pt d.q :: .tuple #[] :: pt d.q :: iN .i64 0 :: iN .i64 0 :: .bool false :: un :: .tuple #[iN .i64 put, iN .i64 er] :: .func (.func F) #[] cap :: .tuple #[iN .i64 put, iN .i64 er] :: iN .i64 put :: iN .i64 er :: iN .i64 er :: .bool false :: un :: un :: un :: un :: un :: un :: un :: un :: un :: un :: iN .i64 er :: List.replicate 0 un).toArray, []⟩) (by kernel_rfl) ?_
  refine wp_ret ?_
  repeat first | refine then_ret ?_ | refine block_ret ?_
  exact bodyPost_ret (v := iN .i64 er) (by kernel_rfl) rfl ⟨by rw [opD, if_neg (by rw [hd2]; decide), if_neg he], by rw [opD, if_neg (by rw [hd2]; decide), if_neg he]; exact ⟨fl2, nx2, _, Lr2, hfl2, hK2, hR2, H2⟩⟩
set_option linter.unusedVariables false in
set_option maxRecDepth 100000 in
set_option maxHeartbeats 2000000 in
theorem operate_ok {w0 : World} {M : ML} {d : Dk} {D : DS} {L : BL} {w : World} (hD : DH w0 M d D L w) {F : FuncId} {cap : Array Value} {D2 : DS} {put : Nat} (hF : ∀ args w, (callFunc F args).run Try.prog w = .ok (.enter F args) w) (hlf : D.left ≤ 9223372036854775807) (hsz : D2.sizes.length ≤ 1000000) (hd2 : (spendD D).down = false) (hdeed : ∀ w, DH w0 M d (spendD D) L w → Calls Try.prog F cap w fun e w' => e = .returned (.tuple #[iN .i64 put, iN .i64 0]) ∧ DH w0 M d D2 L w')  :
    Calls Try.prog 32 #[pt d.q, .func (.func F) #[] cap] w fun e w' => e = .returned (iN .i64 (opD D D2 put 0).2) ∧ DH w0 M d (opD D D2 put 0).1 L w' := by
  obtain ⟨fl, nx, v, Lr, hfl, hK, hR, H0⟩ := hD
  have hd : (if D.left = 0 then D.down else decide (D.left = 1)) = false := hd2
  go_enter Try.func32, Try.ntmps32
  refine wp_seq ?_
  refine wl_region ?_
  refine wl_val (iN .i64 0) (by kernel_rfl) (by kernel_rfl) ?_
  refine wl_nil ?_
  refine then_at (F := ⟨(pt d.q :: .func (.func F) #[] cap :: un :: un :: iN .i64 0 :: List.replicate 28 un).toArray, []⟩) (by kernel_rfl) ?_
  refine wp_seq ?_
  refine wl_region ?_
  refine wl_val (.pointer (some ⟨d.q, 0, none⟩)) (by kernel_rfl) (by kernel_rfl) ?_
  refine wl_callx (by kernel_rfl) enter62 #[.pointer (some ⟨d.q, 0, none⟩)] (by kernel_rfl) (spend_any H0 hlf) ?_
  rintro _ w2 ⟨rfl, h1⟩
  refine ⟨_, rfl, ?_⟩
  rw [hd] at h1
  have h3 : HA ⟨w0, (d.r, .mp (eF fl) nx) :: M⟩ ((d.q, 61, dcell d.r D.free (D.left - 1) false v) :: (Lr ++ (FB fl ++ L))) w2 := h1
  refine wl_nil ?_
  refine then_at (F := ⟨(pt d.q :: .func (.func F) #[] cap :: un :: un :: iN .i64 0 :: un :: un :: un :: pt d.q :: .tuple #[] :: List.replicate 23 un).toArray, []⟩) (by kernel_rfl) ?_
  refine wp_seq ?_
  refine wp_seq ?_
  refine wl_region ?_
  refine wl_val (.pointer (some ⟨d.q, 0, none⟩)) (by kernel_rfl) (by kernel_rfl) ?_
  refine wl_call (v := iN .i64 0) h3 (by kernel_rfl) enter49 #[.pointer (some ⟨d.q, 0, none⟩)] (by kernel_rfl) (refused_false (h3.get 0 rfl)) ?_
  intro w4 h5
  refine wl_val (iN .i64 0) (by kernel_rfl) (by kernel_rfl) ?_
  refine wl_nil ?_
  refine then_at (F := ⟨(pt d.q :: .func (.func F) #[] cap :: un :: un :: iN .i64 0 :: iN .i64 0 :: un :: un :: pt d.q :: .tuple #[] :: pt d.q :: iN .i64 0 :: List.replicate 21 un).toArray, []⟩) (by kernel_rfl) ?_
  refine wp_seq ?_
  refine wl_region ?_
  refine wl_val (iN .i64 0) (by kernel_rfl) (by kernel_rfl) ?_
  refine wl_val (.bool false) (by kernel_rfl) (run_nei (k := .i64) (a := 0) (b := 0) (by kernel_rfl) (by kernel_rfl) false (by decide)) ?_
  refine wl_nil ?_
  refine then_at (F := ⟨(pt d.q :: .func (.func F) #[] cap :: un :: un :: iN .i64 0 :: iN .i64 0 :: un :: un :: pt d.q :: .tuple #[] :: pt d.q :: iN .i64 0 :: iN .i64 0 :: .bool false :: List.replicate 19 un).toArray, []⟩) (by kernel_rfl) ?_
  refine wp_cond_false (by kernel_rfl) ?_
  refine wp_skip ?_
  refine then_at (F := ⟨(pt d.q :: .func (.func F) #[] cap :: un :: un :: iN .i64 0 :: iN .i64 0 :: un :: un :: pt d.q :: .tuple #[] :: pt d.q :: iN .i64 0 :: iN .i64 0 :: .bool false :: List.replicate 19 un).toArray, []⟩) (by kernel_rfl) ?_
  refine wp_seq ?_
  refine wl_region ?_
  refine wl_val (.func (.func F) #[] cap) (by kernel_rfl) (by kernel_rfl) ?_
  refine wl_callvx (cap := cap) (args := cap) (by kernel_rfl) hF (by kernel_rfl) (by simp) (hdeed w4 ⟨fl, nx, v, Lr, hfl, hK, hR, by rw [show (spendD D).down = false from hd]; exact h5⟩) ?_
  rintro _ w6 ⟨rfl, fl2, nx2, v2, Lr2, hfl2, hK2, hR2, H2⟩
  refine ⟨_, rfl, ?_⟩
  obtain ⟨p2, c2, rfl⟩ := hR2.form
  refine wl_val (.tuple #[iN .i64 put, iN .i64 0]) (by kernel_rfl) (by kernel_rfl) ?_
  refine wl_val (iN .i64 put) (by kernel_rfl) (by kernel_rfl) ?_
  refine wl_val (iN .i64 0) (by kernel_rfl) (by kernel_rfl) ?_
  refine wl_val (iN .i64 put) (by kernel_rfl) (by kernel_rfl) ?_
  refine wl_val (iN .i64 0) (by kernel_rfl) (by kernel_rfl) ?_
  refine wl_nil ?_
  refine then_at (F := ⟨(pt d.q :: .func (.func F) #[] cap :: un :: un :: iN .i64 0 :: iN .i64 0 :: iN .i64 put :: iN .i64 0 :: pt d.q :: .tuple #[] :: pt d.q :: iN .i64 0 :: iN .i64 0 :: .bool false :: un :: .tuple #[iN .i64 put, iN .i64 0] :: .func (.func F) #[] cap :: .tuple #[iN .i64 put, iN .i64 0] :: iN .i64 put :: iN .i64 0 :: List.replicate 13 un).toArray, []⟩) (by kernel_rfl) ?_
  refine wp_seq ?_
  refine wp_seq ?_
  refine wl_region ?_
  refine wl_val (iN .i64 0) (by kernel_rfl) (by kernel_rfl) ?_
  refine wl_val (.bool true) (by kernel_rfl) (run_eqi (k := .i64) (a := 0) (b := 0) (by kernel_rfl) (by kernel_rfl) true (by decide)) ?_
  refine wl_nil ?_
  refine then_at (F := ⟨(pt d.q :: .func (.func F) #[] cap :: un :: un :: iN .i64 0 :: iN .i64 0 :: iN .i64 put :: iN .i64 0 :: pt d.q :: .tuple #[] :: pt d.q :: iN .i64 0 :: iN .i64 0 :: .bool false :: un :: .tuple #[iN .i64 put, iN .i64 0] :: .func (.func F) #[] cap :: .tuple #[iN .i64 put, iN .i64 0] :: iN .i64 put :: iN .i64 0 :: iN .i64 0 :: .bool true :: List.replicate 11 un).toArray, []⟩) (by kernel_rfl) ?_
  refine wp_cond_true (by kernel_rfl) ?_
  refine wl_region ?_
  refine wl_val (.pointer (some ⟨d.q, 0, none⟩)) (by kernel_rfl) (by kernel_rfl) ?_
  refine wl_val (.pointer (some ⟨d.q, 0, none⟩)) (by kernel_rfl) (by kernel_rfl) ?_
  refine wl_val (.pointer (some ⟨d.q, 0, none⟩)) (by kernel_rfl) (by kernel_rfl) ?_
  refine wl_val (.pointer (some ⟨d.q, 4, none⟩)) (by kernel_rfl) (by kernel_rfl) ?_
  refine wl_val (.slice p2 D2.sizes.length c2) (by kernel_rfl) (run_load1 (fun w => Try.isAgg26 w) (by kernel_rfl) (((H2.get 0 rfl).cell 4).trans rfl)) ?_
  refine wl_val (iN .i64 put) (by kernel_rfl) (by kernel_rfl) ?_
  refine wl_mks (n := 1) (m := 1) (c := intc [put]) H2 3 (by kernel_rfl) (by kernel_rfl) ?_
  intro q7 w8 (h9 : HA ⟨w0, (d.r, .mp (eF fl2) nx2) :: M⟩ ((q7, 3, intc [put]) :: (d.q, 61, dcell d.r D2.free D2.left D2.down (.slice p2 D2.sizes.length c2)) :: (Lr2 ++ (FB fl2 ++ L))) w8)
  have h10 : HA ⟨w0, (d.r, .mp (eF fl2) nx2) :: M⟩ ((q7, 3, intc [put]) :: (Lr2 ++ ([(d.q, 61, dcell d.r D2.free D2.left D2.down (.slice p2 D2.sizes.length c2))] ++ (FB fl2 ++ L)))) w8 := h9.perm (List.Perm.cons _ (perm_mv [(d.q, 61, dcell d.r D2.free D2.left D2.down (.slice p2 D2.sizes.length c2))] Lr2 (FB fl2 ++ L)))
  refine wl_append (m := 1) (c := 1) hR2 h10 (by decide) (.int .i64 0) 8 Try.underlying26 info3 rfl (by decide) (by kernel_rfl) (by kernel_rfl) (by kernel_rfl) rfl (one_intc _) (by unfold maxLen; omega) (by omega) (by decide) ?_
  intro v3 w11 Lr3 hR3 h12
  obtain ⟨p3, c3, rfl⟩ := hR3.form
  have h13 : HA ⟨w0, (d.r, .mp (eF fl2) nx2) :: M⟩ ((d.q, 61, dcell d.r D2.free D2.left D2.down (.slice p2 D2.sizes.length c2)) :: (Lr3 ++ (FB fl2 ++ L))) w11 := HA.mv Lr3 [(d.q, 61, dcell d.r D2.free D2.left D2.down (.slice p2 D2.sizes.length c2))] (FB fl2 ++ L) h12
  refine wl_val (.pointer (some ⟨d.q, 0, none⟩)) (by kernel_rfl) (by kernel_rfl) ?_
  refine wl_val (.pointer (some ⟨d.q, 4, none⟩)) (by kernel_rfl) (by kernel_rfl) ?_
  refine wl_putv (v := .slice p3 (D2.sizes.length + 1) c3) h13 0 rfl 4 (by show 4 < 5; decide) (by kernel_rfl) (fun w => Try.sizeOf26 w) (by kernel_rfl) (by kernel_rfl) (by kernel_rfl) ?_
  intro w14 (h15 : HA ⟨w0, (d.r, .mp (eF fl2) nx2) :: M⟩ ((d.q, 61, dcell d.r D2.free D2.left D2.down (.slice p3 (D2.sizes.length + 1) c3)) :: (Lr3 ++ (FB fl2 ++ L))) w14)
  refine wl_nil ?_
  refine then_at (F := ⟨(pt d.q :: .func (.func F) #[] cap :: un :: un :: iN .i64 0 :: iN .i64 0 :: iN .i64 put :: iN .i64 0 :: pt d.q :: .tuple #[] :: pt d.q :: iN .i64 0 :: iN .i64 0 :: .bool false :: un :: .tuple #[iN .i64 put, iN .i64 0] :: .func (.func F) #[] cap :: .tuple #[iN .i64 put, iN .i64 0] :: iN .i64 put :: iN .i64 0 :: iN .i64 0 :: .bool true :: pt d.q :: pt d.q :: pt d.q :: .pointer (some ⟨d.q, 4, none⟩) :: .slice p2 D2.sizes.length c2 :: iN .i64 put :: .slice (some ⟨q7, 0, none⟩) 1 1 :: .slice p3 (D2.sizes.length + 1) c3 :: pt d.q :: .pointer (some ⟨d.q, 4, none⟩) :: List.replicate 1 un).toArray, []⟩) (by kernel_rfl) ?_
  refine wp_seq ?_
  refine wl_region ?_
  refine wl_val (iN .i64 0) (by kernel_rfl) (by kernel_rfl) ?_
  refine wl_val (iN .i64 0) (by kernel_rfl) (by kernel_rfl) ?_
  refine wl_nil ?_
  refine then_at (F := ⟨(pt d.q :: .func (.func F) #[] cap :: un :: un :: iN .i64 0 :: iN .i64 0 :: iN .i64 put :: iN .i64 0 :: pt d.q :: .tuple #[] :: pt d.q :: iN .i64 0 :: iN .i64 0 :: .bool false :: un :: .tuple #[iN .i64 put, iN .i64 0] :: .func (.func F) #[] cap :: .tuple #[iN .i64 put, iN .i64 0] :: iN .i64 put :: iN .i64 0 :: iN .i64 0 :: .bool true :: pt d.q :: pt d.q :: pt d.q :: .pointer (some ⟨d.q, 4, none⟩) :: .slice p2 D2.sizes.length c2 :: iN .i64 put :: .slice (some ⟨q7, 0, none⟩) 1 1 :: .slice p3 (D2.sizes.length + 1) c3 :: pt d.q :: .pointer (some ⟨d.q, 4, none⟩) :: iN .i64 0 :: List.replicate 0 un).toArray, []⟩) (by kernel_rfl) ?_
  refine wp_ret ?_
  repeat first | refine then_ret ?_ | refine block_ret ?_
  exact bodyPost_ret (v := iN .i64 0) (by kernel_rfl) rfl ⟨by rw [opD, if_neg (by rw [hd2]; decide), if_pos rfl], by rw [opD, if_neg (by rw [hd2]; decide), if_pos rfl]; exact ⟨fl2, nx2, _, Lr3, hfl2, hK2, by rw [List.length_append, List.map_append]; exact hR3, h15⟩⟩
end Go.Proofs.Ytjedhnjjgmbcbaa
