/-
 spend, operate, New, Arm.
-/
import Derived.Test.YtckmlaempffpjaaGreatGDM
import Derived.Test.YtckmlaempffpjaaGreatSh
namespace Go.Proofs.YtckmlaempffpjaaGreat
set_option linter.unusedVariables false
set_option maxRecDepth 100000
set_option maxHeartbeats 2000000
open Go.RowKit Go.Proofs.Tryz
theorem perm_mv (A B C : BL) : (A ++ (B ++ C)).Perm (B ++ (A ++ C)) := by
 rw [← List.append_assoc, ← List.append_assoc];exact List.perm_append_comm.append_right C
theorem Row.form {e : TypeId} {sz n : Nat} {v : Value} {xs : List Value} {Lr : BL} (h : Row e sz v n xs Lr) : ∃ p c, v = .slice p n c := by
 rcases h.2 with ⟨h1, h2, _⟩ | ⟨g, cap, cur, h1, _⟩
 ·exact ⟨none, 0, by rw [h1, h2]⟩
 ·exact ⟨_, _, h1⟩
theorem info3 : (prog.info? 3).map (fun i => (i.zero, i.size, i.bytes)) = some (some (.int .i64 0), 1, 8) := by kernel_rfl
theorem run_maxz {ρ : Operand → Value} {x y : Operand} {w : World} {dst : Option Tmp} {ty : TypeId} {pos : String} {aft : Array Edge} {gd : Option (Nat × Bool)} {z : Int} (hx : ρ x = .int .i64 z) (hy : ρ y = i6 0) : (execOp ρ ⟨dst, .call { callee := .builtin .max, args := #[x, y], argTypes := #[3, 3] }, ty, pos, aft, gd⟩).run prog w = .ok (.value (i6 z.toNat)) w := by
 simp only [execOp, iN] at hx hy ⊢
 go_simp
def spendD (D : DS) : DS := { D with left := D.left - 1, down := if D.left = 0 then D.down else decide (D.left = 1) }
theorem spend_z {z : Base} {q r fr lf : Nat} {dn : Bool} {v : Value} {T : BL} {w : World} (H0 : HA z ((q, 78, dcell r fr lf dn v) :: T) w) (hl : lf = 0) :
  Calls prog 110 #[pt q] w fun e w' => e = .returned (.tuple #[]) ∧ HA z ((q, 78, dcell r fr (lf - 1) (if lf = 0 then dn else decide (lf = 1)) v) :: T) w' := by
 go_enter Tryz.func110, Tryz.ntmps110
 refine wp_seq (zsr (zv ?_));refine wl_call (v := .bool false) H0 enter57 #[pq q] (none_no (H0.get 0 rfl)) ?_;intro w1 h2;refine zv (zv (zv (zv ?_)));refine zwu (v := i6 lf) (run_load1 isAgg3 (((h2.get 0 rfl).cell 2).trans rfl)) ?_;refine zwu (run_eqi (k := .i64) (a := lf) (b := 0) true (dt hl)) ?_;refine zv (znt (zct ?_));refine wp_ret ?_
 repeat first|refine zrt ?_|refine block_ret ?_
 exact zb ⟨rfl, by rw [if_pos hl, show lf - 1 = lf by omega]; exact h2⟩
theorem spend_s {z : Base} {q r fr lf : Nat} {dn : Bool} {v : Value} {T : BL} {w : World} (H0 : HA z ((q, 78, dcell r fr lf dn v) :: T) w) (hl : ¬ lf = 0) (hb : lf ≤ 9223372036854775807) :
  Calls prog 110 #[pt q] w fun e w' => e = .returned (.tuple #[]) ∧ HA z ((q, 78, dcell r fr (lf - 1) (if lf = 0 then dn else decide (lf = 1)) v) :: T) w' := by
 go_enter Tryz.func110, Tryz.ntmps110
 refine wp_seq (zsr (zv ?_));refine wl_call (v := .bool false) H0 enter57 #[pq q] (none_no (H0.get 0 rfl)) ?_;intro w1 h2;refine zv (zv (zv (zv ?_)));refine zwu (v := i6 lf) (run_load1 isAgg3 (((h2.get 0 rfl).cell 2).trans rfl)) ?_;refine zwu (run_eqi (k := .i64) (a := lf) (b := 0) false (df hl)) ?_;refine zv (znt (zcf (wp_skip (zt (zsr (zv (zv (zv ?_))))))));refine zwu (v := i6 lf) (run_load1 isAgg3 (((h2.get 0 rfl).cell 2).trans rfl)) ?_;refine zwu (v := i6 (lf - 1)) (run_sub (k := .i64) (a := lf) (b := 1) (by first | omega | (simp only [top]; omega)) (by first | omega | (simp only [top]; omega))) ?_;refine zv (zv ?_);refine wl_putv (v := i6 (lf - 1)) h2 0 rfl 2 (by show 2 < 5; decide) sizeOf3 ?_;intro w3 h4;refine znt (wl_region (zv (zv (zv (zv ?_)))));refine zwu (v := i6 (lf - 1)) (run_load1 isAgg3 (((h4.get 0 rfl).cell 2).trans rfl)) ?_;refine zwu (run_eqi (k := .i64) (a := lf - 1) (b := 0) _ rfl) ?_;refine zv (zv ?_);refine wl_putv (v := .bool (decide (lf - 1 = 0))) h4 0 rfl 3 (by show 3 < 5; decide) sizeOf4 ?_;intro w5 h6;refine wl_nil ?_;exact bodyPost_end (v := .tuple #[]) (by kernel_rfl) rfl ⟨rfl, by rw [if_neg hl, show decide (lf = 1) = decide (lf - 1 = 0) by congr 1; exact propext (by omega)]; exact h6⟩
theorem spend_any {z : Base} {q r fr lf : Nat} {dn : Bool} {v : Value} {T : BL} {w : World} (H0 : HA z ((q, 78, dcell r fr lf dn v) :: T) w) (hb : lf ≤ 9223372036854775807) :
  Calls prog 110 #[pt q] w fun e w' => e = .returned (.tuple #[]) ∧ HA z ((q, 78, dcell r fr (lf - 1) (if lf = 0 then dn else decide (lf = 1)) v) :: T) w' := by
 by_cases hl : lf = 0
 ·exact spend_z H0 hl
 ·exact spend_s H0 hl hb
theorem New_any (z : Int) {w0 : World} {M : ML} {L : BL} {w : World} (H0 : HA ⟨w0, M⟩ L w) :
  Calls prog 7 #[.int .i64 z] w fun e w' => ∃ d, e = .returned (pt d.q) ∧ DH w0 M d ⟨[], z.toNat, 0, false, []⟩ L w' := by
 go_enter Tryz.func7, Tryz.ntmps7
 refine zsr (zv (znt (zsr ?_)));refine wl_newMap H0 (by kernel_rfl) ?_;intro b1 w3 h2;refine zv ?_;refine zwu (run_maxz (z := z) (by kernel_rfl) (by kernel_rfl)) ?_;refine zv ?_;refine wl_make (c := #[.map (some b1), i6 z.toNat, i6 0, .bool false, .slice none 0 0]) h2 78 ?_;intro q4 w5 h6;refine zv (znt ?_);refine wp_ret ?_
 repeat first|refine zrt ?_|refine block_ret ?_
 exact zb (v := pt q4) ⟨⟨q4, b1⟩, rfl, [], 0, .slice none 0 0, [], rfl, ⟨fun _ h => (by cases h), fun _ h => (by cases h), List.nodup_nil, fun _ h => (by cases h), List.nodup_nil⟩, Row.nil 3 1, h6⟩
def armD (D : DS) (z : Int) : DS × Nat := if D.down = true then (D, 16) else if z < 0 then (D, 2) else ({ D with left := z.toNat }, 0)
theorem run_ltz {ρ : Operand → Value} {x y : Operand} {w : World} {dst : Option Tmp} {T T2 ty : TypeId} {pos : String} {aft : Array Edge} {gd : Option (Nat × Bool)} {P : Program} {a : Int} {b : Nat}   (t : Bool) (ht : decide (a < (b : Int)) = t) (hx : ρ x = .int .i64 a := by kernel_rfl) (hy : ρ y = i6 b := by kernel_rfl) : (execOp ρ ⟨dst, .binOp .lss T x y T2, ty, pos, aft, gd⟩).run P w = .ok (.value (.bool t)) w := by
 subst ht
 simp only [execOp, hx, hy, iN]
 simp [binOp, go_sem]
theorem Arm_d {w0 : World} {M : ML} {d : Dk} {D : DS} {L : BL} {w : World} (hD : DH w0 M d D L w) {z : Int} (hd : D.down = true)  :
  Calls prog 14 #[pt d.q, .int .i64 z] w fun e w' => e = .returned (i6 (armD D z).2) ∧ DH w0 M d (armD D z).1 L w' := by
 obtain ⟨fl, nx, v, Lr, hfl, hK, hR, H0⟩ := hD;rw [hd] at H0
 go_enter Tryz.func14, Tryz.ntmps14
 refine zsr (zv (znt (wp_seq (zsr (zv ?_)))));refine wl_call (v := i6 16) H0 enter46 #[pq d.q] (refused_true (H0.get 0 rfl)) ?_;intro w1 h2;refine zv (znt (zsr (zv ?_)));refine zwu (run_nei (k := .i64) (a := 16) (b := 0) true (by decide)) ?_;refine znt (zct (zsr (zv (zv (znt ?_)))));refine wp_ret ?_
 repeat first|refine zrt ?_|refine block_ret ?_
 exact zb (v := i6 16) ⟨by rw [armD, if_pos hd], by rw [armD, if_pos hd]; exact ⟨fl, nx, v, Lr, hfl, hK, hR, by rw [hd]; exact h2⟩⟩
theorem Arm_n {w0 : World} {M : ML} {d : Dk} {D : DS} {L : BL} {w : World} (hD : DH w0 M d D L w) {z : Int} (hd : D.down = false) (hz : z < 0) :
  Calls prog 14 #[pt d.q, .int .i64 z] w fun e w' => e = .returned (i6 (armD D z).2) ∧ DH w0 M d (armD D z).1 L w' := by
 obtain ⟨fl, nx, v, Lr, hfl, hK, hR, H0⟩ := hD;rw [hd] at H0
 go_enter Tryz.func14, Tryz.ntmps14
 refine zsr (zv (znt (wp_seq (zsr (zv ?_)))));refine wl_call (v := i6 0) H0 enter46 #[pq d.q] (refused_false (H0.get 0 rfl)) ?_;intro w1 h2;refine zv (znt (zsr (zv ?_)));refine zwu (run_nei (k := .i64) (a := 0) (b := 0) false (by decide)) ?_;refine znt (zcf (wp_skip (zt (wp_seq (zsr (zv ?_))))));refine zwu (run_ltz (a := z) (b := 0) true (dt hz)) ?_;refine znt (zct (zsr (zv (znt ?_))));refine wp_ret ?_
 repeat first|refine zrt ?_|refine block_ret ?_
 exact zb (v := i6 2) ⟨by rw [armD, if_neg (by rw [hd]; decide), if_pos hz], by rw [armD, if_neg (by rw [hd]; decide), if_pos hz]; exact ⟨fl, nx, v, Lr, hfl, hK, hR, by rw [hd]; exact h2⟩⟩
theorem Arm_y {w0 : World} {M : ML} {d : Dk} {D : DS} {L : BL} {w : World} (hD : DH w0 M d D L w) {z : Int} (hd : D.down = false) (hz : ¬ z < 0) :
  Calls prog 14 #[pt d.q, .int .i64 z] w fun e w' => e = .returned (i6 (armD D z).2) ∧ DH w0 M d (armD D z).1 L w' := by
 obtain ⟨fl, nx, v, Lr, hfl, hK, hR, H0⟩ := hD;rw [hd] at H0;obtain ⟨n, rfl⟩ : ∃ n : Nat, z = n := ⟨z.toNat, by omega⟩
 go_enter Tryz.func14, Tryz.ntmps14
 refine zsr (zv (znt (wp_seq (zsr (zv ?_)))));refine wl_call (v := i6 0) H0 enter46 #[pq d.q] (refused_false (H0.get 0 rfl)) ?_;intro w1 h2;refine zv (znt (zsr (zv ?_)));refine zwu (run_nei (k := .i64) (a := 0) (b := 0) false (by decide)) ?_;refine znt (zcf (wp_skip (zt (wp_seq (zsr (zv ?_))))));refine zwu (run_ltz (a := (n : Int)) (b := 0) false (df hz)) ?_;refine znt (zcf (wp_skip (zt (zsr (zv (zv (zv (zv ?_))))))));refine wl_putv (v := i6 n) h2 0 rfl 2 (by show 2 < 5; decide) sizeOf3 ?_;intro w3 h4;refine znt (zsr (zv (znt ?_)));refine wp_ret ?_
 repeat first|refine zrt ?_|refine block_ret ?_
 exact zb (v := i6 0) ⟨by rw [armD, if_neg (by rw [hd]; decide), if_neg hz], by rw [armD, if_neg (by rw [hd]; decide), if_neg hz]; exact ⟨fl, nx, v, Lr, hfl, hK, hR, by rw [hd]; exact h4⟩⟩
theorem Arm_any {w0 : World} {M : ML} {d : Dk} {D : DS} {L : BL} {w : World} (hD : DH w0 M d D L w) (z : Int) :
  Calls prog 14 #[pt d.q, .int .i64 z] w fun e w' => e = .returned (i6 (armD D z).2) ∧ DH w0 M d (armD D z).1 L w' := by
 cases hd : D.down with
 | true => exact Arm_d hD hd
 | false =>
  by_cases hz : z < 0
  ·exact Arm_n hD hd hz
  ·exact Arm_y hD hd hz
def opD (D D2 : DS) (put er : Nat) : DS × Nat := if (spendD D).down = true then (spendD D, 16) else if er = 0 then ({ D2 with sizes := D2.sizes ++ [put] }, 0) else (D2, er)
def intc (ps : List Nat) : Array Value := (ps.map (i6 ·)).toArray
theorem one_intc (ps : List Nat) : (intc ps).all (·.oneCell') = true := all_oneCell_toArray fun v hv => by
 obtain ⟨u, _, rfl⟩ := List.mem_map.1 hv
 rfl
theorem operate_d {w0 : World} {M : ML} {d : Dk} {D : DS} {L : BL} {w : World} (hD : DH w0 M d D L w) {F : FuncId} {cap : Array Value} {D2 : DS} {put er : Nat} (hF : ∀ args w, (callFunc F args).run prog w = .ok (.enter F args) w) (hlf : D.left ≤ 9223372036854775807) (hsz : D2.sizes.length ≤ 1000000000) (hd2 : (spendD D).down = true) (hdeed : ∀ w, DH w0 M d (spendD D) L w → Calls prog F cap w fun e w' => e = .returned (.tuple #[i6 put, i6 er]) ∧ DH w0 M d D2 L w')  :
  Calls prog 62 #[pt d.q, .func (.func F) #[] cap] w fun e w' => e = .returned (i6 (opD D D2 put er).2) ∧ DH w0 M d (opD D D2 put er).1 L w' := by
 obtain ⟨fl, nx, v, Lr, hfl, hK, hR, H0⟩ := hD;have hd : (if D.left = 0 then D.down else decide (D.left = 1)) = true := hd2
 go_enter Tryz.func62, Tryz.ntmps62
 refine zsr (zv (znt (zsr (zv ?_))));refine wl_callx enter110 #[pq d.q] (spend_any H0 hlf) ?_;rintro _ w2 ⟨rfl, h1⟩;refine ⟨_, rfl, ?_⟩;rw [hd] at h1;have h3 : HA ⟨w0, (d.r, .mp (eF fl) nx) :: M⟩ ((d.q, 78, dcell d.r D.free (D.left - 1) true v) :: (Lr ++ (FB fl ++ L))) w2 := h1;refine znt (wp_seq (zsr (zv ?_)));refine wl_call (v := i6 16) h3 enter46 #[pq d.q] (refused_true (h3.get 0 rfl)) ?_;intro w4 h5;refine zv (znt (zsr (zv ?_)));refine zwu (run_nei (k := .i64) (a := 16) (b := 0) true (by decide)) ?_;refine znt (zct (zsr (zv (zv (znt ?_)))));refine wp_ret ?_
 repeat first|refine zrt ?_|refine block_ret ?_
 exact zb (v := i6 16) ⟨by rw [opD, if_pos hd2], by rw [opD, if_pos hd2]; exact ⟨fl, nx, v, Lr, hfl, hK, hR, by rw [hd2]; exact h5⟩⟩
theorem operate_no {w0 : World} {M : ML} {d : Dk} {D : DS} {L : BL} {w : World} (hD : DH w0 M d D L w) {F : FuncId} {cap : Array Value} {D2 : DS} {put er : Nat} (hF : ∀ args w, (callFunc F args).run prog w = .ok (.enter F args) w) (hlf : D.left ≤ 9223372036854775807) (hsz : D2.sizes.length ≤ 1000000000) (hd2 : (spendD D).down = false) (hdeed : ∀ w, DH w0 M d (spendD D) L w → Calls prog F cap w fun e w' => e = .returned (.tuple #[i6 put, i6 er]) ∧ DH w0 M d D2 L w') (he : ¬ er = 0) :
  Calls prog 62 #[pt d.q, .func (.func F) #[] cap] w fun e w' => e = .returned (i6 (opD D D2 put er).2) ∧ DH w0 M d (opD D D2 put er).1 L w' := by
 obtain ⟨fl, nx, v, Lr, hfl, hK, hR, H0⟩ := hD;have hd : (if D.left = 0 then D.down else decide (D.left = 1)) = false := hd2
 go_enter Tryz.func62, Tryz.ntmps62
 refine zsr (zv (znt (zsr (zv ?_))));refine wl_callx enter110 #[pq d.q] (spend_any H0 hlf) ?_;rintro _ w2 ⟨rfl, h1⟩;refine ⟨_, rfl, ?_⟩;rw [hd] at h1;have h3 : HA ⟨w0, (d.r, .mp (eF fl) nx) :: M⟩ ((d.q, 78, dcell d.r D.free (D.left - 1) false v) :: (Lr ++ (FB fl ++ L))) w2 := h1;refine znt (wp_seq (zsr (zv ?_)));refine wl_call (v := i6 0) h3 enter46 #[pq d.q] (refused_false (h3.get 0 rfl)) ?_;intro w4 h5;refine zv (znt (zsr (zv ?_)));refine zwu (run_nei (k := .i64) (a := 0) (b := 0) false (by decide)) ?_;refine znt (zcf (wp_skip (zt (zsr (zv ?_)))));refine wl_callvx (cap := cap) (args := cap) hF (ha := (by simp)) (hdeed w4 ⟨fl, nx, v, Lr, hfl, hK, hR, by rw [show (spendD D).down = false from hd]; exact h5⟩) ?_;rintro _ w6 ⟨rfl, fl2, nx2, v2, Lr2, hfl2, hK2, hR2, H2⟩;refine ⟨_, rfl, ?_⟩;obtain ⟨p2, c2, rfl⟩ := hR2.form;refine zv (zv (zv (zv (zv (znt (wp_seq (zsr (zv ?_))))))));refine zwu (run_eqi (k := .i64) (a := er) (b := 0) false (df he)) ?_;refine znt (zcf (wp_skip (zt (zsr (zv (zv (znt ?_)))))));refine wp_ret ?_
 repeat first|refine zrt ?_|refine block_ret ?_
 exact zb (v := i6 er) ⟨by rw [opD, if_neg (by rw [hd2]; decide), if_neg he], by rw [opD, if_neg (by rw [hd2]; decide), if_neg he]; exact ⟨fl2, nx2, _, Lr2, hfl2, hK2, hR2, H2⟩⟩
theorem operate_ok {w0 : World} {M : ML} {d : Dk} {D : DS} {L : BL} {w : World} (hD : DH w0 M d D L w) {F : FuncId} {cap : Array Value} {D2 : DS} {put : Nat} (hF : ∀ args w, (callFunc F args).run prog w = .ok (.enter F args) w) (hlf : D.left ≤ 9223372036854775807) (hsz : D2.sizes.length ≤ 1000000000) (hd2 : (spendD D).down = false) (hdeed : ∀ w, DH w0 M d (spendD D) L w → Calls prog F cap w fun e w' => e = .returned (.tuple #[i6 put, i6 0]) ∧ DH w0 M d D2 L w')  :
  Calls prog 62 #[pt d.q, .func (.func F) #[] cap] w fun e w' => e = .returned (i6 (opD D D2 put 0).2) ∧ DH w0 M d (opD D D2 put 0).1 L w' := by
 obtain ⟨fl, nx, v, Lr, hfl, hK, hR, H0⟩ := hD;have hd : (if D.left = 0 then D.down else decide (D.left = 1)) = false := hd2
 go_enter Tryz.func62, Tryz.ntmps62
 refine zsr (zv (znt (zsr (zv ?_))));refine wl_callx enter110 #[pq d.q] (spend_any H0 hlf) ?_;rintro _ w2 ⟨rfl, h1⟩;refine ⟨_, rfl, ?_⟩;rw [hd] at h1;have h3 : HA ⟨w0, (d.r, .mp (eF fl) nx) :: M⟩ ((d.q, 78, dcell d.r D.free (D.left - 1) false v) :: (Lr ++ (FB fl ++ L))) w2 := h1;refine znt (wp_seq (zsr (zv ?_)));refine wl_call (v := i6 0) h3 enter46 #[pq d.q] (refused_false (h3.get 0 rfl)) ?_;intro w4 h5;refine zv (znt (zsr (zv ?_)));refine zwu (run_nei (k := .i64) (a := 0) (b := 0) false (by decide)) ?_;refine znt (zcf (wp_skip (zt (zsr (zv ?_)))));refine wl_callvx (cap := cap) (args := cap) hF (ha := (by simp)) (hdeed w4 ⟨fl, nx, v, Lr, hfl, hK, hR, by rw [show (spendD D).down = false from hd]; exact h5⟩) ?_;rintro _ w6 ⟨rfl, fl2, nx2, v2, Lr2, hfl2, hK2, hR2, H2⟩;refine ⟨_, rfl, ?_⟩;obtain ⟨p2, c2, rfl⟩ := hR2.form;refine zv (zv (zv (zv (zv (znt (wp_seq (zsr (zv ?_))))))));refine zwu (run_eqi (k := .i64) (a := 0) (b := 0) true (by decide)) ?_;refine znt (zct (wl_region (zv (zv (zv (zv ?_))))));refine zwu (v := .slice p2 D2.sizes.length c2) (run_load1 isAgg27 (((H2.get 0 rfl).cell 4).trans rfl)) ?_;refine zv ?_;refine wl_mks (n := 1) (m := 1) (c := intc [put]) H2 3 ?_;intro q7 w8 h9;have h10 : HA ⟨w0, (d.r, .mp (eF fl2) nx2) :: M⟩ ((q7, 3, intc [put]) :: (Lr2 ++ ([(d.q, 78, dcell d.r D2.free D2.left D2.down (.slice p2 D2.sizes.length c2))] ++ (FB fl2 ++ L)))) w8 := h9.perm (List.Perm.cons _ (perm_mv [(d.q, 78, dcell d.r D2.free D2.left D2.down (.slice p2 D2.sizes.length c2))] Lr2 (FB fl2 ++ L)));refine wl_append (m := 1) (c := 1) hR2 h10 (.int .i64 0) 8 underlying27 info3 rfl rfl (h1 := (one_intc _)) (by unfold maxLen; omega) (by omega) ?_;intro v3 w11 Lr3 hR3 h12;obtain ⟨p3, c3, rfl⟩ := hR3.form;have h13 : HA ⟨w0, (d.r, .mp (eF fl2) nx2) :: M⟩ ((d.q, 78, dcell d.r D2.free D2.left D2.down (.slice p2 D2.sizes.length c2)) :: (Lr3 ++ (FB fl2 ++ L))) w11 := HA.mv Lr3 [(d.q, 78, dcell d.r D2.free D2.left D2.down (.slice p2 D2.sizes.length c2))] (FB fl2 ++ L) h12;refine zv (zv ?_);refine wl_putv (v := .slice p3 (D2.sizes.length + 1) c3) h13 0 rfl 4 (by show 4 < 5; decide) sizeOf27 ?_;intro w14 h15;refine znt (zsr (zv (zv (znt ?_))));refine wp_ret ?_
 repeat first|refine zrt ?_|refine block_ret ?_
 exact zb (v := i6 0) ⟨by rw [opD, if_neg (by rw [hd2]; decide), if_pos rfl], by rw [opD, if_neg (by rw [hd2]; decide), if_pos rfl]; exact ⟨fl2, nx2, _, Lr3, hfl2, hK2, by rw [List.length_append, List.map_append]; exact hR3, h15⟩⟩
theorem Clone_any (s : ByteArray) (w : World) (h : s.size ≤ 1000000000) :
  Calls prog 109 #[.string s] w fun e w' => e = .returned (.string s) ∧ Below w.heap.size w w' := Tryz.stringslite_Clone s w (by omega)
theorem sclone_any (s : ByteArray) (w : World) (hs : s.size ≤ 1000000000) :
  Calls prog 61 #[.string s] w fun e w' => e = .returned (.string s) ∧ Below w.heap.size w w' := by
 have H0 := HA.start w
 go_enter Tryz.func61, Tryz.ntmps61
 refine zsr (zv (znt (zsr (zv ?_))));refine wl_call (v := .string s) H0 enter109 #[.string s] (Clone_any s w hs) ?_;intro w1 h2;refine zv (znt ?_);refine wp_ret ?_
 repeat first|refine zrt ?_|refine block_ret ?_
 exact zb ⟨rfl, h2.old.old⟩
theorem fl_split {fl : List Fl} {s : ByteArray} (h : ∃ f ∈ fl, f.nm = s) : ∃ A f B, fl = A ++ f :: B ∧ f.nm = s ∧ ∀ g ∈ A, g.nm ≠ s := by
 induction fl with
 | nil => obtain ⟨f, hf, _⟩ := h; cases hf
 | cons g fl ih =>
  by_cases hg : g.nm = s
  ·exact ⟨[], g, fl, rfl, hg, fun _ h => (by cases h)⟩
  ·obtain ⟨f, hf, e⟩ := h;have : f ∈ fl := by
    rcases List.mem_cons.1 hf with rfl | h
    ·exact absurd e hg
    ·exact h
   obtain ⟨A, f', B, rfl, h1, h2⟩ := ih ⟨f, this, e⟩;exact ⟨g :: A, f', B, rfl, h1, fun x hx => by
    rcases List.mem_cons.1 hx with rfl | hx
    ·exact hg
    ·exact h2 x hx⟩
theorem HA.file {z : Base} {q : Nat × TypeId × Array Value} {Lr L : BL} {A B : List Fl} {f : Fl} {w : World} (h : HA z (q :: (Lr ++ (FB (A ++ f :: B) ++ L))) w) :
  HA z (q :: (f.p, 109, fcell f.v f.sy) :: (f.Lr ++ (Lr ++ (FB (A ++ B) ++ L)))) w := by
 refine h.perm (List.Perm.cons _ ?_);rw [FB_app, FB_app, FB_cons]
 show (Lr ++ (FB A ++ (fb f ++ FB B) ++ L)).Perm (fb f ++ (Lr ++ (FB A ++ FB B ++ L)))
 have h1 : (FB A ++ (fb f ++ FB B) ++ L).Perm (fb f ++ (FB A ++ FB B ++ L)) := by
  have := perm_mv (FB A) (fb f) (FB B ++ L)
  simpa [List.append_assoc] using this
 exact (List.Perm.append_left Lr h1).trans (perm_mv Lr (fb f) _)
theorem HA.unfile {z : Base} {q : Nat × TypeId × Array Value} {Lr L : BL} {A B : List Fl} {f : Fl} {w : World} (h : HA z (q :: (f.p, 109, fcell f.v f.sy) :: (f.Lr ++ (Lr ++ (FB (A ++ B) ++ L)))) w) :
  HA z (q :: (Lr ++ (FB (A ++ f :: B) ++ L))) w := by
 refine h.perm (List.Perm.cons _ ?_);rw [FB_app, FB_app, FB_cons]
 show (fb f ++ (Lr ++ (FB A ++ FB B ++ L))).Perm (Lr ++ (FB A ++ (fb f ++ FB B) ++ L))
 have h1 : (FB A ++ (fb f ++ FB B) ++ L).Perm (fb f ++ (FB A ++ FB B ++ L)) := by
  have := perm_mv (FB A) (fb f) (FB B ++ L)
  simpa [List.append_assoc] using this
 exact ((List.Perm.append_left Lr h1).trans (perm_mv Lr (fb f) _)).symm
theorem eF_same {A B : List Fl} {f g : Fl} (h1 : g.nm = f.nm) (h2 : g.p = f.p) (h3 : g.bn = f.bn) : eF (A ++ g :: B) = eF (A ++ f :: B) := by simp [eF, ent, h1, h2, h3]
theorem FK.turn {A B : List Fl} {f g : Fl} {nx : Nat} (h : FK (A ++ f :: B) nx) (h1 : g.nm = f.nm) (h3 : g.bn = f.bn) (hr : RowB g.v g.da g.Lr) (hs : g.sy ≤ g.da.length) : FK (A ++ g :: B) nx := by
 have key : ∀ {P : Fl → Prop}, (∀ x ∈ A ++ f :: B, P x) → P g → ∀ x ∈ A ++ g :: B, P x := fun hp hg x hx => by
  rcases List.mem_append.1 hx with hx | hx
  ·exact hp x (by simp [hx])
  ·rcases List.mem_cons.1 hx with rfl | hx
   ·exact hg
   ·exact hp x (by simp [hx])
 exact ⟨key h.row hr, key h.syn hs, by have := h.nms; simpa [h1] using this, key h.old (by rw [h3]; exact h.old f (by simp)), by have := h.bns; simpa [h3] using this⟩
theorem FK.out {A B : List Fl} {f : Fl} {nx : Nat} (h : FK (A ++ f :: B) nx) : FK (A ++ B) nx := by
 have sub : (A ++ B).Sublist (A ++ f :: B) := List.Sublist.append_left (List.sublist_cons_self _ _) _;exact ⟨fun x hx => h.row x (sub.subset hx), fun x hx => h.syn x (sub.subset hx), (sub.map _).nodup h.nms, fun x hx => h.old x (sub.subset hx), (sub.map _).nodup h.bns⟩
theorem FK.more {fl : List Fl} {f : Fl} {nx : Nat} (h : FK fl nx) (hn : ∀ g ∈ fl, g.nm ≠ f.nm) (hb : f.bn = nx) (hr : RowB f.v f.da f.Lr) (hs : f.sy ≤ f.da.length) : FK (fl ++ [f]) (nx + 1) := by
 have key : ∀ {P : Fl → Prop}, (∀ x ∈ fl, P x) → P f → ∀ x ∈ fl ++ [f], P x := fun hp hg x hx => by
  rcases List.mem_append.1 hx with hx | hx
  ·exact hp x hx
  ·rw [List.mem_singleton.1 hx]; exact hg
 refine ⟨key h.row hr, key h.syn hs, ?_, key (fun x hx => Nat.lt_succ_of_lt (h.old x hx)) (by omega), ?_⟩
 ·rw [List.map_append, List.nodup_append];exact ⟨h.nms, by simp, fun a ha b hb' => by
   obtain ⟨x, hx, rfl⟩ := List.mem_map.1 ha;obtain rfl : b = f.nm := by simpa using hb'
   exact hn x hx⟩
 ·rw [List.map_append, List.nodup_append];exact ⟨h.bns, by simp, fun a ha b hb' => by
   obtain ⟨x, hx, rfl⟩ := List.mem_map.1 ha;obtain rfl : b = f.bn := by simpa using hb'
   have := h.old x hx
   omega⟩
theorem RowB.form {v : Value} {da : List UInt8} {Lr : BL} (h : RowB v da Lr) : ∃ p c, v = .slice p da.length c := by
 rcases h with ⟨rfl, rfl, rfl⟩ | ⟨g, cap, cur, rfl, _⟩
 ·exact ⟨none, 0, rfl⟩
 ·exact ⟨_, _, rfl⟩
end Go.Proofs.YtckmlaempffpjaaGreat
