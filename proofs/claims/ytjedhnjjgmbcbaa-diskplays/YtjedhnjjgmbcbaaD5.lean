/-
  Append.
-/
import Derived.Test.YtjedhnjjgmbcbaaD4
namespace Go.Proofs.Ytjedhnjjgmbcbaa
open Go.RowKit

theorem made_any {w0 : World} {M : ML} {q r fr lf nx : Nat} {dn : Bool} {v : Value} {Lr L : BL} {w : World} {fl : List Fl} {s : ByteArray} (hK : FK fl nx) (hs : s.size ≤ 1000000) (H0 : HA ⟨w0, (r, .mp (eF fl) nx) :: M⟩ ((q, 61, dcell r fr lf dn v) :: (Lr ++ (FB fl ++ L))) w) :
    Calls Try.prog 35 #[pt q, .string s] w fun e w' => ∃ A' f' B' nx', e = .returned (pt f'.p) ∧ f'.nm = s ∧ FK (A' ++ f' :: B') nx' ∧ (A' ++ f' :: B').map ab = mkF (fl.map ab) s ∧ HA ⟨w0, (r, .mp (eF (A' ++ f' :: B')) nx') :: M⟩ ((q, 61, dcell r fr lf dn v) :: (Lr ++ (FB (A' ++ f' :: B') ++ L))) w' := by
  by_cases h : ∃ f ∈ fl, f.nm = s
  · obtain ⟨A, f, B, rfl, h1, h2⟩ := fl_split h
    exact made_yes hK h1 H0
  · exact made_no hK (fun f hf e => h ⟨f, hf, e⟩) H0 hs
theorem operate_any {w0 : World} {M : ML} {d : Dk} {D : DS} {L : BL} {w : World} (hD : DH w0 M d D L w) {F : FuncId} {cap : Array Value} {D2 : DS} {put er : Nat} (hF : ∀ args w, (callFunc F args).run Try.prog w = .ok (.enter F args) w) (hlf : D.left ≤ 9223372036854775807) (hsz : D2.sizes.length ≤ 1000000)
    (hdeed : ∀ w, DH w0 M d (spendD D) L w → Calls Try.prog F cap w fun e w' => e = .returned (.tuple #[iN .i64 put, iN .i64 er]) ∧ DH w0 M d D2 L w') :
    Calls Try.prog 32 #[pt d.q, .func (.func F) #[] cap] w fun e w' => e = .returned (iN .i64 (opD D D2 put er).2) ∧ DH w0 M d (opD D D2 put er).1 L w' := by
  cases hd : (spendD D).down with
  | true => exact operate_d hD hF hlf hsz hd hdeed
  | false =>
    by_cases he : er = 0
    · subst he
      exact operate_ok hD hF hlf hsz hd hdeed
    · exact operate_no hD hF hlf hsz hd hdeed he
theorem HA.back {z : Base} {x : Nat × TypeId × Array Value} {Lr F L : BL} {w : World} (A : BL) (h : HA z (A ++ (x :: (Lr ++ (F ++ L)))) w) : HA z (x :: (Lr ++ (F ++ (A ++ L)))) w := by
  refine h.perm ?_
  have := perm_mv A (x :: (Lr ++ F)) L
  simpa [List.append_assoc] using this
theorem run_app_of {ρ : Operand → Value} {x y : Operand} {w w' : World} {dst : Option Tmp} {ty : TypeId} {pos : String} {aft : Array Edge} {gd : Option (Nat × Bool)} {v v' : Value} {s : ByteArray} (hx : ρ x = v) (hy : ρ y = .string s) (hrun : (Builtin.append_ #[52, 9] ty #[v, .string s]).run Try.prog w = .ok v' w') :
    (execOp ρ ⟨dst, .call { callee := .builtin .append, args := #[x, y], argTypes := #[52, 9] }, ty, pos, aft, gd⟩).run Try.prog w = .ok (.value v') w' := by
  unfold execOp
  simp only [resolve, invoke, builtin, Sem.run_bind, Sem.run_pure, Result.andThen_ok, List.map_toArray, List.map_cons, List.map_nil, hx, hy, hrun]
def used (fs : List FA) : Nat := (fs.map (·.da.length)).sum
/-- how great a disk may be -/
structure DB (D : DS) (U N : Nat) : Prop where
  rm : D.free + used D.fs ≤ 9223372036854775807
  lf : D.left ≤ 9223372036854775807
  us : used D.fs ≤ U
  sz : D.sizes.length ≤ N
  nm : ∀ x ∈ D.fs, x.nm.size ≤ 64
  ct : D.fs.length ≤ N
  nd : (D.fs.map (·.nm)).Nodup
theorem used_mem {fs : List FA} {x : FA} (h : x ∈ fs) : x.da.length ≤ used fs := by
  unfold used
  induction fs with
  | nil => cases h
  | cons y l ih =>
    rcases List.mem_cons.1 h with rfl | h
    · simp
    · have := ih h; simp; omega
theorem used_mkF (fs : List FA) (s : ByteArray) : used (mkF fs s) = used fs := by
  unfold mkF
  split
  · rfl
  · simp [used]
def appD (D : DS) (nm s : ByteArray) : DS × Nat × Nat :=
  if isNm nm = false then (D, 0, 2) else if D.free < s.size then (D, 0, 7)
  else ({ D with fs := updF (mkF D.fs nm) nm (fun x => { x with da := x.da ++ bl s }), free := D.free - s.size }, s.size, 0)
set_option linter.unusedVariables false in
set_option maxRecDepth 100000 in
set_option maxHeartbeats 2000000 in
theorem app_arg {w0 : World} {M : ML} {d : Dk} {D : DS} {L : BL} {bn bd bq : Nat} {nm s : ByteArray} {w : World} (hD : DH w0 M d D ((bd, 9, #[.string s]) :: (bn, 9, #[.string nm]) :: (bq, 23, #[pt d.q]) :: L) w) (hnm : isNm nm = false)  :
    Calls Try.prog 33 #[pt bn, pt bd, pt bq] w fun e w' => e = .returned (.tuple #[iN .i64 (appD D nm s).2.1, iN .i64 (appD D nm s).2.2]) ∧ DH w0 M d (appD D nm s).1 ((bd, 9, #[.string s]) :: (bn, 9, #[.string nm]) :: (bq, 23, #[pt d.q]) :: L) w' := by
  obtain ⟨fl, nx, v, Lr, hfl, hK, hR, H0⟩ := hD
  go_enter Try.func33, Try.ntmps33
  refine wp_seq ?_
  refine wl_region ?_
  refine wl_val (iN .i64 0) (by kernel_rfl) (by kernel_rfl) ?_
  refine wl_val (iN .i64 0) (by kernel_rfl) (by kernel_rfl) ?_
  refine wl_nil ?_
  refine then_at (F := ⟨(pt bn :: pt bd :: pt bq :: iN .i64 0 :: iN .i64 0 :: List.replicate 36 un).toArray, []⟩) (by kernel_rfl) ?_
  refine wp_seq ?_
  refine wp_block ?_
  refine wp_seq ?_
  refine wl_region ?_
  refine wl_val (.string nm) (by kernel_rfl) (run_load1 (fun w => Try.isAgg9 w) (by kernel_rfl) (((H0.blk (bn, 9, #[.string nm]) (by simp)).cell 0).trans rfl)) ?_
  refine wl_call (v := .bool false) H0 (by kernel_rfl) enter34 #[.string nm] (by kernel_rfl) (by have := isName_any nm w; rw [hnm] at this; exact this) ?_
  intro w1 h2
  refine wl_val (.bool true) (by kernel_rfl) (by kernel_rfl) ?_
  refine wl_val (.bool true) (by kernel_rfl) (by kernel_rfl) ?_
  refine wl_nil ?_
  refine then_at (F := ⟨(pt bn :: pt bd :: pt bq :: iN .i64 0 :: iN .i64 0 :: un :: .bool true :: .string nm :: .bool false :: .bool true :: List.replicate 31 un).toArray, []⟩) (by kernel_rfl) ?_
  refine wp_cond_true (by kernel_rfl) ?_
  refine wp_seq ?_
  refine wl_region ?_
  refine wl_val (iN .i64 0) (by kernel_rfl) (by kernel_rfl) ?_
  refine wl_val (iN .i64 2) (by kernel_rfl) (by kernel_rfl) ?_
  refine wl_nil ?_
  refine then_at (F := ⟨(pt bn :: pt bd :: pt bq :: iN .i64 0 :: iN .i64 2 :: un :: .bool true :: .string nm :: .bool false :: .bool true :: List.replicate 31 un).toArray, []⟩) (by kernel_rfl) ?_
  refine wp_ret ?_
  repeat first | refine then_ret ?_ | refine block_ret ?_
  exact bodyPost_ret (v := .tuple #[iN .i64 0, iN .i64 2]) (by kernel_rfl) rfl ⟨by rw [appD, if_pos hnm], by rw [appD, if_pos hnm]; exact ⟨fl, nx, v, Lr, hfl, hK, hR, h2⟩⟩
set_option linter.unusedVariables false in
set_option maxRecDepth 100000 in
set_option maxHeartbeats 2000000 in
theorem app_full {w0 : World} {M : ML} {d : Dk} {D : DS} {L : BL} {bn bd bq : Nat} {nm s : ByteArray} {w : World} (hD : DH w0 M d D ((bd, 9, #[.string s]) :: (bn, 9, #[.string nm]) :: (bq, 23, #[pt d.q]) :: L) w) (hnm : isNm nm = true) (hfr : D.free < s.size) :
    Calls Try.prog 33 #[pt bn, pt bd, pt bq] w fun e w' => e = .returned (.tuple #[iN .i64 (appD D nm s).2.1, iN .i64 (appD D nm s).2.2]) ∧ DH w0 M d (appD D nm s).1 ((bd, 9, #[.string s]) :: (bn, 9, #[.string nm]) :: (bq, 23, #[pt d.q]) :: L) w' := by
  obtain ⟨fl, nx, v, Lr, hfl, hK, hR, H0⟩ := hD
  go_enter Try.func33, Try.ntmps33
  refine wp_seq ?_
  refine wl_region ?_
  refine wl_val (iN .i64 0) (by kernel_rfl) (by kernel_rfl) ?_
  refine wl_val (iN .i64 0) (by kernel_rfl) (by kernel_rfl) ?_
  refine wl_nil ?_
  refine then_at (F := ⟨(pt bn :: pt bd :: pt bq :: iN .i64 0 :: iN .i64 0 :: List.replicate 36 un).toArray, []⟩) (by kernel_rfl) ?_
  refine wp_seq ?_
  refine wp_block ?_
  refine wp_seq ?_
  refine wl_region ?_
  refine wl_val (.string nm) (by kernel_rfl) (run_load1 (fun w => Try.isAgg9 w) (by kernel_rfl) (((H0.blk (bn, 9, #[.string nm]) (by simp)).cell 0).trans rfl)) ?_
  refine wl_call (v := .bool true) H0 (by kernel_rfl) enter34 #[.string nm] (by kernel_rfl) (by have := isName_any nm w; rw [hnm] at this; exact this) ?_
  intro w1 h2
  refine wl_val (.bool false) (by kernel_rfl) (by kernel_rfl) ?_
  refine wl_val (.bool false) (by kernel_rfl) (by kernel_rfl) ?_
  refine wl_nil ?_
  refine then_at (F := ⟨(pt bn :: pt bd :: pt bq :: iN .i64 0 :: iN .i64 0 :: un :: .bool false :: .string nm :: .bool true :: .bool false :: List.replicate 31 un).toArray, []⟩) (by kernel_rfl) ?_
  refine wp_cond_false (by kernel_rfl) ?_
  refine wp_seq ?_
  refine wp_region_sure ⟨(pt bn :: pt bd :: pt bq :: iN .i64 0 :: iN .i64 0 :: un :: .bool false :: .string nm :: .bool true :: .bool false :: .bool true :: .string s :: iN .i64 s.size :: pt d.q :: pt d.q :: .pointer (some ⟨d.q, 1, none⟩) :: iN .i64 D.free :: .bool true :: List.replicate 23 un).toArray, []⟩ (HA ⟨w0, (d.r, .mp (eF fl) nx) :: M⟩ ((d.q, 61, dcell d.r D.free D.left D.down v) :: (Lr ++ (FB fl ++ ((bd, 9, #[.string s]) :: (bn, 9, #[.string nm]) :: (bq, 23, #[pt d.q]) :: L))))) [.string s, iN .i64 s.size, .pointer (some ⟨d.q, 0, none⟩), .pointer (some ⟨d.q, 0, none⟩), .pointer (some ⟨d.q, 1, none⟩), iN .i64 D.free, .bool true, .bool true] (by kernel_rfl) (by kernel_rfl) (by kernel_rfl) (by kernel_rfl) (fun _ _ _ h => h) h2.drew ?_ ?_
  · refine AllSure.cons (OpSure.take (v := .string s) (by kernel_rfl) (by kernel_rfl) (fun w' h' => run_load1 (fun w => Try.isAgg9 w) (by kernel_rfl) (((h'.blk (bd, 9, #[.string s]) (by simp)).cell 0).trans rfl))) ?_
    refine AllSure.cons (OpSure.take (v := iN .i64 s.size) (by kernel_rfl) (by kernel_rfl) (fun _ _ => (run_len (s := s) (by kernel_rfl)))) ?_
    refine AllSure.cons (OpSure.take (v := .pointer (some ⟨d.q, 0, none⟩)) (by kernel_rfl) (by kernel_rfl) (fun w' h' => run_load1 (fun w => Try.isAgg23 w) (by kernel_rfl) (((h'.blk (bq, 23, #[pt d.q]) (by simp)).cell 0).trans rfl))) ?_
    refine AllSure.cons (OpSure.take (v := .pointer (some ⟨d.q, 0, none⟩)) (by kernel_rfl) (by kernel_rfl) (fun _ _ => (by kernel_rfl))) ?_
    refine AllSure.cons (OpSure.take (v := .pointer (some ⟨d.q, 1, none⟩)) (by kernel_rfl) (by kernel_rfl) (fun _ _ => (by kernel_rfl))) ?_
    refine AllSure.cons (OpSure.take (v := iN .i64 D.free) (by kernel_rfl) (by kernel_rfl) (fun w' h' => run_load1 (fun w => Try.isAgg3 w) (by kernel_rfl) (((h'.get 0 rfl).cell 1).trans rfl))) ?_
    refine AllSure.cons (OpSure.take (v := .bool true) (by kernel_rfl) (by kernel_rfl) (fun _ _ => (run_gtr (k := .i64) (a := s.size) (b := D.free) (by kernel_rfl) (by kernel_rfl) true (decide_eq_true hfr)))) ?_
    refine AllSure.cons (OpSure.take (v := .bool true) (by kernel_rfl) (by kernel_rfl) (fun _ _ => (by kernel_rfl))) ?_
    exact AllSure.nil
  intro w3 h4
  refine then_at (F := ⟨(pt bn :: pt bd :: pt bq :: iN .i64 0 :: iN .i64 0 :: un :: .bool false :: .string nm :: .bool true :: .bool false :: .bool true :: .string s :: iN .i64 s.size :: pt d.q :: pt d.q :: .pointer (some ⟨d.q, 1, none⟩) :: iN .i64 D.free :: .bool true :: List.replicate 23 un).toArray, []⟩) (by kernel_rfl) ?_
  refine wp_cond_true (by kernel_rfl) ?_
  refine wp_seq ?_
  refine wl_region ?_
  refine wl_val (iN .i64 0) (by kernel_rfl) (by kernel_rfl) ?_
  refine wl_val (iN .i64 7) (by kernel_rfl) (by kernel_rfl) ?_
  refine wl_nil ?_
  refine then_at (F := ⟨(pt bn :: pt bd :: pt bq :: iN .i64 0 :: iN .i64 7 :: un :: .bool false :: .string nm :: .bool true :: .bool false :: .bool true :: .string s :: iN .i64 s.size :: pt d.q :: pt d.q :: .pointer (some ⟨d.q, 1, none⟩) :: iN .i64 D.free :: .bool true :: List.replicate 23 un).toArray, []⟩) (by kernel_rfl) ?_
  refine wp_ret ?_
  repeat first | refine then_ret ?_ | refine block_ret ?_
  exact bodyPost_ret (v := .tuple #[iN .i64 0, iN .i64 7]) (by kernel_rfl) rfl ⟨by rw [appD, if_neg (by rw [hnm]; decide), if_pos hfr], by rw [appD, if_neg (by rw [hnm]; decide), if_pos hfr]; exact ⟨fl, nx, v, Lr, hfl, hK, hR, h4⟩⟩
set_option linter.unusedVariables false in
set_option maxRecDepth 100000 in
set_option maxHeartbeats 2000000 in
theorem app_ok {w0 : World} {M : ML} {d : Dk} {D : DS} {L : BL} {bn bd bq : Nat} {nm s : ByteArray} {w : World} (hD : DH w0 M d D ((bd, 9, #[.string s]) :: (bn, 9, #[.string nm]) :: (bq, 23, #[pt d.q]) :: L) w) (hnm : isNm nm = true) {U N : Nat} (hb : DB D U N) (hU : U + s.size ≤ 1000000) (hfr : ¬ D.free < s.size) :
    Calls Try.prog 33 #[pt bn, pt bd, pt bq] w fun e w' => e = .returned (.tuple #[iN .i64 (appD D nm s).2.1, iN .i64 (appD D nm s).2.2]) ∧ DH w0 M d (appD D nm s).1 ((bd, 9, #[.string s]) :: (bn, 9, #[.string nm]) :: (bq, 23, #[pt d.q]) :: L) w' := by
  obtain ⟨fl, nx, v, Lr, hfl, hK, hR, H0⟩ := hD
  have hnl : nm.size ≤ 1000000 := by simp [isNm] at hnm; omega
  have hrm := hb.rm
  have hus := hb.us
  go_enter Try.func33, Try.ntmps33
  refine wp_seq ?_
  refine wl_region ?_
  refine wl_val (iN .i64 0) (by kernel_rfl) (by kernel_rfl) ?_
  refine wl_val (iN .i64 0) (by kernel_rfl) (by kernel_rfl) ?_
  refine wl_nil ?_
  refine then_at (F := ⟨(pt bn :: pt bd :: pt bq :: iN .i64 0 :: iN .i64 0 :: List.replicate 36 un).toArray, []⟩) (by kernel_rfl) ?_
  refine wp_seq ?_
  refine wp_block ?_
  refine wp_seq ?_
  refine wl_region ?_
  refine wl_val (.string nm) (by kernel_rfl) (run_load1 (fun w => Try.isAgg9 w) (by kernel_rfl) (((H0.blk (bn, 9, #[.string nm]) (by simp)).cell 0).trans rfl)) ?_
  refine wl_call (v := .bool true) H0 (by kernel_rfl) enter34 #[.string nm] (by kernel_rfl) (by have := isName_any nm w; rw [hnm] at this; exact this) ?_
  intro w1 h2
  refine wl_val (.bool false) (by kernel_rfl) (by kernel_rfl) ?_
  refine wl_val (.bool false) (by kernel_rfl) (by kernel_rfl) ?_
  refine wl_nil ?_
  refine then_at (F := ⟨(pt bn :: pt bd :: pt bq :: iN .i64 0 :: iN .i64 0 :: un :: .bool false :: .string nm :: .bool true :: .bool false :: List.replicate 31 un).toArray, []⟩) (by kernel_rfl) ?_
  refine wp_cond_false (by kernel_rfl) ?_
  refine wp_seq ?_
  refine wp_region_sure ⟨(pt bn :: pt bd :: pt bq :: iN .i64 0 :: iN .i64 0 :: un :: .bool false :: .string nm :: .bool true :: .bool false :: .bool false :: .string s :: iN .i64 s.size :: pt d.q :: pt d.q :: .pointer (some ⟨d.q, 1, none⟩) :: iN .i64 D.free :: .bool false :: List.replicate 23 un).toArray, []⟩ (HA ⟨w0, (d.r, .mp (eF fl) nx) :: M⟩ ((d.q, 61, dcell d.r D.free D.left D.down v) :: (Lr ++ (FB fl ++ ((bd, 9, #[.string s]) :: (bn, 9, #[.string nm]) :: (bq, 23, #[pt d.q]) :: L))))) [.string s, iN .i64 s.size, .pointer (some ⟨d.q, 0, none⟩), .pointer (some ⟨d.q, 0, none⟩), .pointer (some ⟨d.q, 1, none⟩), iN .i64 D.free, .bool false, .bool false] (by kernel_rfl) (by kernel_rfl) (by kernel_rfl) (by kernel_rfl) (fun _ _ _ h => h) h2.drew ?_ ?_
  · refine AllSure.cons (OpSure.take (v := .string s) (by kernel_rfl) (by kernel_rfl) (fun w' h' => run_load1 (fun w => Try.isAgg9 w) (by kernel_rfl) (((h'.blk (bd, 9, #[.string s]) (by simp)).cell 0).trans rfl))) ?_
    refine AllSure.cons (OpSure.take (v := iN .i64 s.size) (by kernel_rfl) (by kernel_rfl) (fun _ _ => (run_len (s := s) (by kernel_rfl)))) ?_
    refine AllSure.cons (OpSure.take (v := .pointer (some ⟨d.q, 0, none⟩)) (by kernel_rfl) (by kernel_rfl) (fun w' h' => run_load1 (fun w => Try.isAgg23 w) (by kernel_rfl) (((h'.blk (bq, 23, #[pt d.q]) (by simp)).cell 0).trans rfl))) ?_
    refine AllSure.cons (OpSure.take (v := .pointer (some ⟨d.q, 0, none⟩)) (by kernel_rfl) (by kernel_rfl) (fun _ _ => (by kernel_rfl))) ?_
    refine AllSure.cons (OpSure.take (v := .pointer (some ⟨d.q, 1, none⟩)) (by kernel_rfl) (by kernel_rfl) (fun _ _ => (by kernel_rfl))) ?_
    refine AllSure.cons (OpSure.take (v := iN .i64 D.free) (by kernel_rfl) (by kernel_rfl) (fun w' h' => run_load1 (fun w => Try.isAgg3 w) (by kernel_rfl) (((h'.get 0 rfl).cell 1).trans rfl))) ?_
    refine AllSure.cons (OpSure.take (v := .bool false) (by kernel_rfl) (by kernel_rfl) (fun _ _ => (run_gtr (k := .i64) (a := s.size) (b := D.free) (by kernel_rfl) (by kernel_rfl) false (decide_eq_false hfr)))) ?_
    refine AllSure.cons (OpSure.take (v := .bool false) (by kernel_rfl) (by kernel_rfl) (fun _ _ => (by kernel_rfl))) ?_
    exact AllSure.nil
  intro w3 h4
  refine then_at (F := ⟨(pt bn :: pt bd :: pt bq :: iN .i64 0 :: iN .i64 0 :: un :: .bool false :: .string nm :: .bool true :: .bool false :: .bool false :: .string s :: iN .i64 s.size :: pt d.q :: pt d.q :: .pointer (some ⟨d.q, 1, none⟩) :: iN .i64 D.free :: .bool false :: List.replicate 23 un).toArray, []⟩) (by kernel_rfl) ?_
  refine wp_cond_false (by kernel_rfl) ?_
  refine wp_skip ?_
  refine block_normal ?_
  refine then_at (F := ⟨(pt bn :: pt bd :: pt bq :: iN .i64 0 :: iN .i64 0 :: un :: .bool false :: .string nm :: .bool true :: .bool false :: .bool false :: .string s :: iN .i64 s.size :: pt d.q :: pt d.q :: .pointer (some ⟨d.q, 1, none⟩) :: iN .i64 D.free :: .bool false :: List.replicate 23 un).toArray, []⟩) (by kernel_rfl) ?_
  refine wp_seq ?_
  refine wl_region ?_
  refine wl_val (.pointer (some ⟨d.q, 0, none⟩)) (by kernel_rfl) (run_load1 (fun w => Try.isAgg23 w) (by kernel_rfl) (((h4.blk (bq, 23, #[pt d.q]) (by simp)).cell 0).trans rfl)) ?_
  refine wl_val (.string nm) (by kernel_rfl) (run_load1 (fun w => Try.isAgg9 w) (by kernel_rfl) (((h4.blk (bn, 9, #[.string nm]) (by simp)).cell 0).trans rfl)) ?_
  refine wl_callx (by kernel_rfl) enter35 #[.pointer (some ⟨d.q, 0, none⟩), .string nm] (by kernel_rfl) (made_any hK hnl h4) ?_
  rintro _ w5 ⟨A, f, B, nx', rfl, hf, hK', hab, hm⟩
  refine ⟨_, rfl, ?_⟩
  have hlen : f.da.length + s.size ≤ 1099511627776 := by
    have h1 : ab f ∈ mkF (fl.map ab) nm := by rw [← hab]; simp
    have h2 := used_mem h1
    rw [used_mkF, hfl] at h2
    have h3 : (ab f).da.length = f.da.length := rfl
    omega
  obtain ⟨pf, cf, hv⟩ := (hK'.row f (by simp)).form
  have hrow := hK'.row f (by simp)
  rw [hv] at hrow
  have h6 := HA.file hm
  rw [hv] at h6
  refine wl_val (.pointer (some ⟨f.p, 0, none⟩)) (by kernel_rfl) (by kernel_rfl) ?_
  refine wl_nil ?_
  refine then_at (F := ⟨(pt bn :: pt bd :: pt bq :: iN .i64 0 :: iN .i64 0 :: pt f.p :: .bool false :: .string nm :: .bool true :: .bool false :: .bool false :: .string s :: iN .i64 s.size :: pt d.q :: pt d.q :: .pointer (some ⟨d.q, 1, none⟩) :: iN .i64 D.free :: .bool false :: pt d.q :: .string nm :: pt f.p :: List.replicate 20 un).toArray, []⟩) (by kernel_rfl) ?_
  refine wp_seq ?_
  refine wp_region_wx (HA ⟨w0, (d.r, .mp (eF (A ++ f :: B)) nx') :: M⟩ ((d.q, 61, dcell d.r D.free D.left D.down v) :: (f.p, 67, fcell (.slice pf f.da.length cf) f.sy) :: (f.Lr ++ (Lr ++ (FB (A ++ B) ++ ((bd, 9, #[.string s]) :: (bn, 9, #[.string nm]) :: (bq, 23, #[pt d.q]) :: L)))))) (fun AQ w' => ∃ (p4 : Option Addr) (c4 : Nat) (Lr4 : BL), AQ = ⟨(pt bn :: pt bd :: pt bq :: iN .i64 0 :: iN .i64 0 :: pt f.p :: .bool false :: .string nm :: .bool true :: .bool false :: .bool false :: .string s :: iN .i64 s.size :: pt d.q :: pt d.q :: .pointer (some ⟨d.q, 1, none⟩) :: iN .i64 D.free :: .bool false :: pt d.q :: .string nm :: pt f.p :: pt f.p :: pt f.p :: pt f.p :: pt f.p :: .slice pf f.da.length cf :: .string s :: .slice p4 (f.da ++ bl s).length c4 :: pt f.p :: pt f.p :: List.replicate 11 un).toArray, []⟩ ∧ RowB (.slice p4 (f.da ++ bl s).length c4) (f.da ++ bl s) Lr4 ∧ HA ⟨w0, (d.r, .mp (eF (A ++ f :: B)) nx') :: M⟩ ((d.q, 61, dcell d.r D.free D.left D.down v) :: (f.p, 67, fcell (.slice p4 (f.da ++ bl s).length c4) f.sy) :: (Lr4 ++ (Lr ++ (FB (A ++ B) ++ ((bd, 9, #[.string s]) :: (bn, 9, #[.string nm]) :: (bq, 23, #[pt d.q]) :: L))))) w') 10 (by kernel_rfl) (by kernel_rfl) (by kernel_rfl) (by kernel_rfl) (by kernel_rfl) (h6.drew) ?_ ?_
  · have h7 := h6.drew
    refine wx_pure (i := 0) (.pointer (some ⟨f.p, 0, none⟩)) rfl rfl (by kernel_rfl) (by kernel_rfl) (fun _ => (by kernel_rfl)) ?_
    refine wx_pure (i := 1) (.pointer (some ⟨f.p, 0, none⟩)) rfl rfl (by kernel_rfl) (by kernel_rfl) (fun _ => (by kernel_rfl)) ?_
    refine wx_pure (i := 2) (.pointer (some ⟨f.p, 0, none⟩)) rfl rfl (by kernel_rfl) (by kernel_rfl) (fun _ => (by kernel_rfl)) ?_
    refine wx_pure (i := 3) (.pointer (some ⟨f.p, 0, none⟩)) rfl rfl (by kernel_rfl) (by kernel_rfl) (fun _ => (by kernel_rfl)) ?_
    refine wx_val (i := 4) (.slice pf f.da.length cf) rfl rfl (by kernel_rfl) (by kernel_rfl) (fun w' h' => run_load1 (fun w => Try.isAgg52 w) (by kernel_rfl) (((h'.get 1 rfl).cell 0).trans rfl)) ?_
    refine wx_val (i := 5) (.string s) rfl rfl (by kernel_rfl) (by kernel_rfl) (fun w' h' => run_load1 (fun w => Try.isAgg9 w) (by kernel_rfl) (((h'.blk (bd, 9, #[.string s]) (by simp)).cell 0).trans rfl)) ?_
    refine wx_one 6 (by kernel_rfl) ?_
    refine ex_do rfl (by kernel_rfl) (by kernel_rfl) h7 fun w8 h9 => ?_
    obtain ⟨v4, w4, Lr4, hrun4, hrow4, hx4⟩ := RowB.apps hrow (h9.perm (perm_mv [(d.q, 61, dcell d.r D.free D.left D.down v), (f.p, 67, fcell (.slice pf f.da.length cf) f.sy)] f.Lr (Lr ++ (FB (A ++ B) ++ ((bd, 9, #[.string s]) :: (bn, 9, #[.string nm]) :: (bq, 23, #[pt d.q]) :: L))))) s 52 hlen
    obtain ⟨p4, c4, rfl⟩ := hrow4.form
    have h10 : HA ⟨w0, (d.r, .mp (eF (A ++ f :: B)) nx') :: M⟩ ((d.q, 61, dcell d.r D.free D.left D.down v) :: (f.p, 67, fcell (.slice pf f.da.length cf) f.sy) :: (Lr4 ++ (Lr ++ (FB (A ++ B) ++ ((bd, 9, #[.string s]) :: (bn, 9, #[.string nm]) :: (bq, 23, #[pt d.q]) :: L))))) w4 := hx4.perm (perm_mv Lr4 [(d.q, 61, dcell d.r D.free D.left D.down v), (f.p, 67, fcell (.slice pf f.da.length cf) f.sy)] (Lr ++ (FB (A ++ B) ++ ((bd, 9, #[.string s]) :: (bn, 9, #[.string nm]) :: (bq, 23, #[pt d.q]) :: L))))
    refine ⟨_, _, run_app_of (by kernel_rfl) (by kernel_rfl) hrun4, _, h10, ?_⟩
    refine wx_pure (i := 7) (.pointer (some ⟨f.p, 0, none⟩)) rfl rfl (by kernel_rfl) (by kernel_rfl) (fun _ => (by kernel_rfl)) ?_
    refine wx_pure (i := 8) (.pointer (some ⟨f.p, 0, none⟩)) rfl rfl (by kernel_rfl) (by kernel_rfl) (fun _ => (by kernel_rfl)) ?_
    refine wx_one 9 (by kernel_rfl) ?_
    refine ex_skip rfl (by kernel_rfl) (by kernel_rfl) h10 fun w11 h12 => ⟨_, run_storev (v := .slice p4 (f.da ++ bl s).length c4) (fun w => Try.sizeOf52 w) (by kernel_rfl) (by kernel_rfl) (by kernel_rfl) (by rw [(h12.get 1 rfl).cell]; rfl) ((h12.get 1 rfl).free _ (by show 0 < 2; decide)), _, h12.put 1 rfl 0 _, ?_⟩
    have h13 : HA ⟨w0, (d.r, .mp (eF (A ++ f :: B)) nx') :: M⟩ ((d.q, 61, dcell d.r D.free D.left D.down v) :: (f.p, 67, fcell (.slice p4 (f.da ++ bl s).length c4) f.sy) :: (Lr4 ++ (Lr ++ (FB (A ++ B) ++ ((bd, 9, #[.string s]) :: (bn, 9, #[.string nm]) :: (bq, 23, #[pt d.q]) :: L))))) _ := h12.put 1 rfl 0 (.slice p4 (f.da ++ bl s).length c4)
    refine wx_end fun w14 hbx _ => ?_
    have h15 := HA.keep _ _ h13 hbx
    exact ⟨p4, c4, Lr4, by kernel_rfl, hrow4, h15⟩
  · rintro _ w16 ⟨p4, c4, Lr4, rfl, hrow4, h17⟩
    refine then_at (F := ⟨(pt bn :: pt bd :: pt bq :: iN .i64 0 :: iN .i64 0 :: pt f.p :: .bool false :: .string nm :: .bool true :: .bool false :: .bool false :: .string s :: iN .i64 s.size :: pt d.q :: pt d.q :: .pointer (some ⟨d.q, 1, none⟩) :: iN .i64 D.free :: .bool false :: pt d.q :: .string nm :: pt f.p :: pt f.p :: pt f.p :: pt f.p :: pt f.p :: .slice pf f.da.length cf :: .string s :: .slice p4 (f.da ++ bl s).length c4 :: pt f.p :: pt f.p :: List.replicate 11 un).toArray, []⟩) (by kernel_rfl) ?_
    refine wp_seq ?_
    refine wp_region_wx (HA ⟨w0, (d.r, .mp (eF (A ++ f :: B)) nx') :: M⟩ ((d.q, 61, dcell d.r D.free D.left D.down v) :: (f.p, 67, fcell (.slice p4 (f.da ++ bl s).length c4) f.sy) :: (Lr4 ++ (Lr ++ (FB (A ++ B) ++ ((bd, 9, #[.string s]) :: (bn, 9, #[.string nm]) :: (bq, 23, #[pt d.q]) :: L)))))) (fun AQ w' => AQ = ⟨(pt bn :: pt bd :: pt bq :: iN .i64 0 :: iN .i64 0 :: pt f.p :: .bool false :: .string nm :: .bool true :: .bool false :: .bool false :: .string s :: iN .i64 s.size :: pt d.q :: pt d.q :: .pointer (some ⟨d.q, 1, none⟩) :: iN .i64 D.free :: .bool false :: pt d.q :: .string nm :: pt f.p :: pt f.p :: pt f.p :: pt f.p :: pt f.p :: .slice pf f.da.length cf :: .string s :: .slice p4 (f.da ++ bl s).length c4 :: pt f.p :: pt f.p :: pt d.q :: pt d.q :: .pointer (some ⟨d.q, 1, none⟩) :: iN .i64 D.free :: .string s :: iN .i64 s.size :: iN .i64 (D.free - s.size) :: pt d.q :: .pointer (some ⟨d.q, 1, none⟩) :: List.replicate 2 un).toArray, []⟩ ∧ HA ⟨w0, (d.r, .mp (eF (A ++ f :: B)) nx') :: M⟩ ((d.q, 61, dcell d.r (D.free - s.size) D.left D.down v) :: (f.p, 67, fcell (.slice p4 (f.da ++ bl s).length c4) f.sy) :: (Lr4 ++ (Lr ++ (FB (A ++ B) ++ ((bd, 9, #[.string s]) :: (bn, 9, #[.string nm]) :: (bq, 23, #[pt d.q]) :: L))))) w') 10 (by kernel_rfl) (by kernel_rfl) (by kernel_rfl) (by kernel_rfl) (by kernel_rfl) (h17.drew) ?_ ?_
    · have h18 := h17.drew
      refine wx_val (i := 0) (.pointer (some ⟨d.q, 0, none⟩)) rfl rfl (by kernel_rfl) (by kernel_rfl) (fun w' h' => run_load1 (fun w => Try.isAgg23 w) (by kernel_rfl) (((h'.blk (bq, 23, #[pt d.q]) (by simp)).cell 0).trans rfl)) ?_
      refine wx_pure (i := 1) (.pointer (some ⟨d.q, 0, none⟩)) rfl rfl (by kernel_rfl) (by kernel_rfl) (fun _ => (by kernel_rfl)) ?_
      refine wx_pure (i := 2) (.pointer (some ⟨d.q, 1, none⟩)) rfl rfl (by kernel_rfl) (by kernel_rfl) (fun _ => (by kernel_rfl)) ?_
      refine wx_val (i := 3) (iN .i64 D.free) rfl rfl (by kernel_rfl) (by kernel_rfl) (fun w' h' => run_load1 (fun w => Try.isAgg3 w) (by kernel_rfl) (((h'.get 0 rfl).cell 1).trans rfl)) ?_
      refine wx_val (i := 4) (.string s) rfl rfl (by kernel_rfl) (by kernel_rfl) (fun w' h' => run_load1 (fun w => Try.isAgg9 w) (by kernel_rfl) (((h'.blk (bd, 9, #[.string s]) (by simp)).cell 0).trans rfl)) ?_
      refine wx_pure (i := 5) (iN .i64 s.size) rfl rfl (by kernel_rfl) (by kernel_rfl) (fun _ => (run_len (s := s) (by kernel_rfl))) ?_
      refine wx_pure (i := 6) (iN .i64 (D.free - s.size)) rfl rfl (by kernel_rfl) (by kernel_rfl) (fun _ => (run_sub (k := .i64) (a := D.free) (b := s.size) (by kernel_rfl) (by kernel_rfl) (by first | omega | (simp only [top]; omega)) (by first | omega | (simp only [top]; omega)))) ?_
      refine wx_pure (i := 7) (.pointer (some ⟨d.q, 0, none⟩)) rfl rfl (by kernel_rfl) (by kernel_rfl) (fun _ => (by kernel_rfl)) ?_
      refine wx_pure (i := 8) (.pointer (some ⟨d.q, 1, none⟩)) rfl rfl (by kernel_rfl) (by kernel_rfl) (fun _ => (by kernel_rfl)) ?_
      refine wx_one 9 (by kernel_rfl) ?_
      refine ex_skip rfl (by kernel_rfl) (by kernel_rfl) h18 fun w19 h20 => ⟨_, run_storev (v := iN .i64 (D.free - s.size)) (fun w => Try.sizeOf3 w) (by kernel_rfl) (by kernel_rfl) (by kernel_rfl) (by rw [(h20.get 0 rfl).cell]; rfl) ((h20.get 0 rfl).free _ (by show 1 < 5; decide)), _, h20.put 0 rfl 1 _, ?_⟩
      have h21 : HA ⟨w0, (d.r, .mp (eF (A ++ f :: B)) nx') :: M⟩ ((d.q, 61, dcell d.r (D.free - s.size) D.left D.down v) :: (f.p, 67, fcell (.slice p4 (f.da ++ bl s).length c4) f.sy) :: (Lr4 ++ (Lr ++ (FB (A ++ B) ++ ((bd, 9, #[.string s]) :: (bn, 9, #[.string nm]) :: (bq, 23, #[pt d.q]) :: L))))) _ := h20.put 0 rfl 1 (iN .i64 (D.free - s.size))
      refine wx_end fun w22 hbx _ => ?_
      have h23 := HA.keep _ _ h21 hbx
      exact ⟨by kernel_rfl, h23⟩
    · rintro _ w24 ⟨rfl, h25⟩
      refine then_at (F := ⟨(pt bn :: pt bd :: pt bq :: iN .i64 0 :: iN .i64 0 :: pt f.p :: .bool false :: .string nm :: .bool true :: .bool false :: .bool false :: .string s :: iN .i64 s.size :: pt d.q :: pt d.q :: .pointer (some ⟨d.q, 1, none⟩) :: iN .i64 D.free :: .bool false :: pt d.q :: .string nm :: pt f.p :: pt f.p :: pt f.p :: pt f.p :: pt f.p :: .slice pf f.da.length cf :: .string s :: .slice p4 (f.da ++ bl s).length c4 :: pt f.p :: pt f.p :: pt d.q :: pt d.q :: .pointer (some ⟨d.q, 1, none⟩) :: iN .i64 D.free :: .string s :: iN .i64 s.size :: iN .i64 (D.free - s.size) :: pt d.q :: .pointer (some ⟨d.q, 1, none⟩) :: List.replicate 2 un).toArray, []⟩) (by kernel_rfl) ?_
      refine wp_seq ?_
      refine wl_region ?_
      refine wl_val (.string s) (by kernel_rfl) (run_load1 (fun w => Try.isAgg9 w) (by kernel_rfl) (((h25.blk (bd, 9, #[.string s]) (by simp)).cell 0).trans rfl)) ?_
      refine wl_val (iN .i64 s.size) (by kernel_rfl) (run_len (s := s) (by kernel_rfl)) ?_
      refine wl_val (iN .i64 s.size) (by kernel_rfl) (by kernel_rfl) ?_
      refine wl_val (iN .i64 0) (by kernel_rfl) (by kernel_rfl) ?_
      refine wl_nil ?_
      refine then_at (F := ⟨(pt bn :: pt bd :: pt bq :: iN .i64 s.size :: iN .i64 0 :: pt f.p :: .bool false :: .string nm :: .bool true :: .bool false :: .bool false :: .string s :: iN .i64 s.size :: pt d.q :: pt d.q :: .pointer (some ⟨d.q, 1, none⟩) :: iN .i64 D.free :: .bool false :: pt d.q :: .string nm :: pt f.p :: pt f.p :: pt f.p :: pt f.p :: pt f.p :: .slice pf f.da.length cf :: .string s :: .slice p4 (f.da ++ bl s).length c4 :: pt f.p :: pt f.p :: pt d.q :: pt d.q :: .pointer (some ⟨d.q, 1, none⟩) :: iN .i64 D.free :: .string s :: iN .i64 s.size :: iN .i64 (D.free - s.size) :: pt d.q :: .pointer (some ⟨d.q, 1, none⟩) :: .string s :: iN .i64 s.size :: List.replicate 0 un).toArray, []⟩) (by kernel_rfl) ?_
      refine wp_ret ?_
      repeat first | refine then_ret ?_ | refine block_ret ?_
      have hup := upd_at hK' ⟨f.nm, f.p, f.da ++ bl s, f.sy, .slice p4 (f.da ++ bl s).length c4, Lr4, f.bn⟩ (fun x => { x with da := x.da ++ bl s }) rfl
      rw [hab, hfl] at hup
      subst hf
      exact bodyPost_ret (v := .tuple #[iN .i64 s.size, iN .i64 0]) (by kernel_rfl) rfl ⟨by rw [appD, if_neg (by rw [hnm]; decide), if_neg hfr], by rw [appD, if_neg (by rw [hnm]; decide), if_neg hfr]; exact ⟨A ++ ⟨f.nm, f.p, f.da ++ bl s, f.sy, .slice p4 (f.da ++ bl s).length c4, Lr4, f.bn⟩ :: B, nx', v, Lr, hup, hK'.turn rfl rfl hrow4 (by have := hK'.syn f (by simp); simp; omega), hR, HA.unfile (f := ⟨f.nm, f.p, f.da ++ bl s, f.sy, .slice p4 (f.da ++ bl s).length c4, Lr4, f.bn⟩) (by rw [eF_same (g := ⟨f.nm, f.p, f.da ++ bl s, f.sy, .slice p4 (f.da ++ bl s).length c4, Lr4, f.bn⟩) (f := f) rfl rfl rfl]; exact h25)⟩⟩
theorem app_any {w0 : World} {M : ML} {d : Dk} {D : DS} {L : BL} {bn bd bq : Nat} {nm s : ByteArray} {w : World} (hD : DH w0 M d D ((bd, 9, #[.string s]) :: (bn, 9, #[.string nm]) :: (bq, 23, #[pt d.q]) :: L) w) {U N : Nat} (hb : DB D U N) (hU : U + s.size ≤ 1000000) :
    Calls Try.prog 33 #[pt bn, pt bd, pt bq] w fun e w' => e = .returned (.tuple #[iN .i64 (appD D nm s).2.1, iN .i64 (appD D nm s).2.2]) ∧ DH w0 M d (appD D nm s).1 ((bd, 9, #[.string s]) :: (bn, 9, #[.string nm]) :: (bq, 23, #[pt d.q]) :: L) w' := by
  cases hnm : isNm nm with
  | false => exact app_arg hD hnm
  | true =>
    by_cases hfr : D.free < s.size
    · exact app_full hD hnm hfr
    · exact app_ok hD hnm hb hU hfr
theorem spend_DB {D : DS} {U N : Nat} (h : DB D U N) : DB (spendD D) U N := ⟨h.rm, by have := h.lf; simp only [spendD]; omega, h.us, h.sz, h.nm, h.ct, h.nd⟩
def AppendD (D : DS) (nm s : ByteArray) : DS × Nat := opD D (appD (spendD D) nm s).1 (appD (spendD D) nm s).2.1 (appD (spendD D) nm s).2.2
theorem appD_sz (D : DS) (nm s : ByteArray) : (appD D nm s).1.sizes = D.sizes := by
  unfold appD
  split
  · rfl
  · split <;> rfl
set_option linter.unusedVariables false in
set_option maxRecDepth 100000 in
set_option maxHeartbeats 2000000 in
theorem Append_any {w0 : World} {M : ML} {d : Dk} {D : DS} {L : BL} {w : World} (hD : DH w0 M d D L w) (nm s : ByteArray) {U N : Nat} (hb : DB D U N) (hU : U + s.size ≤ 1000000) (hN : N ≤ 1000000) :
    Calls Try.prog 10 #[pt d.q, .string nm, .string s] w fun e w' => e = .returned (iN .i64 (AppendD D nm s).2) ∧ DH w0 M d (AppendD D nm s).1 L w' := by
  obtain ⟨fl, nx, v, Lr, hfl, hK, hR, H0⟩ := hD
  go_enter Try.func10, Try.ntmps10
  refine wp_seq ?_
  refine wl_region ?_
  refine wl_make (c := #[.pointer (some ⟨d.q, 0, none⟩)]) H0 23 (by kernel_rfl) (by kernel_rfl) ?_
  intro q1 w2 (h3 : HA ⟨w0, (d.r, .mp (eF fl) nx) :: M⟩ ((q1, 23, #[.pointer (some ⟨d.q, 0, none⟩)]) :: (d.q, 61, dcell d.r D.free D.left D.down v) :: (Lr ++ (FB fl ++ L))) w2)
  refine wl_make (c := #[.string nm]) h3 9 (by kernel_rfl) (by kernel_rfl) ?_
  intro q4 w5 (h6 : HA ⟨w0, (d.r, .mp (eF fl) nx) :: M⟩ ((q4, 9, #[.string nm]) :: (q1, 23, #[.pointer (some ⟨d.q, 0, none⟩)]) :: (d.q, 61, dcell d.r D.free D.left D.down v) :: (Lr ++ (FB fl ++ L))) w5)
  refine wl_make (c := #[.string s]) h6 9 (by kernel_rfl) (by kernel_rfl) ?_
  intro q7 w8 (h9 : HA ⟨w0, (d.r, .mp (eF fl) nx) :: M⟩ ((q7, 9, #[.string s]) :: (q4, 9, #[.string nm]) :: (q1, 23, #[.pointer (some ⟨d.q, 0, none⟩)]) :: (d.q, 61, dcell d.r D.free D.left D.down v) :: (Lr ++ (FB fl ++ L))) w8)
  refine wl_val (iN .i64 0) (by kernel_rfl) (by kernel_rfl) ?_
  refine wl_nil ?_
  refine then_at (F := ⟨(pt d.q :: .string nm :: .string s :: pt q1 :: pt q4 :: pt q7 :: iN .i64 0 :: List.replicate 3 un).toArray, []⟩) (by kernel_rfl) ?_
  refine wp_seq ?_
  refine wl_region ?_
  refine wl_val (.pointer (some ⟨d.q, 0, none⟩)) (by kernel_rfl) (run_load1 (fun w => Try.isAgg23 w) (by kernel_rfl) (((h9.get 2 rfl).cell 0).trans rfl)) ?_
  refine wl_val (.func (.func 33) #[] #[.pointer (some ⟨q4, 0, none⟩), .pointer (some ⟨q7, 0, none⟩), .pointer (some ⟨q1, 0, none⟩)]) (by kernel_rfl) (by kernel_rfl) ?_
  refine wl_callx (by kernel_rfl) enter32 #[.pointer (some ⟨d.q, 0, none⟩), .func (.func 33) #[] #[.pointer (some ⟨q4, 0, none⟩), .pointer (some ⟨q7, 0, none⟩), .pointer (some ⟨q1, 0, none⟩)]] (by kernel_rfl) (operate_any ⟨fl, nx, v, Lr, hfl, hK, hR, HA.back [(q7, 9, #[.string s]), (q4, 9, #[.string nm]), (q1, 23, #[.pointer (some ⟨d.q, 0, none⟩)])] h9⟩ enter33 hb.lf (by rw [appD_sz]; exact Nat.le_trans hb.sz hN) (fun w h => app_any h (spend_DB hb) hU)) ?_
  rintro _ w10 ⟨rfl, hD2⟩
  refine ⟨_, rfl, ?_⟩
  refine wl_val (iN .i64 ((AppendD D nm s).2)) (by kernel_rfl) (by kernel_rfl) ?_
  refine wl_nil ?_
  refine then_at (F := ⟨(pt d.q :: .string nm :: .string s :: pt q1 :: pt q4 :: pt q7 :: iN .i64 ((AppendD D nm s).2) :: pt d.q :: .func (.func 33) #[] #[pt q4, pt q7, pt q1] :: iN .i64 ((AppendD D nm s).2) :: List.replicate 0 un).toArray, []⟩) (by kernel_rfl) ?_
  refine wp_ret ?_
  repeat first | refine then_ret ?_ | refine block_ret ?_
  exact bodyPost_ret (v := iN .i64 (AppendD D nm s).2) (by kernel_rfl) rfl ⟨rfl, DH.drop (A := [(q7, 9, #[.string s]), (q4, 9, #[.string nm]), (q1, 23, #[.pointer (some ⟨d.q, 0, none⟩)])]) hD2⟩
end Go.Proofs.Ytjedhnjjgmbcbaa
