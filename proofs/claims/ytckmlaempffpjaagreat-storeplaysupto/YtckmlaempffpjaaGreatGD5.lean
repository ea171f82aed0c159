/-
 Append.
-/
import Derived.Test.YtckmlaempffpjaaGreatD4
namespace Go.Proofs.YtckmlaempffpjaaGreat
set_option linter.unusedVariables false
set_option maxRecDepth 100000
set_option maxHeartbeats 2000000
open Go.RowKit Go.Proofs.Tryz
theorem made_any {w0 : World} {M : ML} {q r fr lf nx : Nat} {dn : Bool} {v : Value} {Lr L : BL} {w : World} {fl : List Fl} {s : ByteArray} (hK : FK fl nx) (hs : s.size ≤ 1000000000) (H0 : HA ⟨w0, (r, .mp (eF fl) nx) :: M⟩ ((q, 78, dcell r fr lf dn v) :: (Lr ++ (FB fl ++ L))) w) :
  Calls prog 65 #[pt q, .string s] w fun e w' => ∃ A' f' B' nx', e = .returned (pt f'.p) ∧ f'.nm = s ∧ FK (A' ++ f' :: B') nx' ∧ (A' ++ f' :: B').map ab = mkF (fl.map ab) s ∧ HA ⟨w0, (r, .mp (eF (A' ++ f' :: B')) nx') :: M⟩ ((q, 78, dcell r fr lf dn v) :: (Lr ++ (FB (A' ++ f' :: B') ++ L))) w' := by
 by_cases h : ∃ f ∈ fl, f.nm = s
 ·obtain ⟨A, f, B, rfl, h1, h2⟩ := fl_split h;exact made_yes hK h1 H0
 ·exact made_no hK (fun f hf e => h ⟨f, hf, e⟩) H0 hs
theorem operate_any {w0 : World} {M : ML} {d : Dk} {D : DS} {L : BL} {w : World} (hD : DH w0 M d D L w) {F : FuncId} {cap : Array Value} {D2 : DS} {put er : Nat} (hF : ∀ args w, (callFunc F args).run prog w = .ok (.enter F args) w) (hlf : D.left ≤ 9223372036854775807) (hsz : D2.sizes.length ≤ 1000000000)
  (hdeed : ∀ w, DH w0 M d (spendD D) L w → Calls prog F cap w fun e w' => e = .returned (.tuple #[i6 put, i6 er]) ∧ DH w0 M d D2 L w') :
  Calls prog 62 #[pt d.q, .func (.func F) #[] cap] w fun e w' => e = .returned (i6 (opD D D2 put er).2) ∧ DH w0 M d (opD D D2 put er).1 L w' := by
 cases hd : (spendD D).down with
 | true => exact operate_d hD hF hlf hsz hd hdeed
 | false =>
  by_cases he : er = 0
  ·subst he;exact operate_ok hD hF hlf hsz hd hdeed
  ·exact operate_no hD hF hlf hsz hd hdeed he
theorem HA.back {z : Base} {x : Nat × TypeId × Array Value} {Lr F L : BL} {w : World} (A : BL) (h : HA z (A ++ (x :: (Lr ++ (F ++ L)))) w) : HA z (x :: (Lr ++ (F ++ (A ++ L)))) w := by
 refine h.perm ?_;have := perm_mv A (x :: (Lr ++ F)) L
 simpa [List.append_assoc] using this
theorem run_app_of {ρ : Operand → Value} {x y : Operand} {w w' : World} {dst : Option Tmp} {ty : TypeId} {pos : String} {aft : Array Edge} {gd : Option (Nat × Bool)} {v v' : Value} {s : ByteArray} (hx : ρ x = v) (hy : ρ y = .string s) (hrun : (Builtin.append_ #[62, 9] ty #[v, .string s]).run prog w = .ok v' w') :
  (execOp ρ ⟨dst, .call { callee := .builtin .append, args := #[x, y], argTypes := #[62, 9] }, ty, pos, aft, gd⟩).run prog w = .ok (.value v') w' := by
 unfold execOp
 simp only [resolve, invoke, builtin, Sem.run_bind, Sem.run_pure, Result.andThen_ok, List.map_toArray, List.map_cons, List.map_nil, hx, hy, hrun]
def used (fs : List FA) : Nat := (fs.map (·.da.length)).sum
structure DB (D : DS) (U N : Nat) : Prop where
 rm : D.free + used D.fs ≤ 9223372036854775807
 lf : D.left ≤ 9223372036854775807
 us : used D.fs ≤ U
 sz : D.sizes.length ≤ N
 nm : ∀ x ∈ D.fs, x.nm.size ≤ 64
 ct : D.fs.length ≤ N
 nd : (D.fs.map (·.nm)).Nodup
theorem used_mem {fs : List FA} {x : FA} (h : x ∈ fs) : x.da.length ≤ used fs := by
 unfold used
 induction fs with
 | nil => cases h
 | cons y l ih =>
  rcases List.mem_cons.1 h with rfl | h
  ·simp
  ·have := ih h; simp; omega
theorem used_mkF (fs : List FA) (s : ByteArray) : used (mkF fs s) = used fs := by
 unfold mkF
 split
 ·rfl
 ·simp [used]
def appD (D : DS) (nm s : ByteArray) : DS × Nat × Nat :=
 if isNm nm = false then (D, 0, 2) else if D.free < s.size then (D, 0, 7)
 else ({ D with fs := updF (mkF D.fs nm) nm (fun x => { x with da := x.da ++ bl s }), free := D.free - s.size }, s.size, 0)
theorem app_arg {w0 : World} {M : ML} {d : Dk} {D : DS} {L : BL} {bn bd bq : Nat} {nm s : ByteArray} {w : World} (hD : DH w0 M d D ((bd, 9, #[.string s]) :: (bn, 9, #[.string nm]) :: (bq, 23, #[pt d.q]) :: L) w) (hnm : isNm nm = false)  :
  Calls prog 63 #[pt bn, pt bd, pt bq] w fun e w' => e = .returned (.tuple #[i6 (appD D nm s).2.1, i6 (appD D nm s).2.2]) ∧ DH w0 M d (appD D nm s).1 ((bd, 9, #[.string s]) :: (bn, 9, #[.string nm]) :: (bq, 23, #[pt d.q]) :: L) w' := by
 obtain ⟨fl, nx, v, Lr, hfl, hK, hR, H0⟩ := hD
 go_enter Tryz.func63, Tryz.ntmps63
 refine zsr (zv (zv (znt (wp_seq ?_))));refine wp_block ?_;refine zsr ?_;refine zwu (v := .string nm) (run_load1 isAgg9 (((H0.blk (bn, 9, #[.string nm]) (by simp)).cell 0).trans rfl)) ?_;refine wl_call (v := .bool false) H0 enter64 #[.string nm] (by have := isName_any nm w; rw [hnm] at this; exact this) ?_;intro w1 h2;refine zv (zv (znt (zct (zsr (zv (zv (znt ?_)))))));refine wp_ret ?_
 repeat first|refine zrt ?_|refine block_ret ?_
 exact zb (v := .tuple #[i6 0, i6 2]) ⟨by rw [appD, if_pos hnm], by rw [appD, if_pos hnm]; exact ⟨fl, nx, v, Lr, hfl, hK, hR, h2⟩⟩
theorem app_full {w0 : World} {M : ML} {d : Dk} {D : DS} {L : BL} {bn bd bq : Nat} {nm s : ByteArray} {w : World} (hD : DH w0 M d D ((bd, 9, #[.string s]) :: (bn, 9, #[.string nm]) :: (bq, 23, #[pt d.q]) :: L) w) (hnm : isNm nm = true) (hfr : D.free < s.size) :
  Calls prog 63 #[pt bn, pt bd, pt bq] w fun e w' => e = .returned (.tuple #[i6 (appD D nm s).2.1, i6 (appD D nm s).2.2]) ∧ DH w0 M d (appD D nm s).1 ((bd, 9, #[.string s]) :: (bn, 9, #[.string nm]) :: (bq, 23, #[pt d.q]) :: L) w' := by
 obtain ⟨fl, nx, v, Lr, hfl, hK, hR, H0⟩ := hD
 go_enter Tryz.func63, Tryz.ntmps63
 refine zsr (zv (zv (znt (wp_seq ?_))));refine wp_block ?_;refine zsr ?_;refine zwu (v := .string nm) (run_load1 isAgg9 (((H0.blk (bn, 9, #[.string nm]) (by simp)).cell 0).trans rfl)) ?_;refine wl_call (v := .bool true) H0 enter64 #[.string nm] (by have := isName_any nm w; rw [hnm] at this; exact this) ?_;intro w1 h2;refine zv (zv (znt (zcf (wp_seq ?_))));refine zrs ⟨(pt bn :: pt bd :: pt bq :: i6 0 :: i6 0 :: un :: .bool false :: .string nm :: .bool true :: .bool false :: .bool true :: .string s :: i6 s.size :: pt d.q :: pt d.q :: .pointer (some ⟨d.q, 1, none⟩) :: i6 D.free :: .bool true :: List.replicate 23 un).toArray, []⟩ (HA ⟨w0, (d.r, .mp (eF fl) nx) :: M⟩ ((d.q, 78, dcell d.r D.free D.left D.down v) :: (Lr ++ (FB fl ++ ((bd, 9, #[.string s]) :: (bn, 9, #[.string nm]) :: (bq, 23, #[pt d.q]) :: L))))) h2.drew ?_ ?_
 ·refine zst (v := .string s) (fun w' h' => run_load1 isAgg9 (((h'.blk (bd, 9, #[.string s]) (by simp)).cell 0).trans rfl)) ?_;refine zst (fun _ _ => (run_len (s := s))) ?_;refine zst (v := pq d.q) (fun w' h' => run_load1 isAgg23 (((h'.blk (bq, 23, #[pt d.q]) (by simp)).cell 0).trans rfl)) ?_;refine zsp (pq d.q) ?_;refine zsp (.pointer (some ⟨d.q, 1, none⟩)) ?_;refine zst (v := i6 D.free) (fun w' h' => run_load1 isAgg3 (((h'.get 0 rfl).cell 1).trans rfl)) ?_;refine zst (fun _ _ => (run_gtr (k := .i64) (a := s.size) (b := D.free) true (dt hfr))) ?_;refine zsp (.bool true) ?_;exact AllSure.nil
 intro w3 h4;refine zt (zct (zsr (zv (zv (znt ?_)))));refine wp_ret ?_
 repeat first|refine zrt ?_|refine block_ret ?_
 exact zb (v := .tuple #[i6 0, i6 7]) ⟨by rw [appD, if_neg (by rw [hnm]; decide), if_pos hfr], by rw [appD, if_neg (by rw [hnm]; decide), if_pos hfr]; exact ⟨fl, nx, v, Lr, hfl, hK, hR, h4⟩⟩
theorem app_ok {w0 : World} {M : ML} {d : Dk} {D : DS} {L : BL} {bn bd bq : Nat} {nm s : ByteArray} {w : World} (hD : DH w0 M d D ((bd, 9, #[.string s]) :: (bn, 9, #[.string nm]) :: (bq, 23, #[pt d.q]) :: L) w) (hnm : isNm nm = true) {U N : Nat} (hb : DB D U N) (hU : U + s.size ≤ 1000000000) (hfr : ¬ D.free < s.size) :
  Calls prog 63 #[pt bn, pt bd, pt bq] w fun e w' => e = .returned (.tuple #[i6 (appD D nm s).2.1, i6 (appD D nm s).2.2]) ∧ DH w0 M d (appD D nm s).1 ((bd, 9, #[.string s]) :: (bn, 9, #[.string nm]) :: (bq, 23, #[pt d.q]) :: L) w' := by
 obtain ⟨fl, nx, v, Lr, hfl, hK, hR, H0⟩ := hD;have hnl : nm.size ≤ 1000000000 := by simp [isNm] at hnm; omega
 have hrm := hb.rm;have hus := hb.us
 go_enter Tryz.func63, Tryz.ntmps63
 refine zsr (zv (zv (znt (wp_seq ?_))));refine wp_block ?_;refine zsr ?_;refine zwu (v := .string nm) (run_load1 isAgg9 (((H0.blk (bn, 9, #[.string nm]) (by simp)).cell 0).trans rfl)) ?_;refine wl_call (v := .bool true) H0 enter64 #[.string nm] (by have := isName_any nm w; rw [hnm] at this; exact this) ?_;intro w1 h2;refine zv (zv (znt (zcf (wp_seq ?_))));refine zrs ⟨(pt bn :: pt bd :: pt bq :: i6 0 :: i6 0 :: un :: .bool false :: .string nm :: .bool true :: .bool false :: .bool false :: .string s :: i6 s.size :: pt d.q :: pt d.q :: .pointer (some ⟨d.q, 1, none⟩) :: i6 D.free :: .bool false :: List.replicate 23 un).toArray, []⟩ (HA ⟨w0, (d.r, .mp (eF fl) nx) :: M⟩ ((d.q, 78, dcell d.r D.free D.left D.down v) :: (Lr ++ (FB fl ++ ((bd, 9, #[.string s]) :: (bn, 9, #[.string nm]) :: (bq, 23, #[pt d.q]) :: L))))) h2.drew ?_ ?_
 ·refine zst (v := .string s) (fun w' h' => run_load1 isAgg9 (((h'.blk (bd, 9, #[.string s]) (by simp)).cell 0).trans rfl)) ?_;refine zst (fun _ _ => (run_len (s := s))) ?_;refine zst (v := pq d.q) (fun w' h' => run_load1 isAgg23 (((h'.blk (bq, 23, #[pt d.q]) (by simp)).cell 0).trans rfl)) ?_;refine zsp (pq d.q) ?_;refine zsp (.pointer (some ⟨d.q, 1, none⟩)) ?_;refine zst (v := i6 D.free) (fun w' h' => run_load1 isAgg3 (((h'.get 0 rfl).cell 1).trans rfl)) ?_;refine zst (fun _ _ => (run_gtr (k := .i64) (a := s.size) (b := D.free) false (df hfr))) ?_;refine zsp (.bool false) ?_;exact AllSure.nil
 intro w3 h4;refine zt (zcf (wp_skip ?_));refine block_normal ?_;refine zt (zsr ?_);refine zwu (v := pq d.q) (run_load1 isAgg23 (((h4.blk (bq, 23, #[pt d.q]) (by simp)).cell 0).trans rfl)) ?_;refine zwu (v := .string nm) (run_load1 isAgg9 (((h4.blk (bn, 9, #[.string nm]) (by simp)).cell 0).trans rfl)) ?_;refine wl_callx enter65 #[pq d.q, .string nm] (made_any hK hnl h4) ?_;rintro _ w5 ⟨A, f, B, nx', rfl, hf, hK', hab, hm⟩;refine ⟨_, rfl, ?_⟩;have hlen : f.da.length + s.size ≤ 1099511627776 := by
  have h1 : ab f ∈ mkF (fl.map ab) nm := by rw [← hab]; simp
  have h2 := used_mem h1;rw [used_mkF, hfl] at h2;have h3 : (ab f).da.length = f.da.length := rfl
  omega
 obtain ⟨pf, cf, hv⟩ := (hK'.row f (by simp)).form;have hrow := hK'.row f (by simp);rw [hv] at hrow;have h6 := HA.file hm;rw [hv] at h6;refine zv (znt (wp_seq ?_));refine zxr (HA ⟨w0, (d.r, .mp (eF (A ++ f :: B)) nx') :: M⟩ ((d.q, 78, dcell d.r D.free D.left D.down v) :: (f.p, 109, fcell (.slice pf f.da.length cf) f.sy) :: (f.Lr ++ (Lr ++ (FB (A ++ B) ++ ((bd, 9, #[.string s]) :: (bn, 9, #[.string nm]) :: (bq, 23, #[pt d.q]) :: L)))))) (fun Z0 AQ w' => ∃ (p4 : Option Addr) (c4 : Nat) (Lr4 : BL), AQ = pts Z0 [(21, pt f.p), (22, pt f.p), (23, pt f.p), (24, pt f.p), (25, .slice pf f.da.length cf), (26, .string s), (27, .slice p4 (f.da ++ bl s).length c4), (28, pt f.p), (29, pt f.p)] ∧ RowB (.slice p4 (f.da ++ bl s).length c4) (f.da ++ bl s) Lr4 ∧ HA ⟨w0, (d.r, .mp (eF (A ++ f :: B)) nx') :: M⟩ ((d.q, 78, dcell d.r D.free D.left D.down v) :: (f.p, 109, fcell (.slice p4 (f.da ++ bl s).length c4) f.sy) :: (Lr4 ++ (Lr ++ (FB (A ++ B) ++ ((bd, 9, #[.string s]) :: (bn, 9, #[.string nm]) :: (bq, 23, #[pt d.q]) :: L))))) w') 10 (h6.drew) ?_ ?_
 ·have h7 := h6.drew;refine zxp 0 rfl ?_;refine zxp 1 rfl ?_;refine zxp 2 rfl ?_;refine zxp 3 rfl ?_;refine wx_val (i := 4) (.slice pf f.da.length cf) rfl rfl (fun w' h' => run_load1 isAgg62 (((h'.get 1 rfl).cell 0).trans rfl)) ?_;refine wx_val (i := 5) (.string s) rfl rfl (fun w' h' => run_load1 isAgg9 (((h'.blk (bd, 9, #[.string s]) (by simp)).cell 0).trans rfl)) ?_;refine wx_one 6 ?_;refine ex_do rfl (by kernel_rfl) (by kernel_rfl) h7 fun w8 h9 => ?_
  obtain ⟨v4, w4, Lr4, hrun4, hrow4, hx4⟩ := RowB.apps hrow (h9.perm (perm_mv [(d.q, 78, dcell d.r D.free D.left D.down v), (f.p, 109, fcell (.slice pf f.da.length cf) f.sy)] f.Lr (Lr ++ (FB (A ++ B) ++ ((bd, 9, #[.string s]) :: (bn, 9, #[.string nm]) :: (bq, 23, #[pt d.q]) :: L))))) s 62 hlen;obtain ⟨p4, c4, rfl⟩ := hrow4.form;have h10 : HA ⟨w0, (d.r, .mp (eF (A ++ f :: B)) nx') :: M⟩ ((d.q, 78, dcell d.r D.free D.left D.down v) :: (f.p, 109, fcell (.slice pf f.da.length cf) f.sy) :: (Lr4 ++ (Lr ++ (FB (A ++ B) ++ ((bd, 9, #[.string s]) :: (bn, 9, #[.string nm]) :: (bq, 23, #[pt d.q]) :: L))))) w4 := hx4.perm (perm_mv Lr4 [(d.q, 78, dcell d.r D.free D.left D.down v), (f.p, 109, fcell (.slice pf f.da.length cf) f.sy)] (Lr ++ (FB (A ++ B) ++ ((bd, 9, #[.string s]) :: (bn, 9, #[.string nm]) :: (bq, 23, #[pt d.q]) :: L))));refine ⟨_, _, run_app_of (by kernel_rfl) (by kernel_rfl) hrun4, _, h10, ?_⟩;refine zxp 7 rfl ?_;refine zxp 8 rfl ?_;refine wx_one 9 ?_;refine ex_skip rfl h10 fun w11 h12 => ⟨_, run_storev (v := .slice p4 (f.da ++ bl s).length c4) sizeOf62 (by rw [(h12.get 1 rfl).cell]; rfl) ((h12.get 1 rfl).free _ (by show 0 < 2; decide)), _, h12.put 1 rfl 0 _, ?_⟩
  have h13 : HA ⟨w0, (d.r, .mp (eF (A ++ f :: B)) nx') :: M⟩ ((d.q, 78, dcell d.r D.free D.left D.down v) :: (f.p, 109, fcell (.slice p4 (f.da ++ bl s).length c4) f.sy) :: (Lr4 ++ (Lr ++ (FB (A ++ B) ++ ((bd, 9, #[.string s]) :: (bn, 9, #[.string nm]) :: (bq, 23, #[pt d.q]) :: L))))) _ := h12.put 1 rfl 0 (.slice p4 (f.da ++ bl s).length c4);refine wx_end fun w14 hbx _ => ?_
  have h15 := HA.keep _ _ h13 hbx;exact ⟨p4, c4, Lr4, by kernel_rfl, hrow4, h15⟩
 ·rintro _ w16 ⟨p4, c4, Lr4, rfl, hrow4, h17⟩;refine zt (wp_seq ?_);refine zxr (HA ⟨w0, (d.r, .mp (eF (A ++ f :: B)) nx') :: M⟩ ((d.q, 78, dcell d.r D.free D.left D.down v) :: (f.p, 109, fcell (.slice p4 (f.da ++ bl s).length c4) f.sy) :: (Lr4 ++ (Lr ++ (FB (A ++ B) ++ ((bd, 9, #[.string s]) :: (bn, 9, #[.string nm]) :: (bq, 23, #[pt d.q]) :: L)))))) (fun Z0 AQ w' => AQ = pts Z0 [(30, pt d.q), (31, pt d.q), (32, .pointer (some ⟨d.q, 1, none⟩)), (33, i6 D.free), (34, .string s), (35, i6 s.size), (36, i6 (D.free - s.size)), (37, pt d.q), (38, .pointer (some ⟨d.q, 1, none⟩))] ∧ HA ⟨w0, (d.r, .mp (eF (A ++ f :: B)) nx') :: M⟩ ((d.q, 78, dcell d.r (D.free - s.size) D.left D.down v) :: (f.p, 109, fcell (.slice p4 (f.da ++ bl s).length c4) f.sy) :: (Lr4 ++ (Lr ++ (FB (A ++ B) ++ ((bd, 9, #[.string s]) :: (bn, 9, #[.string nm]) :: (bq, 23, #[pt d.q]) :: L))))) w') 10 (h17.drew) ?_ ?_
  ·have h18 := h17.drew;refine wx_val (i := 0) (pq d.q) rfl rfl (fun w' h' => run_load1 isAgg23 (((h'.blk (bq, 23, #[pt d.q]) (by simp)).cell 0).trans rfl)) ?_;refine zxp 1 rfl ?_;refine zxp 2 rfl ?_;refine wx_val (i := 3) (i6 D.free) rfl rfl (fun w' h' => run_load1 isAgg3 (((h'.get 0 rfl).cell 1).trans rfl)) ?_;refine wx_val (i := 4) (.string s) rfl rfl (fun w' h' => run_load1 isAgg9 (((h'.blk (bd, 9, #[.string s]) (by simp)).cell 0).trans rfl)) ?_;refine wx_pure (i := 5) (i6 s.size) rfl rfl (hr := (fun _ => (run_len (s := s)))) ?_;refine wx_pure (i := 6) (i6 (D.free - s.size)) rfl rfl (hr := (fun _ => (run_sub (k := .i64) (a := D.free) (b := s.size) (by first | omega | (simp only [top]; omega)) (by first | omega | (simp only [top]; omega))))) ?_;refine zxp 7 rfl ?_;refine zxp 8 rfl ?_;refine wx_one 9 ?_;refine ex_skip rfl h18 fun w19 h20 => ⟨_, run_storev (v := i6 (D.free - s.size)) sizeOf3 (by rw [(h20.get 0 rfl).cell]; rfl) ((h20.get 0 rfl).free _ (by show 1 < 5; decide)), _, h20.put 0 rfl 1 _, ?_⟩
   have h21 : HA ⟨w0, (d.r, .mp (eF (A ++ f :: B)) nx') :: M⟩ ((d.q, 78, dcell d.r (D.free - s.size) D.left D.down v) :: (f.p, 109, fcell (.slice p4 (f.da ++ bl s).length c4) f.sy) :: (Lr4 ++ (Lr ++ (FB (A ++ B) ++ ((bd, 9, #[.string s]) :: (bn, 9, #[.string nm]) :: (bq, 23, #[pt d.q]) :: L))))) _ := h20.put 0 rfl 1 (i6 (D.free - s.size));refine wx_end fun w22 hbx _ => ?_
   have h23 := HA.keep _ _ h21 hbx;exact ⟨by kernel_rfl, h23⟩
  ·rintro _ w24 ⟨rfl, h25⟩;refine zt (zsr ?_);refine zwu (v := .string s) (run_load1 isAgg9 (((h25.blk (bd, 9, #[.string s]) (by simp)).cell 0).trans rfl)) ?_;refine zwu (run_len (s := s)) ?_;refine zv (zv (znt ?_));refine wp_ret ?_
   repeat first|refine zrt ?_|refine block_ret ?_
   have hup := upd_at hK' ⟨f.nm, f.p, f.da ++ bl s, f.sy, .slice p4 (f.da ++ bl s).length c4, Lr4, f.bn⟩ (fun x => { x with da := x.da ++ bl s }) rfl;rw [hab, hfl] at hup;subst hf;exact zb (v := .tuple #[i6 s.size, i6 0]) ⟨by rw [appD, if_neg (by rw [hnm]; decide), if_neg hfr], by rw [appD, if_neg (by rw [hnm]; decide), if_neg hfr]; exact ⟨A ++ ⟨f.nm, f.p, f.da ++ bl s, f.sy, .slice p4 (f.da ++ bl s).length c4, Lr4, f.bn⟩ :: B, nx', v, Lr, hup, hK'.turn rfl rfl hrow4 (by have := hK'.syn f (by simp); simp; omega), hR, HA.unfile (f := ⟨f.nm, f.p, f.da ++ bl s, f.sy, .slice p4 (f.da ++ bl s).length c4, Lr4, f.bn⟩) (by rw [eF_same (g := ⟨f.nm, f.p, f.da ++ bl s, f.sy, .slice p4 (f.da ++ bl s).length c4, Lr4, f.bn⟩) (f := f) rfl rfl rfl]; exact h25)⟩⟩
theorem app_any {w0 : World} {M : ML} {d : Dk} {D : DS} {L : BL} {bn bd bq : Nat} {nm s : ByteArray} {w : World} (hD : DH w0 M d D ((bd, 9, #[.string s]) :: (bn, 9, #[.string nm]) :: (bq, 23, #[pt d.q]) :: L) w) {U N : Nat} (hb : DB D U N) (hU : U + s.size ≤ 1000000000) :
  Calls prog 63 #[pt bn, pt bd, pt bq] w fun e w' => e = .returned (.tuple #[i6 (appD D nm s).2.1, i6 (appD D nm s).2.2]) ∧ DH w0 M d (appD D nm s).1 ((bd, 9, #[.string s]) :: (bn, 9, #[.string nm]) :: (bq, 23, #[pt d.q]) :: L) w' := by
 cases hnm : isNm nm with
 | false => exact app_arg hD hnm
 | true =>
  by_cases hfr : D.free < s.size
  ·exact app_full hD hnm hfr
  ·exact app_ok hD hnm hb hU hfr
theorem spend_DB {D : DS} {U N : Nat} (h : DB D U N) : DB (spendD D) U N := ⟨h.rm, by have := h.lf; simp only [spendD]; omega, h.us, h.sz, h.nm, h.ct, h.nd⟩
def AppendD (D : DS) (nm s : ByteArray) : DS × Nat := opD D (appD (spendD D) nm s).1 (appD (spendD D) nm s).2.1 (appD (spendD D) nm s).2.2
theorem appD_sz (D : DS) (nm s : ByteArray) : (appD D nm s).1.sizes = D.sizes := by
 unfold appD
 split
 ·rfl
 ·split <;> rfl
theorem Append_any {w0 : World} {M : ML} {d : Dk} {D : DS} {L : BL} {w : World} (hD : DH w0 M d D L w) (nm s : ByteArray) {U N : Nat} (hb : DB D U N) (hU : U + s.size ≤ 1000000000) (hN : N ≤ 1000000000) :
  Calls prog 24 #[pt d.q, .string nm, .string s] w fun e w' => e = .returned (i6 (AppendD D nm s).2) ∧ DH w0 M d (AppendD D nm s).1 L w' := by
 obtain ⟨fl, nx, v, Lr, hfl, hK, hR, H0⟩ := hD
 go_enter Tryz.func24, Tryz.ntmps24
 refine zsr ?_;refine wl_make (c := #[pq d.q]) H0 23 ?_;intro q1 w2 h3;refine wl_make (c := #[.string nm]) h3 9 ?_;intro q4 w5 h6;refine wl_make (c := #[.string s]) h6 9 ?_;intro q7 w8 h9;refine zv (znt (zsr ?_));refine zwu (v := pq d.q) (run_load1 isAgg23 (((h9.get 2 rfl).cell 0).trans rfl)) ?_;refine zv ?_;refine wl_callx enter62 #[pq d.q, .func (.func 63) #[] #[pq q4, pq q7, pq q1]] (operate_any ⟨fl, nx, v, Lr, hfl, hK, hR, HA.back [(q7, 9, #[.string s]), (q4, 9, #[.string nm]), (q1, 23, #[pq d.q])] h9⟩ enter63 hb.lf (by rw [appD_sz]; exact Nat.le_trans hb.sz hN) (fun w h => app_any h (spend_DB hb) hU)) ?_;rintro _ w10 ⟨rfl, hD2⟩;refine ⟨_, rfl, ?_⟩;refine zv (znt ?_);refine wp_ret ?_
 repeat first|refine zrt ?_|refine block_ret ?_
 exact zb ⟨rfl, DH.drop (A := [(q7, 9, #[.string s]), (q4, 9, #[.string nm]), (q1, 23, #[pq d.q])]) hD2⟩
def onD (D D2 : DS) (nm : ByteArray) (er : Nat) : DS × Nat × Nat := if ∃ x ∈ D.fs, x.nm = nm then (D2, 0, er) else (D, 0, 5)
theorem ex_ab {fl : List Fl} {D : DS} {nm : ByteArray} (h : fl.map ab = D.fs) : (∃ x ∈ D.fs, x.nm = nm) ↔ ∃ f ∈ fl, f.nm = nm := by
 rw [← h]
 constructor
 ·rintro ⟨x, hx, e⟩;obtain ⟨f, hf, rfl⟩ := List.mem_map.1 hx;exact ⟨f, hf, e⟩
 ·rintro ⟨f, hf, e⟩;exact ⟨ab f, List.mem_map.2 ⟨f, hf, rfl⟩, e⟩
theorem on_no {w0 : World} {M : ML} {d : Dk} {D : DS} {L : BL} {bn bf bq : Nat} {nm : ByteArray} {F : FuncId} {cap : Array Value} {w : World} (hD : DH w0 M d D ((bf, 129, #[.func (.func F) #[] cap]) :: (bn, 9, #[.string nm]) :: (bq, 23, #[pt d.q]) :: L) w) {D2 : DS} {er : Nat} (hno : ¬ ∃ x ∈ D.fs, x.nm = nm) :
  Calls prog 119 #[pt bq, pt bn, pt bf] w fun e w' => e = .returned (.tuple #[i6 (onD D D2 nm er).2.1, i6 (onD D D2 nm er).2.2]) ∧ DH w0 M d (onD D D2 nm er).1 ((bf, 129, #[.func (.func F) #[] cap]) :: (bn, 9, #[.string nm]) :: (bq, 23, #[pt d.q]) :: L) w' := by
 obtain ⟨fl, nx, v, Lr, hfl, hK, hR, H0⟩ := hD;have hn : ∀ f ∈ fl, f.nm ≠ nm := fun f hf e => hno ((ex_ab hfl).2 ⟨f, hf, e⟩)
 go_enter Tryz.func119, Tryz.ntmps119
 refine zsr (zv (zv (znt (wp_seq ?_))));refine zrs ⟨(pt bq :: pt bn :: pt bf :: i6 0 :: i6 0 :: .pointer none :: pt d.q :: pt d.q :: pt d.q :: .map (some d.r) :: .string nm :: .pointer none :: List.replicate 5 un).toArray, []⟩ (HA ⟨w0, (d.r, .mp (eF fl) nx) :: M⟩ ((d.q, 78, dcell d.r D.free D.left D.down v) :: (Lr ++ (FB fl ++ ((bf, 129, #[.func (.func F) #[] cap]) :: (bn, 9, #[.string nm]) :: (bq, 23, #[pt d.q]) :: L))))) H0.drew ?_ ?_
 ·refine zst (v := pq d.q) (fun w' h' => run_load1 isAgg23 (((h'.blk (bq, 23, #[pt d.q]) (by simp)).cell 0).trans rfl)) ?_;refine zsp (pq d.q) ?_;refine zsp (pq d.q) ?_;refine zst (v := .map (some d.r)) (fun w' h' => run_load1 isAgg76 (((h'.get 0 rfl).cell 0).trans rfl)) ?_;refine zst (v := .string nm) (fun w' h' => run_load1 isAgg9 (((h'.blk (bn, 9, #[.string nm]) (by simp)).cell 0).trans rfl)) ?_;refine zst (fun w' h' => run_look_no (h'.old.maps _ (List.mem_cons_self ..)) hn) ?_;refine zsp (.pointer none) ?_;exact AllSure.nil
 intro w1 h2;refine zt (wp_seq (zsr (zv (zv (znt (zct (zsr (zv (zv (znt ?_))))))))));refine wp_ret ?_
 repeat first|refine zrt ?_|refine block_ret ?_
 exact zb (v := .tuple #[i6 0, i6 5]) ⟨by rw [onD, if_neg hno], by rw [onD, if_neg hno]; exact ⟨fl, nx, v, Lr, hfl, hK, hR, h2⟩⟩
theorem on_yes {w0 : World} {M : ML} {d : Dk} {D : DS} {L : BL} {bn bf bq : Nat} {nm : ByteArray} {F : FuncId} {cap : Array Value} {w : World} (hD : DH w0 M d D ((bf, 129, #[.func (.func F) #[] cap]) :: (bn, 9, #[.string nm]) :: (bq, 23, #[pt d.q]) :: L) w) {D2 : DS} {er : Nat} (hF : ∀ args w, (callFunc F args).run prog w = .ok (.enter F args) w) (hyes : ∃ x ∈ D.fs, x.nm = nm) (hdeed : ∀ (w : World) (A B : List Fl) (f : Fl) (nx : Nat) (v : Value) (Lr : BL), (A ++ f :: B).map ab = D.fs → f.nm = nm → FK (A ++ f :: B) nx → Row 3 1 v D.sizes.length (D.sizes.map (i6 ·)) Lr → HA ⟨w0, (d.r, .mp (eF (A ++ f :: B)) nx) :: M⟩ ((d.q, 78, dcell d.r D.free D.left D.down v) :: (Lr ++ (FB (A ++ f :: B) ++ ((bf, 129, #[.func (.func F) #[] cap]) :: (bn, 9, #[.string nm]) :: (bq, 23, #[pt d.q]) :: L)))) w →
      Calls prog F (#[pt f.p] ++ cap) w fun e w' => e = .returned (i6 er) ∧ DH w0 M d D2 ((bf, 129, #[.func (.func F) #[] cap]) :: (bn, 9, #[.string nm]) :: (bq, 23, #[pt d.q]) :: L) w') :
    Calls prog 119 #[pt bq, pt bn, pt bf] w fun e w' => e = .returned (.tuple #[i6 (onD D D2 nm er).2.1, i6 (onD D D2 nm er).2.2]) ∧ DH w0 M d (onD D D2 nm er).1 ((bf, 129, #[.func (.func F) #[] cap]) :: (bn, 9, #[.string nm]) :: (bq, 23, #[pt d.q]) :: L) w' := by
  obtain ⟨fl, nx, v, Lr, hfl, hK, hR, H0⟩ := hD;obtain ⟨A, f, B, rfl, hf, hA⟩ := fl_split ((ex_ab hfl).1 hyes)
  go_enter Tryz.func119, Tryz.ntmps119
  refine zsr (zv (zv (znt (wp_seq ?_))));refine zrs ⟨(pt bq :: pt bn :: pt bf :: i6 0 :: i6 0 :: pt f.p :: pt d.q :: pt d.q :: pt d.q :: .map (some d.r) :: .string nm :: pt f.p :: List.replicate 5 un).toArray, []⟩ (HA ⟨w0, (d.r, .mp (eF (A ++ f :: B)) nx) :: M⟩ ((d.q, 78, dcell d.r D.free D.left D.down v) :: (Lr ++ (FB (A ++ f :: B) ++ ((bf, 129, #[.func (.func F) #[] cap]) :: (bn, 9, #[.string nm]) :: (bq, 23, #[pt d.q]) :: L))))) H0.drew ?_ ?_
  · refine zst (v := pq d.q) (fun w' h' => run_load1 isAgg23 (((h'.blk (bq, 23, #[pt d.q]) (by simp)).cell 0).trans rfl)) ?_;refine zsp (pq d.q) ?_;refine zsp (pq d.q) ?_;refine zst (v := .map (some d.r)) (fun w' h' => run_load1 isAgg76 (((h'.get 0 rfl).cell 0).trans rfl)) ?_;refine zst (v := .string nm) (fun w' h' => run_load1 isAgg9 (((h'.blk (bn, 9, #[.string nm]) (by simp)).cell 0).trans rfl)) ?_;refine zst (fun w' h' => run_look_yes (h'.old.maps _ (List.mem_cons_self ..)) hf (hf ▸ hK.apartA)) ?_;refine zsp (pq f.p) ?_;exact AllSure.nil
  intro w1 h2;refine zt (wp_seq (zsr (zv (zv (znt (zcf (wp_skip (zt (zsr ?_)))))))));refine zwu (v := .func (.func F) #[] cap) (run_load1 isAgg129 (((h2.blk (bf, 129, #[.func (.func F) #[] cap]) (by simp)).cell 0).trans rfl)) ?_;refine zv ?_;refine wl_callvx (cap := cap) (args := #[pt f.p] ++ cap) hF (ha := (by simp [Act.eval, Act.put]; rfl)) (hdeed w1 A B f nx v Lr hfl hf hK hR h2) ?_;rintro _ w3 ⟨rfl, hD2⟩;refine ⟨_, rfl, ?_⟩;refine zv (zv (znt ?_));refine wp_ret ?_
  repeat first|refine zrt ?_|refine block_ret ?_
  exact zb (v := .tuple #[i6 0, i6 er]) ⟨by rw [onD, if_pos hyes], by rw [onD, if_pos hyes]; exact hD2⟩
theorem on_any {w0 : World} {M : ML} {d : Dk} {D : DS} {L : BL} {bn bf bq : Nat} {nm : ByteArray} {F : FuncId} {cap : Array Value} {w : World} (hD : DH w0 M d D ((bf, 129, #[.func (.func F) #[] cap]) :: (bn, 9, #[.string nm]) :: (bq, 23, #[pt d.q]) :: L) w) {D2 : DS} {er : Nat} (hF : ∀ args w, (callFunc F args).run prog w = .ok (.enter F args) w) (hdeed : ∀ (w : World) (A B : List Fl) (f : Fl) (nx : Nat) (v : Value) (Lr : BL), (A ++ f :: B).map ab = D.fs → f.nm = nm → FK (A ++ f :: B) nx → Row 3 1 v D.sizes.length (D.sizes.map (i6 ·)) Lr → HA ⟨w0, (d.r, .mp (eF (A ++ f :: B)) nx) :: M⟩ ((d.q, 78, dcell d.r D.free D.left D.down v) :: (Lr ++ (FB (A ++ f :: B) ++ ((bf, 129, #[.func (.func F) #[] cap]) :: (bn, 9, #[.string nm]) :: (bq, 23, #[pt d.q]) :: L)))) w →
      Calls prog F (#[pt f.p] ++ cap) w fun e w' => e = .returned (i6 er) ∧ DH w0 M d D2 ((bf, 129, #[.func (.func F) #[] cap]) :: (bn, 9, #[.string nm]) :: (bq, 23, #[pt d.q]) :: L) w') :
    Calls prog 119 #[pt bq, pt bn, pt bf] w fun e w' => e = .returned (.tuple #[i6 (onD D D2 nm er).2.1, i6 (onD D D2 nm er).2.2]) ∧ DH w0 M d (onD D D2 nm er).1 ((bf, 129, #[.func (.func F) #[] cap]) :: (bn, 9, #[.string nm]) :: (bq, 23, #[pt d.q]) :: L) w' := by
  by_cases h : ∃ x ∈ D.fs, x.nm = nm
  · exact on_yes hD hF h hdeed
  · exact on_no hD h
def OnD (D D2 : DS) (nm : ByteArray) (er : Nat) : DS × Nat := opD D (onD (spendD D) D2 nm er).1 (onD (spendD D) D2 nm er).2.1 (onD (spendD D) D2 nm er).2.2
theorem onD_sz {D D2 : DS} {nm : ByteArray} {er N : Nat} (h : D.sizes.length ≤ N) (h2 : D2.sizes.length ≤ N) : (onD D D2 nm er).1.sizes.length ≤ N := by
 unfold onD
 split
 ·exact h2
 ·exact h
theorem operateOn_any {w0 : World} {M : ML} {d : Dk} {D : DS} {L : BL} {w : World} (hD : DH w0 M d D L w) {nm : ByteArray} {F : FuncId} {cap : Array Value} {D2 : DS} {er U N : Nat} (hF : ∀ args w, (callFunc F args).run prog w = .ok (.enter F args) w) (hb : DB D U N) (hN : N ≤ 1000000000) (hs2 : D2.sizes.length ≤ 1000000000) (hdeed : ∀ (b3 b4 b5 : Nat) (w : World) (A B : List Fl) (f : Fl) (nx : Nat) (v : Value) (Lr : BL), (A ++ f :: B).map ab = (spendD D).fs → f.nm = nm → FK (A ++ f :: B) nx → Row 3 1 v (spendD D).sizes.length ((spendD D).sizes.map (i6 ·)) Lr → HA ⟨w0, (d.r, .mp (eF (A ++ f :: B)) nx) :: M⟩ ((d.q, 78, dcell d.r (spendD D).free (spendD D).left (spendD D).down v) :: (Lr ++ (FB (A ++ f :: B) ++ ((b5, 129, #[.func (.func F) #[] cap]) :: (b4, 9, #[.string nm]) :: (b3, 23, #[pt d.q]) :: L)))) w →
      Calls prog F (#[pt f.p] ++ cap) w fun e w' => e = .returned (i6 er) ∧ DH w0 M d D2 ((b5, 129, #[.func (.func F) #[] cap]) :: (b4, 9, #[.string nm]) :: (b3, 23, #[pt d.q]) :: L) w') :
    Calls prog 75 #[pt d.q, .string nm, .func (.func F) #[] cap] w fun e w' => e = .returned (i6 (OnD D D2 nm er).2) ∧ DH w0 M d (OnD D D2 nm er).1 L w' := by
  obtain ⟨fl, nx, v, Lr, hfl, hK, hR, H0⟩ := hD
  go_enter Tryz.func75, Tryz.ntmps75
  refine zsr ?_;refine wl_make (c := #[pq d.q]) H0 23 ?_;intro q1 w2 h3;refine wl_make (c := #[.string nm]) h3 9 ?_;intro q4 w5 h6;refine wl_make (c := #[.func (.func F) #[] cap]) h6 129 ?_;intro q7 w8 h9;refine zv (znt (zsr ?_));refine zwu (v := pq d.q) (run_load1 isAgg23 (((h9.get 2 rfl).cell 0).trans rfl)) ?_;refine zv ?_;refine wl_callx enter62 #[pq d.q, .func (.func 119) #[] #[pq q1, pq q4, pq q7]] (operate_any (D2 := (onD (spendD D) D2 nm er).1) (put := (onD (spendD D) D2 nm er).2.1) (er := (onD (spendD D) D2 nm er).2.2) ⟨fl, nx, v, Lr, hfl, hK, hR, HA.back [(q7, 129, #[.func (.func F) #[] cap]), (q4, 9, #[.string nm]), (q1, 23, #[pq d.q])] h9⟩ enter119 hb.lf (onD_sz (Nat.le_trans hb.sz hN) hs2) (fun w h => on_any h hF (hdeed q1 q4 q7))) ?_;rintro _ w10 ⟨rfl, hD2⟩;refine ⟨_, rfl, ?_⟩;refine zv (znt ?_);refine wp_ret ?_
  repeat first|refine zrt ?_|refine block_ret ?_
  exact zb ⟨rfl, DH.drop (A := [(q7, 129, #[.func (.func F) #[] cap]), (q4, 9, #[.string nm]), (q1, 23, #[pq d.q])]) hD2⟩
end Go.Proofs.YtckmlaempffpjaaGreat
