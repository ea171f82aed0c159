/-
  Sync, Remove, Rename.
-/
import Derived.Test.YtjedhnjjgmbcbaaD6
namespace Go.Proofs.Ytjedhnjjgmbcbaa
open Go.RowKit

def keepF (fs : List FA) (nm : ByteArray) : List FA := fs.filter fun x => decide (x.nm = nm)
def syncF (D : DS) (nm : ByteArray) : DS := { D with fs := updF D.fs nm (fun x => { x with sy := x.da.length }) }
def remF (D : DS) (nm : ByteArray) : DS := { D with fs := delF D.fs nm, free := D.free + used (keepF D.fs nm) }
def renF (D : DS) (a b : ByteArray) : DS := { D with fs := delF (delF D.fs b) a ++ (keepF (delF D.fs b) a).map (fun x => { x with nm := b }), free := D.free + used (keepF D.fs b) }
theorem used_split (fs : List FA) (s : ByteArray) : used (delF fs s) + used (keepF fs s) = used fs := by
  induction fs with
  | nil => rfl
  | cons x l ih =>
    by_cases h : x.nm = s
    · have e1 : delF (x :: l) s = delF l s := by simp [delF, h]
      have e2 : keepF (x :: l) s = x :: keepF l s := by simp [keepF, h]
      rw [e1, e2]
      simp only [used, List.map_cons, List.sum_cons] at ih ⊢
      omega
    · have e1 : delF (x :: l) s = x :: delF l s := by simp [delF, h]
      have e2 : keepF (x :: l) s = keepF l s := by simp [keepF, h]
      rw [e1, e2]
      simp only [used, List.map_cons, List.sum_cons] at ih ⊢
      omega
def dlL (fl : List Fl) (s : ByteArray) : List Fl := fl.filter fun f => decide (f.nm ≠ s)
theorem dlL_ab (fl : List Fl) (s : ByteArray) : (dlL fl s).map ab = delF (fl.map ab) s := by
  unfold dlL delF
  rw [List.filter_map]
  rfl
theorem FK.dl {fl : List Fl} {nx : Nat} (h : FK fl nx) (s : ByteArray) : FK (dlL fl s) nx := by
  have sub : (dlL fl s).Sublist fl := List.filter_sublist
  exact ⟨fun x hx => h.row x (sub.subset hx), fun x hx => h.syn x (sub.subset hx), (sub.map _).nodup h.nms, fun x hx => h.old x (sub.subset hx), (sub.map _).nodup h.bns⟩
theorem dl_no {fl : List Fl} {s : ByteArray} (h : ∀ f ∈ fl, f.nm ≠ s) : dlL fl s = fl := List.filter_eq_self.2 fun f hf => decide_eq_true (h f hf)
theorem dl_yes {A B : List Fl} {f : Fl} {nx : Nat} (h : FK (A ++ f :: B) nx) : dlL (A ++ f :: B) f.nm = A ++ B := by
  have e : dlL (A ++ f :: B) f.nm = dlL A f.nm ++ dlL B f.nm := by simp [dlL]
  rw [e, dl_no h.apartA, dl_no h.apartB]
theorem keep_no {fl : List Fl} {s : ByteArray} (h : ∀ f ∈ fl, f.nm ≠ s) : keepF (fl.map ab) s = [] := by
  unfold keepF
  refine List.filter_eq_nil_iff.2 fun x hx => ?_
  obtain ⟨f, hf, rfl⟩ := List.mem_map.1 hx
  simp only [decide_eq_true_eq]
  exact h f hf
theorem keep_yes {A B : List Fl} {f : Fl} {nx : Nat} (h : FK (A ++ f :: B) nx) : keepF ((A ++ f :: B).map ab) f.nm = [ab f] := by
  have e : keepF ((A ++ f :: B).map ab) f.nm = keepF (A.map ab) f.nm ++ (ab f :: keepF (B.map ab) f.nm) := by simp [keepF, ab]
  rw [e, keep_no h.apartA, keep_no h.apartB]
  rfl
theorem drop_any {w0 : World} {M : ML} {q r fr lf nx : Nat} {dn : Bool} {v : Value} {Lr L : BL} {w : World} {fl : List Fl} {s : ByteArray} (hK : FK fl nx) (H0 : HA ⟨w0, (r, .mp (eF fl) nx) :: M⟩ ((q, 61, dcell r fr lf dn v) :: (Lr ++ (FB fl ++ L))) w) (hfr : fr + used (fl.map ab) ≤ 9223372036854775807) :
    Calls Try.prog 45 #[pt q, .string s] w fun e w' => e = .returned (.tuple #[]) ∧ HA ⟨w0, (r, .mp (eF (dlL fl s)) nx) :: M⟩ ((q, 61, dcell r (fr + used (keepF (fl.map ab) s)) lf dn v) :: (Lr ++ (FB (dlL fl s) ++ L))) w' := by
  by_cases h : ∃ f ∈ fl, f.nm = s
  · obtain ⟨A, f, B, rfl, h1, h2⟩ := fl_split h
    subst h1
    rw [dl_yes hK, keep_yes hK]
    have hu := used_mem (fs := (A ++ f :: B).map ab) (x := ab f) (by simp)
    have := drop_yes hK rfl H0 (by have h3 : (ab f).da.length = f.da.length := rfl; omega)
    exact this
  · have hn : ∀ f ∈ fl, f.nm ≠ s := fun f hf e => h ⟨f, hf, e⟩
    rw [dl_no hn, keep_no hn]
    exact drop_no hK hn H0
set_option linter.unusedVariables false in
set_option maxRecDepth 100000 in
set_option maxHeartbeats 2000000 in
theorem sync_deed {w0 : World} {M : ML} {d : Dk} {D : DS} {X : BL} {A B : List Fl} {f : Fl} {nm : ByteArray} {nx : Nat} {v : Value} {Lr : BL} {w : World} (hfl : (A ++ f :: B).map ab = D.fs) (hf : f.nm = nm) (hK : FK (A ++ f :: B) nx) (hR : Row 3 1 v D.sizes.length (D.sizes.map (iN .i64 ·)) Lr) (H0 : HA ⟨w0, (d.r, .mp (eF (A ++ f :: B)) nx) :: M⟩ ((d.q, 61, dcell d.r D.free D.left D.down v) :: (Lr ++ (FB (A ++ f :: B) ++ X))) w) :
    Calls Try.prog 43 #[pt f.p] w fun e w' => e = .returned (iN .i64 0) ∧ DH w0 M d (syncF D nm) X w' := by
  obtain ⟨pf, cf, hv⟩ := (hK.row f (by simp)).form
  have hrow := hK.row f (by simp)
  rw [hv] at hrow
  have H0 := H0.file
  rw [hv] at H0
  go_enter Try.func43, Try.ntmps43
  refine wp_seq ?_
  refine wl_region ?_
  refine wl_val (iN .i64 0) (by kernel_rfl) (by kernel_rfl) ?_
  refine wl_nil ?_
  refine then_at (F := ⟨(pt f.p :: un :: iN .i64 0 :: List.replicate 8 un).toArray, []⟩) (by kernel_rfl) ?_
  refine wp_seq ?_
  refine wl_region ?_
  refine wl_val (.pointer (some ⟨f.p, 0, none⟩)) (by kernel_rfl) (by kernel_rfl) ?_
  refine wl_val (.pointer (some ⟨f.p, 0, none⟩)) (by kernel_rfl) (by kernel_rfl) ?_
  refine wl_val (.pointer (some ⟨f.p, 0, none⟩)) (by kernel_rfl) (by kernel_rfl) ?_
  refine wl_val (.pointer (some ⟨f.p, 0, none⟩)) (by kernel_rfl) (by kernel_rfl) ?_
  refine wl_val (.slice pf f.da.length cf) (by kernel_rfl) (run_load1 (fun w => Try.isAgg52 w) (by kernel_rfl) (((H0.get 1 rfl).cell 0).trans rfl)) ?_
  refine wl_val (iN .i64 f.da.length) (by kernel_rfl) (by kernel_rfl) ?_
  refine wl_val (.pointer (some ⟨f.p, 0, none⟩)) (by kernel_rfl) (by kernel_rfl) ?_
  refine wl_val (.pointer (some ⟨f.p, 1, none⟩)) (by kernel_rfl) (by kernel_rfl) ?_
  refine wl_putv (v := iN .i64 f.da.length) H0 1 rfl 1 (by show 1 < 2; decide) (by kernel_rfl) (fun w => Try.sizeOf3 w) (by kernel_rfl) (by kernel_rfl) (by kernel_rfl) ?_
  intro w1 (h2 : HA ⟨w0, (d.r, .mp (eF (A ++ f :: B)) nx) :: M⟩ ((d.q, 61, dcell d.r D.free D.left D.down v) :: (f.p, 67, fcell (.slice pf f.da.length cf) f.da.length) :: (f.Lr ++ (Lr ++ (FB (A ++ B) ++ X)))) w1)
  refine wl_nil ?_
  refine then_at (F := ⟨(pt f.p :: un :: iN .i64 0 :: pt f.p :: pt f.p :: pt f.p :: pt f.p :: .slice pf f.da.length cf :: iN .i64 f.da.length :: pt f.p :: .pointer (some ⟨f.p, 1, none⟩) :: List.replicate 0 un).toArray, []⟩) (by kernel_rfl) ?_
  refine wp_seq ?_
  refine wl_region ?_
  refine wl_val (iN .i64 0) (by kernel_rfl) (by kernel_rfl) ?_
  refine wl_nil ?_
  refine then_at (F := ⟨(pt f.p :: un :: iN .i64 0 :: pt f.p :: pt f.p :: pt f.p :: pt f.p :: .slice pf f.da.length cf :: iN .i64 f.da.length :: pt f.p :: .pointer (some ⟨f.p, 1, none⟩) :: List.replicate 0 un).toArray, []⟩) (by kernel_rfl) ?_
  refine wp_ret ?_
  repeat first | refine then_ret ?_ | refine block_ret ?_
  have hup := upd_at hK ⟨f.nm, f.p, f.da, f.da.length, .slice pf f.da.length cf, f.Lr, f.bn⟩ (fun x => { x with sy := x.da.length }) rfl
  rw [hfl] at hup
  subst hf
  exact bodyPost_ret (v := iN .i64 0) (by kernel_rfl) rfl ⟨rfl, A ++ ⟨f.nm, f.p, f.da, f.da.length, .slice pf f.da.length cf, f.Lr, f.bn⟩ :: B, nx, v, Lr, hup, hK.turn rfl rfl hrow (Nat.le_refl _), hR, HA.unfile (f := ⟨f.nm, f.p, f.da, f.da.length, .slice pf f.da.length cf, f.Lr, f.bn⟩) (by rw [eF_same (g := ⟨f.nm, f.p, f.da, f.da.length, .slice pf f.da.length cf, f.Lr, f.bn⟩) (f := f) rfl rfl rfl]; exact h2)⟩
def SyncD (D : DS) (nm : ByteArray) : DS × Nat := OnD D (syncF (spendD D) nm) nm 0
def RemoveD (D : DS) (nm : ByteArray) : DS × Nat := OnD D (remF (spendD D) nm) nm 0
def renT (D : DS) (a b : ByteArray) : DS × Nat := if isNm b = false then (D, 2) else if a = b then (D, 0) else (renF D a b, 0)
def RenameD (D : DS) (a b : ByteArray) : DS × Nat := OnD D (renT (spendD D) a b).1 a (renT (spendD D) a b).2
set_option linter.unusedVariables false in
set_option maxRecDepth 100000 in
set_option maxHeartbeats 2000000 in
theorem Sync_any {w0 : World} {M : ML} {d : Dk} {D : DS} {L : BL} {w : World} (hD : DH w0 M d D L w) (nm : ByteArray) {U N : Nat} (hb : DB D U N) (hN : N ≤ 1000000) :
    Calls Try.prog 12 #[pt d.q, .string nm] w fun e w' => e = .returned (iN .i64 (SyncD D nm).2) ∧ DH w0 M d (SyncD D nm).1 L w' := by
  obtain ⟨fl, nx, v, Lr, hfl, hK, hR, H0⟩ := hD
  go_enter Try.func12, Try.ntmps12
  refine wp_seq ?_
  refine wl_region ?_
  refine wl_val (iN .i64 0) (by kernel_rfl) (by kernel_rfl) ?_
  refine wl_nil ?_
  refine then_at (F := ⟨(pt d.q :: .string nm :: un :: un :: iN .i64 0 :: List.replicate 3 un).toArray, []⟩) (by kernel_rfl) ?_
  refine wp_seq ?_
  refine wl_region ?_
  refine wl_val (.pointer (some ⟨d.q, 0, none⟩)) (by kernel_rfl) (by kernel_rfl) ?_
  refine wl_val (.string nm) (by kernel_rfl) (by kernel_rfl) ?_
  refine wl_callx (by kernel_rfl) enter42 #[.pointer (some ⟨d.q, 0, none⟩), .string nm, .func (.func 43) #[] #[]] (by kernel_rfl) (operateOn_any (D2 := syncF (spendD D) nm) (er := 0) ⟨fl, nx, v, Lr, hfl, hK, hR, H0⟩ enter43 hb hN (Nat.le_trans hb.sz hN) (fun _ _ _ w A B f nx v Lr h1 h2 h3 h4 h5 => sync_deed h1 h2 h3 h4 h5)) ?_
  rintro _ w1 ⟨rfl, hD2⟩
  refine ⟨_, rfl, ?_⟩
  refine wl_val (iN .i64 ((SyncD D nm).2)) (by kernel_rfl) (by kernel_rfl) ?_
  refine wl_nil ?_
  refine then_at (F := ⟨(pt d.q :: .string nm :: un :: un :: iN .i64 ((SyncD D nm).2) :: pt d.q :: .string nm :: iN .i64 ((SyncD D nm).2) :: List.replicate 0 un).toArray, []⟩) (by kernel_rfl) ?_
  refine wp_ret ?_
  repeat first | refine then_ret ?_ | refine block_ret ?_
  exact bodyPost_ret (v := iN .i64 (SyncD D nm).2) (by kernel_rfl) rfl ⟨rfl, hD2⟩
set_option linter.unusedVariables false in
set_option maxRecDepth 100000 in
set_option maxHeartbeats 2000000 in
theorem rem_deed {w0 : World} {M : ML} {d : Dk} {D : DS} {X : BL} {A B : List Fl} {f : Fl} {nm : ByteArray} {nx : Nat} {v : Value} {Lr : BL} {w : World} (hfl : (A ++ f :: B).map ab = D.fs) (hf : f.nm = nm) (hK : FK (A ++ f :: B) nx) (hR : Row 3 1 v D.sizes.length (D.sizes.map (iN .i64 ·)) Lr) (H0 : HA ⟨w0, (d.r, .mp (eF (A ++ f :: B)) nx) :: M⟩ ((d.q, 61, dcell d.r D.free D.left D.down v) :: (Lr ++ (FB (A ++ f :: B) ++ X))) w) {b2 b3 : Nat} (hb2 : (b2, 23, #[pt d.q]) ∈ X) (hb3 : (b3, 9, #[.string nm]) ∈ X) (hrm : D.free + used D.fs ≤ 9223372036854775807) :
    Calls Try.prog 48 #[pt f.p, pt b2, pt b3] w fun e w' => e = .returned (iN .i64 0) ∧ DH w0 M d (remF D nm) X w' := by
  go_enter Try.func48, Try.ntmps48
  refine wp_seq ?_
  refine wl_region ?_
  refine wl_val (iN .i64 0) (by kernel_rfl) (by kernel_rfl) ?_
  refine wl_nil ?_
  refine then_at (F := ⟨(pt f.p :: pt b2 :: pt b3 :: un :: iN .i64 0 :: List.replicate 3 un).toArray, []⟩) (by kernel_rfl) ?_
  refine wp_seq ?_
  refine wl_region ?_
  refine wl_val (.pointer (some ⟨d.q, 0, none⟩)) (by kernel_rfl) (run_load1 (fun w => Try.isAgg23 w) (by kernel_rfl) (((H0.blk (b2, 23, #[pt d.q]) (by simp [hb2])).cell 0).trans rfl)) ?_
  refine wl_val (.string nm) (by kernel_rfl) (run_load1 (fun w => Try.isAgg9 w) (by kernel_rfl) (((H0.blk (b3, 9, #[.string nm]) (by simp [hb3])).cell 0).trans rfl)) ?_
  refine wl_callx (by kernel_rfl) enter45 #[.pointer (some ⟨d.q, 0, none⟩), .string nm] (by kernel_rfl) (drop_any hK H0 (by rw [hfl]; exact hrm)) ?_
  rintro _ w1 ⟨rfl, hdr⟩
  refine ⟨_, rfl, ?_⟩
  refine wl_nil ?_
  refine then_at (F := ⟨(pt f.p :: pt b2 :: pt b3 :: un :: iN .i64 0 :: pt d.q :: .string nm :: .tuple #[] :: List.replicate 0 un).toArray, []⟩) (by kernel_rfl) ?_
  refine wp_seq ?_
  refine wl_region ?_
  refine wl_val (iN .i64 0) (by kernel_rfl) (by kernel_rfl) ?_
  refine wl_nil ?_
  refine then_at (F := ⟨(pt f.p :: pt b2 :: pt b3 :: un :: iN .i64 0 :: pt d.q :: .string nm :: .tuple #[] :: List.replicate 0 un).toArray, []⟩) (by kernel_rfl) ?_
  refine wp_ret ?_
  repeat first | refine then_ret ?_ | refine block_ret ?_
  exact bodyPost_ret (v := iN .i64 0) (by kernel_rfl) rfl ⟨rfl, _, nx, v, Lr, by rw [dlL_ab, hfl]; rfl, hK.dl nm, hR, by rw [hfl] at hdr; exact hdr⟩
set_option linter.unusedVariables false in
set_option maxRecDepth 100000 in
set_option maxHeartbeats 2000000 in
theorem Remove_any {w0 : World} {M : ML} {d : Dk} {D : DS} {L : BL} {w : World} (hD : DH w0 M d D L w) (nm : ByteArray) {U N : Nat} (hb : DB D U N) (hN : N ≤ 1000000) :
    Calls Try.prog 16 #[pt d.q, .string nm] w fun e w' => e = .returned (iN .i64 (RemoveD D nm).2) ∧ DH w0 M d (RemoveD D nm).1 L w' := by
  obtain ⟨fl, nx, v, Lr, hfl, hK, hR, H0⟩ := hD
  go_enter Try.func16, Try.ntmps16
  refine wp_seq ?_
  refine wl_region ?_
  refine wl_make (c := #[.pointer (some ⟨d.q, 0, none⟩)]) H0 23 (by kernel_rfl) (by kernel_rfl) ?_
  intro q1 w2 (h3 : HA ⟨w0, (d.r, .mp (eF fl) nx) :: M⟩ ((q1, 23, #[.pointer (some ⟨d.q, 0, none⟩)]) :: (d.q, 61, dcell d.r D.free D.left D.down v) :: (Lr ++ (FB fl ++ L))) w2)
  refine wl_make (c := #[.string nm]) h3 9 (by kernel_rfl) (by kernel_rfl) ?_
  intro q4 w5 (h6 : HA ⟨w0, (d.r, .mp (eF fl) nx) :: M⟩ ((q4, 9, #[.string nm]) :: (q1, 23, #[.pointer (some ⟨d.q, 0, none⟩)]) :: (d.q, 61, dcell d.r D.free D.left D.down v) :: (Lr ++ (FB fl ++ L))) w5)
  refine wl_val (iN .i64 0) (by kernel_rfl) (by kernel_rfl) ?_
  refine wl_nil ?_
  refine then_at (F := ⟨(pt d.q :: .string nm :: pt q1 :: pt q4 :: iN .i64 0 :: List.replicate 4 un).toArray, []⟩) (by kernel_rfl) ?_
  refine wp_seq ?_
  refine wl_region ?_
  refine wl_val (.pointer (some ⟨d.q, 0, none⟩)) (by kernel_rfl) (run_load1 (fun w => Try.isAgg23 w) (by kernel_rfl) (((h6.get 1 rfl).cell 0).trans rfl)) ?_
  refine wl_val (.string nm) (by kernel_rfl) (run_load1 (fun w => Try.isAgg9 w) (by kernel_rfl) (((h6.get 0 rfl).cell 0).trans rfl)) ?_
  refine wl_val (.func (.func 48) #[] #[.pointer (some ⟨q1, 0, none⟩), .pointer (some ⟨q4, 0, none⟩)]) (by kernel_rfl) (by kernel_rfl) ?_
  refine wl_callx (by kernel_rfl) enter42 #[.pointer (some ⟨d.q, 0, none⟩), .string nm, .func (.func 48) #[] #[.pointer (some ⟨q1, 0, none⟩), .pointer (some ⟨q4, 0, none⟩)]] (by kernel_rfl) (operateOn_any (D2 := remF (spendD D) nm) (er := 0) ⟨fl, nx, v, Lr, hfl, hK, hR, HA.back [(q4, 9, #[.string nm]), (q1, 23, #[.pointer (some ⟨d.q, 0, none⟩)])] h6⟩ enter48 hb hN (Nat.le_trans hb.sz hN) (fun _ _ _ w A B f nx v Lr h1 h2 h3 h4 h5 => rem_deed h1 h2 h3 h4 h5 (b2 := q1) (b3 := q4) (by simp [pt]) (by simp) hb.rm)) ?_
  rintro _ w7 ⟨rfl, hD2⟩
  refine ⟨_, rfl, ?_⟩
  refine wl_val (iN .i64 ((RemoveD D nm).2)) (by kernel_rfl) (by kernel_rfl) ?_
  refine wl_nil ?_
  refine then_at (F := ⟨(pt d.q :: .string nm :: pt q1 :: pt q4 :: iN .i64 ((RemoveD D nm).2) :: pt d.q :: .string nm :: .func (.func 48) #[] #[pt q1, pt q4] :: iN .i64 ((RemoveD D nm).2) :: List.replicate 0 un).toArray, []⟩) (by kernel_rfl) ?_
  refine wp_ret ?_
  repeat first | refine then_ret ?_ | refine block_ret ?_
  exact bodyPost_ret (v := iN .i64 (RemoveD D nm).2) (by kernel_rfl) rfl ⟨rfl, DH.drop (A := [(q4, 9, #[.string nm]), (q1, 23, #[.pointer (some ⟨d.q, 0, none⟩)])]) hD2⟩
set_option linter.unusedVariables false in
set_option maxRecDepth 100000 in
set_option maxHeartbeats 2000000 in
theorem ren_arg {w0 : World} {M : ML} {d : Dk} {D : DS} {X : BL} {A B : List Fl} {f : Fl} {nm : ByteArray} {nx : Nat} {v : Value} {Lr : BL} {w : World} (hfl : (A ++ f :: B).map ab = D.fs) (hf : f.nm = nm) (hK : FK (A ++ f :: B) nx) (hR : Row 3 1 v D.sizes.length (D.sizes.map (iN .i64 ·)) Lr) (H0 : HA ⟨w0, (d.r, .mp (eF (A ++ f :: B)) nx) :: M⟩ ((d.q, 61, dcell d.r D.free D.left D.down v) :: (Lr ++ (FB (A ++ f :: B) ++ X))) w) {b : ByteArray} {b3 b4 b5 : Nat} (hb3 : (b3, 23, #[pt d.q]) ∈ X) (hb4 : (b4, 9, #[.string nm]) ∈ X) (hb5 : (b5, 9, #[.string b]) ∈ X) (hnm : isNm b = false) :
    Calls Try.prog 44 #[pt f.p, pt b5, pt b4, pt b3] w fun e w' => e = .returned (iN .i64 (renT D nm b).2) ∧ DH w0 M d (renT D nm b).1 X w' := by
  go_enter Try.func44, Try.ntmps44
  refine wp_seq ?_
  refine wl_region ?_
  refine wl_val (iN .i64 0) (by kernel_rfl) (by kernel_rfl) ?_
  refine wl_nil ?_
  refine then_at (F := ⟨(pt f.p :: pt b5 :: pt b4 :: pt b3 :: un :: iN .i64 0 :: List.replicate 23 un).toArray, []⟩) (by kernel_rfl) ?_
  refine wp_seq ?_
  refine wp_block ?_
  refine wp_seq ?_
  refine wl_region ?_
  refine wl_val (.string b) (by kernel_rfl) (run_load1 (fun w => Try.isAgg9 w) (by kernel_rfl) (((H0.blk (b5, 9, #[.string b]) (by simp [hb5])).cell 0).trans rfl)) ?_
  refine wl_call (v := .bool false) H0 (by kernel_rfl) enter34 #[.string b] (by kernel_rfl) (by have := isName_any b w; rw [hnm] at this; exact this) ?_
  intro w1 h2
  refine wl_val (.bool true) (by kernel_rfl) (by kernel_rfl) ?_
  refine wl_val (.bool true) (by kernel_rfl) (by kernel_rfl) ?_
  refine wl_nil ?_
  refine then_at (F := ⟨(pt f.p :: pt b5 :: pt b4 :: pt b3 :: un :: iN .i64 0 :: .bool true :: .string b :: .bool false :: .bool true :: List.replicate 19 un).toArray, []⟩) (by kernel_rfl) ?_
  refine wp_cond_true (by kernel_rfl) ?_
  refine wp_seq ?_
  refine wl_region ?_
  refine wl_val (iN .i64 2) (by kernel_rfl) (by kernel_rfl) ?_
  refine wl_nil ?_
  refine then_at (F := ⟨(pt f.p :: pt b5 :: pt b4 :: pt b3 :: un :: iN .i64 2 :: .bool true :: .string b :: .bool false :: .bool true :: List.replicate 19 un).toArray, []⟩) (by kernel_rfl) ?_
  refine wp_ret ?_
  repeat first | refine then_ret ?_ | refine block_ret ?_
  exact bodyPost_ret (v := iN .i64 2) (by kernel_rfl) rfl ⟨by rw [renT, if_pos hnm], by rw [renT, if_pos hnm]; exact ⟨_, nx, v, Lr, hfl, hK, hR, h2⟩⟩
set_option linter.unusedVariables false in
set_option maxRecDepth 100000 in
set_option maxHeartbeats 2000000 in
theorem ren_same {w0 : World} {M : ML} {d : Dk} {D : DS} {X : BL} {A B : List Fl} {f : Fl} {nm : ByteArray} {nx : Nat} {v : Value} {Lr : BL} {w : World} (hfl : (A ++ f :: B).map ab = D.fs) (hf : f.nm = nm) (hK : FK (A ++ f :: B) nx) (hR : Row 3 1 v D.sizes.length (D.sizes.map (iN .i64 ·)) Lr) (H0 : HA ⟨w0, (d.r, .mp (eF (A ++ f :: B)) nx) :: M⟩ ((d.q, 61, dcell d.r D.free D.left D.down v) :: (Lr ++ (FB (A ++ f :: B) ++ X))) w) {b : ByteArray} {b3 b4 b5 : Nat} (hb3 : (b3, 23, #[pt d.q]) ∈ X) (hb4 : (b4, 9, #[.string nm]) ∈ X) (hb5 : (b5, 9, #[.string b]) ∈ X) (hnm : isNm b = true) (hs : nm = b) :
    Calls Try.prog 44 #[pt f.p, pt b5, pt b4, pt b3] w fun e w' => e = .returned (iN .i64 (renT D nm b).2) ∧ DH w0 M d (renT D nm b).1 X w' := by
  go_enter Try.func44, Try.ntmps44
  refine wp_seq ?_
  refine wl_region ?_
  refine wl_val (iN .i64 0) (by kernel_rfl) (by kernel_rfl) ?_
  refine wl_nil ?_
  refine then_at (F := ⟨(pt f.p :: pt b5 :: pt b4 :: pt b3 :: un :: iN .i64 0 :: List.replicate 23 un).toArray, []⟩) (by kernel_rfl) ?_
  refine wp_seq ?_
  refine wp_block ?_
  refine wp_seq ?_
  refine wl_region ?_
  refine wl_val (.string b) (by kernel_rfl) (run_load1 (fun w => Try.isAgg9 w) (by kernel_rfl) (((H0.blk (b5, 9, #[.string b]) (by simp [hb5])).cell 0).trans rfl)) ?_
  refine wl_call (v := .bool true) H0 (by kernel_rfl) enter34 #[.string b] (by kernel_rfl) (by have := isName_any b w; rw [hnm] at this; exact this) ?_
  intro w1 h2
  refine wl_val (.bool false) (by kernel_rfl) (by kernel_rfl) ?_
  refine wl_val (.bool false) (by kernel_rfl) (by kernel_rfl) ?_
  refine wl_nil ?_
  refine then_at (F := ⟨(pt f.p :: pt b5 :: pt b4 :: pt b3 :: un :: iN .i64 0 :: .bool false :: .string b :: .bool true :: .bool false :: List.replicate 19 un).toArray, []⟩) (by kernel_rfl) ?_
  refine wp_cond_false (by kernel_rfl) ?_
  refine wp_seq ?_
  refine wl_region ?_
  refine wl_val (.string nm) (by kernel_rfl) (run_load1 (fun w => Try.isAgg9 w) (by kernel_rfl) (((h2.blk (b4, 9, #[.string nm]) (by simp [hb4])).cell 0).trans rfl)) ?_
  refine wl_val (.string b) (by kernel_rfl) (run_load1 (fun w => Try.isAgg9 w) (by kernel_rfl) (((h2.blk (b5, 9, #[.string b]) (by simp [hb5])).cell 0).trans rfl)) ?_
  refine wl_val (.bool true) (by kernel_rfl) (run_eqs (s := nm) (t := b) (by kernel_rfl) (by kernel_rfl) true (decide_eq_true hs)) ?_
  refine wl_val (.bool true) (by kernel_rfl) (by kernel_rfl) ?_
  refine wl_nil ?_
  refine then_at (F := ⟨(pt f.p :: pt b5 :: pt b4 :: pt b3 :: un :: iN .i64 0 :: .bool false :: .string b :: .bool true :: .bool false :: .bool true :: .string nm :: .string b :: .bool true :: List.replicate 15 un).toArray, []⟩) (by kernel_rfl) ?_
  refine wp_cond_true (by kernel_rfl) ?_
  refine wp_seq ?_
  refine wl_region ?_
  refine wl_val (iN .i64 0) (by kernel_rfl) (by kernel_rfl) ?_
  refine wl_nil ?_
  refine then_at (F := ⟨(pt f.p :: pt b5 :: pt b4 :: pt b3 :: un :: iN .i64 0 :: .bool false :: .string b :: .bool true :: .bool false :: .bool true :: .string nm :: .string b :: .bool true :: List.replicate 15 un).toArray, []⟩) (by kernel_rfl) ?_
  refine wp_ret ?_
  repeat first | refine then_ret ?_ | refine block_ret ?_
  exact bodyPost_ret (v := iN .i64 0) (by kernel_rfl) rfl ⟨by rw [renT, if_neg (by rw [hnm]; decide), if_pos hs], by rw [renT, if_neg (by rw [hnm]; decide), if_pos hs]; exact ⟨_, nx, v, Lr, hfl, hK, hR, h2⟩⟩
theorem dl_mid {A B : List Fl} {f : Fl} {s : ByteArray} (h : f.nm ≠ s) : dlL (A ++ f :: B) s = dlL A s ++ f :: dlL B s := by simp [dlL, h]
theorem dlL_ne {fl : List Fl} {s : ByteArray} {f : Fl} (h : f ∈ dlL fl s) : f.nm ≠ s := of_decide_eq_true (List.mem_filter.1 h).2
set_option linter.unusedVariables false in
set_option maxRecDepth 100000 in
set_option maxHeartbeats 2000000 in
theorem ren_go {w0 : World} {M : ML} {d : Dk} {D : DS} {X : BL} {A B : List Fl} {f : Fl} {nm : ByteArray} {nx : Nat} {v : Value} {Lr : BL} {w : World} (hfl : (A ++ f :: B).map ab = D.fs) (hf : f.nm = nm) (hK : FK (A ++ f :: B) nx) (hR : Row 3 1 v D.sizes.length (D.sizes.map (iN .i64 ·)) Lr) (H0 : HA ⟨w0, (d.r, .mp (eF (A ++ f :: B)) nx) :: M⟩ ((d.q, 61, dcell d.r D.free D.left D.down v) :: (Lr ++ (FB (A ++ f :: B) ++ X))) w) {b : ByteArray} {b3 b4 b5 : Nat} (hb3 : (b3, 23, #[pt d.q]) ∈ X) (hb4 : (b4, 9, #[.string nm]) ∈ X) (hb5 : (b5, 9, #[.string b]) ∈ X) (hnm : isNm b = true) (hs : ¬ nm = b) (hrm : D.free + used D.fs ≤ 9223372036854775807) :
    Calls Try.prog 44 #[pt f.p, pt b5, pt b4, pt b3] w fun e w' => e = .returned (iN .i64 (renT D nm b).2) ∧ DH w0 M d (renT D nm b).1 X w' := by
  have hnl : b.size ≤ 1000000 := by simp [isNm] at hnm; omega
  have hK2 := hK.dl b
  rw [dl_mid (hf ▸ hs : f.nm ≠ b)] at hK2
  have hnb : ∀ g ∈ dlL A b ++ dlL B b, g.nm ≠ b := fun g hg => by
    rcases List.mem_append.1 hg with hg | hg
    · exact dlL_ne hg
    · exact dlL_ne hg
  have hK3 := hK2.out.more (f := ⟨b, f.p, f.da, f.sy, f.v, f.Lr, nx⟩) hnb rfl (hK.row f (by simp)) (hK.syn f (by simp))
  go_enter Try.func44, Try.ntmps44
  refine wp_seq ?_
  refine wl_region ?_
  refine wl_val (iN .i64 0) (by kernel_rfl) (by kernel_rfl) ?_
  refine wl_nil ?_
  refine then_at (F := ⟨(pt f.p :: pt b5 :: pt b4 :: pt b3 :: un :: iN .i64 0 :: List.replicate 23 un).toArray, []⟩) (by kernel_rfl) ?_
  refine wp_seq ?_
  refine wp_block ?_
  refine wp_seq ?_
  refine wl_region ?_
  refine wl_val (.string b) (by kernel_rfl) (run_load1 (fun w => Try.isAgg9 w) (by kernel_rfl) (((H0.blk (b5, 9, #[.string b]) (by simp [hb5])).cell 0).trans rfl)) ?_
  refine wl_call (v := .bool true) H0 (by kernel_rfl) enter34 #[.string b] (by kernel_rfl) (by have := isName_any b w; rw [hnm] at this; exact this) ?_
  intro w1 h2
  refine wl_val (.bool false) (by kernel_rfl) (by kernel_rfl) ?_
  refine wl_val (.bool false) (by kernel_rfl) (by kernel_rfl) ?_
  refine wl_nil ?_
  refine then_at (F := ⟨(pt f.p :: pt b5 :: pt b4 :: pt b3 :: un :: iN .i64 0 :: .bool false :: .string b :: .bool true :: .bool false :: List.replicate 19 un).toArray, []⟩) (by kernel_rfl) ?_
  refine wp_cond_false (by kernel_rfl) ?_
  refine wp_seq ?_
  refine wl_region ?_
  refine wl_val (.string nm) (by kernel_rfl) (run_load1 (fun w => Try.isAgg9 w) (by kernel_rfl) (((h2.blk (b4, 9, #[.string nm]) (by simp [hb4])).cell 0).trans rfl)) ?_
  refine wl_val (.string b) (by kernel_rfl) (run_load1 (fun w => Try.isAgg9 w) (by kernel_rfl) (((h2.blk (b5, 9, #[.string b]) (by simp [hb5])).cell 0).trans rfl)) ?_
  refine wl_val (.bool false) (by kernel_rfl) (run_eqs (s := nm) (t := b) (by kernel_rfl) (by kernel_rfl) false (decide_eq_false hs)) ?_
  refine wl_val (.bool false) (by kernel_rfl) (by kernel_rfl) ?_
  refine wl_nil ?_
  refine then_at (F := ⟨(pt f.p :: pt b5 :: pt b4 :: pt b3 :: un :: iN .i64 0 :: .bool false :: .string b :: .bool true :: .bool false :: .bool false :: .string nm :: .string b :: .bool false :: List.replicate 15 un).toArray, []⟩) (by kernel_rfl) ?_
  refine wp_cond_false (by kernel_rfl) ?_
  refine wp_skip ?_
  refine block_normal ?_
  refine then_at (F := ⟨(pt f.p :: pt b5 :: pt b4 :: pt b3 :: un :: iN .i64 0 :: .bool false :: .string b :: .bool true :: .bool false :: .bool false :: .string nm :: .string b :: .bool false :: List.replicate 15 un).toArray, []⟩) (by kernel_rfl) ?_
  refine wp_seq ?_
  refine wl_region ?_
  refine wl_val (.pointer (some ⟨d.q, 0, none⟩)) (by kernel_rfl) (run_load1 (fun w => Try.isAgg23 w) (by kernel_rfl) (((h2.blk (b3, 23, #[pt d.q]) (by simp [hb3])).cell 0).trans rfl)) ?_
  refine wl_val (.string b) (by kernel_rfl) (run_load1 (fun w => Try.isAgg9 w) (by kernel_rfl) (((h2.blk (b5, 9, #[.string b]) (by simp [hb5])).cell 0).trans rfl)) ?_
  refine wl_callx (by kernel_rfl) enter45 #[.pointer (some ⟨d.q, 0, none⟩), .string b] (by kernel_rfl) (drop_any (s := b) hK h2 (by rw [hfl]; exact hrm)) ?_
  rintro _ w3 ⟨rfl, hdr⟩
  refine ⟨_, rfl, ?_⟩
  rw [dl_mid (hf ▸ hs : f.nm ≠ b)] at hdr
  refine wl_nil ?_
  refine then_at (F := ⟨(pt f.p :: pt b5 :: pt b4 :: pt b3 :: un :: iN .i64 0 :: .bool false :: .string b :: .bool true :: .bool false :: .bool false :: .string nm :: .string b :: .bool false :: pt d.q :: .string b :: .tuple #[] :: List.replicate 12 un).toArray, []⟩) (by kernel_rfl) ?_
  refine wp_seq ?_
  refine wp_region_wx (HA ⟨w0, (d.r, .mp (eF (dlL A b ++ f :: dlL B b)) nx) :: M⟩ ((d.q, 61, dcell d.r (D.free + used (keepF ((A ++ f :: B).map ab) b)) D.left D.down v) :: (Lr ++ (FB (dlL A b ++ f :: dlL B b) ++ X)))) (fun AQ w' => AQ = ⟨(pt f.p :: pt b5 :: pt b4 :: pt b3 :: un :: iN .i64 0 :: .bool false :: .string b :: .bool true :: .bool false :: .bool false :: .string nm :: .string b :: .bool false :: pt d.q :: .string b :: .tuple #[] :: pt d.q :: pt d.q :: pt d.q :: .map (some d.r) :: .string nm :: List.replicate 7 un).toArray, []⟩ ∧ HA ⟨w0, (d.r, .mp (eF (dlL A b ++ dlL B b)) nx) :: M⟩ ((d.q, 61, dcell d.r (D.free + used (keepF ((A ++ f :: B).map ab) b)) D.left D.down v) :: (Lr ++ (FB (dlL A b ++ f :: dlL B b) ++ X))) w') 6 (by kernel_rfl) (by kernel_rfl) (by kernel_rfl) (by kernel_rfl) (by kernel_rfl) (hdr.drew) ?_ ?_
  · have h4 := hdr.drew
    refine wx_val (i := 0) (.pointer (some ⟨d.q, 0, none⟩)) rfl rfl (by kernel_rfl) (by kernel_rfl) (fun w' h' => run_load1 (fun w => Try.isAgg23 w) (by kernel_rfl) (((h'.blk (b3, 23, #[pt d.q]) (by simp [hb3])).cell 0).trans rfl)) ?_
    refine wx_pure (i := 1) (.pointer (some ⟨d.q, 0, none⟩)) rfl rfl (by kernel_rfl) (by kernel_rfl) (fun _ => (by kernel_rfl)) ?_
    refine wx_pure (i := 2) (.pointer (some ⟨d.q, 0, none⟩)) rfl rfl (by kernel_rfl) (by kernel_rfl) (fun _ => (by kernel_rfl)) ?_
    refine wx_val (i := 3) (.map (some d.r)) rfl rfl (by kernel_rfl) (by kernel_rfl) (fun w' h' => run_load1 (fun w => Try.isAgg59 w) (by kernel_rfl) (((h'.get 0 rfl).cell 0).trans rfl)) ?_
    refine wx_val (i := 4) (.string nm) rfl rfl (by kernel_rfl) (by kernel_rfl) (fun w' h' => run_load1 (fun w => Try.isAgg9 w) (by kernel_rfl) (((h'.blk (b4, 9, #[.string nm]) (by simp [hb4])).cell 0).trans rfl)) ?_
    refine wx_one 5 (by kernel_rfl) ?_
    refine ex_do rfl (by kernel_rfl) (by kernel_rfl) h4 fun w5 h6 => ⟨_, _, run_del (h6.old.maps _ (List.mem_cons_self ..)) hf (hf ▸ hK2.apartA) (by kernel_rfl) (by kernel_rfl), _, h6.setMap 0 rfl, ?_⟩
    have h7 : HA ⟨w0, (d.r, .mp (eF (dlL A b ++ dlL B b)) nx) :: M⟩ ((d.q, 61, dcell d.r (D.free + used (keepF ((A ++ f :: B).map ab) b)) D.left D.down v) :: (Lr ++ (FB (dlL A b ++ f :: dlL B b) ++ X))) _ := h6.setMap 0 rfl
    refine wx_end fun w8 hbx _ => ?_
    have h9 := HA.keep _ _ h7 hbx
    exact ⟨by kernel_rfl, h9⟩
  · rintro _ w10 ⟨rfl, h11⟩
    refine then_at (F := ⟨(pt f.p :: pt b5 :: pt b4 :: pt b3 :: un :: iN .i64 0 :: .bool false :: .string b :: .bool true :: .bool false :: .bool false :: .string nm :: .string b :: .bool false :: pt d.q :: .string b :: .tuple #[] :: pt d.q :: pt d.q :: pt d.q :: .map (some d.r) :: .string nm :: List.replicate 7 un).toArray, []⟩) (by kernel_rfl) ?_
    refine wp_seq ?_
    refine wp_region_wx (HA ⟨w0, (d.r, .mp (eF (dlL A b ++ dlL B b)) nx) :: M⟩ ((d.q, 61, dcell d.r (D.free + used (keepF ((A ++ f :: B).map ab) b)) D.left D.down v) :: (Lr ++ (FB (dlL A b ++ f :: dlL B b) ++ X)))) (fun AQ w' => AQ = ⟨(pt f.p :: pt b5 :: pt b4 :: pt b3 :: un :: iN .i64 0 :: .bool false :: .string b :: .bool true :: .bool false :: .bool false :: .string nm :: .string b :: .bool false :: pt d.q :: .string b :: .tuple #[] :: pt d.q :: pt d.q :: pt d.q :: .map (some d.r) :: .string nm :: pt d.q :: pt d.q :: pt d.q :: .map (some d.r) :: .string b :: .string b :: pt f.p :: List.replicate 0 un).toArray, []⟩ ∧ HA ⟨w0, (d.r, .mp (eF (dlL A b ++ dlL B b ++ [⟨b, f.p, f.da, f.sy, f.v, f.Lr, nx⟩])) (nx + 1)) :: M⟩ ((d.q, 61, dcell d.r (D.free + used (keepF ((A ++ f :: B).map ab) b)) D.left D.down v) :: (Lr ++ (FB (dlL A b ++ f :: dlL B b) ++ X))) w') 8 (by kernel_rfl) (by kernel_rfl) (by kernel_rfl) (by kernel_rfl) (by kernel_rfl) (h11.drew) ?_ ?_
    · have h12 := h11.drew
      refine wx_val (i := 0) (.pointer (some ⟨d.q, 0, none⟩)) rfl rfl (by kernel_rfl) (by kernel_rfl) (fun w' h' => run_load1 (fun w => Try.isAgg23 w) (by kernel_rfl) (((h'.blk (b3, 23, #[pt d.q]) (by simp [hb3])).cell 0).trans rfl)) ?_
      refine wx_pure (i := 1) (.pointer (some ⟨d.q, 0, none⟩)) rfl rfl (by kernel_rfl) (by kernel_rfl) (fun _ => (by kernel_rfl)) ?_
      refine wx_pure (i := 2) (.pointer (some ⟨d.q, 0, none⟩)) rfl rfl (by kernel_rfl) (by kernel_rfl) (fun _ => (by kernel_rfl)) ?_
      refine wx_val (i := 3) (.map (some d.r)) rfl rfl (by kernel_rfl) (by kernel_rfl) (fun w' h' => run_load1 (fun w => Try.isAgg59 w) (by kernel_rfl) (((h'.get 0 rfl).cell 0).trans rfl)) ?_
      refine wx_val (i := 4) (.string b) rfl rfl (by kernel_rfl) (by kernel_rfl) (fun w' h' => run_load1 (fun w => Try.isAgg9 w) (by kernel_rfl) (((h'.blk (b5, 9, #[.string b]) (by simp [hb5])).cell 0).trans rfl)) ?_
      refine wx_call (i := 5) (.string b) (fun _ _ h hb => HA.keep _ _ h hb) rfl rfl (by kernel_rfl) (by kernel_rfl) enter46 #[.string b] (by kernel_rfl) (fun w' h' => sclone_any b w' hnl) ?_
      refine wx_pure (i := 6) (.pointer (some ⟨f.p, 0, none⟩)) rfl rfl (by kernel_rfl) (by kernel_rfl) (fun _ => (by kernel_rfl)) ?_
      refine wx_one 7 (by kernel_rfl) ?_
      refine ex_skip rfl (by kernel_rfl) (by kernel_rfl) h12 fun w13 h14 => ⟨_, run_upd (h14.old.maps _ (List.mem_cons_self ..)) hnb (by kernel_rfl) (by kernel_rfl) ⟨b, f.p, f.da, f.sy, f.v, f.Lr, nx⟩ rfl rfl (by kernel_rfl), _, h14.setMap 0 rfl, ?_⟩
      have h15 : HA ⟨w0, (d.r, .mp (eF (dlL A b ++ dlL B b ++ [⟨b, f.p, f.da, f.sy, f.v, f.Lr, nx⟩])) (nx + 1)) :: M⟩ ((d.q, 61, dcell d.r (D.free + used (keepF ((A ++ f :: B).map ab) b)) D.left D.down v) :: (Lr ++ (FB (dlL A b ++ f :: dlL B b) ++ X))) _ := h14.setMap 0 rfl
      refine wx_end fun w16 hbx _ => ?_
      have h17 := HA.keep _ _ h15 hbx
      exact ⟨by kernel_rfl, h17⟩
    · rintro _ w18 ⟨rfl, h19⟩
      refine then_at (F := ⟨(pt f.p :: pt b5 :: pt b4 :: pt b3 :: un :: iN .i64 0 :: .bool false :: .string b :: .bool true :: .bool false :: .bool false :: .string nm :: .string b :: .bool false :: pt d.q :: .string b :: .tuple #[] :: pt d.q :: pt d.q :: pt d.q :: .map (some d.r) :: .string nm :: pt d.q :: pt d.q :: pt d.q :: .map (some d.r) :: .string b :: .string b :: pt f.p :: List.replicate 0 un).toArray, []⟩) (by kernel_rfl) ?_
      refine wp_seq ?_
      refine wl_region ?_
      refine wl_val (iN .i64 0) (by kernel_rfl) (by kernel_rfl) ?_
      refine wl_nil ?_
      refine then_at (F := ⟨(pt f.p :: pt b5 :: pt b4 :: pt b3 :: un :: iN .i64 0 :: .bool false :: .string b :: .bool true :: .bool false :: .bool false :: .string nm :: .string b :: .bool false :: pt d.q :: .string b :: .tuple #[] :: pt d.q :: pt d.q :: pt d.q :: .map (some d.r) :: .string nm :: pt d.q :: pt d.q :: pt d.q :: .map (some d.r) :: .string b :: .string b :: pt f.p :: List.replicate 0 un).toArray, []⟩) (by kernel_rfl) ?_
      refine wp_ret ?_
      repeat first | refine then_ret ?_ | refine block_ret ?_
      refine bodyPost_ret (v := iN .i64 0) (by kernel_rfl) rfl ?_
      rw [renT, if_neg (by rw [hnm]; decide), if_neg hs]
      refine ⟨rfl, dlL A b ++ dlL B b ++ [⟨b, f.p, f.da, f.sy, f.v, f.Lr, nx⟩], nx + 1, v, Lr, ?_, hK3, hR, ?_⟩
      · have h1 := del_at hK2
        have h2 := keep_yes hK2
        rw [← dl_mid (hf ▸ hs : f.nm ≠ b), dlL_ab, hfl, hf] at h1 h2
        rw [List.map_append, h1]
        simp only [renF, h2]
        rfl
      · rw [hfl] at h19
        refine h19.perm (List.Perm.cons _ (List.Perm.append_left Lr (List.Perm.append_right X ?_)))
        rw [FB_app, FB_app, FB_cons, FB_app]
        show (FB (dlL A b) ++ (fb f ++ FB (dlL B b))).Perm ((FB (dlL A b) ++ FB (dlL B b)) ++ (fb f ++ []))
        rw [List.append_nil, List.append_assoc]
        exact List.Perm.append_left _ List.perm_append_comm
theorem ren_deed {w0 : World} {M : ML} {d : Dk} {D : DS} {X : BL} {A B : List Fl} {f : Fl} {nm : ByteArray} {nx : Nat} {v : Value} {Lr : BL} {w : World} (hfl : (A ++ f :: B).map ab = D.fs) (hf : f.nm = nm) (hK : FK (A ++ f :: B) nx) (hR : Row 3 1 v D.sizes.length (D.sizes.map (iN .i64 ·)) Lr) (H0 : HA ⟨w0, (d.r, .mp (eF (A ++ f :: B)) nx) :: M⟩ ((d.q, 61, dcell d.r D.free D.left D.down v) :: (Lr ++ (FB (A ++ f :: B) ++ X))) w) {b : ByteArray} {b3 b4 b5 : Nat} (hb3 : (b3, 23, #[pt d.q]) ∈ X) (hb4 : (b4, 9, #[.string nm]) ∈ X) (hb5 : (b5, 9, #[.string b]) ∈ X) (hrm : D.free + used D.fs ≤ 9223372036854775807) :
    Calls Try.prog 44 #[pt f.p, pt b5, pt b4, pt b3] w fun e w' => e = .returned (iN .i64 (renT D nm b).2) ∧ DH w0 M d (renT D nm b).1 X w' := by
  cases hnm : isNm b with
  | false => exact ren_arg hfl hf hK hR H0 hb3 hb4 hb5 hnm
  | true =>
    by_cases hs : nm = b
    · exact ren_same hfl hf hK hR H0 hb3 hb4 hb5 hnm hs
    · exact ren_go hfl hf hK hR H0 hb3 hb4 hb5 hnm hs hrm
theorem renT_sz (D : DS) (a b : ByteArray) : (renT D a b).1.sizes = D.sizes := by
  unfold renT
  split
  · rfl
  · split <;> rfl
set_option linter.unusedVariables false in
set_option maxRecDepth 100000 in
set_option maxHeartbeats 2000000 in
theorem Rename_any {w0 : World} {M : ML} {d : Dk} {D : DS} {L : BL} {w : World} (hD : DH w0 M d D L w) (nm b : ByteArray) {U N : Nat} (hb : DB D U N) (hN : N ≤ 1000000) :
    Calls Try.prog 14 #[pt d.q, .string nm, .string b] w fun e w' => e = .returned (iN .i64 (RenameD D nm b).2) ∧ DH w0 M d (RenameD D nm b).1 L w' := by
  obtain ⟨fl, nx, v, Lr, hfl, hK, hR, H0⟩ := hD
  go_enter Try.func14, Try.ntmps14
  refine wp_seq ?_
  refine wl_region ?_
  refine wl_make (c := #[.pointer (some ⟨d.q, 0, none⟩)]) H0 23 (by kernel_rfl) (by kernel_rfl) ?_
  intro q1 w2 (h3 : HA ⟨w0, (d.r, .mp (eF fl) nx) :: M⟩ ((q1, 23, #[.pointer (some ⟨d.q, 0, none⟩)]) :: (d.q, 61, dcell d.r D.free D.left D.down v) :: (Lr ++ (FB fl ++ L))) w2)
  refine wl_make (c := #[.string nm]) h3 9 (by kernel_rfl) (by kernel_rfl) ?_
  intro q4 w5 (h6 : HA ⟨w0, (d.r, .mp (eF fl) nx) :: M⟩ ((q4, 9, #[.string nm]) :: (q1, 23, #[.pointer (some ⟨d.q, 0, none⟩)]) :: (d.q, 61, dcell d.r D.free D.left D.down v) :: (Lr ++ (FB fl ++ L))) w5)
  refine wl_make (c := #[.string b]) h6 9 (by kernel_rfl) (by kernel_rfl) ?_
  intro q7 w8 (h9 : HA ⟨w0, (d.r, .mp (eF fl) nx) :: M⟩ ((q7, 9, #[.string b]) :: (q4, 9, #[.string nm]) :: (q1, 23, #[.pointer (some ⟨d.q, 0, none⟩)]) :: (d.q, 61, dcell d.r D.free D.left D.down v) :: (Lr ++ (FB fl ++ L))) w8)
  refine wl_val (iN .i64 0) (by kernel_rfl) (by kernel_rfl) ?_
  refine wl_nil ?_
  refine then_at (F := ⟨(pt d.q :: .string nm :: .string b :: pt q1 :: pt q4 :: pt q7 :: iN .i64 0 :: List.replicate 4 un).toArray, []⟩) (by kernel_rfl) ?_
  refine wp_seq ?_
  refine wl_region ?_
  refine wl_val (.pointer (some ⟨d.q, 0, none⟩)) (by kernel_rfl) (run_load1 (fun w => Try.isAgg23 w) (by kernel_rfl) (((h9.get 2 rfl).cell 0).trans rfl)) ?_
  refine wl_val (.string nm) (by kernel_rfl) (run_load1 (fun w => Try.isAgg9 w) (by kernel_rfl) (((h9.get 1 rfl).cell 0).trans rfl)) ?_
  refine wl_val (.func (.func 44) #[] #[.pointer (some ⟨q7, 0, none⟩), .pointer (some ⟨q4, 0, none⟩), .pointer (some ⟨q1, 0, none⟩)]) (by kernel_rfl) (by kernel_rfl) ?_
  refine wl_callx (by kernel_rfl) enter42 #[.pointer (some ⟨d.q, 0, none⟩), .string nm, .func (.func 44) #[] #[.pointer (some ⟨q7, 0, none⟩), .pointer (some ⟨q4, 0, none⟩), .pointer (some ⟨q1, 0, none⟩)]] (by kernel_rfl) (operateOn_any (D2 := (renT (spendD D) nm b).1) (er := (renT (spendD D) nm b).2) ⟨fl, nx, v, Lr, hfl, hK, hR, HA.back [(q7, 9, #[.string b]), (q4, 9, #[.string nm]), (q1, 23, #[.pointer (some ⟨d.q, 0, none⟩)])] h9⟩ enter44 hb hN (by rw [renT_sz]; exact Nat.le_trans hb.sz hN) (fun _ _ _ w A B f nx v Lr h1 h2 h3 h4 h5 => ren_deed h1 h2 h3 h4 h5 (b5 := q7) (b4 := q4) (b3 := q1) (by simp [pt]) (by simp) (by simp) hb.rm)) ?_
  rintro _ w10 ⟨rfl, hD2⟩
  refine ⟨_, rfl, ?_⟩
  refine wl_val (iN .i64 ((RenameD D nm b).2)) (by kernel_rfl) (by kernel_rfl) ?_
  refine wl_nil ?_
  refine then_at (F := ⟨(pt d.q :: .string nm :: .string b :: pt q1 :: pt q4 :: pt q7 :: iN .i64 ((RenameD D nm b).2) :: pt d.q :: .string nm :: .func (.func 44) #[] #[pt q7, pt q4, pt q1] :: iN .i64 ((RenameD D nm b).2) :: List.replicate 0 un).toArray, []⟩) (by kernel_rfl) ?_
  refine wp_ret ?_
  repeat first | refine then_ret ?_ | refine block_ret ?_
  exact bodyPost_ret (v := iN .i64 (RenameD D nm b).2) (by kernel_rfl) rfl ⟨rfl, DH.drop (A := [(q7, 9, #[.string b]), (q4, 9, #[.string nm]), (q1, 23, #[.pointer (some ⟨d.q, 0, none⟩)])]) hD2⟩
end Go.Proofs.Ytjedhnjjgmbcbaa
