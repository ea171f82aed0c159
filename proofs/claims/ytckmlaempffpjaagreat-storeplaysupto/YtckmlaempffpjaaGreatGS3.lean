/-
 Get, apply.
-/
import Derived.Test.YtckmlaempffpjaaGreatGSM
import Derived.RangeFuncWrites
import Derived.RangeFuncLeaves
import Derived.RangeFuncCalls
import Derived.Shelf.RegionOpen
namespace Go.Proofs.YtckmlaempffpjaaGreat
set_option linter.unusedVariables false
set_option maxRecDepth 100000
set_option maxHeartbeats 2000000
open Go.RowKit Go.Proofs.Tryz
def getR (l : List Rw) (k : ByteArray) : ByteArray × Bool := match l.find? (fun x => decide (x.k = k)) with | none => ({ data := #[] }, false) | some x => (x.v, true)
theorem getR_no {l : List Rw} {k : ByteArray} (h : ∀ x ∈ l, x.k ≠ k) : getR l k = ({ data := #[] }, false) := by
 unfold getR
 rw [List.find?_eq_none.2 fun x hx => by simp only [decide_eq_true_eq]; exact h x hx]
theorem getR_yes {A B : List Rw} {x : Rw} (h : ∀ y ∈ A, y.k ≠ x.k) : getR (A ++ x :: B) x.k = (x.v, true) := by
 unfold getR
 rw [List.find?_append, List.find?_eq_none.2 fun y hy => by simp only [decide_eq_true_eq]; exact h y hy]
 simp
theorem add_two (a : Addr) (i j : Nat) : (a.add i).add j = a.add (i + j) := by
 unfold Addr.add
 by_cases hi : i = 0
 ·subst hi; simp
 ·by_cases hj : j = 0
  ·subst hj; simp
  ·rw [if_neg hi, if_neg hj, if_neg (by omega)]
   simp [Nat.add_assoc]
def RowsAt (w : World) (o : Option Addr) (ps : List Rw) : Prop := ∀ i x, ps[i]? = some x → ∃ a, o = some a ∧ w.cell? (a.add (i * 2)) = some (.string x.k) ∧ w.cell? (a.add (i * 2 + 1)) = some (.string x.v)
def KeysAt (w : World) (o : Option Addr) (ds : List ByteArray) : Prop := ∀ i x, ds[i]? = some x → ∃ a, o = some a ∧ w.cell? (a.add i) = some (.string x)
def PV (w0 : World) (L : BL) (o : Option Addr) (ps : List Rw) : Prop := ∀ (M : ML) (A : BL) (w : World), HA ⟨w0, M⟩ (A ++ L) w → RowsAt w o ps
def DV (w0 : World) (L : BL) (o : Option Addr) (ds : List ByteArray) : Prop := ∀ (M : ML) (A : BL) (w : World), HA ⟨w0, M⟩ (A ++ L) w → KeysAt w o ds
theorem RowsAt.keep {w w' : World} {o : Option Addr} {ps : List Rw} (h : RowsAt w o ps) (hb : Below w.heap.size w w') : RowsAt w' o ps := fun i x hi => by
 obtain ⟨a, h1, h2, h3⟩ := h i x hi;exact ⟨a, h1, cell_old hb h2, cell_old hb h3⟩
theorem KeysAt.keep {w w' : World} {o : Option Addr} {ds : List ByteArray} (h : KeysAt w o ds) (hb : Below w.heap.size w w') : KeysAt w' o ds := fun i x hi => by
 obtain ⟨a, h1, h2⟩ := h i x hi;exact ⟨a, h1, cell_old hb h2⟩
theorem take_snoc {α : Type} {l : List α} {i : Nat} {x : α} (h : l[i]? = some x) : l.take (i + 1) = l.take i ++ [x] := by
 rw [List.take_add_one, h]
 rfl
theorem laid_drop (l : List Rw) (k : ByteArray) : laidR (dropR l k) ≤ laidR l := by
 unfold laidR dropR
 induction l with
 | nil => exact Nat.le_refl _
 | cons x l ih =>
  rw [List.filter_cons]
  split
  ·simp only [List.map_cons, List.sum_cons]; omega
  ·simp only [List.map_cons, List.sum_cons]; omega
theorem laid_puts (l ps : List Rw) : laidR (putsR l ps) ≤ laidR l + laidR ps := by
 induction ps generalizing l with
 | nil => simp [putsR]
 | cons x ps ih =>
  have h1 := ih (putR l x);have h2 := laid_drop l x.k;have h3 : laidR (putR l x) = laidR (dropR l x.k) + rsz x := by
   unfold putR
   rw [laid_app]
   simp [laidR]
  have h4 : laidR (x :: ps) = rsz x + laidR ps := by simp [laidR]
  show laidR (putsR (putR l x) ps) ≤ _
  omega
theorem laid_dels (l : List Rw) (ds : List ByteArray) : laidR (delsR l ds) ≤ laidR l := by
 induction ds generalizing l with
 | nil => exact Nat.le_refl _
 | cons x ds ih => exact Nat.le_trans (ih (dropR l x)) (laid_drop l x)
theorem laid_take (ps : List Rw) (k : Nat) : laidR (ps.take k) ≤ laidR ps := by
 conv => rhs; rw [← List.take_append_drop k ps]
 rw [laid_app]
 omega
theorem puts_snoc (l ps : List Rw) (x : Rw) : putsR l (ps ++ [x]) = putR (putsR l ps) x := by simp [putsR]
theorem dels_snoc (l : List Rw) (ds : List ByteArray) (x : ByteArray) : delsR l (ds ++ [x]) = dropR (delsR l ds) x := by simp [delsR]
section
variable {ρ : Operand → Value} {x y : Operand} {w : World} {dst : Option Tmp} {T e ty : TypeId} {pos : String} {aft : Array Edge} {gd : Option (Nat × Bool)}
theorem run_addrg {a : Addr} {n m i sz : Nat} (hT : prog.underlying T = some (.slice e)) (hs : ∀ w, (sizeOf e).run prog w = .ok sz w) (hx : ρ x = .slice (some a) n m) (hy : ρ y = i6 i) (hi : i < n) : (execOp ρ ⟨dst, .indexAddr T x y, ty, pos, aft, gd⟩).run prog w = .ok (.value (.pointer (some (a.add (i * sz))))) w := by
 simp only [execOp, hx, hy, iN]
 simp [go_sem, hT, hs, hi]
theorem run_addr30 {o : Option Addr} {a : Addr} {n m i : Nat} (ho : o = some a) (hx : ρ x = .slice o n m) (hy : ρ y = i6 i) (hi : i < n) : (execOp ρ ⟨dst, .indexAddr 30 x y, ty, pos, aft, gd⟩).run prog w = .ok (.value (.pointer (some (a.add (i * 2))))) w := by
 subst ho;exact run_addrg underlying30 sizeOf64 hx hy hi
theorem run_addr39 {o : Option Addr} {a : Addr} {n m i : Nat} (ho : o = some a)   (hi : i < n) (hx : ρ x = .slice o n m := by kernel_rfl) (hy : ρ y = i6 i := by kernel_rfl) : (execOp ρ ⟨dst, .indexAddr 39 x y, ty, pos, aft, gd⟩).run prog w = .ok (.value (.pointer (some (a.add i)))) w := by
 subst ho;have := run_addrg (a := a) (e := 9) (w := w) (dst := dst) (ty := ty) (pos := pos) (aft := aft) (gd := gd) underlying39 sizeOf9 hx hy hi;rw [Nat.mul_one] at this;exact this
theorem run_loadg {a : Addr} {c : Array Value} {D : TypeDesc} (hx : ρ x = .pointer (some a)) (hc : ∀ j v, c[j]? = some v → w.cell? (a.add j) = some v) (hu : prog.underlying T = some D) (hd : D.isRow = true) (hi : (prog.info? T).map (·.size) = some c.size) :
  (execOp ρ ⟨dst, .load T x, ty, pos, aft, gd⟩).run prog w = .ok (.value (.agg c)) w := by
 have hl : (loadCells a c.toList.length).run prog w = .ok c.toList.toArray w := run_loadCells_list (P := prog) w a c.toList (fun j v hv => hc j v (by rw [← Array.getElem?_toList]; exact hv))
 cases hq : prog.info? T with
 | none => simp [hq] at hi
 | some i =>
  have hs : i.size = c.toList.length := by simpa [hq] using hi
  have hagg : (isAgg T).run prog w = .ok true w := by
   unfold isAgg
   rw [Sem.run_bind, run_underlying hu w]
   cases D <;> simp_all
  have hload : (loadVar T a).run prog w = .ok (.agg c) w := by
   rw [Array.length_toList] at hl hs
   simp [loadVar, Sem.run_bind, hagg, sizeOf, typeInfo, hq, hs, hl]
  simp only [execOp, hx, Instr.loadAt, Instr.sureAddr, Sem.run_bind, Sem.run_pure, Result.andThen_ok, hload]
theorem run_loadrow {a : Addr} {i : Nat} {r : Rw} (hx : ρ x = .pointer (some (a.add (i * 2)))) (h1 : w.cell? (a.add (i * 2)) = some (.string r.k)) (h2 : w.cell? (a.add (i * 2 + 1)) = some (.string r.v)) : (execOp ρ ⟨dst, .load 64 x, ty, pos, aft, gd⟩).run prog w = .ok (.value (rwv r)) w := by
 refine run_loadg (c := #[.string r.k, .string r.v]) hx (fun j v hv => ?_) underlying64 rfl (by kernel_rfl)
 match j, hv with
 | 0, hv => cases hv; rw [add_two]; exact h1
 | 1, hv => cases hv; rw [add_two]; exact h2
 | n + 2, hv => simp at hv
end
theorem sget_no {w : World} {q dq r size nx laid : Nat} {rows : List Rw} (key : ByteArray) (hq : Blk w q 73 (scell dq r laid size)) {rs : List Re} (hm : w.heap[r]? = some (.map (eR rs) nx)) (h1 : rws rs = rows) (hn : ∀ f ∈ rs, f.r.k ≠ key) :
  Calls prog 23 #[pt q, .string key] w fun e w' => e = .returned (.tuple #[.string (getR rows key).1, .bool (getR rows key).2]) ∧ Below w.heap.size w w' := by
 have H0 := HA.start w
 go_enter Tryz.func23, Tryz.ntmps23
 refine zsr (zv (zv (znt (wp_seq (zsr (zv ?_))))));refine wl_call (v := .bool false) H0 enter47 #[pq q] (snone_no (hq.keep H0.old.old)) ?_;intro w1 h2;refine znt (zcf (wp_skip (zt (zsr (zv (zv (zv ?_)))))));refine zwu (v := .map (some r)) (run_load1 isAgg71 (((hq.keep h2.old.old).cell 1).trans rfl)) ?_;refine zv ?_;refine zwu (run_lookR_no ((h2.old.old.block _ (lt_of_block hm)).trans hm) hn (by kernel_rfl) (by kernel_rfl)) ?_;refine zv (zv (zv ?_));refine wl_make (c := #[.string ({ data := #[] }), .string ({ data := #[] })]) h2 64 ?_;intro q3 w4 h5;refine wl_fill (c' := #[.string { data := #[] }, .string { data := #[] }]) h5 0 rfl rfl ?_;intro w6 h7;refine zv (znt (zsr (zv ?_)));refine zwu (v := .string ({ data := #[] })) (run_load1 isAgg9 (((h7.get 0 rfl).cell 1).trans rfl)) ?_;refine wl_call (v := .string ({ data := #[] })) h7 enter61 #[.string ({ data := #[] })] (sclone_any _ w6 (by decide)) ?_;intro w8 h9;refine zv (zv (zv (znt ?_)));refine wp_ret ?_
 repeat first|refine zrt ?_|refine block_ret ?_
 exact zb (v := .tuple #[.string { data := #[] }, .bool false]) ⟨by rw [getR_no (fun x hx => by rw [← h1] at hx; obtain ⟨f, hf, rfl⟩ := rws_mem.1 hx; exact hn f hf)], h9.old.old⟩
theorem sget_yes {w : World} {q dq r size nx laid : Nat} {rows : List Rw} (key : ByteArray) (hq : Blk w q 73 (scell dq r laid size)) {A B : List Re} {f : Re} (hm : w.heap[r]? = some (.map (eR (A ++ f :: B)) nx)) (h1 : rws (A ++ f :: B) = rows) (hf : f.r.k = key) (hA : ∀ g ∈ A, g.r.k ≠ key) (hv : f.r.v.size ≤ 1000000000) :
  Calls prog 23 #[pt q, .string key] w fun e w' => e = .returned (.tuple #[.string (getR rows key).1, .bool (getR rows key).2]) ∧ Below w.heap.size w w' := by
 have H0 := HA.start w
 go_enter Tryz.func23, Tryz.ntmps23
 refine zsr (zv (zv (znt (wp_seq (zsr (zv ?_))))));refine wl_call (v := .bool false) H0 enter47 #[pq q] (snone_no (hq.keep H0.old.old)) ?_;intro w1 h2;refine znt (zcf (wp_skip (zt (zsr (zv (zv (zv ?_)))))));refine zwu (v := .map (some r)) (run_load1 isAgg71 (((hq.keep h2.old.old).cell 1).trans rfl)) ?_;refine zv ?_;refine zwu (run_lookR_yes ((h2.old.old.block _ (lt_of_block hm)).trans hm) hf hA (by kernel_rfl) (by kernel_rfl)) ?_;refine zv (zv (zv ?_));refine wl_make (c := #[.string ({ data := #[] }), .string ({ data := #[] })]) h2 64 ?_;intro q3 w4 h5;refine wl_fill (c' := #[.string f.r.k, .string f.r.v]) h5 0 rfl rfl ?_;intro w6 h7;refine zv (znt (zsr (zv ?_)));refine zwu (v := .string f.r.v) (run_load1 isAgg9 (((h7.get 0 rfl).cell 1).trans rfl)) ?_;refine wl_call (v := .string f.r.v) h7 enter61 #[.string f.r.v] (sclone_any _ w6 hv) ?_;intro w8 h9;refine zv (zv (zv (znt ?_)));refine wp_ret ?_
 repeat first|refine zrt ?_|refine block_ret ?_
 exact zb (v := .tuple #[.string f.r.v, .bool true]) ⟨by rw [← h1, ← hf, rws_app, rws_cons, getR_yes (fun y hy => by obtain ⟨g, hg, rfl⟩ := rws_mem.1 hy; rw [hf]; exact hA g hg)], h9.old.old⟩
theorem sget_any {w0 : World} {m : Nat × MO} {M : ML} {q dq r size : Nat} {L : BL} {w : World} {rows : List Rw} (h : RH w0 m M q dq r rows size L w) (key : ByteArray) (hv : ∀ x ∈ rows, x.v.size ≤ 1000000000) :
  Calls prog 23 #[pt q, .string key] w fun e w' => e = .returned (.tuple #[.string (getR rows key).1, .bool (getR rows key).2]) ∧ Below w.heap.size w w' := by
 obtain ⟨rs, nx, h1, hK, H⟩ := h;have hm := H.old.maps _ (mc (List.mem_cons_self ..));have hq := H.get 0 rfl
 by_cases hk : ∃ f ∈ rs, f.r.k = key
 ·obtain ⟨A, f, B, rfl, hf, hA, hB⟩ := re_split hK.nms hk;exact sget_yes key hq hm h1 hf hA (hv _ (by rw [← h1, rws_app, rws_cons]; simp))
 ·exact sget_no key hq hm h1 (fun f hf e => hk ⟨f, hf, e⟩)
theorem apply_any {w0 : World} {m : Nat × MO} {M : ML} {q dq r size : Nat} {L : BL} {w : World} {rows : List Rw} {po do_ : Option Addr} {pc dc : Nat} {ps : List Rw} {ds : List ByteArray} (h : RH w0 m M q dq r rows size L w) (hPV : PV w0 L po ps) (hDV : DV w0 L do_ ds) (hps : ∀ x ∈ ps, x.k.size ≤ 1000000000 ∧ x.v.size ≤ 1000000000) (hpl : ps.length ≤ 1000000000) (hdl : ds.length ≤ 1000000000) (hla : laidR rows + laidR ps ≤ 1000000000000) :
  Calls prog 56 #[pt q, .agg #[.slice po ps.length pc, .slice do_ ds.length dc]] w fun e w' => e = .returned (.tuple #[]) ∧ RH w0 m M q dq r (applyR rows ps ds) size L w' := by
 obtain ⟨rs, nx, h1, hK, H0⟩ := h
 go_enter Tryz.func56, Tryz.ntmps56
 refine zsr ?_;refine wl_make (c := #[.slice po ps.length pc, .slice do_ ds.length dc]) H0 100 ?_;intro q1 w2 h3;refine znt (wp_seq (wp_seq ?_));have h4 := h3;clear h3;generalize q1 = q3 at h4 ⊢;refine wl_region (zv ?_);refine zwu (v := .slice po ps.length pc) (run_load1 isAgg30 (((h4.get 0 rfl).cell 0).trans rfl)) ?_;refine zv (zv (znt ?_));refine wp_block ?_;refine zcn (fun Z0 k A w' => ∃ u5 : Nat → Value, A = pts Z0 [(5, u5 5), (6, u5 6), (12, i6 k), (13, u5 13), (14, u5 14), (15, u5 15), (16, u5 16), (17, u5 17), (18, u5 18), (19, u5 19), (20, u5 20), (21, u5 21), (22, u5 22), (23, u5 23), (24, u5 24), (25, u5 25), (26, u5 26), (27, u5 27), (28, u5 28), (29, u5 29), (30, u5 30), (31, u5 31), (32, u5 32), (33, u5 33), (34, u5 34), (35, u5 35), (36, u5 36), (37, u5 37), (38, u5 38), (39, u5 39), (40, u5 40), (41, u5 41), (42, u5 42), (43, u5 43)] ∧ RH w0 m M q dq r (putsR rows (ps.take k)) size ((q3, 100, #[.slice po ps.length pc, .slice do_ ds.length dc]) :: L) w') ps.length ?_ ?_ ?_
 ·exact zey [] (⟨_, _, h1, hK, by exact h4.perm (List.Perm.swap _ _ _)⟩)
 ·rintro k hk _ w6 ⟨u5, rfl, hRH⟩;obtain ⟨rs, nx, h1, hK, hL⟩ := hRH;obtain ⟨x, hx⟩ : ∃ x, ps[k]? = some x := ⟨_, List.getElem?_eq_getElem hk⟩;obtain ⟨pa, hpa, hpk, hpv⟩ := hPV _ [_, _] _ hL k x hx;have hxs := hps x (List.mem_of_getElem? hx);have hl3 := laid_puts rows (ps.take k);have hl4 := laid_take ps k;have hl5 := laid_take ps (k + 1);have hl6 := laid_puts rows (ps.take (k + 1));refine zsr ?_;refine zwu (run_lss (k := .i64) (a := k) (b := ps.length) true (dt (by omega))) ?_;refine znt (zit (wp_seq ?_));refine wp_block ?_;refine zsr ?_;refine zwu (v := .pointer (some (pa.add (k * 2)))) (run_addr30 (a := pa) (n := ps.length) (m := pc) (i := k) hpa (by kernel_rfl) (by kernel_rfl) hk) ?_;refine zwu (v := rwv x) (run_loadrow (by kernel_rfl) hpk hpv) ?_;refine wl_make (c := #[.string ({ data := #[] }), .string ({ data := #[] })]) hL 64 ?_;intro q7 w8 h9;refine wl_fill (c' := #[.string x.k, .string x.v]) h9 0 rfl rfl ?_;intro w10 h11;refine znt (zsr (zv (zv ?_)));refine zwu (v := .string x.k) (run_load1 isAgg9 (((h11.get 0 rfl).cell 0).trans rfl)) ?_;refine wl_callx enter105 #[pq q, .string x.k] (sdrop_any (L := (q7, 64, #[.string x.k, .string x.v]) :: (q3, 100, #[.slice po ps.length pc, .slice do_ ds.length dc]) :: L) ⟨_, _, h1, hK, HA.perm h11 (by first | exact List.Perm.refl _ | exact List.Perm.swap _ _ _ | exact (List.Perm.swap _ _ _).trans (List.Perm.refl _))⟩ x.k (by omega)) ?_;rintro _ w12 ⟨rfl, hdrop⟩;refine ⟨_, rfl, ?_⟩;obtain ⟨rs2, nx2, h21, hK2, hL2⟩ := hdrop;have h13 : HA ⟨w0, m :: (r, .mp (eR rs2) nx2) :: M⟩ ((q, 73, scell dq r ((laidR (dropR (putsR rows (ps.take k)) x.k))) size) :: (q7, 64, #[.string x.k, .string x.v]) :: (q3, 100, #[.slice po ps.length pc, .slice do_ ds.length dc]) :: L) w12 := hL2;refine znt (wp_seq ?_);have hnew : ∀ g ∈ rs2, g.r.k ≠ x.k := fun g hg => drop_nokey _ _ _ (by rw [← h21]; exact rws_mem.2 ⟨g, hg, rfl⟩)
  have hrx : rsz x = 8 + x.k.size + x.v.size := rfl;have hld := laid_drop (putsR rows (ps.take k)) x.k;refine zxr (HA ⟨w0, m :: (r, .mp (eR rs2) nx2) :: M⟩ ((q, 73, scell dq r ((laidR (dropR (putsR rows (ps.take k)) x.k))) size) :: (q7, 64, #[.string x.k, .string x.v]) :: (q3, 100, #[.slice po ps.length pc, .slice do_ ds.length dc]) :: L)) (fun Z0 AQ w' => ∃ (q17 : Nat), AQ = pts Z0 [(6, pt q17), (20, pt q7), (21, .string x.k), (22, .string x.k), (23, .pointer (some ⟨q7, 1, none⟩)), (24, .string x.v), (25, .string x.v), (26, .agg #[.string x.k, .string x.v])] ∧ HA ⟨w0, m :: (r, .mp (eR rs2) nx2) :: M⟩ ((q17, 64, #[.string x.k, .string x.v]) :: (q, 73, scell dq r ((laidR (dropR (putsR rows (ps.take k)) x.k))) size) :: (q7, 64, #[.string x.k, .string x.v]) :: (q3, 100, #[.slice po ps.length pc, .slice do_ ds.length dc]) :: L) w') 9 (h13.drew) ?_ ?_
  ·have h14 := h13.drew;refine zxp 0 rfl ?_;refine wx_val (i := 1) (.string x.k) rfl rfl (fun w' h' => run_load1 isAgg9 (((h'.get 1 rfl).cell 0).trans rfl)) ?_;refine wx_call (i := 2) (.string x.k) (fun _ _ h hb => HA.keep _ _ h hb) rfl rfl enter61 #[.string x.k] (fun w' h' => sclone_any _ w' (by omega)) ?_;refine zxp 3 rfl ?_;refine wx_val (i := 4) (.string x.v) rfl rfl (fun w' h' => run_load1 isAgg9 (((h'.get 1 rfl).cell 1).trans rfl)) ?_;refine wx_call (i := 5) (.string x.v) (fun _ _ h hb => HA.keep _ _ h hb) rfl rfl enter61 #[.string x.v] (fun w' h' => sclone_any _ w' (by omega)) ?_;refine zxp 6 rfl ?_;refine wx_one 7 ?_;refine ex_makeS (c := #[.string ({ data := #[] }), .string ({ data := #[] })]) rfl h14 64 ?_;intro q17 w15 h16;refine ⟨(HA.sub h16 (sk (sc (sc (sc (sr)))))), ?_⟩;refine wx_one 8 ?_;refine ex_skipT rfl h16 fun w18 h19 => ⟨_, run_store_blk (c' := #[.string x.k, .string x.v]) (h19.get 0 rfl) rfl, (HA.sub (h19.fill 0 rfl (c' := #[.string x.k, .string x.v]) rfl) (sk (sc (sc (sc (sr)))))), ?_⟩
   have h20 : HA ⟨w0, m :: (r, .mp (eR rs2) nx2) :: M⟩ ((q17, 64, #[.string x.k, .string x.v]) :: (q, 73, scell dq r ((laidR (dropR (putsR rows (ps.take k)) x.k))) size) :: (q7, 64, #[.string x.k, .string x.v]) :: (q3, 100, #[.slice po ps.length pc, .slice do_ ds.length dc]) :: L) _ := h19.fill 0 rfl (c' := #[.string x.k, .string x.v]) rfl;refine wx_end fun w21 hbx _ => ?_
   have h22 := HA.keep _ _ h20 hbx;exact ⟨q17, by kernel_rfl, h22⟩
  ·rintro _ w23 ⟨q17, rfl, h24⟩;refine zt (wp_seq ?_);refine zxr (HA ⟨w0, m :: (r, .mp (eR rs2) nx2) :: M⟩ ((q17, 64, #[.string x.k, .string x.v]) :: (q, 73, scell dq r ((laidR (dropR (putsR rows (ps.take k)) x.k))) size) :: (q7, 64, #[.string x.k, .string x.v]) :: (q3, 100, #[.slice po ps.length pc, .slice do_ ds.length dc]) :: L)) (fun Z0 AQ w' => AQ = pts Z0 [(27, pt q), (28, pt q), (29, .pointer (some ⟨q, 1, none⟩)), (30, .map (some r)), (31, pt q17), (32, .string x.k), (33, .agg (#[.string x.k, .string x.v]))] ∧ HA ⟨w0, m :: (r, .mp (eR (rs2 ++ [(⟨x, nx2⟩ : Re)])) (nx2 + 1)) :: M⟩ ((q17, 64, #[.string x.k, .string x.v]) :: (q, 73, scell dq r ((laidR (dropR (putsR rows (ps.take k)) x.k))) size) :: (q7, 64, #[.string x.k, .string x.v]) :: (q3, 100, #[.slice po ps.length pc, .slice do_ ds.length dc]) :: L) w') 8 (h24.drew) ?_ ?_
   ·have h25 := h24.drew;refine zxp 0 rfl ?_;refine zxp 1 rfl ?_;refine zxp 2 rfl ?_;refine wx_val (i := 3) (.map (some r)) rfl rfl (fun w' h' => run_load1 isAgg71 (((h'.get 1 rfl).cell 1).trans rfl)) ?_;refine zxp 4 rfl ?_;refine wx_val (i := 5) (.string x.k) rfl rfl (fun w' h' => run_load1 isAgg9 (((h'.get 0 rfl).cell 0).trans rfl)) ?_;refine wx_val (i := 6) (.agg (#[.string x.k, .string x.v])) rfl rfl (fun w' h' => run_load_blk (h'.get 0 rfl) underlying64 rfl) ?_;refine wx_one 7 ?_;refine ex_skip rfl h25 fun w26 h27 => ⟨_, run_updR (rs := rs2) (nx := nx2) (h27.old.maps _ (mc (List.mem_cons_self ..))) (⟨x, nx2⟩ : Re) hnew (by kernel_rfl) (by kernel_rfl) rfl (by kernel_rfl), _, h27.setMap 1 (es' := eR (rs2 ++ [(⟨x, nx2⟩ : Re)])) (c' := nx2 + 1) rfl, ?_⟩
    have h28 : HA ⟨w0, m :: (r, .mp (eR (rs2 ++ [(⟨x, nx2⟩ : Re)])) (nx2 + 1)) :: M⟩ ((q17, 64, #[.string x.k, .string x.v]) :: (q, 73, scell dq r ((laidR (dropR (putsR rows (ps.take k)) x.k))) size) :: (q7, 64, #[.string x.k, .string x.v]) :: (q3, 100, #[.slice po ps.length pc, .slice do_ ds.length dc]) :: L) _ := h27.setMap 1 (es' := eR (rs2 ++ [(⟨x, nx2⟩ : Re)])) (c' := nx2 + 1) rfl;refine wx_end fun w29 hbx _ => ?_
    have h30 := HA.keep _ _ h28 hbx;exact ⟨by kernel_rfl, h30⟩
   ·rintro _ w31 ⟨rfl, h32⟩;refine zt ?_;refine zxr (HA ⟨w0, m :: (r, .mp (eR (rs2 ++ [(⟨x, nx2⟩ : Re)])) (nx2 + 1)) :: M⟩ ((q17, 64, #[.string x.k, .string x.v]) :: (q, 73, scell dq r ((laidR (dropR (putsR rows (ps.take k)) x.k))) size) :: (q7, 64, #[.string x.k, .string x.v]) :: (q3, 100, #[.slice po ps.length pc, .slice do_ ds.length dc]) :: L)) (fun Z0 AQ w' => AQ = pts Z0 [(34, pt q), (35, pt q), (36, .pointer (some ⟨q, 2, none⟩)), (37, i6 ((laidR (dropR (putsR rows (ps.take k)) x.k)))), (38, .agg (#[.string x.k, .string x.v])), (39, i6 (rsz x)), (40, i6 (((laidR (dropR (putsR rows (ps.take k)) x.k))) + (rsz x))), (41, pt q), (42, .pointer (some ⟨q, 2, none⟩))] ∧ HA ⟨w0, m :: (r, .mp (eR (rs2 ++ [(⟨x, nx2⟩ : Re)])) (nx2 + 1)) :: M⟩ ((q17, 64, #[.string x.k, .string x.v]) :: (q, 73, #[pq dq, .map (some r), i6 (((laidR (dropR (putsR rows (ps.take k)) x.k))) + (rsz x)), i6 size]) :: (q7, 64, #[.string x.k, .string x.v]) :: (q3, 100, #[.slice po ps.length pc, .slice do_ ds.length dc]) :: L) w') 10 (h32.drew) ?_ ?_
    ·have h33 := h32.drew;refine zxp 0 rfl ?_;refine zxp 1 rfl ?_;refine zxp 2 rfl ?_;refine wx_val (i := 3) (i6 ((laidR (dropR (putsR rows (ps.take k)) x.k)))) rfl rfl (fun w' h' => run_load1 isAgg3 (((h'.get 1 rfl).cell 2).trans rfl)) ?_;refine wx_val (i := 4) (.agg (#[.string x.k, .string x.v])) rfl rfl (fun w' h' => run_load_blk (h'.get 0 rfl) underlying64 rfl) ?_;refine wx_call (i := 5) (i6 (rsz x)) (fun _ _ h hb => HA.keep _ _ h hb) rfl rfl enter106 #[.agg (#[.string x.k, .string x.v])] (fun w' h' => rowSize_any x (by omega) w') ?_;refine wx_pure (i := 6) (i6 (((laidR (dropR (putsR rows (ps.take k)) x.k))) + (rsz x))) rfl rfl (hr := (fun _ => (run_add (k := .i64) (a := (laidR (dropR (putsR rows (ps.take k)) x.k))) (b := rsz x) (by first | omega | (simp only [top]; omega))))) ?_;refine zxp 7 rfl ?_;refine zxp 8 rfl ?_;refine wx_one 9 ?_;refine ex_skip rfl h33 fun w34 h35 => ⟨_, run_storev (v := i6 (((laidR (dropR (putsR rows (ps.take k)) x.k))) + (rsz x))) sizeOf3 (by rw [(h35.get 1 rfl).cell]; rfl) ((h35.get 1 rfl).free _ (by show 2 < 4; decide)), _, h35.put 1 rfl 2 _, ?_⟩
     have h36 : HA ⟨w0, m :: (r, .mp (eR (rs2 ++ [(⟨x, nx2⟩ : Re)])) (nx2 + 1)) :: M⟩ ((q17, 64, #[.string x.k, .string x.v]) :: (q, 73, #[pq dq, .map (some r), i6 (((laidR (dropR (putsR rows (ps.take k)) x.k))) + (rsz x)), i6 size]) :: (q7, 64, #[.string x.k, .string x.v]) :: (q3, 100, #[.slice po ps.length pc, .slice do_ ds.length dc]) :: L) _ := h35.put 1 rfl 2 (i6 (((laidR (dropR (putsR rows (ps.take k)) x.k))) + (rsz x)));refine wx_end fun w37 hbx _ => ?_
     have h38 := HA.keep _ _ h36 hbx;exact ⟨by kernel_rfl, h38⟩
    ·rintro _ w39 ⟨rfl, h40⟩;refine block_normal ?_;refine zt (wl_region ?_);refine zwu (run_add (k := .i64) (a := k) (b := 1) (by first | omega | (simp only [top]; omega))) ?_;refine zv (wl_nil ?_);exact then_I (zey [] (⟨rs2 ++ [⟨x, nx2⟩], nx2 + 1, by rw [take_snoc hx, puts_snoc, putR, ← h21]; simp [rws], hK2.more hnew rfl, by rw [take_snoc hx, puts_snoc, putR, laid_app, show laidR [x] = rsz x by simp [laidR]]; exact h40.sub (sk (sc (sk (sc (sr)))))⟩))
 ·rintro _ w41 ⟨u5, rfl, hRH⟩;obtain ⟨rs, nx, h1, hK, hL⟩ := hRH;refine zsr ?_;refine zwu (run_lss (k := .i64) (a := ps.length) (b := ps.length) false (df (by omega))) ?_;refine znt (wp_seq (zcf ?_));refine wp_exit ?_
  repeat first | refine then_exit ?_ | refine block_exit ?_ | refine block_exit_ne (by decide) ?_
  refine zt (zsr (zv ?_));refine zwu (v := .slice do_ ds.length dc) (run_load1 isAgg39 (((hL.get 1 rfl).cell 1).trans rfl)) ?_;refine zv (zv (znt ?_));refine wp_block ?_;refine zcn (fun Z0 k A w' => ∃ u42 : Nat → Value, A = pts Z0 [(8, u42 8), (47, i6 k), (48, u42 48), (49, u42 49), (50, u42 50), (51, u42 51), (52, u42 52), (53, u42 53), (54, u42 54)] ∧ RH w0 m M q dq r (delsR (putsR rows ps) (ds.take k)) size ((q3, 100, #[.slice po ps.length pc, .slice do_ ds.length dc]) :: L) w') ds.length ?_ ?_ ?_
  ·exact zey [] (⟨rs, nx, by rw [List.take_length] at h1; exact h1, hK, by have h9 := hL; rw [List.take_length] at h9; exact h9⟩)
  ·rintro k hk _ w43 ⟨u42, rfl, hRH⟩;obtain ⟨rs, nx, h1, hK, hL⟩ := hRH;obtain ⟨x, hx⟩ : ∃ x, ds[k]? = some x := ⟨_, List.getElem?_eq_getElem hk⟩;obtain ⟨da, hda, hdk0⟩ := hDV _ [_, _] _ hL k x hx;have hl3 := laid_puts rows ps;have hl4 := laid_dels (putsR rows ps) (ds.take k);refine zsr ?_;refine zwu (run_lss (k := .i64) (a := k) (b := ds.length) true (dt (by omega))) ?_;refine znt (zit (wp_seq ?_));refine wp_block ?_;refine zsr ?_;refine zwu (v := .pointer (some (da.add k))) (run_addr39 (a := da) (n := ds.length) (m := dc) (i := k) hda hk) ?_;refine zwu (v := .string x) (run_load_at (b := da.add k) isAgg9 hdk0) ?_;refine zv (znt (wl_region (zv (zv ?_))));refine wl_callx enter105 #[pq q, .string x] (sdrop_any (L := (q3, 100, #[.slice po ps.length pc, .slice do_ ds.length dc]) :: L) ⟨_, _, h1, hK, HA.perm hL (by first | exact List.Perm.refl _ | exact List.Perm.swap _ _ _ | exact (List.Perm.swap _ _ _).trans (List.Perm.refl _))⟩ x (by omega)) ?_;rintro _ w44 ⟨rfl, hdrop⟩;refine ⟨_, rfl, ?_⟩;obtain ⟨rs2, nx2, h21, hK2, hL2⟩ := hdrop;have h45 : HA ⟨w0, m :: (r, .mp (eR rs2) nx2) :: M⟩ ((q, 73, scell dq r ((laidR (dropR (delsR (putsR rows ps) (ds.take k)) x))) size) :: (q3, 100, #[.slice po ps.length pc, .slice do_ ds.length dc]) :: L) w44 := hL2;refine wl_nil ?_;refine block_normal ?_;refine zt (wl_region ?_);refine zwu (run_add (k := .i64) (a := k) (b := 1) (by first | omega | (simp only [top]; omega))) ?_;refine zv (wl_nil ?_);exact then_I (zey [] (⟨rs2, nx2, by rw [take_snoc hx, dels_snoc]; exact h21, hK2, by rw [take_snoc hx, dels_snoc]; exact h45⟩))
  ·rintro _ w46 ⟨u42, rfl, hRH⟩;obtain ⟨rs, nx, h1, hK, hL⟩ := hRH;refine zsr ?_;refine zwu (run_lss (k := .i64) (a := ds.length) (b := ds.length) false (df (by omega))) ?_;refine znt (wp_seq (zcf ?_));refine wp_exit ?_
   repeat first | refine then_exit ?_ | refine block_exit ?_ | refine block_exit_ne (by decide) ?_
   exact bodyPost_end (v := .tuple #[]) (by kernel_rfl) rfl ⟨rfl, rs, nx, by rw [List.take_length] at h1; exact h1, hK, by have h9 := hL; rw [List.take_length] at h9; exact h9.sub (sc (sk (sr)))⟩
end Go.Proofs.YtckmlaempffpjaaGreat
namespace Go.Proofs.YtckmlaempffpjaaGreat
open Go.RowKit Go.Shelf Go.Proofs.Tryz
def SeqR {α : Type} (P : Program) (gf : Nat) (rb lb : Array Value) (encs : α → Array Value) (Kp : World → World → Prop) (S V : List α → Prop) (w : World) : Prop :=
 ∀ (l : Nat) (J Jx : List α → World → Prop) (W : World), Below w.heap.size w W → AbidesFrom W.heap.size J → AbidesFrom W.heap.size Jx →
  (∀ pre x W1, J pre W1 → V (pre ++ [x]) → YieldAt Fence.wide 7 P l (encs x) W1 fun e W' => (e = .returned (.bool true) ∧ J (pre ++ [x]) W' ∧ Kp W1 W') ∨ (e = .returned (.bool false) ∧ Jx (pre ++ [x]) W')) →
  J [] W → CallsIn Fence.wide 8 P gf (rb ++ #[.func (.yield l) #[] #[]] ++ lb) W fun e W' => (∃ v, e = .returned v) ∧ ((∃ xs, S xs ∧ J xs W') ∨ ∃ pre, Jx pre W')
def rcd (fn : FuncId) (a : Act) (ps : Array Tmp) (asg body : Code) (B : Nat) (s : LoopState) (p : Option Code) : Loop := { state := s, pending := p, fn := fn, tmps := a.tmps, params := ps, assign := asg, body := body, defers := B }
def rndP {α : Type} (B : Nat) (Kp : World → World → Prop) (I Ix : List α → World → Prop) (xs : List α) (W : World) (e : Exit) (_ : Act) (W' : World) : Prop :=
 KeepsFrom B W W' ∧ ((e = .normal ∧ Kp W W' ∧ I xs W') ∨ (e = .ret ∧ Ix xs W'))
theorem wp_rangeR {α : Type} {P : Program} {g : Operand} {ps : Array Tmp} {asg body : Code} {Q : Exit → Act → World → Prop} {a : Act} {w : World} {gf : Nat} {rb lb : Array Value}
  (hg : a.eval g = .func (.func gf) rb lb) (eg : ∀ args w, (callFunc gf args).run P w = .ok (.enter gf args) w) {encs : α → Array Value} {Kp : World → World → Prop} {S V : List α → Prop}
  (hseq : SeqR P gf rb lb encs Kp S V w) (hKt : ∀ {A B C : World}, Kp A B → Kp B C → Kp A C)
  (hKb : ∀ (W : World) (l : Nat) (o o' : Obj), w.heap.size ≤ l → W.heap[l]? = some o → o.isCells = false → o.isWalk = false → Kp W (W.putObj l o')) (hps : ∀ x, (encs x).size = ps.size)
  (I Ix : List α → World → Prop) (hI : OwnFrom w.heap.size I) (hIx : OwnFrom w.heap.size Ix) (h0 : I [] w) (a1 : α → Act)
  (hasg : ∀ (l : Nat) (x : α) (W : World) (K : Act → World → Prop), K (a1 x) W → asg.wpIn (Fence.wide.inRound l) 7 P (Exit.then K (fun _ _ _ => False)) { tmps := (ps.zip (encs x)).foldl (fun t (p, v) => t.setIfInBounds p v) a.tmps, defers := [] } W)
  (hbody : ∀ (l : Nat) (pre : List α) (x : α) (W : World), I pre W → V (pre ++ [x]) → body.wpIn (Fence.wide.inRound l) 7 P (rndP w.heap.size Kp I Ix (pre ++ [x]) W) (a1 x) W)
  (hdone : ∀ (D : Nat) (xs : List α) (W : World), w.heap.size ≤ D → S xs → I xs W → W.heap[D]? = some (.deferred (some [])) → Q .normal { a with defers := { target := .collected D, args := #[] } :: a.defers } W)
  (hstop : ∀ (D : Nat) (pre : List α) (W : World), w.heap.size ≤ D → Ix pre W → W.heap[D]? = some (.deferred (some [])) → Code.ret.wpIn Fence.wide 9 P Q { a with defers := { target := .collected D, args := #[] } :: a.defers } W) :
  (Code.rangeFunc g ps asg body).wp P Q a w := by
 refine (wpIn_wide (n := 9)).1 (wpIn_rangeFunc fun fn hfn => ?_);obtain ⟨W1, hW1⟩ : ∃ W1, W1 = (w.alloc (.deferred (some []))).alloc (.loop (rcd fn a ps asg body w.heap.size .ready none)) := ⟨_, rfl⟩;have hm1 : W1.heap[w.heap.size]? = some (.deferred (some [])) := by
  rw [hW1];exact (Below.heap_alloc _ _ _ (by simp)).trans (World.alloc_heap_new w _)
 have hr1 : W1.heap[w.heap.size + 1]? = some (.loop (rcd fn a ps asg body w.heap.size .ready none)) := by
  have e := World.alloc_heap_new (w.alloc (.deferred (some []))) (.loop (rcd fn a ps asg body w.heap.size .ready none));rw [World.size_alloc] at e;rw [hW1];exact e
 have hb1 : Below w.heap.size w W1 := by
  rw [hW1];exact ((Below.refl _ w).alloc (Nat.le_refl _) _).alloc (by simp) _
 have hI1 : I [] W1 := by rw [hW1]; exact hI.alloc _ (hI.alloc _ h0)
 have hsz : W1.heap.size = w.heap.size + 2 := by rw [hW1]; simp
 refine ⟨w.heap.size + 1, [{ target := .collected w.heap.size, args := #[] }], W1, { target := .fn (.func gf) lb, args := rb ++ #[.func (.yield (w.heap.size + 1)) #[] #[]] }, W1, gf, rb ++ #[.func (.yield (w.heap.size + 1)) #[] #[]] ++ lb, W1, ?_, ?_, fun _ _ => trivial, ?_, fun _ => by decide, ?_⟩
 ·rw [hW1]; exact run_enterLoop_outer fn a.tmps ps asg body
 ·simp only [resolve, hg]
  simp [go_sem]
 ·simp [invoke, go_sem, eg]
 ·have far : ∀ {A : World} {row : Option Nat}, (∀ r, row = some r → W1.heap.size ≤ r ∧ ∃ o : Obj, A.heap[r]? = some o ∧ o.isWalk = true) → ∀ r, row = some r → w.heap.size ≤ r ∧ ∃ o : Obj, A.heap[r]? = some o ∧ o.isCells = false := fun h r e => by
   obtain ⟨h1, o, h2, h3⟩ := h r e;exact ⟨by omega, o, h2, Obj.not_cells_of_walk h3⟩
  refine (hseq (w.heap.size + 1) (fun pre W => I pre W ∧ W.heap[w.heap.size + 1]? = some (.loop (rcd fn a ps asg body w.heap.size .ready none)) ∧ W.heap[w.heap.size]? = some (.deferred (some [])))
   (fun pre W => Ix pre W ∧ W.heap[w.heap.size + 1]? = some (.loop (rcd fn a ps asg body w.heap.size .done (some .ret))) ∧ W.heap[w.heap.size]? = some (.deferred (some [])))
   W1 hb1 (fun s A B row hs hgr hr => ⟨hI s A B row hs.1 hgr (far hr), (grownBy_keeps hgr (fun r e => (hr r e).2) hs.2.1 rfl).trans hs.2.1, (grownBy_keeps hgr (fun r e => (hr r e).2) hs.2.2 rfl).trans hs.2.2⟩)
   (fun s A B row hs hgr hr => ⟨hIx s A B row hs.1 hgr (far hr), (grownBy_keeps hgr (fun r e => (hr r e).2) hs.2.1 rfl).trans hs.2.1, (grownBy_keeps hgr (fun r e => (hr r e).2) hs.2.2 rfl).trans hs.2.2⟩) ?_ ⟨hI1, hr1, hm1⟩).mono ?_
  ·rintro pre x W ⟨hi, hl, hk⟩ hlen;have hlt := (Array.getElem?_eq_some_iff.1 hl).1;refine ⟨fn, _, asg, body, run_yield (P := P) (args := encs x) hl (hps x), roundIn_of_wpIn hfn (hasg _ x W _ ⟨_, run_beginRound hl rfl, ?_⟩)⟩;obtain ⟨W2, hW2⟩ : ∃ W2, W2 = W.putObj (w.heap.size + 1) (.loop (rcd fn a ps asg body w.heap.size .busy none)) := ⟨_, rfl⟩;have hl2 : W2.heap[w.heap.size + 1]? = some (.loop (rcd fn a ps asg body w.heap.size .busy none)) := by rw [hW2]; exact World.putObj_heap_same hlt
   have hk2 : W2.heap[w.heap.size]? = some (.deferred (some [])) := by rw [hW2]; exact (World.putObj_heap_other (by omega)).trans hk
   have hp2 : Kp W W2 := by rw [hW2]; exact hKb _ _ _ _ (by omega) hl rfl rfl
   have hi2 : I pre W2 := by rw [hW2]; exact hI.putObj _ hi (by omega) hl rfl
   have hB := hbody (w.heap.size + 1) pre x W2 hi2 hlen;rw [hW2] at hB;refine wpIn_mono hB ?_;rw [← hW2];rintro e a3 W3 ⟨hkf, h⟩;have hl3 := hkf.same _ _ (by omega) hl2 rfl;have hk3 := hkf.same _ _ (Nat.le_refl _) hk2 rfl;have hlt3 := (Array.getElem?_eq_some_iff.1 hl3).1
   rcases h with ⟨rfl, hkp, hi3⟩ | ⟨rfl, hi3⟩
   ·refine ⟨_, _, run_endRound (P := P) none hl3, .inl ⟨rfl, ⟨hI.putObj _ hi3 (by omega) hl3 rfl, World.putObj_heap_same hlt3, (World.putObj_heap_other (by omega)).trans hk3⟩, hKt (hKt hp2 hkp) (hKb _ _ _ _ (by omega) hl3 rfl rfl)⟩⟩
   ·exact ⟨_, _, run_endRound (P := P) (some .ret) hl3, .inr ⟨rfl, hIx.putObj _ hi3 (by omega) hl3 rfl, World.putObj_heap_same hlt3, (World.putObj_heap_other (by omega)).trans hk3⟩⟩
  ·rintro e W2 ⟨⟨v, rfl⟩, ⟨xs, hS, hi, hl, hk⟩ | ⟨pre, hi, hl, hk⟩⟩
   ·exact ⟨none, _, run_endLoop (P := P) hl (by simp [rcd]), hdone _ xs _ (Nat.le_refl _) hS (hI.putObj _ hi (by omega) hl rfl) ((World.putObj_heap_other (by omega)).trans hk)⟩
   ·exact ⟨some .ret, _, run_endLoop (P := P) hl (by simp [rcd]), hstop _ pre _ (Nat.le_refl _) (hIx.putObj _ hi (by omega) hl rfl) ((World.putObj_heap_other (by omega)).trans hk)⟩
/-! the mark -/
def mkd (D : Nat) : List Deferred := [{ target := .collected D, args := #[] }]
theorem HA.grownO {w0 A B : World} {L : BL} {row : Option Nat} (h : HA (bs w0) L A) (hg : A.grownBy B row) (hr : ∀ r, row = some r → w0.heap.size ≤ r ∧ ∃ o : Obj, A.heap[r]? = some o ∧ o.isCells = false) : HA (bs w0) L B := by
 refine ⟨⟨h.old.old.grown hg h.old.old.size (fun k hk => (hr k hk).1), fun _ hm => (by cases hm), fun _ hm => (by cases hm), List.nodup_nil⟩, fun x hx => ?_, h.own, h.nd⟩;have hb := h.blk x hx;refine hb.at' (hg.block x.1 hb.lt (fun e => ?_));obtain ⟨_, o, ho, hc⟩ := hr x.1 e.symm;obtain ⟨f, hf, _⟩ := hb;rw [hf] at ho
 cases ho
 cases hc
theorem HA.mark {w0 W : World} {L : BL} {D : Nat} (h : HA (bs w0) L W) (hD : w0.heap.size ≤ D) (hd : W.heap[D]? = some (.deferred (some []))) : HA ⟨w0, [(D, .df)]⟩ L W :=
 ⟨⟨h.old.old, fun m hm => by obtain rfl := List.mem_singleton.1 hm; exact hd, fun m hm => by obtain rfl := List.mem_singleton.1 hm; exact hD, by simp⟩, h.blk, h.own, h.nd⟩
theorem leaves_df {F : Fence} {n : Nat} {P : Program} {fn : Func} {tmps : Array Value} {R : Ending → World → Prop} {w0 w : World} {L : BL} {D : Nat} (H : HA ⟨w0, [(D, .df)]⟩ L w) (hR : ∀ w, HA (bs w0) L w → ∃ v, (results fn tmps).run P w = .ok v w ∧ R (.returned v) w) :
  LeavesInM F n P fn tmps R (mkd D) .returning w := by
 have hd : w.heap[D]? = some (.deferred (some [])) := H.old.maps _ (List.mem_cons_self ..);have hD : w0.heap.size ≤ D := H.old.mown (D, .df) (List.mem_cons_self ..);refine ⟨by simp, .inl ⟨D, _, rfl, run_takeDeferred hd, hR _ ?_⟩⟩;exact HA.grownO (HA.noM H) (grownBy_putObj' w D _) (fun k hk => by cases hk; exact ⟨hD, _, hd, rfl⟩)
end Go.Proofs.YtckmlaempffpjaaGreat
