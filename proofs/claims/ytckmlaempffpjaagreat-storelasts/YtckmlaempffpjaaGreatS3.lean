/-
 Get, apply.
-/
import Derived.Test.YtckmlaempffpjaaGreatGF
namespace Go.Proofs.YtckmlaempffpjaaGreat
open Go.RowKit

def getR (l : List Rw) (k : ByteArray) : ByteArray × Bool := match l.find? (fun x => decide (x.k = k)) with | none => ({ data := #[] }, false) | some x => (x.v, true)
theorem getR_no {l : List Rw} {k : ByteArray} (h : ∀ x ∈ l, x.k ≠ k) : getR l k = ({ data := #[] }, false) := by
 unfold getR
 rw [List.find?_eq_none.2 fun x hx => by simp only [decide_eq_true_eq]; exact h x hx]
theorem getR_yes {A B : List Rw} {x : Rw} (h : ∀ y ∈ A, y.k ≠ x.k) : getR (A ++ x :: B) x.k = (x.v, true) := by
 unfold getR
 rw [List.find?_append, List.find?_eq_none.2 fun y hy => by simp only [decide_eq_true_eq]; exact h y hy]
 simp
theorem add_two (a : Addr) (i j : Nat) : (a.add i).add j = a.add (i + j) := by
 unfold Addr.add
 by_cases hi : i = 0
 ·subst hi; simp
 ·by_cases hj : j = 0
  ·subst hj; simp
  ·rw [if_neg hi, if_neg hj, if_neg (by omega)]
   simp [Nat.add_assoc]
/-- rows somewhere -/
def RowsAt (w : World) (o : Option Addr) (ps : List Rw) : Prop := ∀ i x, ps[i]? = some x → ∃ a, o = some a ∧ w.cell? (a.add (i * 2)) = some (.string x.k) ∧ w.cell? (a.add (i * 2 + 1)) = some (.string x.v)
def KeysAt (w : World) (o : Option Addr) (ds : List ByteArray) : Prop := ∀ i x, ds[i]? = some x → ∃ a, o = some a ∧ w.cell? (a.add i) = some (.string x)
/-- rows that stay, whatever is done beside L -/
def PV (w0 : World) (L : BL) (o : Option Addr) (ps : List Rw) : Prop := ∀ (M : ML) (A : BL) (w : World), HA ⟨w0, M⟩ (A ++ L) w → RowsAt w o ps
def DV (w0 : World) (L : BL) (o : Option Addr) (ds : List ByteArray) : Prop := ∀ (M : ML) (A : BL) (w : World), HA ⟨w0, M⟩ (A ++ L) w → KeysAt w o ds
theorem RowsAt.keep {w w' : World} {o : Option Addr} {ps : List Rw} (h : RowsAt w o ps) (hb : Below w.heap.size w w') : RowsAt w' o ps := fun i x hi => by
 obtain ⟨a, h1, h2, h3⟩ := h i x hi
 exact ⟨a, h1, cell_old hb h2, cell_old hb h3⟩
theorem KeysAt.keep {w w' : World} {o : Option Addr} {ds : List ByteArray} (h : KeysAt w o ds) (hb : Below w.heap.size w w') : KeysAt w' o ds := fun i x hi => by
 obtain ⟨a, h1, h2⟩ := h i x hi
 exact ⟨a, h1, cell_old hb h2⟩
theorem take_snoc {α : Type} {l : List α} {i : Nat} {x : α} (h : l[i]? = some x) : l.take (i + 1) = l.take i ++ [x] := by
 rw [List.take_add_one, h]
 rfl
theorem laid_drop (l : List Rw) (k : ByteArray) : laidR (dropR l k) ≤ laidR l := by
 unfold laidR dropR
 induction l with
 | nil => exact Nat.le_refl _
 | cons x l ih =>
  rw [List.filter_cons]
  split
  ·simp only [List.map_cons, List.sum_cons]; omega
  ·simp only [List.map_cons, List.sum_cons]; omega
theorem laid_puts (l ps : List Rw) : laidR (putsR l ps) ≤ laidR l + laidR ps := by
 induction ps generalizing l with
 | nil => simp [putsR]
 | cons x ps ih =>
  have h1 := ih (putR l x)
  have h2 := laid_drop l x.k
  have h3 : laidR (putR l x) = laidR (dropR l x.k) + rsz x := by
   unfold putR
   rw [laid_app]
   simp [laidR]
  have h4 : laidR (x :: ps) = rsz x + laidR ps := by simp [laidR]
  show laidR (putsR (putR l x) ps) ≤ _
  omega
theorem laid_dels (l : List Rw) (ds : List ByteArray) : laidR (delsR l ds) ≤ laidR l := by
 induction ds generalizing l with
 | nil => exact Nat.le_refl _
 | cons x ds ih => exact Nat.le_trans (ih (dropR l x)) (laid_drop l x)
theorem laid_take (ps : List Rw) (k : Nat) : laidR (ps.take k) ≤ laidR ps := by
 conv => rhs; rw [← List.take_append_drop k ps]
 rw [laid_app]
 omega
theorem puts_snoc (l ps : List Rw) (x : Rw) : putsR l (ps ++ [x]) = putR (putsR l ps) x := by simp [putsR]
theorem dels_snoc (l : List Rw) (ds : List ByteArray) (x : ByteArray) : delsR l (ds ++ [x]) = dropR (delsR l ds) x := by simp [delsR]
section
variable {ρ : Operand → Value} {x y : Operand} {w : World} {dst : Option Tmp} {T e ty : TypeId} {pos : String} {aft : Array Edge} {gd : Option (Nat × Bool)}
theorem run_addrg {a : Addr} {n m i sz : Nat} (hT : Tryz.prog.underlying T = some (.slice e)) (hs : ∀ w, (sizeOf e).run Tryz.prog w = .ok sz w) (hx : ρ x = .slice (some a) n m) (hy : ρ y = iN .i64 i) (hi : i < n) : (execOp ρ ⟨dst, .indexAddr T x y, ty, pos, aft, gd⟩).run Tryz.prog w = .ok (.value (.pointer (some (a.add (i * sz))))) w := by
 simp only [execOp, hx, hy, iN]
 simp [go_sem, hT, hs, hi]
theorem run_addr30 {o : Option Addr} {a : Addr} {n m i : Nat} (ho : o = some a) (hx : ρ x = .slice o n m) (hy : ρ y = iN .i64 i) (hi : i < n) : (execOp ρ ⟨dst, .indexAddr 30 x y, ty, pos, aft, gd⟩).run Tryz.prog w = .ok (.value (.pointer (some (a.add (i * 2))))) w := by
 subst ho
 exact run_addrg Tryz.underlying30 (fun w => Tryz.sizeOf64 w) hx hy hi
theorem run_addr39 {o : Option Addr} {a : Addr} {n m i : Nat} (ho : o = some a) (hx : ρ x = .slice o n m) (hy : ρ y = iN .i64 i) (hi : i < n) : (execOp ρ ⟨dst, .indexAddr 39 x y, ty, pos, aft, gd⟩).run Tryz.prog w = .ok (.value (.pointer (some (a.add i)))) w := by
 subst ho
 have := run_addrg (a := a) (e := 9) (w := w) (dst := dst) (ty := ty) (pos := pos) (aft := aft) (gd := gd) Tryz.underlying39 (fun w => Tryz.sizeOf9 w) hx hy hi
 rw [Nat.mul_one] at this
 exact this
theorem run_loadg {a : Addr} {c : Array Value} {D : TypeDesc} (hx : ρ x = .pointer (some a)) (hc : ∀ j v, c[j]? = some v → w.cell? (a.add j) = some v) (hu : Tryz.prog.underlying T = some D) (hd : D.isRow = true) (hi : (Tryz.prog.info? T).map (·.size) = some c.size) :
  (execOp ρ ⟨dst, .load T x, ty, pos, aft, gd⟩).run Tryz.prog w = .ok (.value (.agg c)) w := by
 have hl : (loadCells a c.toList.length).run Tryz.prog w = .ok c.toList.toArray w := run_loadCells_list (P := Tryz.prog) w a c.toList (fun j v hv => hc j v (by rw [← Array.getElem?_toList]; exact hv))
 cases hq : Tryz.prog.info? T with
 | none => simp [hq] at hi
 | some i =>
  have hs : i.size = c.toList.length := by simpa [hq] using hi
  have hagg : (isAgg T).run Tryz.prog w = .ok true w := by
   unfold isAgg
   rw [Sem.run_bind, run_underlying hu w]
   cases D <;> simp_all
  have hload : (loadVar T a).run Tryz.prog w = .ok (.agg c) w := by
   rw [Array.length_toList] at hl hs
   simp [loadVar, Sem.run_bind, hagg, sizeOf, typeInfo, hq, hs, hl]
  simp only [execOp, hx, Instr.loadAt, Instr.sureAddr, Sem.run_bind, Sem.run_pure, Result.andThen_ok, hload]
theorem run_loadrow {a : Addr} {i : Nat} {r : Rw} (hx : ρ x = .pointer (some (a.add (i * 2)))) (h1 : w.cell? (a.add (i * 2)) = some (.string r.k)) (h2 : w.cell? (a.add (i * 2 + 1)) = some (.string r.v)) : (execOp ρ ⟨dst, .load 64 x, ty, pos, aft, gd⟩).run Tryz.prog w = .ok (.value (rwv r)) w := by
 refine run_loadg (c := #[.string r.k, .string r.v]) hx (fun j v hv => ?_) Tryz.underlying64 rfl (by kernel_rfl)
 match j, hv with
 | 0, hv => cases hv; rw [add_two]; exact h1
 | 1, hv => cases hv; rw [add_two]; exact h2
 | n + 2, hv => simp at hv
end
set_option linter.unusedVariables false in
set_option maxRecDepth 100000 in
set_option maxHeartbeats 2000000 in
theorem sget_no {w : World} {q dq r size nx laid : Nat} {rows : List Rw} (key : ByteArray) (hq : Blk w q 73 (scell dq r laid size)) {rs : List Re} (hm : w.heap[r]? = some (.map (eR rs) nx)) (h1 : rws rs = rows) (hn : ∀ f ∈ rs, f.r.k ≠ key) :
  Calls Tryz.prog 23 #[pt q, .string key] w fun e w' => e = .returned (.tuple #[.string (getR rows key).1, .bool (getR rows key).2]) ∧ Below w.heap.size w w' := by
 have H0 := HA.start w
 go_enter Tryz.func23, Tryz.ntmps23
 refine wp_seq ?_
 refine wl_region ?_
 refine zwv (.string ({ data := #[] })) ?_
 refine zwv (.bool false) ?_
 refine wl_nil ?_
 refine then_at rfl ?_
 refine wp_seq ?_
 refine wp_seq ?_
 refine wl_region ?_
 refine zwv (.pointer (some ⟨q, 0, none⟩)) ?_
 refine wl_call (v := .bool false) H0 (by kernel_rfl) enter47 #[.pointer (some ⟨q, 0, none⟩)] (by kernel_rfl) (snone_no (hq.keep H0.old.old)) ?_
 intro w1 h2
 refine wl_nil ?_
 refine then_at rfl ?_
 refine wp_cond_false (by kernel_rfl) ?_
 refine wp_skip ?_
 refine then_at rfl ?_
 refine wp_seq ?_
 refine wl_region ?_
 refine zwv (.pointer (some ⟨q, 0, none⟩)) ?_
 refine zwv (.pointer (some ⟨q, 0, none⟩)) ?_
 refine zwv (.pointer (some ⟨q, 1, none⟩)) ?_
 refine zwx (.map (some r)) (run_load1 (fun w => Tryz.isAgg71 w) (by kernel_rfl) (((hq.keep h2.old.old).cell 1).trans rfl)) ?_
 refine zwv (.string key) ?_
 refine zwx (.tuple #[.agg #[.string { data := #[] }, .string { data := #[] }], .bool false]) (run_lookR_no ((h2.old.old.block _ (lt_of_block hm)).trans hm) hn (by kernel_rfl) (by kernel_rfl)) ?_
 refine zwv (.tuple #[.agg #[.string { data := #[] }, .string { data := #[] }], .bool false]) ?_
 refine zwv (.agg #[.string { data := #[] }, .string { data := #[] }]) ?_
 refine zwv (.bool false) ?_
 refine wl_make (c := #[.string ({ data := #[] }), .string ({ data := #[] })]) h2 64 (by kernel_rfl) (by kernel_rfl) ?_
 intro q3 w4 (h5 : HA (bs w) [(q3, 64, #[.string ({ data := #[] }), .string ({ data := #[] })])] w4)
 refine wl_fill (c' := #[.string { data := #[] }, .string { data := #[] }]) h5 0 rfl (by kernel_rfl) (by kernel_rfl) (by kernel_rfl) rfl (by kernel_rfl) (by kernel_rfl) ?_
 intro w6 (h7 : HA (bs w) [(q3, 64, #[.string { data := #[] }, .string { data := #[] }])] w6)
 refine zwv (.bool false) ?_
 refine wl_nil ?_
 refine then_at rfl ?_
 refine wp_seq ?_
 refine wl_region ?_
 refine zwv (.pointer (some ⟨q3, 1, none⟩)) ?_
 refine zwx (.string ({ data := #[] })) (run_load1 (fun w => Tryz.isAgg9 w) (by kernel_rfl) (((h7.get 0 rfl).cell 1).trans rfl)) ?_
 refine wl_call (v := .string ({ data := #[] })) h7 (by kernel_rfl) enter61 #[.string ({ data := #[] })] (by kernel_rfl) (sclone_any _ w6 (by decide)) ?_
 intro w8 h9
 refine zwv (.bool false) ?_
 refine zwv (.string ({ data := #[] })) ?_
 refine zwv (.bool false) ?_
 refine wl_nil ?_
 refine then_at rfl ?_
 refine wp_ret ?_
 repeat first | refine then_ret ?_ | refine block_ret ?_
 exact bodyPost_ret (v := .tuple #[.string { data := #[] }, .bool false]) (by kernel_rfl) rfl ⟨by rw [getR_no (fun x hx => by rw [← h1] at hx; obtain ⟨f, hf, rfl⟩ := rws_mem.1 hx; exact hn f hf)], h9.old.old⟩
set_option linter.unusedVariables false in
set_option maxRecDepth 100000 in
set_option maxHeartbeats 2000000 in
theorem sget_yes {w : World} {q dq r size nx laid : Nat} {rows : List Rw} (key : ByteArray) (hq : Blk w q 73 (scell dq r laid size)) {A B : List Re} {f : Re} (hm : w.heap[r]? = some (.map (eR (A ++ f :: B)) nx)) (h1 : rws (A ++ f :: B) = rows) (hf : f.r.k = key) (hA : ∀ g ∈ A, g.r.k ≠ key) (hv : f.r.v.size ≤ 1000000000) :
  Calls Tryz.prog 23 #[pt q, .string key] w fun e w' => e = .returned (.tuple #[.string (getR rows key).1, .bool (getR rows key).2]) ∧ Below w.heap.size w w' := by
 have H0 := HA.start w
 go_enter Tryz.func23, Tryz.ntmps23
 refine wp_seq ?_
 refine wl_region ?_
 refine zwv (.string ({ data := #[] })) ?_
 refine zwv (.bool false) ?_
 refine wl_nil ?_
 refine then_at rfl ?_
 refine wp_seq ?_
 refine wp_seq ?_
 refine wl_region ?_
 refine zwv (.pointer (some ⟨q, 0, none⟩)) ?_
 refine wl_call (v := .bool false) H0 (by kernel_rfl) enter47 #[.pointer (some ⟨q, 0, none⟩)] (by kernel_rfl) (snone_no (hq.keep H0.old.old)) ?_
 intro w1 h2
 refine wl_nil ?_
 refine then_at rfl ?_
 refine wp_cond_false (by kernel_rfl) ?_
 refine wp_skip ?_
 refine then_at rfl ?_
 refine wp_seq ?_
 refine wl_region ?_
 refine zwv (.pointer (some ⟨q, 0, none⟩)) ?_
 refine zwv (.pointer (some ⟨q, 0, none⟩)) ?_
 refine zwv (.pointer (some ⟨q, 1, none⟩)) ?_
 refine zwx (.map (some r)) (run_load1 (fun w => Tryz.isAgg71 w) (by kernel_rfl) (((hq.keep h2.old.old).cell 1).trans rfl)) ?_
 refine zwv (.string key) ?_
 refine zwx (.tuple #[rwv f.r, .bool true]) (run_lookR_yes ((h2.old.old.block _ (lt_of_block hm)).trans hm) hf hA (by kernel_rfl) (by kernel_rfl)) ?_
 refine zwv (.tuple #[rwv f.r, .bool true]) ?_
 refine zwv (rwv f.r) ?_
 refine zwv (.bool true) ?_
 refine wl_make (c := #[.string ({ data := #[] }), .string ({ data := #[] })]) h2 64 (by kernel_rfl) (by kernel_rfl) ?_
 intro q3 w4 (h5 : HA (bs w) [(q3, 64, #[.string ({ data := #[] }), .string ({ data := #[] })])] w4)
 refine wl_fill (c' := #[.string f.r.k, .string f.r.v]) h5 0 rfl (by kernel_rfl) (by kernel_rfl) (by kernel_rfl) rfl (by kernel_rfl) (by kernel_rfl) ?_
 intro w6 (h7 : HA (bs w) [(q3, 64, #[.string f.r.k, .string f.r.v])] w6)
 refine zwv (.bool true) ?_
 refine wl_nil ?_
 refine then_at rfl ?_
 refine wp_seq ?_
 refine wl_region ?_
 refine zwv (.pointer (some ⟨q3, 1, none⟩)) ?_
 refine zwx (.string f.r.v) (run_load1 (fun w => Tryz.isAgg9 w) (by kernel_rfl) (((h7.get 0 rfl).cell 1).trans rfl)) ?_
 refine wl_call (v := .string f.r.v) h7 (by kernel_rfl) enter61 #[.string f.r.v] (by kernel_rfl) (sclone_any _ w6 hv) ?_
 intro w8 h9
 refine zwv (.bool true) ?_
 refine zwv (.string f.r.v) ?_
 refine zwv (.bool true) ?_
 refine wl_nil ?_
 refine then_at rfl ?_
 refine wp_ret ?_
 repeat first | refine then_ret ?_ | refine block_ret ?_
 exact bodyPost_ret (v := .tuple #[.string f.r.v, .bool true]) (by kernel_rfl) rfl ⟨by rw [← h1, ← hf, rws_app, rws_cons, getR_yes (fun y hy => by obtain ⟨g, hg, rfl⟩ := rws_mem.1 hy; rw [hf]; exact hA g hg)], h9.old.old⟩
theorem sget_any {w0 : World} {m : Nat × MO} {M : ML} {q dq r size : Nat} {L : BL} {w : World} {rows : List Rw} (h : RH w0 m M q dq r rows size L w) (key : ByteArray) (hv : ∀ x ∈ rows, x.v.size ≤ 1000000000) :
  Calls Tryz.prog 23 #[pt q, .string key] w fun e w' => e = .returned (.tuple #[.string (getR rows key).1, .bool (getR rows key).2]) ∧ Below w.heap.size w w' := by
 obtain ⟨rs, nx, h1, hK, H⟩ := h
 have hm := H.old.maps _ (List.mem_cons_of_mem _ (List.mem_cons_self ..))
 have hq := H.get 0 rfl
 by_cases hk : ∃ f ∈ rs, f.r.k = key
 ·obtain ⟨A, f, B, rfl, hf, hA, hB⟩ := re_split hK.nms hk
  exact sget_yes key hq hm h1 hf hA (hv _ (by rw [← h1, rws_app, rws_cons]; simp))
 ·exact sget_no key hq hm h1 (fun f hf e => hk ⟨f, hf, e⟩)
set_option linter.unusedVariables false in
set_option maxRecDepth 100000 in
set_option maxHeartbeats 2000000 in
theorem apply_any {w0 : World} {m : Nat × MO} {M : ML} {q dq r size : Nat} {L : BL} {w : World} {rows : List Rw} {po do_ : Option Addr} {pc dc : Nat} {ps : List Rw} {ds : List ByteArray} (h : RH w0 m M q dq r rows size L w) (hPV : PV w0 L po ps) (hDV : DV w0 L do_ ds) (hps : ∀ x ∈ ps, x.k.size ≤ 1000000000 ∧ x.v.size ≤ 1000000000) (hpl : ps.length ≤ 1000000000) (hdl : ds.length ≤ 1000000000) (hla : laidR rows + laidR ps ≤ 1000000000000) :
  Calls Tryz.prog 56 #[pt q, .agg #[.slice po ps.length pc, .slice do_ ds.length dc]] w fun e w' => e = .returned (.tuple #[]) ∧ RH w0 m M q dq r (applyR rows ps ds) size L w' := by
 obtain ⟨rs, nx, h1, hK, H0⟩ := h
 go_enter Tryz.func56, Tryz.ntmps56
 refine wp_seq ?_
 refine wl_region ?_
 refine wl_make (c := #[.slice po ps.length pc, .slice do_ ds.length dc]) H0 100 (by kernel_rfl) (by kernel_rfl) ?_
 intro q1 w2 (h3 : HA ⟨w0, m :: (r, .mp (eR rs) nx) :: M⟩ ((q1, 100, #[.slice po ps.length pc, .slice do_ ds.length dc]) :: (q, 73, scell dq r ((laidR rows)) size) :: L) w2)
 refine wl_nil ?_
 refine then_at rfl ?_
 refine wp_seq ?_
 refine wp_seq ?_
 have h4 := h3
 clear h3
 generalize q1 = q3 at h4 ⊢
 refine wl_region ?_
 refine zwv (.pointer (some ⟨q3, 0, none⟩)) ?_
 refine zwx (.slice po ps.length pc) (run_load1 (fun w => Tryz.isAgg30 w) (by kernel_rfl) (((h4.get 0 rfl).cell 0).trans rfl)) ?_
 refine zwv (iN .i64 ps.length) ?_
 refine zwv (iN .i64 0) ?_
 refine wl_nil ?_
 refine then_at rfl ?_
 refine wp_block ?_
 refine wp_count (fun k A w' => ∃ u5 : Nat → Value, A = ⟨(pt q :: .agg #[.slice po ps.length pc, .slice do_ ds.length dc] :: un :: pt q3 :: un :: u5 5 :: u5 6 :: un :: un :: pt q3 :: .slice po ps.length pc :: iN .i64 ps.length :: iN .i64 k :: u5 13 :: u5 14 :: u5 15 :: u5 16 :: u5 17 :: u5 18 :: u5 19 :: u5 20 :: u5 21 :: u5 22 :: u5 23 :: u5 24 :: u5 25 :: u5 26 :: u5 27 :: u5 28 :: u5 29 :: u5 30 :: u5 31 :: u5 32 :: u5 33 :: u5 34 :: u5 35 :: u5 36 :: u5 37 :: u5 38 :: u5 39 :: u5 40 :: u5 41 :: u5 42 :: u5 43 :: List.replicate 11 un).toArray, []⟩ ∧ RH w0 m M q dq r (putsR rows (ps.take k)) size ((q3, 100, #[.slice po ps.length pc, .slice do_ ds.length dc]) :: L) w') ps.length ?_ ?_ ?_
 ·exact ⟨fun ii => (([(5, undef), (6, undef), (13, undef), (14, undef), (15, undef), (16, undef), (17, undef), (18, undef), (19, undef), (20, undef), (21, undef), (22, undef), (23, undef), (24, undef), (25, undef), (26, undef), (27, undef), (28, undef), (29, undef), (30, undef), (31, undef), (32, undef), (33, undef), (34, undef), (35, undef), (36, undef), (37, undef), (38, undef), (39, undef), (40, undef), (41, undef), (42, undef), (43, undef)] : List (Nat × Value)).find? (·.1 == ii)).elim undef (·.2), by kernel_rfl, ⟨_, _, h1, hK, by exact h4.perm (List.Perm.swap _ _ _)⟩⟩
 ·rintro k hk _ w6 ⟨u5, rfl, hRH⟩
  obtain ⟨rs, nx, h1, hK, hL⟩ := hRH
  obtain ⟨x, hx⟩ : ∃ x, ps[k]? = some x := ⟨_, List.getElem?_eq_getElem hk⟩
  obtain ⟨pa, hpa, hpk, hpv⟩ := hPV _ [_, _] _ hL k x hx
  have hxs := hps x (List.mem_of_getElem? hx)
  have hl3 := laid_puts rows (ps.take k)
  have hl4 := laid_take ps k
  have hl5 := laid_take ps (k + 1)
  have hl6 := laid_puts rows (ps.take (k + 1))
  refine wp_seq ?_
  refine wl_region ?_
  refine zwx (.bool true) (run_lss (k := .i64) (a := k) (b := ps.length) (by kernel_rfl) (by kernel_rfl) true (decide_eq_true (by omega))) ?_
  refine wl_nil ?_
  refine then_at rfl ?_
  refine wp_seq ?_
  refine wp_cond_true (by kernel_rfl) ?_
  refine wp_skip ?_
  refine then_at rfl ?_
  refine wp_seq ?_
  refine wp_block ?_
  refine wp_seq ?_
  refine wl_region ?_
  refine wl_val (.pointer (some (pa.add (k * 2)))) (by kernel_rfl) (run_addr30 (a := pa) (n := ps.length) (m := pc) (i := k) hpa (by kernel_rfl) (by kernel_rfl) hk) ?_
  refine zwx (rwv x) (run_loadrow (by kernel_rfl) hpk hpv) ?_
  refine wl_make (c := #[.string ({ data := #[] }), .string ({ data := #[] })]) hL 64 (by kernel_rfl) (by kernel_rfl) ?_
  intro q7 w8 (h9 : HA ⟨w0, m :: (r, .mp (eR rs) nx) :: M⟩ ((q7, 64, #[.string ({ data := #[] }), .string ({ data := #[] })]) :: (q, 73, scell dq r ((laidR (putsR rows (ps.take k)))) size) :: (q3, 100, #[.slice po ps.length pc, .slice do_ ds.length dc]) :: L) w8)
  refine wl_fill (c' := #[.string x.k, .string x.v]) h9 0 rfl (by kernel_rfl) (by kernel_rfl) (by kernel_rfl) rfl (by kernel_rfl) (by kernel_rfl) ?_
  intro w10 (h11 : HA ⟨w0, m :: (r, .mp (eR rs) nx) :: M⟩ ((q7, 64, #[.string x.k, .string x.v]) :: (q, 73, scell dq r ((laidR (putsR rows (ps.take k)))) size) :: (q3, 100, #[.slice po ps.length pc, .slice do_ ds.length dc]) :: L) w10)
  refine wl_nil ?_
  refine then_at rfl ?_
  refine wp_seq ?_
  refine wl_region ?_
  refine zwv (.pointer (some ⟨q, 0, none⟩)) ?_
  refine zwv (.pointer (some ⟨q7, 0, none⟩)) ?_
  refine zwx (.string x.k) (run_load1 (fun w => Tryz.isAgg9 w) (by kernel_rfl) (((h11.get 0 rfl).cell 0).trans rfl)) ?_
  refine wl_callx (by kernel_rfl) enter105 #[.pointer (some ⟨q, 0, none⟩), .string x.k] (by kernel_rfl) (sdrop_any (L := (q7, 64, #[.string x.k, .string x.v]) :: (q3, 100, #[.slice po ps.length pc, .slice do_ ds.length dc]) :: L) ⟨_, _, h1, hK, HA.perm h11 (by first | exact List.Perm.refl _ | exact List.Perm.swap _ _ _ | exact (List.Perm.swap _ _ _).trans (List.Perm.refl _))⟩ x.k (by omega)) ?_
  rintro _ w12 ⟨rfl, hdrop⟩
  refine ⟨_, rfl, ?_⟩
  obtain ⟨rs2, nx2, h21, hK2, hL2⟩ := hdrop
  have h13 : HA ⟨w0, m :: (r, .mp (eR rs2) nx2) :: M⟩ ((q, 73, scell dq r ((laidR (dropR (putsR rows (ps.take k)) x.k))) size) :: (q7, 64, #[.string x.k, .string x.v]) :: (q3, 100, #[.slice po ps.length pc, .slice do_ ds.length dc]) :: L) w12 := hL2
  refine wl_nil ?_
  refine then_at rfl ?_
  refine wp_seq ?_
  have hnew : ∀ g ∈ rs2, g.r.k ≠ x.k := fun g hg => drop_nokey _ _ _ (by rw [← h21]; exact rws_mem.2 ⟨g, hg, rfl⟩)
  have hrx : rsz x = 8 + x.k.size + x.v.size := rfl
  have hld := laid_drop (putsR rows (ps.take k)) x.k
  refine wp_region_wx (HA ⟨w0, m :: (r, .mp (eR rs2) nx2) :: M⟩ ((q, 73, scell dq r ((laidR (dropR (putsR rows (ps.take k)) x.k))) size) :: (q7, 64, #[.string x.k, .string x.v]) :: (q3, 100, #[.slice po ps.length pc, .slice do_ ds.length dc]) :: L)) (fun AQ w' => ∃ (q17 : Nat), AQ = ⟨(pt q :: .agg #[.slice po ps.length pc, .slice do_ ds.length dc] :: un :: pt q3 :: un :: pt q7 :: pt q17 :: un :: un :: pt q3 :: .slice po ps.length pc :: iN .i64 ps.length :: iN .i64 k :: .bool true :: .pointer (some (pa.add (k * 2))) :: rwv x :: pt q :: pt q7 :: .string x.k :: .tuple #[] :: pt q7 :: .string x.k :: .string x.k :: .pointer (some ⟨q7, 1, none⟩) :: .string x.v :: .string x.v :: .agg #[.string x.k, .string x.v] :: u5 27 :: u5 28 :: u5 29 :: u5 30 :: u5 31 :: u5 32 :: u5 33 :: u5 34 :: u5 35 :: u5 36 :: u5 37 :: u5 38 :: u5 39 :: u5 40 :: u5 41 :: u5 42 :: u5 43 :: List.replicate 11 un).toArray, []⟩ ∧ HA ⟨w0, m :: (r, .mp (eR rs2) nx2) :: M⟩ ((q17, 64, #[.string x.k, .string x.v]) :: (q, 73, scell dq r ((laidR (dropR (putsR rows (ps.take k)) x.k))) size) :: (q7, 64, #[.string x.k, .string x.v]) :: (q3, 100, #[.slice po ps.length pc, .slice do_ ds.length dc]) :: L) w') 9 (by kernel_rfl) (by kernel_rfl) (by kernel_rfl) (by kernel_rfl) (by kernel_rfl) (h13.drew) ?_ ?_
  ·have h14 := h13.drew
   refine wx_pure (i := 0) (.pointer (some ⟨q7, 0, none⟩)) rfl rfl (by kernel_rfl) (by kernel_rfl) (fun _ => (by kernel_rfl)) ?_
   refine wx_val (i := 1) (.string x.k) rfl rfl (by kernel_rfl) (by kernel_rfl) (fun w' h' => run_load1 (fun w => Tryz.isAgg9 w) (by kernel_rfl) (((h'.get 1 rfl).cell 0).trans rfl)) ?_
   refine wx_call (i := 2) (.string x.k) (fun _ _ h hb => HA.keep _ _ h hb) rfl rfl (by kernel_rfl) (by kernel_rfl) enter61 #[.string x.k] (by kernel_rfl) (fun w' h' => sclone_any _ w' (by omega)) ?_
   refine wx_pure (i := 3) (.pointer (some ⟨q7, 1, none⟩)) rfl rfl (by kernel_rfl) (by kernel_rfl) (fun _ => (by kernel_rfl)) ?_
   refine wx_val (i := 4) (.string x.v) rfl rfl (by kernel_rfl) (by kernel_rfl) (fun w' h' => run_load1 (fun w => Tryz.isAgg9 w) (by kernel_rfl) (((h'.get 1 rfl).cell 1).trans rfl)) ?_
   refine wx_call (i := 5) (.string x.v) (fun _ _ h hb => HA.keep _ _ h hb) rfl rfl (by kernel_rfl) (by kernel_rfl) enter61 #[.string x.v] (by kernel_rfl) (fun w' h' => sclone_any _ w' (by omega)) ?_
   refine wx_pure (i := 6) (.agg #[.string x.k, .string x.v]) rfl rfl (by kernel_rfl) (by kernel_rfl) (fun _ => (by kernel_rfl)) ?_
   refine wx_one 7 (by kernel_rfl) ?_
   refine ex_makeS (c := #[.string ({ data := #[] }), .string ({ data := #[] })]) rfl (by kernel_rfl) h14 64 (fun _ => (by kernel_rfl)) ?_
   intro q17 w15 h16
   refine ⟨(HA.sub h16 (List.Sublist.cons _ (List.Sublist.cons_cons _ (List.Sublist.cons_cons _ (List.Sublist.cons_cons _ (List.Sublist.refl _)))))), ?_⟩
   refine wx_one 8 (by kernel_rfl) ?_
   refine ex_skipT rfl (by kernel_rfl) h16 fun w18 h19 => ⟨_, run_store_blk (c' := #[.string x.k, .string x.v]) (by kernel_rfl) (by kernel_rfl) (h19.get 0 rfl) rfl (by kernel_rfl) (by kernel_rfl), (HA.sub (h19.fill 0 rfl (c' := #[.string x.k, .string x.v]) rfl) (List.Sublist.cons _ (List.Sublist.cons_cons _ (List.Sublist.cons_cons _ (List.Sublist.cons_cons _ (List.Sublist.refl _)))))), ?_⟩
   have h20 : HA ⟨w0, m :: (r, .mp (eR rs2) nx2) :: M⟩ ((q17, 64, #[.string x.k, .string x.v]) :: (q, 73, scell dq r ((laidR (dropR (putsR rows (ps.take k)) x.k))) size) :: (q7, 64, #[.string x.k, .string x.v]) :: (q3, 100, #[.slice po ps.length pc, .slice do_ ds.length dc]) :: L) _ := h19.fill 0 rfl (c' := #[.string x.k, .string x.v]) rfl
   refine wx_end fun w21 hbx _ => ?_
   have h22 := HA.keep _ _ h20 hbx
   exact ⟨q17, by kernel_rfl, h22⟩
  ·rintro _ w23 ⟨q17, rfl, h24⟩
   refine then_at rfl ?_
   refine wp_seq ?_
   refine wp_region_wx (HA ⟨w0, m :: (r, .mp (eR rs2) nx2) :: M⟩ ((q17, 64, #[.string x.k, .string x.v]) :: (q, 73, scell dq r ((laidR (dropR (putsR rows (ps.take k)) x.k))) size) :: (q7, 64, #[.string x.k, .string x.v]) :: (q3, 100, #[.slice po ps.length pc, .slice do_ ds.length dc]) :: L)) (fun AQ w' => AQ = ⟨(pt q :: .agg #[.slice po ps.length pc, .slice do_ ds.length dc] :: un :: pt q3 :: un :: pt q7 :: pt q17 :: un :: un :: pt q3 :: .slice po ps.length pc :: iN .i64 ps.length :: iN .i64 k :: .bool true :: .pointer (some (pa.add (k * 2))) :: rwv x :: pt q :: pt q7 :: .string x.k :: .tuple #[] :: pt q7 :: .string x.k :: .string x.k :: .pointer (some ⟨q7, 1, none⟩) :: .string x.v :: .string x.v :: .agg #[.string x.k, .string x.v] :: pt q :: pt q :: .pointer (some ⟨q, 1, none⟩) :: .map (some r) :: pt q17 :: .string x.k :: .agg (#[.string x.k, .string x.v]) :: u5 34 :: u5 35 :: u5 36 :: u5 37 :: u5 38 :: u5 39 :: u5 40 :: u5 41 :: u5 42 :: u5 43 :: List.replicate 11 un).toArray, []⟩ ∧ HA ⟨w0, m :: (r, .mp (eR (rs2 ++ [(⟨x, nx2⟩ : Re)])) (nx2 + 1)) :: M⟩ ((q17, 64, #[.string x.k, .string x.v]) :: (q, 73, scell dq r ((laidR (dropR (putsR rows (ps.take k)) x.k))) size) :: (q7, 64, #[.string x.k, .string x.v]) :: (q3, 100, #[.slice po ps.length pc, .slice do_ ds.length dc]) :: L) w') 8 (by kernel_rfl) (by kernel_rfl) (by kernel_rfl) (by kernel_rfl) (by kernel_rfl) (h24.drew) ?_ ?_
   ·have h25 := h24.drew
    refine wx_pure (i := 0) (.pointer (some ⟨q, 0, none⟩)) rfl rfl (by kernel_rfl) (by kernel_rfl) (fun _ => (by kernel_rfl)) ?_
    refine wx_pure (i := 1) (.pointer (some ⟨q, 0, none⟩)) rfl rfl (by kernel_rfl) (by kernel_rfl) (fun _ => (by kernel_rfl)) ?_
    refine wx_pure (i := 2) (.pointer (some ⟨q, 1, none⟩)) rfl rfl (by kernel_rfl) (by kernel_rfl) (fun _ => (by kernel_rfl)) ?_
    refine wx_val (i := 3) (.map (some r)) rfl rfl (by kernel_rfl) (by kernel_rfl) (fun w' h' => run_load1 (fun w => Tryz.isAgg71 w) (by kernel_rfl) (((h'.get 1 rfl).cell 1).trans rfl)) ?_
    refine wx_pure (i := 4) (.pointer (some ⟨q17, 0, none⟩)) rfl rfl (by kernel_rfl) (by kernel_rfl) (fun _ => (by kernel_rfl)) ?_
    refine wx_val (i := 5) (.string x.k) rfl rfl (by kernel_rfl) (by kernel_rfl) (fun w' h' => run_load1 (fun w => Tryz.isAgg9 w) (by kernel_rfl) (((h'.get 0 rfl).cell 0).trans rfl)) ?_
    refine wx_val (i := 6) (.agg (#[.string x.k, .string x.v])) rfl rfl (by kernel_rfl) (by kernel_rfl) (fun w' h' => run_load_blk (by kernel_rfl) (h'.get 0 rfl) Tryz.underlying64 rfl (by kernel_rfl)) ?_
    refine wx_one 7 (by kernel_rfl) ?_
    refine ex_skip rfl (by kernel_rfl) (by kernel_rfl) h25 fun w26 h27 => ⟨_, run_updR (rs := rs2) (nx := nx2) (h27.old.maps _ (List.mem_cons_of_mem _ (List.mem_cons_self ..))) (⟨x, nx2⟩ : Re) hnew (by kernel_rfl) (by kernel_rfl) rfl (by kernel_rfl), _, h27.setMap 1 (es' := eR (rs2 ++ [(⟨x, nx2⟩ : Re)])) (c' := nx2 + 1) rfl, ?_⟩
    have h28 : HA ⟨w0, m :: (r, .mp (eR (rs2 ++ [(⟨x, nx2⟩ : Re)])) (nx2 + 1)) :: M⟩ ((q17, 64, #[.string x.k, .string x.v]) :: (q, 73, scell dq r ((laidR (dropR (putsR rows (ps.take k)) x.k))) size) :: (q7, 64, #[.string x.k, .string x.v]) :: (q3, 100, #[.slice po ps.length pc, .slice do_ ds.length dc]) :: L) _ := h27.setMap 1 (es' := eR (rs2 ++ [(⟨x, nx2⟩ : Re)])) (c' := nx2 + 1) rfl
    refine wx_end fun w29 hbx _ => ?_
    have h30 := HA.keep _ _ h28 hbx
    exact ⟨by kernel_rfl, h30⟩
   ·rintro _ w31 ⟨rfl, h32⟩
    refine then_at rfl ?_
    refine wp_region_wx (HA ⟨w0, m :: (r, .mp (eR (rs2 ++ [(⟨x, nx2⟩ : Re)])) (nx2 + 1)) :: M⟩ ((q17, 64, #[.string x.k, .string x.v]) :: (q, 73, scell dq r ((laidR (dropR (putsR rows (ps.take k)) x.k))) size) :: (q7, 64, #[.string x.k, .string x.v]) :: (q3, 100, #[.slice po ps.length pc, .slice do_ ds.length dc]) :: L)) (fun AQ w' => AQ = ⟨(pt q :: .agg #[.slice po ps.length pc, .slice do_ ds.length dc] :: un :: pt q3 :: un :: pt q7 :: pt q17 :: un :: un :: pt q3 :: .slice po ps.length pc :: iN .i64 ps.length :: iN .i64 k :: .bool true :: .pointer (some (pa.add (k * 2))) :: rwv x :: pt q :: pt q7 :: .string x.k :: .tuple #[] :: pt q7 :: .string x.k :: .string x.k :: .pointer (some ⟨q7, 1, none⟩) :: .string x.v :: .string x.v :: .agg #[.string x.k, .string x.v] :: pt q :: pt q :: .pointer (some ⟨q, 1, none⟩) :: .map (some r) :: pt q17 :: .string x.k :: .agg (#[.string x.k, .string x.v]) :: pt q :: pt q :: .pointer (some ⟨q, 2, none⟩) :: iN .i64 ((laidR (dropR (putsR rows (ps.take k)) x.k))) :: .agg (#[.string x.k, .string x.v]) :: iN .i64 (rsz x) :: iN .i64 (((laidR (dropR (putsR rows (ps.take k)) x.k))) + (rsz x)) :: pt q :: .pointer (some ⟨q, 2, none⟩) :: u5 43 :: List.replicate 11 un).toArray, []⟩ ∧ HA ⟨w0, m :: (r, .mp (eR (rs2 ++ [(⟨x, nx2⟩ : Re)])) (nx2 + 1)) :: M⟩ ((q17, 64, #[.string x.k, .string x.v]) :: (q, 73, #[.pointer (some ⟨dq, 0, none⟩), .map (some r), iN .i64 (((laidR (dropR (putsR rows (ps.take k)) x.k))) + (rsz x)), iN .i64 size]) :: (q7, 64, #[.string x.k, .string x.v]) :: (q3, 100, #[.slice po ps.length pc, .slice do_ ds.length dc]) :: L) w') 10 (by kernel_rfl) (by kernel_rfl) (by kernel_rfl) (by kernel_rfl) (by kernel_rfl) (h32.drew) ?_ ?_
    ·have h33 := h32.drew
     refine wx_pure (i := 0) (.pointer (some ⟨q, 0, none⟩)) rfl rfl (by kernel_rfl) (by kernel_rfl) (fun _ => (by kernel_rfl)) ?_
     refine wx_pure (i := 1) (.pointer (some ⟨q, 0, none⟩)) rfl rfl (by kernel_rfl) (by kernel_rfl) (fun _ => (by kernel_rfl)) ?_
     refine wx_pure (i := 2) (.pointer (some ⟨q, 2, none⟩)) rfl rfl (by kernel_rfl) (by kernel_rfl) (fun _ => (by kernel_rfl)) ?_
     refine wx_val (i := 3) (iN .i64 ((laidR (dropR (putsR rows (ps.take k)) x.k)))) rfl rfl (by kernel_rfl) (by kernel_rfl) (fun w' h' => run_load1 (fun w => Tryz.isAgg3 w) (by kernel_rfl) (((h'.get 1 rfl).cell 2).trans rfl)) ?_
     refine wx_val (i := 4) (.agg (#[.string x.k, .string x.v])) rfl rfl (by kernel_rfl) (by kernel_rfl) (fun w' h' => run_load_blk (by kernel_rfl) (h'.get 0 rfl) Tryz.underlying64 rfl (by kernel_rfl)) ?_
     refine wx_call (i := 5) (iN .i64 (rsz x)) (fun _ _ h hb => HA.keep _ _ h hb) rfl rfl (by kernel_rfl) (by kernel_rfl) enter106 #[.agg (#[.string x.k, .string x.v])] (by kernel_rfl) (fun w' h' => rowSize_any x (by omega) w') ?_
     refine wx_pure (i := 6) (iN .i64 (((laidR (dropR (putsR rows (ps.take k)) x.k))) + (rsz x))) rfl rfl (by kernel_rfl) (by kernel_rfl) (fun _ => (run_add (k := .i64) (a := (laidR (dropR (putsR rows (ps.take k)) x.k))) (b := rsz x) (by kernel_rfl) (by kernel_rfl) (by first | omega | (simp only [top]; omega)))) ?_
     refine wx_pure (i := 7) (.pointer (some ⟨q, 0, none⟩)) rfl rfl (by kernel_rfl) (by kernel_rfl) (fun _ => (by kernel_rfl)) ?_
     refine wx_pure (i := 8) (.pointer (some ⟨q, 2, none⟩)) rfl rfl (by kernel_rfl) (by kernel_rfl) (fun _ => (by kernel_rfl)) ?_
     refine wx_one 9 (by kernel_rfl) ?_
     refine ex_skip rfl (by kernel_rfl) (by kernel_rfl) h33 fun w34 h35 => ⟨_, run_storev (v := iN .i64 (((laidR (dropR (putsR rows (ps.take k)) x.k))) + (rsz x))) (fun w => Tryz.sizeOf3 w) (by kernel_rfl) (by kernel_rfl) (by kernel_rfl) (by rw [(h35.get 1 rfl).cell]; rfl) ((h35.get 1 rfl).free _ (by show 2 < 4; decide)), _, h35.put 1 rfl 2 _, ?_⟩
     have h36 : HA ⟨w0, m :: (r, .mp (eR (rs2 ++ [(⟨x, nx2⟩ : Re)])) (nx2 + 1)) :: M⟩ ((q17, 64, #[.string x.k, .string x.v]) :: (q, 73, #[.pointer (some ⟨dq, 0, none⟩), .map (some r), iN .i64 (((laidR (dropR (putsR rows (ps.take k)) x.k))) + (rsz x)), iN .i64 size]) :: (q7, 64, #[.string x.k, .string x.v]) :: (q3, 100, #[.slice po ps.length pc, .slice do_ ds.length dc]) :: L) _ := h35.put 1 rfl 2 (iN .i64 (((laidR (dropR (putsR rows (ps.take k)) x.k))) + (rsz x)))
     refine wx_end fun w37 hbx _ => ?_
     have h38 := HA.keep _ _ h36 hbx
     exact ⟨by kernel_rfl, h38⟩
    ·rintro _ w39 ⟨rfl, h40⟩
     refine block_normal ?_
     refine then_at rfl ?_
     refine wl_region ?_
     refine zwx (iN .i64 (k + 1)) (run_add (k := .i64) (a := k) (b := 1) (by kernel_rfl) (by kernel_rfl) (by first | omega | (simp only [top]; omega))) ?_
     refine zwv (iN .i64 (k + 1)) ?_
     refine wl_nil ?_
     exact then_I ⟨fun ii => (([(5, .pointer (some ⟨q7, 0, none⟩)), (6, .pointer (some ⟨q17, 0, none⟩)), (13, .bool true), (14, .pointer (some (pa.add (k * 2)))), (15, rwv x), (16, .pointer (some ⟨q, 0, none⟩)), (17, .pointer (some ⟨q7, 0, none⟩)), (18, .string x.k), (19, .tuple #[]), (20, .pointer (some ⟨q7, 0, none⟩)), (21, .string x.k), (22, .string x.k), (23, .pointer (some ⟨q7, 1, none⟩)), (24, .string x.v), (25, .string x.v), (26, .agg #[.string x.k, .string x.v]), (27, .pointer (some ⟨q, 0, none⟩)), (28, .pointer (some ⟨q, 0, none⟩)), (29, .pointer (some ⟨q, 1, none⟩)), (30, .map (some r)), (31, .pointer (some ⟨q17, 0, none⟩)), (32, .string x.k), (33, .agg (#[.string x.k, .string x.v])), (34, .pointer (some ⟨q, 0, none⟩)), (35, .pointer (some ⟨q, 0, none⟩)), (36, .pointer (some ⟨q, 2, none⟩)), (37, iN .i64 ((laidR (dropR (putsR rows (ps.take k)) x.k)))), (38, .agg (#[.string x.k, .string x.v])), (39, iN .i64 (rsz x)), (40, iN .i64 (((laidR (dropR (putsR rows (ps.take k)) x.k))) + (rsz x))), (41, .pointer (some ⟨q, 0, none⟩)), (42, .pointer (some ⟨q, 2, none⟩)), (43, iN .i64 (k + 1))] : List (Nat × Value)).find? (·.1 == ii)).elim undef (·.2), by kernel_rfl, ⟨rs2 ++ [⟨x, nx2⟩], nx2 + 1, by rw [take_snoc hx, puts_snoc, putR, ← h21]; simp [rws], hK2.more hnew rfl, by rw [take_snoc hx, puts_snoc, putR, laid_app, show laidR [x] = rsz x by simp [laidR]]; exact h40.sub (List.Sublist.cons _ (List.Sublist.cons_cons _ (List.Sublist.cons _ (List.Sublist.cons_cons _ (List.Sublist.refl _)))))⟩⟩
 ·rintro _ w41 ⟨u5, rfl, hRH⟩
  obtain ⟨rs, nx, h1, hK, hL⟩ := hRH
  refine wp_seq ?_
  refine wl_region ?_
  refine zwx (.bool false) (run_lss (k := .i64) (a := ps.length) (b := ps.length) (by kernel_rfl) (by kernel_rfl) false (decide_eq_false (by omega))) ?_
  refine wl_nil ?_
  refine then_at rfl ?_
  refine wp_seq ?_
  refine wp_cond_false (by kernel_rfl) ?_
  refine wp_exit ?_
  repeat first | refine then_exit ?_ | refine block_exit ?_ | refine block_exit_ne (by decide) ?_
  refine then_at rfl ?_
  refine wp_seq ?_
  refine wl_region ?_
  refine zwv (.pointer (some ⟨q3, 1, none⟩)) ?_
  refine zwx (.slice do_ ds.length dc) (run_load1 (fun w => Tryz.isAgg39 w) (by kernel_rfl) (((hL.get 1 rfl).cell 1).trans rfl)) ?_
  refine zwv (iN .i64 ds.length) ?_
  refine zwv (iN .i64 0) ?_
  refine wl_nil ?_
  refine then_at rfl ?_
  refine wp_block ?_
  refine wp_count (fun k A w' => ∃ u42 : Nat → Value, A = ⟨(pt q :: .agg #[.slice po ps.length pc, .slice do_ ds.length dc] :: un :: pt q3 :: un :: u5 5 :: u5 6 :: un :: u42 8 :: pt q3 :: .slice po ps.length pc :: iN .i64 ps.length :: iN .i64 ps.length :: .bool false :: u5 14 :: u5 15 :: u5 16 :: u5 17 :: u5 18 :: u5 19 :: u5 20 :: u5 21 :: u5 22 :: u5 23 :: u5 24 :: u5 25 :: u5 26 :: u5 27 :: u5 28 :: u5 29 :: u5 30 :: u5 31 :: u5 32 :: u5 33 :: u5 34 :: u5 35 :: u5 36 :: u5 37 :: u5 38 :: u5 39 :: u5 40 :: u5 41 :: u5 42 :: u5 43 :: .pointer (some ⟨q3, 1, none⟩) :: .slice do_ ds.length dc :: iN .i64 ds.length :: iN .i64 k :: u42 48 :: u42 49 :: u42 50 :: u42 51 :: u42 52 :: u42 53 :: u42 54 :: List.replicate 0 un).toArray, []⟩ ∧ RH w0 m M q dq r (delsR (putsR rows ps) (ds.take k)) size ((q3, 100, #[.slice po ps.length pc, .slice do_ ds.length dc]) :: L) w') ds.length ?_ ?_ ?_
  ·exact ⟨fun ii => (([(8, undef), (48, undef), (49, undef), (50, undef), (51, undef), (52, undef), (53, undef), (54, undef)] : List (Nat × Value)).find? (·.1 == ii)).elim undef (·.2), by kernel_rfl, ⟨rs, nx, by rw [List.take_length] at h1; exact h1, hK, by have h9 := hL; rw [List.take_length] at h9; exact h9⟩⟩
  ·rintro k hk _ w43 ⟨u42, rfl, hRH⟩
   obtain ⟨rs, nx, h1, hK, hL⟩ := hRH
   obtain ⟨x, hx⟩ : ∃ x, ds[k]? = some x := ⟨_, List.getElem?_eq_getElem hk⟩
   obtain ⟨da, hda, hdk0⟩ := hDV _ [_, _] _ hL k x hx
   have hl3 := laid_puts rows ps
   have hl4 := laid_dels (putsR rows ps) (ds.take k)
   refine wp_seq ?_
   refine wl_region ?_
   refine zwx (.bool true) (run_lss (k := .i64) (a := k) (b := ds.length) (by kernel_rfl) (by kernel_rfl) true (decide_eq_true (by omega))) ?_
   refine wl_nil ?_
   refine then_at rfl ?_
   refine wp_seq ?_
   refine wp_cond_true (by kernel_rfl) ?_
   refine wp_skip ?_
   refine then_at rfl ?_
   refine wp_seq ?_
   refine wp_block ?_
   refine wp_seq ?_
   refine wl_region ?_
   refine zwx (.pointer (some (da.add k))) (run_addr39 (a := da) (n := ds.length) (m := dc) (i := k) hda (by kernel_rfl) (by kernel_rfl) hk) ?_
   refine zwx (.string x) (run_load_at (b := da.add k) (fun w => Tryz.isAgg9 w) (by kernel_rfl) hdk0) ?_
   refine zwv (.string x) ?_
   refine wl_nil ?_
   refine then_at rfl ?_
   refine wl_region ?_
   refine zwv (.pointer (some ⟨q, 0, none⟩)) ?_
   refine zwv (.string x) ?_
   refine wl_callx (by kernel_rfl) enter105 #[.pointer (some ⟨q, 0, none⟩), .string x] (by kernel_rfl) (sdrop_any (L := (q3, 100, #[.slice po ps.length pc, .slice do_ ds.length dc]) :: L) ⟨_, _, h1, hK, HA.perm hL (by first | exact List.Perm.refl _ | exact List.Perm.swap _ _ _ | exact (List.Perm.swap _ _ _).trans (List.Perm.refl _))⟩ x (by omega)) ?_
   rintro _ w44 ⟨rfl, hdrop⟩
   refine ⟨_, rfl, ?_⟩
   obtain ⟨rs2, nx2, h21, hK2, hL2⟩ := hdrop
   have h45 : HA ⟨w0, m :: (r, .mp (eR rs2) nx2) :: M⟩ ((q, 73, scell dq r ((laidR (dropR (delsR (putsR rows ps) (ds.take k)) x))) size) :: (q3, 100, #[.slice po ps.length pc, .slice do_ ds.length dc]) :: L) w44 := hL2
   refine wl_nil ?_
   refine block_normal ?_
   refine then_at rfl ?_
   refine wl_region ?_
   refine zwx (iN .i64 (k + 1)) (run_add (k := .i64) (a := k) (b := 1) (by kernel_rfl) (by kernel_rfl) (by first | omega | (simp only [top]; omega))) ?_
   refine zwv (iN .i64 (k + 1)) ?_
   refine wl_nil ?_
   exact then_I ⟨fun ii => (([(8, .string x), (48, .bool true), (49, .pointer (some (da.add k))), (50, .string x), (51, .pointer (some ⟨q, 0, none⟩)), (52, .string x), (53, .tuple #[]), (54, iN .i64 (k + 1))] : List (Nat × Value)).find? (·.1 == ii)).elim undef (·.2), by kernel_rfl, ⟨rs2, nx2, by rw [take_snoc hx, dels_snoc]; exact h21, hK2, by rw [take_snoc hx, dels_snoc]; exact h45⟩⟩
  ·rintro _ w46 ⟨u42, rfl, hRH⟩
   obtain ⟨rs, nx, h1, hK, hL⟩ := hRH
   refine wp_seq ?_
   refine wl_region ?_
   refine zwx (.bool false) (run_lss (k := .i64) (a := ds.length) (b := ds.length) (by kernel_rfl) (by kernel_rfl) false (decide_eq_false (by omega))) ?_
   refine wl_nil ?_
   refine then_at rfl ?_
   refine wp_seq ?_
   refine wp_cond_false (by kernel_rfl) ?_
   refine wp_exit ?_
   repeat first | refine then_exit ?_ | refine block_exit ?_ | refine block_exit_ne (by decide) ?_
   exact bodyPost_end (v := .tuple #[]) (by kernel_rfl) rfl ⟨rfl, rs, nx, by rw [List.take_length] at h1; exact h1, hK, by have h9 := hL; rw [List.take_length] at h9; exact h9.sub (List.Sublist.cons_cons _ (List.Sublist.cons _ (List.Sublist.refl _)))⟩
end Go.Proofs.YtckmlaempffpjaaGreat
