/-
 The model of a store: rows in a map, what lies in memory, what is told of it.
-/
import Derived.Test.YtckmlaempffpjaaGreatGDR
namespace Go.Proofs.YtckmlaempffpjaaGreat
open Go.RowKit Go.Proofs.Tryz
structure Rw where
 k : ByteArray
 v : ByteArray
 deriving DecidableEq
structure Re where
 r : Rw
 bn : Nat
def rwv (r : Rw) : Value := .agg #[.string r.k, .string r.v]
def entR (e : Re) : MapEntry := ⟨.string e.r.k, rwv e.r, e.bn⟩
def eR (rs : List Re) : Array MapEntry := (rs.map entR).toArray
structure RK (rs : List Re) (nx : Nat) : Prop where
 nms : (rs.map (·.r.k)).Nodup
 old : ∀ f ∈ rs, f.bn < nx
 bns : (rs.map (·.bn)).Nodup
theorem RK.nil : RK [] 0 := ⟨List.nodup_nil, fun _ h => (by cases h), List.nodup_nil⟩
def rws (rs : List Re) : List Rw := rs.map (·.r)
/-! what a change makes of rows -/
def dropR (l : List Rw) (k : ByteArray) : List Rw := l.filter fun x => decide (x.k ≠ k)
def putR (l : List Rw) (x : Rw) : List Rw := dropR l x.k ++ [x]
def putsR (l : List Rw) (ps : List Rw) : List Rw := ps.foldl putR l
def delsR (l : List Rw) (ds : List ByteArray) : List Rw := ds.foldl dropR l
def applyR (l : List Rw) (ps : List Rw) (ds : List ByteArray) : List Rw := delsR (putsR l ps) ds
def rsz (x : Rw) : Nat := 8 + x.k.size + x.v.size
def laidR (l : List Rw) : Nat := (l.map rsz).sum
theorem laid_app (a b : List Rw) : laidR (a ++ b) = laidR a + laidR b := by simp [laidR]
theorem dropR_no {l : List Rw} {k : ByteArray} (h : ∀ x ∈ l, x.k ≠ k) : dropR l k = l := List.filter_eq_self.2 fun x hx => decide_eq_true (h x hx)
theorem dropR_yes {A B : List Rw} {x : Rw} (hA : ∀ y ∈ A, y.k ≠ x.k) (hB : ∀ y ∈ B, y.k ≠ x.k) : dropR (A ++ x :: B) x.k = A ++ B := by
 unfold dropR
 rw [List.filter_append, List.filter_cons_of_neg (by simp)];rw [show A.filter (fun y => decide (y.k ≠ x.k)) = A from dropR_no hA, show B.filter (fun y => decide (y.k ≠ x.k)) = B from dropR_no hB]
theorem drop_nokey (l : List Rw) (k : ByteArray) : ∀ x ∈ dropR l k, x.k ≠ k := fun _ hx => of_decide_eq_true (List.mem_filter.1 hx).2
/-! the map -/
theorem findNow_R (s : ByteArray) : ∀ (rs : List Re) (j : Nat), (∀ f ∈ rs, f.r.k ≠ s) → Instr.findNow .string (.string s) (rs.map entR) j = some none
 | [], _, _ => rfl
 | f :: rs, j, h => by
  have hne : (s == f.r.k) = false := by rw [bb_eq]; exact decide_eq_false (Ne.symm (h f (.head _)))
  have := findNow_R s rs (j + 1) (fun g hg => h g (.tail _ hg))
  simpa [entR, Instr.findNow, Instr.sameNow, hne] using this
theorem findNow_R' (s : ByteArray) (f : Re) (B : List Re) (hf : f.r.k = s) : ∀ (A : List Re) (j : Nat), (∀ g ∈ A, g.r.k ≠ s) → Instr.findNow .string (.string s) ((A ++ f :: B).map entR) j = some (some (j + A.length, rwv f.r))
 | [], j, _ => by
  have : (s == f.r.k) = true := by rw [bb_eq]; exact decide_eq_true hf.symm
  simp [entR, Instr.findNow, Instr.sameNow, this]
 | g :: A, j, h => by
  have hne : (s == g.r.k) = false := by rw [bb_eq]; exact decide_eq_false (Ne.symm (h g (.head _)))
  have := findNow_R' s f B hf A (j + 1) (fun g hg => h g (.tail _ hg))
  simp only [List.cons_append, List.map_cons, List.length_cons] at this ⊢
  rw [show j + (A.length + 1) = j + 1 + A.length by omega, ← this]
  simp [Instr.findNow, entR, Instr.sameNow, hne]
theorem re_split {rs : List Re} {s : ByteArray} (hn : (rs.map (·.r.k)).Nodup) (h : ∃ f ∈ rs, f.r.k = s) : ∃ A f B, rs = A ++ f :: B ∧ f.r.k = s ∧ (∀ g ∈ A, g.r.k ≠ s) ∧ ∀ g ∈ B, g.r.k ≠ s := by
 obtain ⟨f, hf, e⟩ := h;obtain ⟨A, B, rfl⟩ := List.append_of_mem hf;rw [List.map_append, List.map_cons, List.nodup_append] at hn;refine ⟨A, f, B, rfl, e, fun g hg e2 => ?_, fun g hg e2 => ?_⟩
 ·exact hn.2.2 g.r.k (List.mem_map.2 ⟨g, hg, rfl⟩) f.r.k (by simp) (e2.trans e.symm)
 ·exact (List.nodup_cons.1 hn.2.1).1 (List.mem_map.2 ⟨g, hg, e2.trans e.symm⟩)
section
variable {w : World} {r nx : Nat} {rs A B : List Re} {f : Re} {s : ByteArray} {ρ : Operand → Value} {x y u : Operand} {dst : Option Tmp} {ty : TypeId} {pos : String} {aft : Array Edge} {gd : Option (Nat × Bool)}
theorem run_lookR_no (hb : w.heap[r]? = some (.map (eR rs) nx)) (hn : ∀ f ∈ rs, f.r.k ≠ s) (hx : ρ x = .map (some r)) (hy : ρ y = .string s) :
  (execOp ρ ⟨dst, .lookup 71 x y true, ty, pos, aft, gd⟩).run prog w = .ok (.value (.tuple #[.agg #[.string { data := #[] }, .string { data := #[] }], .bool false])) w := by
 have hg : (getObj r).run prog w = .ok (.map (eR rs) nx) w := by simp [getObj, Sem.run, hb]
 have hf : (Instr.findKey 9 (.string s) (eR rs).toList).run prog w = .ok none w := MapKept.run_findKey underlying9 (by simpa [eR] using findNow_R s rs 0 hn)
 simp [execOp, hx, hy, Instr.lookup, run_underlying underlying71, hg, check_txt, hf, Tryz.zeroValue64]
theorem run_lookR_yes (hb : w.heap[r]? = some (.map (eR (A ++ f :: B)) nx)) (hf : f.r.k = s) (hn : ∀ g ∈ A, g.r.k ≠ s) (hx : ρ x = .map (some r)) (hy : ρ y = .string s) :
  (execOp ρ ⟨dst, .lookup 71 x y true, ty, pos, aft, gd⟩).run prog w = .ok (.value (.tuple #[rwv f.r, .bool true])) w := by
 have hg : (getObj r).run prog w = .ok (.map (eR (A ++ f :: B)) nx) w := by simp [getObj, Sem.run, hb]
 have hf : (Instr.findKey 9 (.string s) (eR (A ++ f :: B)).toList).run prog w = .ok (some (0 + A.length, rwv f.r)) w := MapKept.run_findKey underlying9 (findNow_R' s f B hf A 0 hn)
 simp [execOp, hx, hy, Instr.lookup, run_underlying underlying71, hg, check_txt, hf]
theorem run_updR (hb : w.heap[r]? = some (.map (eR rs) nx)) (f : Re) (hn : ∀ g ∈ rs, g.r.k ≠ f.r.k) (hx : ρ x = .map (some r)) (hy : ρ y = .string f.r.k) (hnx : f.bn = nx) (hu : ρ u = rwv f.r) :
  (execOp ρ ⟨dst, .mapUpdate 71 x y u, ty, pos, aft, gd⟩).run prog w = .ok .skip (World.setMap w r (eR (rs ++ [f])) (nx + 1)) := by
 have hf2 : (Instr.findKey 9 (.string f.r.k) (eR rs).toList).run prog w = .ok none w := MapKept.run_findKey underlying9 (by simpa [eR] using findNow_R f.r.k rs 0 hn);have := run_update_new (v := rwv f.r) underlying71 hb (check_txt f.r.k w) hf2;have e : (eR rs).push ⟨.string f.r.k, rwv f.r, nx⟩ = eR (rs ++ [f]) := by simp [eR, entR, hnx]
 rw [e] at this
 simp [execOp, hx, hy, hu, this]
theorem run_delR (hb : w.heap[r]? = some (.map (eR (A ++ f :: B)) nx)) (hf : f.r.k = s) (hn : ∀ g ∈ A, g.r.k ≠ s) (hx : ρ x = .map (some r)) (hy : ρ y = .string s) :
  (execOp ρ ⟨dst, .call { callee := .builtin .delete, args := #[x, y], argTypes := #[71, 9] }, ty, pos, aft, gd⟩).run prog w = .ok (.value (.tuple #[])) (World.setMap w r (eR (A ++ B)) nx) := by
 have hg : (getObj r).run prog w = .ok (.map (eR (A ++ f :: B)) nx) w := by simp [getObj, Sem.run, hb]
 have hs : ∀ o, (setObj r o).run prog w = .ok () { w with heap := w.heap.setIfInBounds r o } := fun o => by simp [setObj, Sem.run, hb]
 have hf : (Instr.findKey 9 (.string s) (eR (A ++ f :: B)).toList).run prog w = .ok (some (A.length, rwv f.r)) w := MapKept.run_findKey underlying9 (by have := findNow_R' s f B hf A 0 hn; rwa [Nat.zero_add] at this);have e : (eR (A ++ f :: B)).eraseIdxIfInBounds A.length = eR (A ++ B) := by
  apply Array.ext'
  simp [eR, List.eraseIdx_append_of_length_le]
 have e2 : (Builtin.delete_ #[71, 9] ty #[.map (some r), .string s]).run prog w = .ok (.tuple #[]) (World.setMap w r (eR (A ++ B)) nx) := by
  simp [Builtin.delete_, run_underlying underlying71, hg, check_txt, hf, hs, e, World.setMap]
 unfold execOp
 simp only [resolve, invoke, builtin, Sem.run_bind, Sem.run_pure, Result.andThen_ok, List.map_toArray, List.map_cons, List.map_nil, hx, hy, e2]
theorem run_lenR (hb : w.heap[r]? = some (.map (eR rs) nx)) (hx : ρ x = .map (some r)) :
  (execOp ρ ⟨dst, .call { callee := .builtin .len, args := #[x], argTypes := #[71] }, ty, pos, aft, gd⟩).run prog w = .ok (.value (i6 rs.length)) w := by
 have hg : (getObj r).run prog w = .ok (.map (eR rs) nx) w := by simp [getObj, Sem.run, hb]
 unfold execOp
 simp [resolve, invoke, builtin, hx, Builtin.len_, run_underlying underlying71, hg, eR, iN, goInt]
end
theorem RK.del {A B : List Re} {f : Re} {nx : Nat} (h : RK (A ++ f :: B) nx) : RK (A ++ B) nx :=
 have sub : (A ++ B).Sublist (A ++ f :: B) := List.Sublist.append_left (List.sublist_cons_self _ _) _
 ⟨(sub.map _).nodup h.nms, fun g hg => h.old g (sub.subset hg), (sub.map _).nodup h.bns⟩
theorem RK.more {rs : List Re} {f : Re} {nx : Nat} (h : RK rs nx) (hn : ∀ g ∈ rs, g.r.k ≠ f.r.k) (hb : f.bn = nx) : RK (rs ++ [f]) (nx + 1) := by
 refine ⟨?_, fun g hg => ?_, ?_⟩
 ·rw [List.map_append, List.nodup_append];exact ⟨h.nms, by simp, fun a ha b hb' e => by
   obtain ⟨g, hg, rfl⟩ := List.mem_map.1 ha;exact hn g hg (by simpa [e] using hb')⟩
 ·rcases List.mem_append.1 hg with hg | hg
  ·exact Nat.lt_succ_of_lt (h.old g hg)
  ·obtain rfl := List.mem_singleton.1 hg; omega
 ·rw [List.map_append, List.nodup_append];exact ⟨h.bns, by simp, fun a ha b hb' e => by
   obtain ⟨g, hg, rfl⟩ := List.mem_map.1 ha;have := h.old g hg;have e2 : b = f.bn := by simpa using hb'
   omega⟩
/-! a store in memory: beside its disk -/
structure Sk where
 q : Nat
 r : Nat
 d : Dk
structure SS where
 D : DS
 rows : List Rw
 size : Nat
def scell (dq r laid size : Nat) : Array Value := #[pt dq, .map (some r), i6 laid, i6 size]
def RH (w0 : World) (m : Nat × MO) (M : ML) (q dq r : Nat) (rows : List Rw) (size : Nat) (L : BL) (w : World) : Prop :=
 ∃ rs nx, rws rs = rows ∧ RK rs nx ∧ HA ⟨w0, m :: (r, .mp (eR rs) nx) :: M⟩ ((q, 73, scell dq r (laidR rows) size) :: L) w
theorem DH.open2 {w0 : World} {M : ML} {d : Dk} {D : DS} {L : BL} {w : World} (h : DH w0 M d D L w) : ∃ (m : Nat × MO) (X : BL), (∀ M' L' w', HA ⟨w0, m :: M'⟩ (L' ++ X) w' → DH w0 M' d D L' w') ∧ HA ⟨w0, m :: M⟩ (L ++ X) w := by
 obtain ⟨fl, nx, v, Lr, h1, h2, h3, H⟩ := h;refine ⟨(d.r, .mp (eF fl) nx), (d.q, 78, dcell d.r D.free D.left D.down v) :: (Lr ++ FB fl), fun M' L' w' H' => ⟨fl, nx, v, Lr, h1, h2, h3, ?_⟩, ?_⟩
 ·refine H'.perm ?_;have := perm_mv L' ((d.q, 78, dcell d.r D.free D.left D.down v) :: (Lr ++ FB fl)) []
  simpa [List.append_assoc] using this
 ·refine H.perm ?_;have := (perm_mv L ((d.q, 78, dcell d.r D.free D.left D.down v) :: (Lr ++ FB fl)) []).symm
  simpa [List.append_assoc] using this
def SH (w0 : World) (M : ML) (s : Sk) (S : SS) (L : BL) (w : World) : Prop :=
 ∃ rs nx, rws rs = S.rows ∧ RK rs nx ∧ DH w0 ((s.r, .mp (eR rs) nx) :: M) s.d S.D ((s.q, 73, scell s.d.q s.r (laidR S.rows) S.size) :: L) w
theorem SH.opn {w0 : World} {M : ML} {s : Sk} {S : SS} {L : BL} {w : World} (h : SH w0 M s S L w) : ∃ (m : Nat × MO) (X : BL), (∀ rows size L' w', RH w0 m M s.q s.d.q s.r rows size (L' ++ X) w' → SH w0 M s ⟨S.D, rows, size⟩ L' w') ∧ RH w0 m M s.q s.d.q s.r S.rows S.size (L ++ X) w := by
 obtain ⟨rs, nx, h1, h2, hD⟩ := h;obtain ⟨m, X, hc, H⟩ := DH.open2 hD;refine ⟨m, X, ?_, rs, nx, h1, h2, H⟩;rintro rows size L' w' ⟨rs', nx', g1, g2, H'⟩;exact ⟨rs', nx', g1, g2, hc _ (_ :: L') w' H'⟩
end Go.Proofs.YtckmlaempffpjaaGreat
namespace Go.Proofs.YtckmlaempffpjaaGreat
set_option linter.unusedVariables false
set_option maxRecDepth 100000
set_option maxHeartbeats 2000000
open Go.RowKit Go.Proofs.Tryz
theorem snone_no {w : World} {q dq r laid size : Nat} (hq : Blk w q 73 (scell dq r laid size)) :
  Calls prog 47 #[pt q] w fun e w' => e = .returned (.bool false) ∧ Below w.heap.size w w' := by
 have H0 := HA.start w
 go_enter Tryz.func47, Tryz.ntmps47
 refine zsr (zv (znt (zsr (zv (zv (zv (zv (zv (zv ?_)))))))));refine zwu (v := .map (some r)) (run_load1 isAgg71 (((hq.keep H0.old.old).cell 1).trans rfl)) ?_;refine zv (zv (zv (znt ?_)));refine wp_ret ?_
 repeat first|refine zrt ?_|refine block_ret ?_
 exact zb ⟨rfl, H0.old.old⟩
theorem rowSize_any (x : Rw) (hk : rsz x ≤ 1000000000000) (w : World) :
  Calls prog 106 #[rwv x] w fun e w' => e = .returned (i6 (rsz x)) ∧ Below w.heap.size w w' := by
 have H0 := HA.start w;have hk2 : 8 + x.k.size + x.v.size ≤ 1000000000000 := hk
 go_enter Tryz.func106, Tryz.ntmps106
 refine zsr ?_;refine wl_make (c := #[.string x.k, .string x.v]) H0 64 ?_;intro q1 w2 h3;refine zv (znt (zsr (zv ?_)));refine zwu (v := .string x.k) (run_load1 isAgg9 (((h3.get 0 rfl).cell 0).trans rfl)) ?_;refine zwu (run_len (s := x.k)) ?_;refine zwu (run_add (k := .i64) (a := 4) (b := x.k.size) (by first | omega | (simp only [top]; omega))) ?_;refine zwu (run_add (k := .i64) (a := 4 + x.k.size) (b := 4) (by first | omega | (simp only [top]; omega))) ?_;refine zv ?_;refine zwu (v := .string x.v) (run_load1 isAgg9 (((h3.get 0 rfl).cell 1).trans rfl)) ?_;refine zwu (run_len (s := x.v)) ?_;refine zwu (run_add (k := .i64) (a := (4 + x.k.size) + 4) (b := x.v.size) (by first | omega | (simp only [top]; omega))) ?_;refine zv (znt ?_);refine wp_ret ?_
 repeat first|refine zrt ?_|refine block_ret ?_
 exact zb (v := i6 (4 + x.k.size + 4 + x.v.size)) ⟨by rw [show rsz x = 4 + x.k.size + 4 + x.v.size by unfold rsz; omega], h3.old.old⟩
theorem count_any {po do_ : Option Addr} {pc dc : Nat} {ps : List Rw} {ds : List ByteArray} (hp : ps.length ≤ 1000000000) (hd : ds.length ≤ 1000000000) (w : World) :
  Calls prog 52 #[.agg #[.slice po ps.length pc, .slice do_ ds.length dc]] w fun e w' => e = .returned (i6 (ps.length + ds.length)) ∧ Below w.heap.size w w' := by
 have H0 := HA.start w
 go_enter Tryz.func52, Tryz.ntmps52
 refine zsr ?_;refine wl_make (c := #[.slice po ps.length pc, .slice do_ ds.length dc]) H0 100 ?_;intro q1 w2 h3;refine zv (znt (zsr (zv ?_)));refine zwu (v := .slice po ps.length pc) (run_load1 isAgg30 (((h3.get 0 rfl).cell 0).trans rfl)) ?_;refine zv (zv ?_);refine zwu (v := .slice do_ ds.length dc) (run_load1 isAgg39 (((h3.get 0 rfl).cell 1).trans rfl)) ?_;refine zv ?_;refine zwu (run_add (k := .i64) (a := ps.length) (b := ds.length) (by first | omega | (simp only [top]; omega))) ?_;refine zv (znt ?_);refine wp_ret ?_
 repeat first|refine zrt ?_|refine block_ret ?_
 exact zb ⟨rfl, h3.old.old⟩
theorem slen_any {w : World} {q dq r size nx : Nat} {rs : List Re} {laid : Nat} (hq : Blk w q 73 (scell dq r laid size)) (hm : w.heap[r]? = some (.map (eR rs) nx)) :
  Calls prog 26 #[pt q] w fun e w' => e = .returned (i6 rs.length) ∧ Below w.heap.size w w' := by
 have H0 := HA.start w
 go_enter Tryz.func26, Tryz.ntmps26
 refine zsr (zv (znt (wp_seq (zsr (zv ?_)))));refine wl_call (v := .bool false) H0 enter47 #[pq q] (snone_no (hq.keep H0.old.old)) ?_;intro w1 h2;refine znt (zcf (wp_skip (zt (zsr (zv (zv (zv ?_)))))));refine zwu (v := .map (some r)) (run_load1 isAgg71 (((hq.keep h2.old.old).cell 1).trans rfl)) ?_;refine zwu (run_lenR ((h2.old.old.block _ (lt_of_block hm)).trans hm) (by kernel_rfl)) ?_;refine zv (znt ?_);refine wp_ret ?_
 repeat first|refine zrt ?_|refine block_ret ?_
 exact zb ⟨rfl, h2.old.old⟩
theorem psize_any {w : World} {q dq r size nx : Nat} {rs : List Re} {laid : Nat} (hq : Blk w q 73 (scell dq r laid size)) (hm : w.heap[r]? = some (.map (eR rs) nx)) (hn : rs.length ≤ 1000000000) (hl : laid ≤ 1000000000000) :
  Calls prog 53 #[pt q] w fun e w' => e = .returned (i6 (laid + (rs.length + 63) / 64 * 8)) ∧ Below w.heap.size w w' := by
 have H0 := HA.start w
 go_enter Tryz.func53, Tryz.ntmps53
 refine zsr (zv (znt (zsr (zv (zv (zv ?_))))));refine zwu (v := .map (some r)) (run_load1 isAgg71 (((hq.keep H0.old.old).cell 1).trans rfl)) ?_;refine zwu (run_lenR ((H0.old.old.block _ (lt_of_block hm)).trans hm) (by kernel_rfl)) ?_;refine zwu (run_add (k := .i64) (a := rs.length) (b := 64) (by first | omega | (simp only [top]; omega))) ?_;refine zwu (v := i6 ((rs.length + 64) - 1)) (run_sub (k := .i64) (a := rs.length + 64) (b := 1) (by first | omega | (simp only [top]; omega)) (by first | omega | (simp only [top]; omega))) ?_;refine zwu (run_quo (k := .i64) (a := (rs.length + 64) - 1) (b := 64) (by kernel_rfl) (by kernel_rfl) (by decide) (by simp only [top]; omega)) ?_;refine zv (znt (zsr (zv (zv (zv ?_)))));refine zwu (v := i6 laid) (run_load1 isAgg3 (((hq.keep H0.old.old).cell 2).trans rfl)) ?_;refine zv ?_;refine zwu (run_mul (k := .i64) (a := ((rs.length + 64) - 1) / 64) (b := 8) (by first | omega | (simp only [top]; omega))) ?_;refine zwu (run_add (k := .i64) (a := laid) (b := (((rs.length + 64) - 1) / 64) * 8) (by first | omega | (simp only [top]; omega))) ?_;refine zv (znt ?_);refine wp_ret ?_
 repeat first|refine zrt ?_|refine block_ret ?_
 exact zb (v := i6 (laid + (rs.length + 64 - 1) / 64 * 8)) ⟨by rw [show rs.length + 64 - 1 = rs.length + 63 by omega], H0.old.old⟩
theorem rws_app (A B : List Re) : rws (A ++ B) = rws A ++ rws B := by simp [rws]
theorem rws_cons (f : Re) (B : List Re) : rws (f :: B) = f.r :: rws B := rfl
theorem rws_mem {rs : List Re} {x : Rw} : x ∈ rws rs ↔ ∃ f ∈ rs, f.r = x := by simp [rws]
theorem sdrop_no {w0 : World} {m : Nat × MO} {M : ML} {q dq r size : Nat} {L : BL} {w : World} {rs : List Re} {nx : Nat} {rows : List Rw} (h1 : rws rs = rows) (hK : RK rs nx) (H0 : HA ⟨w0, m :: (r, .mp (eR rs) nx) :: M⟩ ((q, 73, scell dq r (laidR rows) size) :: L) w) (key : ByteArray) (hn : ∀ f ∈ rs, f.r.k ≠ key) :
  Calls prog 105 #[pt q, .string key] w fun e w' => e = .returned (.tuple #[]) ∧ RH w0 m M q dq r (dropR rows key) size L w' := by
 go_enter Tryz.func105, Tryz.ntmps105
 refine zsr (zv (zv (zv ?_)));refine zwu (v := .map (some r)) (run_load1 isAgg71 (((H0.get 0 rfl).cell 1).trans rfl)) ?_;refine zv ?_;refine zwu (run_lookR_no (H0.old.maps _ (mc (List.mem_cons_self ..))) hn (by kernel_rfl) (by kernel_rfl)) ?_;refine zv (zv (zv ?_));refine wl_make (c := #[.string ({ data := #[] }), .string ({ data := #[] })]) H0 64 ?_;intro q1 w2 h3;refine wl_fill (c' := #[.string { data := #[] }, .string { data := #[] }]) h3 0 rfl rfl ?_;intro w4 h5;refine zv (znt (zsr (zv (znt (zcf (wp_skip ?_))))));exact bodyPost_end (v := .tuple #[]) (by kernel_rfl) rfl ⟨rfl, rs, nx, by rw [dropR_no (fun x hx => by rw [← h1] at hx; obtain ⟨f, hf, rfl⟩ := rws_mem.1 hx; exact hn f hf)]; exact h1, hK, by rw [dropR_no (fun x hx => by rw [← h1] at hx; obtain ⟨f, hf, rfl⟩ := rws_mem.1 hx; exact hn f hf)]; exact h5.tl⟩
theorem sdrop_yes {w0 : World} {m : Nat × MO} {M : ML} {q dq r size : Nat} {L : BL} {w : World} {A B : List Re} {f : Re} {nx : Nat} {rows : List Rw} (h1 : rws (A ++ f :: B) = rows) (hK : RK (A ++ f :: B) nx) (H0 : HA ⟨w0, m :: (r, .mp (eR (A ++ f :: B)) nx) :: M⟩ ((q, 73, scell dq r (laidR rows) size) :: L) w) (key : ByteArray) (hf : f.r.k = key) (hA : ∀ g ∈ A, g.r.k ≠ key) (hB : ∀ g ∈ B, g.r.k ≠ key) (hla : laidR rows ≤ 1000000000000) :
  Calls prog 105 #[pt q, .string key] w fun e w' => e = .returned (.tuple #[]) ∧ RH w0 m M q dq r (dropR rows key) size L w' := by
 have hdr : dropR rows key = rws (A ++ B) := by
  rw [← h1, rws_app, rws_app, rws_cons, ← hf];exact dropR_yes (fun y hy => by obtain ⟨g, hg, rfl⟩ := rws_mem.1 hy; rw [hf]; exact hA g hg) (fun y hy => by obtain ⟨g, hg, rfl⟩ := rws_mem.1 hy; rw [hf]; exact hB g hg)
 have hl1 : laidR rows = rsz f.r + laidR (rws (A ++ B)) := by
  rw [← h1, rws_app, rws_app, rws_cons, laid_app, laid_app]
  show _ + laidR ([f.r] ++ rws B) = _
  rw [laid_app]
  simp only [laidR, List.map_cons, List.map_nil, List.sum_cons, List.sum_nil]
  omega
 have hl2 : laidR (rws (A ++ B)) = laidR rows - rsz f.r := by omega
 go_enter Tryz.func105, Tryz.ntmps105
 refine zsr (zv (zv (zv ?_)));refine zwu (v := .map (some r)) (run_load1 isAgg71 (((H0.get 0 rfl).cell 1).trans rfl)) ?_;refine zv ?_;refine zwu (run_lookR_yes (H0.old.maps _ (mc (List.mem_cons_self ..))) hf hA (by kernel_rfl) (by kernel_rfl)) ?_;refine zv (zv (zv ?_));refine wl_make (c := #[.string ({ data := #[] }), .string ({ data := #[] })]) H0 64 ?_;intro q1 w2 h3;refine wl_fill (c' := #[.string f.r.k, .string f.r.v]) h3 0 rfl rfl ?_;intro w4 h5;refine zv (znt (zsr (zv (znt (zct (wp_seq ?_))))));refine zxr (HA ⟨w0, m :: (r, .mp (eR (A ++ f :: B)) nx) :: M⟩ ((q1, 64, #[.string f.r.k, .string f.r.v]) :: (q, 73, scell dq r ((laidR rows)) size) :: L)) (fun Z0 AQ w' => AQ = pts Z0 [(16, pt q), (17, pt q), (18, .pointer (some ⟨q, 2, none⟩)), (19, i6 ((laidR rows))), (20, .agg (#[.string f.r.k, .string f.r.v])), (21, i6 (rsz f.r)), (22, i6 (((laidR rows)) - (rsz f.r))), (23, pt q), (24, .pointer (some ⟨q, 2, none⟩))] ∧ HA ⟨w0, m :: (r, .mp (eR (A ++ f :: B)) nx) :: M⟩ ((q1, 64, #[.string f.r.k, .string f.r.v]) :: (q, 73, #[pq dq, .map (some r), i6 (((laidR rows)) - (rsz f.r)), i6 size]) :: L) w') 10 (h5.drew) ?_ ?_
 ·have h6 := h5.drew;refine zxp 0 rfl ?_;refine zxp 1 rfl ?_;refine zxp 2 rfl ?_;refine wx_val (i := 3) (i6 ((laidR rows))) rfl rfl (fun w' h' => run_load1 isAgg3 (((h'.get 1 rfl).cell 2).trans rfl)) ?_;refine wx_val (i := 4) (.agg (#[.string f.r.k, .string f.r.v])) rfl rfl (fun w' h' => run_load_blk (h'.get 0 rfl) underlying64 rfl) ?_;refine wx_call (i := 5) (i6 (rsz f.r)) (fun _ _ h hb => HA.keep _ _ h hb) rfl rfl enter106 #[.agg (#[.string f.r.k, .string f.r.v])] (fun w' h' => rowSize_any f.r (by omega) w') ?_;refine wx_pure (i := 6) (i6 (((laidR rows)) - (rsz f.r))) rfl rfl (hr := (fun _ => (run_sub (k := .i64) (a := (laidR rows)) (b := rsz f.r) (by first | omega | (simp only [top]; omega)) (by first | omega | (simp only [top]; omega))))) ?_;refine zxp 7 rfl ?_;refine zxp 8 rfl ?_;refine wx_one 9 ?_;refine ex_skip rfl h6 fun w7 h8 => ⟨_, run_storev (v := i6 (((laidR rows)) - (rsz f.r))) sizeOf3 (by rw [(h8.get 1 rfl).cell]; rfl) ((h8.get 1 rfl).free _ (by show 2 < 4; decide)), _, h8.put 1 rfl 2 _, ?_⟩
  have h9 : HA ⟨w0, m :: (r, .mp (eR (A ++ f :: B)) nx) :: M⟩ ((q1, 64, #[.string f.r.k, .string f.r.v]) :: (q, 73, #[pq dq, .map (some r), i6 (((laidR rows)) - (rsz f.r)), i6 size]) :: L) _ := h8.put 1 rfl 2 (i6 (((laidR rows)) - (rsz f.r)));refine wx_end fun w10 hbx _ => ?_
  have h11 := HA.keep _ _ h9 hbx;exact ⟨by kernel_rfl, h11⟩
 ·rintro _ w12 ⟨rfl, h13⟩;refine zt (wl_region (zv (zv (zv ?_))));refine zwu (v := .map (some r)) (run_load1 isAgg71 (((h13.get 1 rfl).cell 1).trans rfl)) ?_;refine zv ?_;refine wl_any (by kernel_rfl) (run_delR (h13.old.maps _ (mc (List.mem_cons_self ..))) hf hA (by kernel_rfl) (by kernel_rfl)) ?_;have h14 := h13.setMap 1 (es' := eR (A ++ B)) (c' := nx) rfl
  change HA ⟨w0, m :: (r, .mp (eR (A ++ B)) nx) :: M⟩ _ _ at h14
  generalize World.setMap w12 r (eR (A ++ B)) nx = w15 at h14 ⊢;refine wl_nil ?_;exact bodyPost_end (v := .tuple #[]) (by kernel_rfl) rfl ⟨rfl, A ++ B, nx, hdr.symm, hK.del, by rw [hdr, hl2] at *; exact h14.tl⟩
theorem sdrop_any {w0 : World} {m : Nat × MO} {M : ML} {q dq r size : Nat} {L : BL} {w : World} {rows : List Rw} (h : RH w0 m M q dq r rows size L w) (key : ByteArray) (hla : laidR rows ≤ 1000000000000) :
  Calls prog 105 #[pt q, .string key] w fun e w' => e = .returned (.tuple #[]) ∧ RH w0 m M q dq r (dropR rows key) size L w' := by
 obtain ⟨rs, nx, h1, hK, H⟩ := h
 by_cases hk : ∃ f ∈ rs, f.r.k = key
 ·obtain ⟨A, f, B, rfl, hf, hA, hB⟩ := re_split hK.nms hk;exact sdrop_yes h1 hK H key hf hA hB hla
 ·exact sdrop_no h1 hK H key (fun f hf e => hk ⟨f, hf, e⟩)
end Go.Proofs.YtckmlaempffpjaaGreat
namespace Go.Proofs.YtckmlaempffpjaaGreat
open Go.RowKit Go.Proofs.Tryz
theorem HA.join {z : Base} {L N : BL} {M : ML} {w w' : World} (H : HA z L w) (K : HA ⟨w, M⟩ N w') : HA ⟨z.w, M ++ z.M⟩ (N ++ L) w' := by
 have H' := H.keep _ _ K.old.old;have hz := H.size;refine ⟨⟨H'.old.old, fun m hm => ?_, fun m hm => ?_, ?_⟩, fun x hx => ?_, fun x hx => ?_, ?_⟩
 ·rcases List.mem_append.1 hm with hm | hm
  ·exact K.old.maps m hm
  ·exact H'.old.maps m hm
 ·rcases List.mem_append.1 hm with hm | hm
  ·exact Nat.le_trans hz (K.old.mown m hm)
  ·exact H.old.mown m hm
 ·rw [List.map_append, List.nodup_append];refine ⟨K.old.mnd, H.old.mnd, fun a ha b hb e => ?_⟩;obtain ⟨m, hm, rfl⟩ := List.mem_map.1 ha;obtain ⟨n, hn, rfl⟩ := List.mem_map.1 hb;have h1 := lt_of_block (H.old.maps n hn);have h2 := K.old.mown m hm
  simp only at h2
  omega
 ·rcases List.mem_append.1 hx with hx | hx
  ·exact K.blk x hx
  ·exact H'.blk x hx
 ·rcases List.mem_append.1 hx with hx | hx
  ·exact Nat.le_trans hz (K.own x hx)
  ·exact H.own x hx
 ·rw [List.map_append, List.nodup_append];refine ⟨K.nd, H.nd, fun a ha b hb e => ?_⟩;obtain ⟨m, hm, rfl⟩ := List.mem_map.1 ha;obtain ⟨n, hn, rfl⟩ := List.mem_map.1 hb;have h1 := (H.blk n hn).lt;have h2 : w.heap.size ≤ m.1 := K.own m hm
  omega
section
variable {P : Program} {ops : Array Oper} {S : World → Prop} {J : Act → World → Prop} {n : Nat} {l lp : List Nat} {a : Act} {w : World} {z : Base} {L : BL} {i : Nat}
theorem ex_skipT {o : Oper} (ho : ops.toList[i]? = some o)  (H : HA z L w)
  (h : ∀ w1, HA z L w1 → ∃ w', (execOp a.eval o).run P w1 = .ok .skip w' ∧ S w' ∧ WXS P ops J n S (i :: l) lp (a.put o.dst undef) w') (hw : Region.wanted o (yielded ops a.tmps) = true := by kernel_rfl) : EX P ops J n S l lp i a w := ⟨fun x hx => by
 rw [lget ho] at hx
 cases hx
 refine ⟨hw, fun w1 hb1 _ => ?_⟩;obtain ⟨w', hr, hS', hK⟩ := h w1 (HA.keep _ _ H hb1)
 unfold Oper.wp
 rw [hr];exact ⟨⟨_, rfl⟩, S, .inr rfl, hS', hK.go⟩⟩
theorem ex_makeS {o : Oper} {c : Array Value} (ho : ops.toList[i]? = some o)  (H : HA z L w) (t : TypeId)
  
  (h : ∀ q w', HA z ((q, t, c) :: L) w' → S w' ∧ WXS P ops J n S (i :: l) lp (a.put o.dst (pq q)) w') (hw : Region.wanted o (yielded ops a.tmps) = true := by kernel_rfl) (hr : ∀ w, (execOp a.eval o).run P w = .ok (.value (pq w.heap.size)) (w.alloc (.cells c t)) := by intro _; kernel_rfl) : EX P ops J n S l lp i a w := ⟨fun x hx => by
 rw [lget ho] at hx
 cases hx
 refine ⟨hw, fun w1 hb1 _ => ?_⟩;obtain ⟨hS', hK⟩ := h w1.heap.size _ ((HA.keep _ _ H hb1).make t c)
 unfold Oper.wp
 rw [hr];exact ⟨⟨_, rfl⟩, S, .inr rfl, hS', hK.go⟩⟩
end
end Go.Proofs.YtckmlaempffpjaaGreat
