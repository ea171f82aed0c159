/-
 Rows as they came, and in the order of their keys: both say the same.
-/
import Derived.Test.YtckmlaempffpjaaGreatQ9
import Derived.Test.YtckmlaempffpjaaGreatGRQ
namespace Go.Proofs.YtckmlaempffpjaaGreat
open Go.RowKit Go.Proofs.Tryz
def SrtO (o : List Rw) : Prop := o.Pairwise fun a b => bl a.k < bl b.k
structure Sr (l o : List Rw) : Prop where
 prm : o.Perm l
 srt : SrtO o
def insL : List Rw → Rw → List Rw
 | [], x => [x]
 | y :: l, x => if bl x.k < bl y.k then x :: y :: l else y :: insL l x
theorem fold_on (x : Rw) : ∀ (l acc : List Rw), l.foldl (stpO x) (acc, true) = (acc ++ l, true)
 | [], acc => by rw [List.foldl_nil, List.append_nil]
 | y :: l, acc => by
  rw [List.foldl_cons];have e : stpO x (acc, true) y = (acc ++ [y], true) := by unfold stpO; rw [if_neg (fun h => Bool.noConfusion h.1)]
  rw [e, fold_on x l, List.append_assoc]
  rfl
theorem fold_in (x : Rw) : ∀ (l acc : List Rw), (if (l.foldl (stpO x) (acc, false)).2 = true then (l.foldl (stpO x) (acc, false)).1 else (l.foldl (stpO x) (acc, false)).1 ++ [x]) = acc ++ insL l x
 | [], acc => by rw [List.foldl_nil, if_neg (fun h => Bool.noConfusion h)]; rfl
 | y :: l, acc => by
  rw [List.foldl_cons, insL]
  by_cases h : bl x.k < bl y.k
  ·have e : stpO x (acc, false) y = (acc ++ [x] ++ [y], true) := by unfold stpO; rw [if_pos ⟨rfl, h⟩]
   rw [e, fold_on, if_pos rfl, if_pos h]
   simp
  ·have e : stpO x (acc, false) y = (acc ++ [y], false) := by unfold stpO; rw [if_neg (fun h2 => h h2.2)]
   rw [e, fold_in x l, if_neg h]
   simp
theorem insO_eq (l : List Rw) (x : Rw) : insO l x = insL l x := by
 have := fold_in x l [];rw [List.nil_append] at this;exact this
theorem insL_mem {x y : Rw} : ∀ {l : List Rw}, y ∈ insL l x → y = x ∨ y ∈ l
 | [], h => .inl (List.mem_singleton.1 h)
 | z :: l, h => by
  rw [insL] at h
  split at h
  ·exact (List.mem_cons.1 h)
  ·rcases List.mem_cons.1 h with h | h
   ·exact .inr (by rw [h]; exact List.mem_cons_self ..)
   ·exact (insL_mem h).imp id (List.mem_cons_of_mem _)
theorem insL_perm (x : Rw) : ∀ l : List Rw, (insL l x).Perm (l ++ [x])
 | [] => List.Perm.refl _
 | y :: l => by
  rw [insL]
  split
  ·exact (List.perm_append_singleton x (y :: l)).symm
  ·exact List.Perm.cons _ (insL_perm x l)
theorem insL_srt {x : Rw} : ∀ {l : List Rw}, SrtO l → (∀ y ∈ l, y.k ≠ x.k) → SrtO (insL l x)
 | [], _, _ => List.pairwise_singleton _ _
 | y :: l, h, hn => by
  obtain ⟨h1, h2⟩ := List.pairwise_cons.1 h;rw [insL]
  split
  ·rename_i hlt
   refine List.pairwise_cons.2 ⟨fun z hz => ?_, h⟩
   rcases List.mem_cons.1 hz with rfl | hz
   ·exact hlt
   ·exact Std.lt_trans hlt (h1 z hz)
  ·rename_i hge
   refine List.pairwise_cons.2 ⟨fun z hz => ?_, insL_srt h2 (fun z hz => hn z (mc hz))⟩
   rcases insL_mem hz with rfl | hz
   ·exact lt_of_ge_ne hge (fun e => hn y (List.mem_cons_self ..) e.symm)
   ·exact h1 z hz
theorem Sr.drop {l o : List Rw} (h : Sr l o) (k : ByteArray) : Sr (dropR l k) (dropR o k) := ⟨h.prm.filter _, List.Pairwise.filter _ h.srt⟩
theorem drop_none (l : List Rw) (k : ByteArray) : ∀ y ∈ dropR l k, y.k ≠ k := fun y hy => by
 have := (List.mem_filter.1 hy).2
 simpa using this
theorem Sr.put {l o : List Rw} (h : Sr l o) (x : Rw) : Sr (putR l x) (withO o x) := by
 unfold withO putR
 rw [insO_eq];have h2 := h.drop x.k;exact ⟨(insL_perm x _).trans (h2.prm.append_right [x]), insL_srt h2.srt (drop_none o x.k)⟩
theorem Sr.puts {l o : List Rw} (ps : List Rw) (h : Sr l o) : Sr (putsR l ps) (ps.foldl withO o) := by
 induction ps generalizing l o with
 | nil => exact h
 | cons x ps ih => exact ih (h.put x)
theorem Sr.dels {l o : List Rw} (ds : List ByteArray) (h : Sr l o) : Sr (delsR l ds) (ds.foldl dropR o) := by
 induction ds generalizing l o with
 | nil => exact h
 | cons x ds ih => exact ih (h.drop x)
theorem Sr.chg {l o : List Rw} (h : Sr l o) (ps : List Rw) (ds : List ByteArray) : Sr (applyR l ps ds) (chgO o ps ds) := (h.puts ps).dels ds
theorem Sr.nil : Sr [] [] := ⟨List.Perm.refl _, List.Pairwise.nil⟩
theorem Sr.len {l o : List Rw} (h : Sr l o) : o.length = l.length := h.prm.length_eq
theorem Sr.laid {l o : List Rw} (h : Sr l o) : laidR o = laidR l := by unfold laidR; exact (h.prm.map rsz).sum_nat
theorem Sr.kyl {l o : List Rw} (h : Sr l o) : keyL l = o.map fun x => bl x.k := by
 unfold keyL
 have hp : (l.map fun x => bl x.k).Perm (o.map fun x => bl x.k) := (h.prm.map _).symm;rw [mergeSort_of_perm hp];refine List.mergeSort_of_pairwise ?_;rw [List.pairwise_map];exact h.srt.imp fun {a b} hab => decide_eq_true (Std.le_of_lt hab)
theorem Sr.lst {l o : List Rw} (h : Sr l o) (p : ByteArray) : lstR l p = (lsO o p).map bl := by
 unfold lstR lsO
 have hp : ((l.filter fun x => pfx x.k p).map fun x => bl x.k).Perm ((o.filter fun x => pfx x.k p).map fun x => bl x.k) := ((h.prm.filter _).map _).symm;rw [mergeSort_of_perm hp, List.map_map];refine List.mergeSort_of_pairwise ?_;rw [List.pairwise_map];exact (List.Pairwise.filter _ h.srt).imp fun {a b} hab => decide_eq_true (Std.le_of_lt hab)
theorem SrtO.nd {o : List Rw} (h : SrtO o) : o.Pairwise fun a b => a.k ≠ b.k := h.imp fun {a b} hab e => by
 rw [e] at hab;exact absurd hab (List.lt_irrefl _)
theorem find_key {l : List Rw} (h : l.Pairwise fun a b => a.k ≠ b.k) {x : Rw} (hx : x ∈ l) : l.find? (fun y => decide (y.k = x.k)) = some x := by
 induction l with
 | nil => cases hx
 | cons y l ih =>
  obtain ⟨h1, h2⟩ := List.pairwise_cons.1 h;rw [List.find?_cons]
  rcases List.mem_cons.1 hx with rfl | hx
  ·rw [decide_eq_true rfl]
  ·rw [decide_eq_false (h1 x hx)];exact ih h2 hx
theorem Sr.ndl {l o : List Rw} (h : Sr l o) : l.Pairwise fun a b => a.k ≠ b.k := (h.prm.pairwise_iff (fun hab e => hab e.symm)).1 h.srt.nd
theorem Sr.find {l o : List Rw} (h : Sr l o) (k : ByteArray) : l.find? (fun y => decide (y.k = k)) = o.find? (fun y => decide (y.k = k)) := by
 cases ho : o.find? (fun y => decide (y.k = k)) with
 | none =>
  rw [List.find?_eq_none] at ho ⊢;exact fun y hy => ho y (h.prm.mem_iff.2 hy)
 | some x =>
  have hm := List.mem_of_find?_eq_some ho;have hk : x.k = k := by have := List.find?_some ho; simpa using this
  rw [← hk];exact find_key h.ndl (h.prm.mem_iff.1 hm)
theorem Sr.get {l o : List Rw} (h : Sr l o) (k : ByteArray) : getR l k = getR o k := by unfold getR; rw [h.find k]
theorem Sr.ord {l o : List Rw} (h : Sr l o) : ordR l = o := by
 unfold ordR kys
 rw [h.kyl, List.map_map, List.map_map];have e : ∀ x ∈ o, (rowOf l ∘ (fun b => (⟨b.toArray⟩ : ByteArray)) ∘ fun x => bl x.k) x = x := fun x hx => by
  show rowOf l ⟨(bl x.k).toArray⟩ = x
  have e1 : (⟨(bl x.k).toArray⟩ : ByteArray) = x.k := by simp [bl]
  rw [e1, rowOf, find_key h.ndl (h.prm.mem_iff.1 hx)]
  rfl
 exact (List.map_congr_left (g := id) e).trans (List.map_id _)
theorem Sr.pack {l o : List Rw} (h : Sr l o) : packB l = pkB o := by
 unfold packB packL packK pkB pkO
 rw [h.ord, h.len]
theorem Sr.rpl {l o : List Rw} : ∀ (n : Nat) (us : List UInt8), Sr l o → Sr (rplF n l us).1 (rplO n o us).1 ∧ (rplO n o us).2 = (rplF n l us).2
 | 0, us, h => ⟨h, rfl⟩
 | n + 1, us, h => by
  rw [rplF, rplO]
  split
  ·exact ⟨h, rfl⟩
  ·split
   ·exact ⟨h, rfl⟩
   ·exact Sr.rpl n _ (h.chg _ _)
theorem rpl_same (log : ByteArray) : Sr (rplB log).1 (rplP log).1 ∧ (rplP log).2 = (rplB log).2 := Sr.rpl _ _ Sr.nil
end Go.Proofs.YtckmlaempffpjaaGreat
namespace Go.Proofs.YtckmlaempffpjaaGreat
set_option linter.unusedVariables false
set_option maxRecDepth 100000
set_option maxHeartbeats 2000000
open Go.RowKit Go.Proofs.Tryz
theorem removeNew_B {w0 : World} {M : ML} {s : Sk} {S : SS} {L : BL} {w : World} (h : SH w0 M s S L w) {R N : Nat} (hg : DB S.D R N) (hN : N ≤ 100000000) :
  Calls prog 94 #[pt s.q] w fun e w' => e = .returned (i6 (rmN S.D).2) ∧ SH w0 M s ⟨(rmN S.D).1, S.rows, S.size⟩ L w' := by
 obtain ⟨rs, nx, hrs, hK, hD0⟩ := h;obtain ⟨z, X, hcl, hbe, H00⟩ := DH.front hD0;have H0 : HA z ((s.q, 73, scell s.d.q s.r (laidR S.rows) S.size) :: (L ++ X)) w := H00
 go_enter Tryz.func94, Tryz.ntmps94
 refine zsr (zv (znt (wp_seq (zsr (zv (zv (zv ?_)))))));refine zwu (v := pq s.d.q) (run_load1 isAgg23 (((H0.get 0 rfl).cell 0).trans rfl)) ?_;refine wl_callx enter38 #[pq s.d.q, .string nN] (List_any (hcl ((s.q, 73, scell s.d.q s.r ((laidR S.rows)) S.size) :: L) _ H0) nN hg (by omega)) ?_;rintro _ w1 ⟨vl, Ll, rfl, hRl, hLl⟩;refine ⟨_, rfl, ?_⟩;obtain ⟨pl, cl, rfl⟩ := hRl.form;have h2 := HA.keep _ _ H0 hLl.old.old;have hk9 := (Row.keys (w := w1) (o := pl) (c := cl) (ds := (listD S.D nN).map fun b => (⟨b.toArray⟩ : ByteArray)) (by rw [← list_names, List.length_map]; exact hRl) (fun y hy => hLl.blk y hy));have hln9 : (listD S.D nN).length = ((listD S.D nN).map fun b => (⟨b.toArray⟩ : ByteArray)).length := by rw [List.length_map]
 refine wl_call (v := .bool ((hasN S.D))) h2 enter129 #[.slice pl (listD S.D nN).length cl, .string nN] (by have h9 := contains_any (c := cl) hk9 (by rw [List.length_map]; have := list_len S.D nN; have := hg.ct; omega) nN; rw [list_has, ← hln9] at h9; exact h9) ?_;intro w3 h4;refine zv (wl_nil ?_)
 cases hhas : hasN S.D
 ·refine zta ⟨(pt s.q :: un :: i6 0 :: pt s.q :: pt s.q :: pt s.q :: pt s.d.q :: .slice pl (listD S.D nN).length cl :: .bool false :: .bool true :: List.replicate 5 un).toArray, []⟩ ?_;refine zct (zsr (zv (znt ?_)));refine wp_ret ?_
  repeat first|refine zrt ?_|refine block_ret ?_
  exact zb (v := i6 0) ⟨by rw [rmN, if_neg (by rw [hhas]; decide)], by rw [rmN, if_neg (by rw [hhas]; decide)]; exact ⟨rs, nx, hrs, hK, (hcl ((s.q, 73, scell s.d.q s.r ((laidR S.rows)) S.size) :: L) _ h4)⟩⟩
 ·refine zta ⟨(pt s.q :: un :: i6 0 :: pt s.q :: pt s.q :: pt s.q :: pt s.d.q :: .slice pl (listD S.D nN).length cl :: .bool true :: .bool false :: List.replicate 5 un).toArray, []⟩ ?_;refine zcf (wp_skip (zt (zsr (zv (zv (zv ?_))))));refine zwu (v := pq s.d.q) (run_load1 isAgg23 (((h4.get 0 rfl).cell 0).trans rfl)) ?_;refine wl_callx enter49 #[pq s.d.q, .string nN] (Remove_any (hcl ((s.q, 73, scell s.d.q s.r ((laidR S.rows)) S.size) :: L) _ h4) nN hg (by omega)) ?_;rintro _ w7 ⟨rfl, hD5⟩;refine ⟨_, rfl, ?_⟩;have hg6 := Remove_DB hg nN;obtain ⟨z8, X9, hcl10, hbe11, h12⟩ := DH.front hD5;have h13 : HA z8 ((s.q, 73, scell s.d.q s.r ((laidR S.rows)) S.size) :: (L ++ X9)) w7 := h12;refine zv (znt ?_);refine wp_ret ?_
  repeat first|refine zrt ?_|refine block_ret ?_
  exact zb (v := i6 (RemoveD S.D nN).2) ⟨by rw [rmN, if_pos hhas], by rw [rmN, if_pos hhas]; exact ⟨rs, nx, hrs, hK, (hcl10 ((s.q, 73, scell s.d.q s.r ((laidR S.rows)) S.size) :: L) _ h13)⟩⟩
theorem lay_B {w0 : World} {M : ML} {s : Sk} {S : SS} {L : BL} {w : World} (h : SH w0 M s S L w) {R N : Nat} (hg : DB S.D R N) (hN : N ≤ 100000000) (fr : ByteArray) (hR : R + fr.size ≤ 1000000000) :
  Calls prog 45 #[pt s.q, .string fr] w fun e w' => e = .returned (i6 (layD S.D fr).2) ∧ SH w0 M s ⟨(layD S.D fr).1, S.rows, if (layD S.D fr).2 = 0 then fr.size else S.size⟩ L w' := by
 obtain ⟨rs, nx, hrs, hK, hD0⟩ := h;obtain ⟨z, X, hcl, hbe, H00⟩ := DH.front hD0;have H0 : HA z ((s.q, 73, scell s.d.q s.r (laidR S.rows) S.size) :: (L ++ X)) w := H00
 go_enter Tryz.func45, Tryz.ntmps45
 refine zsr (zv (znt (wp_seq (zsr (zv ?_)))));refine wl_callx enter94 #[pq s.q] (removeNew_B ⟨rs, nx, hrs, hK, (hcl ((s.q, 73, scell s.d.q s.r ((laidR S.rows)) S.size) :: L) _ H0)⟩ hg (by omega)) ?_;rintro _ w1 ⟨rfl, hR1⟩;refine ⟨_, rfl, ?_⟩;obtain ⟨rs, nx, hrs, hK, hD1⟩ := hR1;have hg1 := rm_DB hg;obtain ⟨z2, X3, hcl4, hbe5, h6⟩ := DH.front hD1;have h7 : HA z2 ((s.q, 73, scell s.d.q s.r ((laidR S.rows)) S.size) :: (L ++ X3)) w1 := h6;refine zv (znt (wp_seq ?_))
 by_cases hc1 : (rmN S.D).2 ≠ 0
 ·refine wl_region (zv ?_);refine zwu (run_nei (k := .i64) (a := (rmN S.D).2) (b := 0) true (dt hc1)) ?_;refine znt (zct (zsr (zv (zv (znt ?_)))));refine wp_ret ?_
  repeat first|refine zrt ?_|refine block_ret ?_
  exact zb (v := i6 (rmN S.D).2) ⟨by rw [layD, if_pos hc1], by rw [if_neg (by rw [layD, if_pos hc1]; exact hc1)]; rw [layD, if_pos hc1]; exact ⟨rs, nx, hrs, hK, (hcl4 ((s.q, 73, scell s.d.q s.r ((laidR S.rows)) S.size) :: L) _ h7)⟩⟩
 ·refine wl_region (zv ?_);refine zwu (run_nei (k := .i64) (a := (rmN S.D).2) (b := 0) false (df hc1)) ?_;refine znt (zcf (wp_skip (zt (wp_seq (zsr (zv (zv (zv ?_))))))));refine zwu (v := pq s.d.q) (run_load1 isAgg23 (((h7.get 0 rfl).cell 0).trans rfl)) ?_;refine zv ?_;refine wl_callx enter24 #[pq s.d.q, .string nN, .string fr] (Append_any (hcl4 ((s.q, 73, scell s.d.q s.r ((laidR S.rows)) S.size) :: L) _ h7) nN fr hg1 (by omega) (by omega)) ?_;rintro _ w10 ⟨rfl, hD8⟩;refine ⟨_, rfl, ?_⟩;have hg9 := Append_DB hg1 nN fr;obtain ⟨z11, X12, hcl13, hbe14, h15⟩ := DH.front hD8;have h16 : HA z11 ((s.q, 73, scell s.d.q s.r ((laidR S.rows)) S.size) :: (L ++ X12)) w10 := h15;refine zv (znt (wp_seq ?_))
  by_cases hc2 : (AppendD (rmN S.D).1 nN fr).2 ≠ 0
  ·refine wl_region (zv ?_);refine zwu (run_nei (k := .i64) (a := (AppendD ((rmN S.D).1) nN fr).2) (b := 0) true (dt hc2)) ?_;refine znt (zct (zsr (zv (zv (znt ?_)))));refine wp_ret ?_
   repeat first|refine zrt ?_|refine block_ret ?_
   exact zb (v := i6 (AppendD (rmN S.D).1 nN fr).2) ⟨by rw [layD, if_neg hc1, if_pos hc2], by rw [if_neg (by rw [layD, if_neg hc1, if_pos hc2]; exact hc2)]; rw [layD, if_neg hc1, if_pos hc2]; exact ⟨rs, nx, hrs, hK, (hcl13 ((s.q, 73, scell s.d.q s.r ((laidR S.rows)) S.size) :: L) _ h16)⟩⟩
  ·refine wl_region (zv ?_);refine zwu (run_nei (k := .i64) (a := (AppendD ((rmN S.D).1) nN fr).2) (b := 0) false (df hc2)) ?_;refine znt (zcf (wp_skip (zt (wp_seq (zsr (zv (zv (zv ?_))))))));refine zwu (v := pq s.d.q) (run_load1 isAgg23 (((h16.get 0 rfl).cell 0).trans rfl)) ?_;refine wl_callx enter32 #[pq s.d.q, .string nN] (Sync_any (hcl13 ((s.q, 73, scell s.d.q s.r ((laidR S.rows)) S.size) :: L) _ h16) nN hg9 (by omega)) ?_;rintro _ w19 ⟨rfl, hD17⟩;refine ⟨_, rfl, ?_⟩;have hg18 := Sync_DB hg9 nN;obtain ⟨z20, X21, hcl22, hbe23, h24⟩ := DH.front hD17;have h25 : HA z20 ((s.q, 73, scell s.d.q s.r ((laidR S.rows)) S.size) :: (L ++ X21)) w19 := h24;refine zv (znt (wp_seq ?_))
   by_cases hc3 : (SyncD (AppendD (rmN S.D).1 nN fr).1 nN).2 ≠ 0
   ·refine wl_region (zv ?_);refine zwu (run_nei (k := .i64) (a := (SyncD ((AppendD ((rmN S.D).1) nN fr).1) nN).2) (b := 0) true (dt hc3)) ?_;refine znt (zct (zsr (zv (zv (znt ?_)))));refine wp_ret ?_
    repeat first|refine zrt ?_|refine block_ret ?_
    exact zb (v := i6 (SyncD (AppendD (rmN S.D).1 nN fr).1 nN).2) ⟨by rw [layD, if_neg hc1, if_neg hc2, if_pos hc3], by rw [if_neg (by rw [layD, if_neg hc1, if_neg hc2, if_pos hc3]; exact hc3)]; rw [layD, if_neg hc1, if_neg hc2, if_pos hc3]; exact ⟨rs, nx, hrs, hK, (hcl22 ((s.q, 73, scell s.d.q s.r ((laidR S.rows)) S.size) :: L) _ h25)⟩⟩
   ·refine wl_region (zv ?_);refine zwu (run_nei (k := .i64) (a := (SyncD ((AppendD ((rmN S.D).1) nN fr).1) nN).2) (b := 0) false (df hc3)) ?_;refine znt (zcf (wp_skip (zt (wp_seq (zsr (zv (zv (zv ?_))))))));refine zwu (v := pq s.d.q) (run_load1 isAgg23 (((h25.get 0 rfl).cell 0).trans rfl)) ?_;refine wl_callx enter95 #[pq s.d.q, .string nN, .string nS] (Rename_any (hcl22 ((s.q, 73, scell s.d.q s.r ((laidR S.rows)) S.size) :: L) _ h25) nN nS hg18 (by omega)) ?_;rintro _ w28 ⟨rfl, hD26⟩;refine ⟨_, rfl, ?_⟩;have hg27 := Rename_DB hg18 nN nS;obtain ⟨z29, X30, hcl31, hbe32, h33⟩ := DH.front hD26;have h34 : HA z29 ((s.q, 73, scell s.d.q s.r ((laidR S.rows)) S.size) :: (L ++ X30)) w28 := h33;refine zv (znt (wp_seq ?_))
    by_cases hc4 : (RenameD (SyncD (AppendD (rmN S.D).1 nN fr).1 nN).1 nN nS).2 ≠ 0
    ·refine wl_region (zv ?_);refine zwu (run_nei (k := .i64) (a := (RenameD ((SyncD ((AppendD ((rmN S.D).1) nN fr).1) nN).1) nN nS).2) (b := 0) true (dt hc4)) ?_;refine znt (zct (zsr (zv (zv (znt ?_)))));refine wp_ret ?_
     repeat first|refine zrt ?_|refine block_ret ?_
     exact zb (v := i6 (RenameD (SyncD (AppendD (rmN S.D).1 nN fr).1 nN).1 nN nS).2) ⟨by rw [layD, if_neg hc1, if_neg hc2, if_neg hc3], by rw [if_neg (by rw [layD, if_neg hc1, if_neg hc2, if_neg hc3]; exact hc4)]; rw [layD, if_neg hc1, if_neg hc2, if_neg hc3]; exact ⟨rs, nx, hrs, hK, (hcl31 ((s.q, 73, scell s.d.q s.r ((laidR S.rows)) S.size) :: L) _ h34)⟩⟩
    ·refine wl_region (zv ?_);refine zwu (run_nei (k := .i64) (a := (RenameD ((SyncD ((AppendD ((rmN S.D).1) nN fr).1) nN).1) nN nS).2) (b := 0) false (df hc4)) ?_;refine znt (zcf (wp_skip (zt (zsr (zv (zv ?_))))));refine zwu (run_len (s := fr)) ?_;refine zv (zv ?_);refine wl_putv (v := i6 fr.size) h34 0 rfl 3 (by show 3 < 4; decide) sizeOf3 ?_;intro w35 h36;refine znt (zsr (zv (znt ?_)));refine wp_ret ?_
     repeat first|refine zrt ?_|refine block_ret ?_
     exact zb (v := i6 0) ⟨by rw [layD, if_neg hc1, if_neg hc2, if_neg hc3]; rw [Decidable.not_not.1 hc4], by rw [if_pos (by rw [layD, if_neg hc1, if_neg hc2, if_neg hc3]; exact Decidable.not_not.1 hc4)]; rw [layD, if_neg hc1, if_neg hc2, if_neg hc3]; exact ⟨rs, nx, hrs, hK, (hcl31 ((s.q, 73, #[pq s.d.q, .map (some s.r), i6 ((laidR S.rows)), i6 fr.size]) :: L) _ h36)⟩⟩
end Go.Proofs.YtckmlaempffpjaaGreat
namespace Go.Proofs.YtckmlaempffpjaaGreat
open Go.RowKit Go.Proofs.Tryz
structure RL (l : List Rw) : Prop where
 k : ∀ x ∈ l, x.k.size ≤ 64
 v : ∀ x ∈ l, x.v.size ≤ 262144
 la : laidR l ≤ 3000000
theorem RL.pack {l : List Rw} (h : RL l) (hnd : (l.map (·.k)).Nodup) : (packB l).size ≤ 4000000 := by
 have h1 := laid_cnt l;have h2 := h.la;rw [packB_size, packL_len hnd]
 omega
theorem packed_B {w0 : World} {M : ML} {s : Sk} {S : SS} {L : BL} {w : World} (h : SH w0 M s S L w) (hr : RL S.rows) : Calls prog 48 #[pt s.q] w fun e w' => e = .returned (.string (packB S.rows)) ∧ SH w0 M s S L w' := by
 obtain ⟨rs, nx, h1, h2, hq, hm⟩ := h.facts;have hl := hr.la;have hc := laid_cnt S.rows;have hle : rs.length = S.rows.length := by rw [← h1, rws, List.length_map]
 refine h.pure (packed_any hq hm h1 h2 (fun f hf => hr.k _ (by rw [← h1]; exact rws_mem.2 ⟨f, hf, rfl⟩)) (by omega) ?_);rw [packL_len h.nodup]
 omega
theorem psize_B {w0 : World} {M : ML} {s : Sk} {S : SS} {L : BL} {w : World} (h : SH w0 M s S L w) (hr : RL S.rows) : Calls prog 53 #[pt s.q] w fun e w' => e = .returned (i6 (packL S.rows).length) ∧ Below w.heap.size w w' := by
 obtain ⟨rs, nx, h1, h2, hq, hm⟩ := h.facts;have hl := hr.la;have hc := laid_cnt S.rows;have hle : rs.length = S.rows.length := by rw [← h1, rws, List.length_map]
 rw [packL_len h.nodup, ← hle];exact psize_any hq hm (by omega) (by omega)
theorem apply_B {w0 : World} {M : ML} {s : Sk} {S : SS} {L : BL} {w : World} {po do_ : Option Addr} {pc dc : Nat} {ps : List Rw} {ds : List ByteArray} (h : SH w0 M s S L w) (hPV : PV w0 L po ps) (hDV : DV w0 L do_ ds) {m : Nat} (hr : RL S.rows) (hps : RB ps m) (hm : m ≤ 3000) (hdl : ds.length ≤ 1000000000) :
  Calls prog 56 #[pt s.q, .agg #[.slice po ps.length pc, .slice do_ ds.length dc]] w fun e w' => e = .returned (.tuple #[]) ∧ SH w0 M s ⟨S.D, applyR S.rows ps ds, S.size⟩ L w' := by
 obtain ⟨m, X, hc, hR⟩ := h.opn;have h1 := hr.la;have h2 := laid_le hps;have h4 := hps.ct;refine (apply_any hR hPV.more hDV.more (fun x hx => ⟨by have := hps.k x hx; omega, by have := hps.v x hx; omega⟩) (by omega) hdl (by omega)).mono ?_;rintro e w' ⟨rfl, hR'⟩;exact ⟨rfl, hc _ _ _ _ hR'⟩
theorem get_B {w0 : World} {M : ML} {s : Sk} {S : SS} {L : BL} {w : World} (h : SH w0 M s S L w) (hr : RL S.rows) (key : ByteArray) : Calls prog 23 #[pt s.q, .string key] w fun e w' => e = .returned (.tuple #[.string (getR S.rows key).1, .bool (getR S.rows key).2]) ∧ Below w.heap.size w w' := by
 obtain ⟨m, X, hc, hR⟩ := h.opn;exact sget_any hR key (fun x hx => by have := hr.v x hx; omega)
theorem pack_DBS {S : SS} {l : List Rw} {U N : Nat} (hl : S.rows = l) (h : DB S.D U N) : DB (PackS S).1.D (U + (packB l).size) (N + 5) := by
 subst hl;have h1 := lay_DB h (packB S.rows)
 unfold PackS
 split
 ·exact Remove_DB h1 nN
 ·exact h1.mono (Nat.le_refl _) (by omega)
end Go.Proofs.YtckmlaempffpjaaGreat
namespace Go.Proofs.YtckmlaempffpjaaGreat
set_option linter.unusedVariables false
set_option maxRecDepth 100000
set_option maxHeartbeats 2000000
open Go.RowKit Go.Proofs.Tryz
theorem Pack_B {w0 : World} {M : ML} {s : Sk} {S : SS} {L : BL} {w : World} (h : SH w0 M s S L w) {R N : Nat} (hg : DB S.D R N) (hN : N ≤ 10000000) (hr : RL S.rows) (hR : R ≤ 300000000) :
  Calls prog 15 #[pt s.q] w fun e w' => e = .returned (i6 (PackS S).2) ∧ SH w0 M s (PackS S).1 L w' := by
 go_enter Tryz.func15, Tryz.ntmps15
 refine zsr (zv (znt (wp_seq (zsr (zv ?_)))));refine wl_callx enter47 #[pq s.q] (none_S h) ?_;rintro _ w2 ⟨rfl, hS1⟩;refine ⟨_, rfl, ?_⟩;refine znt (zcf (wp_skip (zt (zsr (zv (zv ?_))))));refine wl_callx enter48 #[pq s.q] (packed_B hS1 hr) ?_;rintro _ w4 ⟨rfl, hS3⟩;refine ⟨_, rfl, ?_⟩;refine wl_callx enter45 #[pq s.q, .string (packB S.rows)] (lay_B hS3 hg (by omega) (packB S.rows) (by have := hr.pack hS3.nodup; omega)) ?_;rintro _ w6 ⟨rfl, hS5⟩;refine ⟨_, rfl, ?_⟩;refine zv (znt (wp_seq (wp_seq ?_)))
 by_cases hfull : (layS S (packB S.rows)).2 = 7
 ·refine wl_region (zv ?_);refine zwu (run_eqi (k := .i64) (a := (layS S (packB S.rows)).2) (b := 7) true (dt hfull)) ?_;refine znt (zct ?_);obtain ⟨rs, nx, hrs, hK, hD5⟩ := hS5;obtain ⟨z7, X8, hcl9, hbe10, h11⟩ := DH.front hD5;have h12 : HA z7 ((s.q, 73, scell s.d.q s.r ((laidR (layS S (packB S.rows)).1.rows)) ((layS S (packB S.rows)).1.size)) :: (L ++ X8)) w6 := h11;refine wl_region (zv (zv (zv ?_)));refine zwu (v := pq s.d.q) (run_load1 isAgg23 (((h12.get 0 rfl).cell 0).trans rfl)) ?_;refine wl_callx enter49 #[pq s.d.q, .string nN] (Remove_any (hcl9 ((s.q, 73, scell s.d.q s.r ((laidR (layS S (packB S.rows)).1.rows)) ((layS S (packB S.rows)).1.size)) :: L) _ h12) nN (lay_DB hg (packB S.rows)) (by omega)) ?_;rintro _ w15 ⟨rfl, hD13⟩;refine ⟨_, rfl, ?_⟩;have hg14 := Remove_DB (lay_DB hg (packB S.rows)) nN;obtain ⟨z16, X17, hcl18, hbe19, h20⟩ := DH.front hD13;have h21 : HA z16 ((s.q, 73, scell s.d.q s.r ((laidR (layS S (packB S.rows)).1.rows)) ((layS S (packB S.rows)).1.size)) :: (L ++ X17)) w15 := h20;refine znt (zsr (zv (zv (znt ?_))));refine wp_ret ?_
  repeat first|refine zrt ?_|refine block_ret ?_
  exact zb (v := i6 (layS S (packB S.rows)).2) ⟨by rw [PackS, if_pos hfull, hfull], by rw [PackS, if_pos hfull]; exact ⟨rs, nx, hrs, hK, (hcl18 ((s.q, 73, scell s.d.q s.r ((laidR (layS S (packB S.rows)).1.rows)) ((layS S (packB S.rows)).1.size)) :: L) _ h21)⟩⟩
 ·refine wl_region (zv ?_);refine zwu (run_eqi (k := .i64) (a := (layS S (packB S.rows)).2) (b := 7) false (df hfull)) ?_;refine znt (zcf (wp_skip (zt (zsr (zv (zv (znt ?_)))))));refine wp_ret ?_
  repeat first|refine zrt ?_|refine block_ret ?_
  exact zb (v := i6 (layS S (packB S.rows)).2) ⟨by rw [PackS, if_neg hfull], by rw [PackS, if_neg hfull]; exact hS5⟩
theorem write_B {w0 : World} {M : ML} {s : Sk} {S : SS} {L : BL} {w : World} (h : SH w0 M s S L w) {R N : Nat} (hg : DB S.D R N) (hN : N ≤ 9000000) (hr : RL S.rows) (hR : R ≤ 200000000) (fr : ByteArray) (hfr : fr.size ≤ 50000000) (hsz : S.size ≤ 1000000000000) :
  Calls prog 54 #[pt s.q, .string fr] w fun e w' => e = .returned (i6 (writeS S fr).2) ∧ SH w0 M s (writeS S fr).1 L w' := by
 have hnd := h.nodup;have hpz := hr.pack hnd;obtain ⟨rs, nx, hrs, hK, hD0⟩ := h;obtain ⟨z, X, hcl, hbe, H00⟩ := DH.front hD0;have H0 : HA z ((s.q, 73, scell s.d.q s.r (laidR S.rows) S.size) :: (L ++ X)) w := H00;have hsP : (PackS (wrA S fr).1).1.size ≤ 1000000000000 := Pack_size (R := 0) (by show 0 + (packB S.rows).size ≤ _; omega) hsz
 go_enter Tryz.func54, Tryz.ntmps54
 refine zsr ?_;refine zwv (i6 0) ?_;refine znt (zsr ?_);refine zwv (pq s.q) ?_;refine zwv (pq s.q) ?_;refine zwv (pq s.q) ?_;refine zwu (v := pq s.d.q) (run_load1 isAgg23 (((H0.get 0 rfl).cell 0).trans rfl)) ?_;refine zwv (.string fr) ?_;refine wl_callx enter24 #[pq s.d.q, .string nS, .string fr] (Append_any (hcl ((s.q, 73, scell s.d.q s.r ((laidR S.rows)) S.size) :: L) _ H0) nS fr hg (by omega) (by omega)) ?_;rintro _ w3 ⟨rfl, hD1⟩;refine ⟨_, rfl, ?_⟩;have hg2 := Append_DB hg nS fr;obtain ⟨z4, X5, hcl6, hbe7, h8⟩ := DH.front hD1;have h9 : HA z4 ((s.q, 73, scell s.d.q s.r ((laidR S.rows)) S.size) :: (L ++ X5)) w3 := h8;refine zwv (i6 ((AppendD S.D nS fr).2)) ?_;refine znt (wp_seq (wp_seq ?_))
 by_cases hw1 : (wrA S fr).2 = 7
 ·refine wl_region ?_;refine zwv (i6 ((AppendD S.D nS fr).2)) ?_;refine zwu (run_eqi (k := .i64) (a := (AppendD S.D nS fr).2) (b := 7) true (dt hw1)) ?_;refine znt (zct (zsr ?_));refine zwv (pq s.q) ?_;refine wl_callx enter15 #[pq s.q] (Pack_B (S := (wrA S fr).1) ⟨rs, nx, hrs, hK, (hcl6 ((s.q, 73, scell s.d.q s.r ((laidR S.rows)) S.size) :: L) _ h9)⟩ hg2 (by omega) hr (by omega)) ?_;rintro _ w10 ⟨rfl, hP5⟩;refine ⟨_, rfl, ?_⟩;obtain ⟨rs, nx, hrs, hK, hD5⟩ := hP5;rw [Pack_rows] at hrs;have hg5 := pack_DBS (S := (wrA S fr).1) (l := S.rows) rfl hg2;have hD6 : DH w0 ((s.r, MO.mp (eR rs) nx) :: M) s.d (PackS (wrA S fr).1).1.D ((s.q, 73, scell s.d.q s.r (laidR S.rows) (PackS (wrA S fr).1).1.size) :: L) w10 := by rw [Pack_rows] at hD5; exact hD5
  obtain ⟨z11, X12, hcl13, hbe14, h15⟩ := DH.front hD6;have h16 : HA z11 ((s.q, 73, scell s.d.q s.r ((laidR S.rows)) ((PackS (wrA S fr).1).1.size)) :: (L ++ X12)) w10 := h15;refine zwv (i6 ((PackS (wrA S fr).1).2)) ?_;refine znt (wp_seq ?_)
  by_cases hw2 : (PackS (wrA S fr).1).2 = 0
  ·refine wl_region ?_;refine zwv (i6 ((PackS (wrA S fr).1).2)) ?_;refine zwu (run_eqi (k := .i64) (a := (PackS (wrA S fr).1).2) (b := 0) true (dt hw2)) ?_;refine znt (zct (wl_region ?_));refine zwv (pq s.q) ?_;refine zwv (pq s.q) ?_;refine zwv (pq s.q) ?_;refine zwu (v := pq s.d.q) (run_load1 isAgg23 (((h16.get 0 rfl).cell 0).trans rfl)) ?_;refine zwv (.string fr) ?_;refine wl_callx enter24 #[pq s.d.q, .string nS, .string fr] (Append_any (hcl13 ((s.q, 73, scell s.d.q s.r ((laidR S.rows)) ((PackS (wrA S fr).1).1.size)) :: L) _ h16) nS fr hg5 (by omega) (by omega)) ?_;rintro _ w19 ⟨rfl, hD17⟩;refine ⟨_, rfl, ?_⟩;have hg18 := Append_DB hg5 nS fr;obtain ⟨z20, X21, hcl22, hbe23, h24⟩ := DH.front hD17;have h25 : HA z20 ((s.q, 73, scell s.d.q s.r ((laidR S.rows)) ((PackS (wrA S fr).1).1.size)) :: (L ++ X21)) w19 := h24;refine zwv (i6 ((AppendD ((PackS (wrA S fr).1).1.D) nS fr).2)) ?_;refine znt (wp_seq (wp_seq ?_));have hwB : wrB S fr = wrA (PackS (wrA S fr).1).1 fr := by rw [wrB, if_pos hw1, if_pos hw2]
   by_cases hw3 : (AppendD (PackS (wrA S fr).1).1.D nS fr).2 ≠ 0
   ·refine wl_region ?_;refine zwv (i6 ((AppendD ((PackS (wrA S fr).1).1.D) nS fr).2)) ?_;refine zwu (run_nei (k := .i64) (a := (AppendD ((PackS (wrA S fr).1).1.D) nS fr).2) (b := 0) true (dt hw3)) ?_;refine znt (zct (zsr ?_));refine zwv (i6 ((AppendD ((PackS (wrA S fr).1).1.D) nS fr).2)) ?_;refine zwv (i6 ((AppendD ((PackS (wrA S fr).1).1.D) nS fr).2)) ?_;refine znt ?_;refine wp_ret ?_
    repeat first|refine zrt ?_|refine block_ret ?_
    exact zb (by rw [writeS, hwB, if_pos (by exact hw3)]; exact ⟨rfl, ⟨rs, nx, hrs.trans (Pack_rows _).symm, hK, by first | exact (hcl22 ((s.q, 73, scell s.d.q s.r ((laidR S.rows)) ((PackS (wrA S fr).1).1.size)) :: L) _ h25) | (have h9 := (hcl22 ((s.q, 73, scell s.d.q s.r ((laidR S.rows)) ((PackS (wrA S fr).1).1.size)) :: L) _ h25); rw [show laidR S.rows = laidR (PackS (wrA S fr).1).1.rows by rw [Pack_rows]; rfl] at h9; exact h9)⟩⟩)
   ·refine wl_region ?_;refine zwv (i6 ((AppendD ((PackS (wrA S fr).1).1.D) nS fr).2)) ?_;refine zwu (run_nei (k := .i64) (a := (AppendD ((PackS (wrA S fr).1).1.D) nS fr).2) (b := 0) false (df hw3)) ?_;refine znt (zcf (wp_skip (zt (zsr ?_))));refine zwv (pq s.q) ?_;refine zwv (pq s.q) ?_;refine zwv (.pointer (some ⟨s.q, 3, none⟩)) ?_;refine zwu (v := i6 ((PackS (wrA S fr).1).1.size)) (run_load1 isAgg3 (((h25.get 0 rfl).cell 3).trans rfl)) ?_;refine zwv (.string fr) ?_;refine zwu (run_len (s := fr)) ?_;refine zwu (run_add (k := .i64) (a := (PackS (wrA S fr).1).1.size) (b := fr.size) (by first | omega | (simp only [top]; omega))) ?_;refine zwv (pq s.q) ?_;refine zwv (.pointer (some ⟨s.q, 3, none⟩)) ?_;refine wl_putv (v := i6 (((PackS (wrA S fr).1).1.size) + fr.size)) h25 0 rfl 3 (by show 3 < 4; decide) sizeOf3 ?_;intro w26 h27;refine znt (zsr ?_);refine zwv (pq s.q) ?_;refine zwv (pq s.q) ?_;refine zwv (pq s.q) ?_;refine zwu (v := pq s.d.q) (run_load1 isAgg23 (((h27.get 0 rfl).cell 0).trans rfl)) ?_;refine wl_callx enter32 #[pq s.d.q, .string nS] (Sync_any (hcl22 ((s.q, 73, #[pq s.d.q, .map (some s.r), i6 ((laidR S.rows)), i6 (((PackS (wrA S fr).1).1.size) + fr.size)]) :: L) _ h27) nS hg18 (by omega)) ?_;rintro _ w30 ⟨rfl, hD28⟩;refine ⟨_, rfl, ?_⟩;have hg29 := Sync_DB hg18 nS;obtain ⟨z31, X32, hcl33, hbe34, h35⟩ := DH.front hD28;have h36 : HA z31 ((s.q, 73, #[pq s.d.q, .map (some s.r), i6 ((laidR S.rows)), i6 (((PackS (wrA S fr).1).1.size) + fr.size)]) :: (L ++ X32)) w30 := h35;refine zwv (i6 ((SyncD ((AppendD ((PackS (wrA S fr).1).1.D) nS fr).1) nS).2)) ?_;refine znt ?_;refine wp_ret ?_
    repeat first|refine zrt ?_|refine block_ret ?_
    exact zb (by rw [writeS, hwB, if_neg (by exact hw3)]; exact ⟨rfl, ⟨rs, nx, hrs.trans (Pack_rows _).symm, hK, by first | exact (hcl33 ((s.q, 73, #[pq s.d.q, .map (some s.r), i6 ((laidR S.rows)), i6 (((PackS (wrA S fr).1).1.size) + fr.size)]) :: L) _ h36) | (have h9 := (hcl33 ((s.q, 73, #[pq s.d.q, .map (some s.r), i6 ((laidR S.rows)), i6 (((PackS (wrA S fr).1).1.size) + fr.size)]) :: L) _ h36); rw [show laidR S.rows = laidR (PackS (wrA S fr).1).1.rows by rw [Pack_rows]; rfl] at h9; exact h9)⟩⟩)
  ·refine wl_region ?_;refine zwv (i6 ((PackS (wrA S fr).1).2)) ?_;refine zwu (run_eqi (k := .i64) (a := (PackS (wrA S fr).1).2) (b := 0) false (df hw2)) ?_;refine znt (zcf (wp_skip (zt (wp_seq (wp_seq ?_)))));have hwB : wrB S fr = PackS (wrA S fr).1 := by rw [wrB, if_pos hw1, if_neg hw2]
   by_cases hw3 : (PackS (wrA S fr).1).2 ≠ 0
   ·refine wl_region ?_;refine zwv (i6 ((PackS (wrA S fr).1).2)) ?_;refine zwu (run_nei (k := .i64) (a := (PackS (wrA S fr).1).2) (b := 0) true (dt hw3)) ?_;refine znt (zct (zsr ?_));refine zwv (i6 ((PackS (wrA S fr).1).2)) ?_;refine zwv (i6 ((PackS (wrA S fr).1).2)) ?_;refine znt ?_;refine wp_ret ?_
    repeat first|refine zrt ?_|refine block_ret ?_
    exact zb (by rw [writeS, hwB, if_pos (by exact hw3)]; exact ⟨rfl, ⟨rs, nx, hrs.trans (Pack_rows _).symm, hK, by first | exact (hcl13 ((s.q, 73, scell s.d.q s.r ((laidR S.rows)) ((PackS (wrA S fr).1).1.size)) :: L) _ h16) | (have h9 := (hcl13 ((s.q, 73, scell s.d.q s.r ((laidR S.rows)) ((PackS (wrA S fr).1).1.size)) :: L) _ h16); rw [show laidR S.rows = laidR (PackS (wrA S fr).1).1.rows by rw [Pack_rows]; rfl] at h9; exact h9)⟩⟩)
   ·refine wl_region ?_;refine zwv (i6 ((PackS (wrA S fr).1).2)) ?_;refine zwu (run_nei (k := .i64) (a := (PackS (wrA S fr).1).2) (b := 0) false (df hw3)) ?_;refine znt (zcf (wp_skip (zt (zsr ?_))));refine zwv (pq s.q) ?_;refine zwv (pq s.q) ?_;refine zwv (.pointer (some ⟨s.q, 3, none⟩)) ?_;refine zwu (v := i6 ((PackS (wrA S fr).1).1.size)) (run_load1 isAgg3 (((h16.get 0 rfl).cell 3).trans rfl)) ?_;refine zwv (.string fr) ?_;refine zwu (run_len (s := fr)) ?_;refine zwu (run_add (k := .i64) (a := (PackS (wrA S fr).1).1.size) (b := fr.size) (by first | omega | (simp only [top]; omega))) ?_;refine zwv (pq s.q) ?_;refine zwv (.pointer (some ⟨s.q, 3, none⟩)) ?_;refine wl_putv (v := i6 (((PackS (wrA S fr).1).1.size) + fr.size)) h16 0 rfl 3 (by show 3 < 4; decide) sizeOf3 ?_;intro w37 h38;refine znt (zsr ?_);refine zwv (pq s.q) ?_;refine zwv (pq s.q) ?_;refine zwv (pq s.q) ?_;refine zwu (v := pq s.d.q) (run_load1 isAgg23 (((h38.get 0 rfl).cell 0).trans rfl)) ?_;refine wl_callx enter32 #[pq s.d.q, .string nS] (Sync_any (hcl13 ((s.q, 73, #[pq s.d.q, .map (some s.r), i6 ((laidR S.rows)), i6 (((PackS (wrA S fr).1).1.size) + fr.size)]) :: L) _ h38) nS hg5 (by omega)) ?_;rintro _ w41 ⟨rfl, hD39⟩;refine ⟨_, rfl, ?_⟩;have hg40 := Sync_DB hg5 nS;obtain ⟨z42, X43, hcl44, hbe45, h46⟩ := DH.front hD39;have h47 : HA z42 ((s.q, 73, #[pq s.d.q, .map (some s.r), i6 ((laidR S.rows)), i6 (((PackS (wrA S fr).1).1.size) + fr.size)]) :: (L ++ X43)) w41 := h46;refine zwv (i6 ((SyncD ((PackS (wrA S fr).1).1.D) nS).2)) ?_;refine znt ?_;refine wp_ret ?_
    repeat first|refine zrt ?_|refine block_ret ?_
    exact zb (by rw [writeS, hwB, if_neg (by exact hw3)]; exact ⟨rfl, ⟨rs, nx, hrs.trans (Pack_rows _).symm, hK, by first | exact (hcl44 ((s.q, 73, #[pq s.d.q, .map (some s.r), i6 ((laidR S.rows)), i6 (((PackS (wrA S fr).1).1.size) + fr.size)]) :: L) _ h47) | (have h9 := (hcl44 ((s.q, 73, #[pq s.d.q, .map (some s.r), i6 ((laidR S.rows)), i6 (((PackS (wrA S fr).1).1.size) + fr.size)]) :: L) _ h47); rw [show laidR S.rows = laidR (PackS (wrA S fr).1).1.rows by rw [Pack_rows]; rfl] at h9; exact h9)⟩⟩)
 ·refine wl_region ?_;refine zwv (i6 ((AppendD S.D nS fr).2)) ?_;refine zwu (run_eqi (k := .i64) (a := (AppendD S.D nS fr).2) (b := 7) false (df hw1)) ?_;refine znt (zcf (wp_skip (zt (wp_seq (wp_seq ?_)))));have hwB : wrB S fr = wrA S fr := by rw [wrB, if_neg hw1]
  by_cases hw3 : (AppendD S.D nS fr).2 ≠ 0
  ·refine wl_region ?_;refine zwv (i6 ((AppendD S.D nS fr).2)) ?_;refine zwu (run_nei (k := .i64) (a := (AppendD S.D nS fr).2) (b := 0) true (dt hw3)) ?_;refine znt (zct (zsr ?_));refine zwv (i6 ((AppendD S.D nS fr).2)) ?_;refine zwv (i6 ((AppendD S.D nS fr).2)) ?_;refine znt ?_;refine wp_ret ?_
   repeat first|refine zrt ?_|refine block_ret ?_
   exact zb (by rw [writeS, hwB, if_pos (by exact hw3)]; exact ⟨rfl, ⟨rs, nx, hrs, hK, (hcl6 ((s.q, 73, scell s.d.q s.r ((laidR S.rows)) S.size) :: L) _ h9)⟩⟩)
  ·refine wl_region ?_;refine zwv (i6 ((AppendD S.D nS fr).2)) ?_;refine zwu (run_nei (k := .i64) (a := (AppendD S.D nS fr).2) (b := 0) false (df hw3)) ?_;refine znt (zcf (wp_skip (zt (zsr ?_))));refine zwv (pq s.q) ?_;refine zwv (pq s.q) ?_;refine zwv (.pointer (some ⟨s.q, 3, none⟩)) ?_;refine zwu (v := i6 S.size) (run_load1 isAgg3 (((h9.get 0 rfl).cell 3).trans rfl)) ?_;refine zwv (.string fr) ?_;refine zwu (run_len (s := fr)) ?_;refine zwu (run_add (k := .i64) (a := S.size) (b := fr.size) (by first | omega | (simp only [top]; omega))) ?_;refine zwv (pq s.q) ?_;refine zwv (.pointer (some ⟨s.q, 3, none⟩)) ?_;refine wl_putv (v := i6 (S.size + fr.size)) h9 0 rfl 3 (by show 3 < 4; decide) sizeOf3 ?_;intro w48 h49;refine znt (zsr ?_);refine zwv (pq s.q) ?_;refine zwv (pq s.q) ?_;refine zwv (pq s.q) ?_;refine zwu (v := pq s.d.q) (run_load1 isAgg23 (((h49.get 0 rfl).cell 0).trans rfl)) ?_;refine wl_callx enter32 #[pq s.d.q, .string nS] (Sync_any (hcl6 ((s.q, 73, #[pq s.d.q, .map (some s.r), i6 ((laidR S.rows)), i6 (S.size + fr.size)]) :: L) _ h49) nS hg2 (by omega)) ?_;rintro _ w52 ⟨rfl, hD50⟩;refine ⟨_, rfl, ?_⟩;have hg51 := Sync_DB hg2 nS;obtain ⟨z53, X54, hcl55, hbe56, h57⟩ := DH.front hD50;have h58 : HA z53 ((s.q, 73, #[pq s.d.q, .map (some s.r), i6 ((laidR S.rows)), i6 (S.size + fr.size)]) :: (L ++ X54)) w52 := h57;refine zwv (i6 ((SyncD ((AppendD S.D nS fr).1) nS).2)) ?_;refine znt ?_;refine wp_ret ?_
   repeat first|refine zrt ?_|refine block_ret ?_
   exact zb (by rw [writeS, hwB, if_neg (by exact hw3)]; exact ⟨rfl, ⟨rs, nx, hrs, hK, (hcl55 ((s.q, 73, #[pq s.d.q, .map (some s.r), i6 ((laidR S.rows)), i6 (S.size + fr.size)]) :: L) _ h58)⟩⟩)
end Go.Proofs.YtckmlaempffpjaaGreat
