/-
  What StoreOrder needs: one row a change; lists of keys in order.
-/
import Derived.Test.YtckmlaempffpjaaGM
namespace Go.Proofs.Ytckmlaempffpjaa
open Go.RowKit Go.Shelf

theorem one_apply (l : List Rw) (x : Rw) : applyR l [x] [] = putR l x := rfl
theorem get_put (l : List Rw) (x : Rw) : getR (putR l x) x.k = (x.v, true) := by
  unfold getR putR
  rw [List.find?_append]
  have h1 : (dropR l x.k).find? (fun y => decide (y.k = x.k)) = none := List.find?_eq_none.2 fun y hy => by
    simpa using drop_nokey l x.k y hy
  rw [h1]
  simp
theorem drop_laid (l : List Rw) (k : ByteArray) : laidR (dropR l k) ≤ laidR l := by
  unfold dropR laidR
  induction l with
  | nil => exact Nat.le_refl _
  | cons y l ih =>
    rw [List.filter_cons]
    split
    · simp only [List.map_cons, List.sum_cons]; omega
    · simp only [List.map_cons, List.sum_cons]; omega
theorem put_laid (l : List Rw) (x : Rw) : laidR (putR l x) ≤ laidR l + rsz x := by
  unfold putR
  rw [laid_app]
  have h := drop_laid l x.k
  have h1 : laidR [x] = rsz x := by simp [laidR]
  omega
theorem put_length (l : List Rw) (x : Rw) : (putR l x).length ≤ l.length + 1 := by
  unfold putR dropR
  rw [List.length_append]
  have := List.length_filter_le (fun y : Rw => decide (y.k ≠ x.k)) l
  simp only [List.length_singleton]
  omega
theorem ref_one (x : Rw) : refR [x] [] = if x.k.size = 0 then 2 else if 64 < x.k.size ∨ 262144 < x.v.size then 3 else 0 := by
  have ek : keysOf [x] [] = [x.k] := rfl
  have ea : ∀ f : ByteArray → Bool, [x.k].any f = f x.k := fun f => by simp
  unfold refR lng lngV
  rw [ek, ea, ea]
  have el : ([x] : List Rw).length + ([] : List ByteArray).length = 1 := rfl
  rw [el]
  have ev : ([x].any fun y : Rw => decide (262144 < y.v.size)) = decide (262144 < x.v.size) := by simp
  rw [ev]
  by_cases h0 : x.k.size = 0
  · rw [if_pos h0, if_pos (decide_eq_true h0)]
  · rw [if_neg h0, if_neg (by rw [decide_eq_false h0]; decide)]
    by_cases h1 : 64 < x.k.size ∨ 262144 < x.v.size
    · rw [if_pos h1, if_pos]
      rcases h1 with h1 | h1 <;> simp [h1]
    · rw [if_neg h1, if_neg]
      have a1 : ¬ 64 < x.k.size := fun h => h1 (.inl h)
      have a2 : ¬ 262144 < x.v.size := fun h => h1 (.inr h)
      simp [a1, a2]
theorem frame_one (x : Rw) : (frameB [x] []).length = 8 + rsz x := by
  rw [frame_len]
  simp [laidR]
/-- a store behind i changes of one row -/
structure Or (S : SS) (i : Nat) : Prop where
  g : ∃ cs a b, Gd S cs a b (1000 + 262300 * i)
  dg : DG S.D 268435456 (4 + 20 * i)
  ro : roomD S.D = 268435456
  lf : S.D.left = 0
  la : laidR S.rows ≤ 262300 * i
  ln : S.rows.length ≤ i
theorem Or.rb {S : SS} {i : Nat} (h : Or S i) (hi : i ≤ 60) : RB S.rows 60 := by
  obtain ⟨cs, a, b, g⟩ := h.g
  exact RB.of g.ro (Nat.le_trans h.ln hi)
theorem Or.size {S : SS} {i : Nat} (h : Or S i) : S.size ≤ 1000 + 262300 * i := by
  obtain ⟨cs, a, b, g⟩ := h.g
  rw [g.sz, ← g.len]
  exact g.la
theorem Or.nodup {S : SS} {i : Nat} (h : Or S i) : (S.rows.map (·.k)).Nodup := by
  obtain ⟨cs, a, b, g⟩ := h.g
  exact g.nodup
theorem Or.mono {S : SS} {i j : Nat} (h : Or S i) (hj : i ≤ j) : Or S j := by
  obtain ⟨cs, a, b, g⟩ := h.g
  exact ⟨⟨cs, a, b, g.mono (by omega)⟩, h.dg.mono (by omega), h.ro, h.lf, Nat.le_trans h.la (by omega), Nat.le_trans h.ln hj⟩
theorem Or.new : (opnS ⟨[], 268435456, 0, false, []⟩).2 = 0 ∧ Or (opnS ⟨[], 268435456, 0, false, []⟩).1 0 := by
  obtain ⟨o1, o2, o3, g⟩ := opn_new 268435456 1000
  have hg0 : DG ⟨[], 268435456, 0, false, []⟩ 268435456 0 := DG.new (by decide)
  exact ⟨o1, ⟨⟨_, _, _, g⟩, hg0.opnS, by rw [o2]; simp [roomD, used], by rw [o2], by rw [o3]; exact Nat.le_refl _, by rw [o3]; exact Nat.le_refl _⟩⟩
/-- a change that may not be -/
theorem Or.no {S : SS} {x : Rw} (hr : refR [x] [] ≠ 0) : DoS S [x] [] = (S, refR [x] []) := by
  unfold DoS
  exact if_pos (.inl hr)
/-- a change that may be -/
theorem Or.yes {S : SS} {i : Nat} (h : Or S i) (hi : i < 60) {x : Rw} (hk : x.k.size ≠ 0) (hk2 : x.k.size ≤ 64) (hv : x.v.size ≤ 262144) :
    (DoS S [x] []).2 = 0 ∧ (DoS S [x] []).1.rows = putR S.rows x ∧ Or (DoS S [x] []).1 (i + 1) := by
  have hr : refR [x] [] = 0 := by
    rw [ref_one, if_neg hk, if_neg (by omega)]
  have hc : ChOk [x] [] := ⟨hr, by show 1 + 0 ≠ 0; decide⟩
  have hf := frame_one x
  have hz : rsz x ≤ 262216 := by unfold rsz; omega
  obtain ⟨cs, a, b, g⟩ := h.g
  have hpl := put_laid S.rows x
  have hll := put_length S.rows x
  have hla := h.la
  have hln := h.ln
  have hpk : (packL (applyR S.rows [x] [])).length ≤ 1000 + 262300 * i + (frameB [x] []).length := by
    rw [packL_len (apply_nodup h.nodup [x] []), one_apply]
    omega
  have hro := h.ro
  obtain ⟨e1, e2, e3, cs', a', b', g'⟩ := do_ok hc g h.dg h.lf (by rw [hro]; omega) hpk
  refine ⟨e1, e3, ⟨⟨cs', a', b', g'.mono (by omega)⟩, (h.dg.doS [x] []).mono (by omega), (room_do h.dg [x] []).trans hro, e2, ?_, ?_⟩⟩
  · rw [e3, one_apply]; omega
  · rw [e3, one_apply]; omega
/-! lists of keys -/
theorem le_tot (a b : List UInt8) : (leB a b || leB b a) = true := by
  by_cases h : a ≤ b
  · simp [leB, h]
  · have h2 : b < a := List.not_le.1 h
    have h3 : b ≤ a := List.le_of_lt h2
    simp [leB, h3]
theorem le_tra (a b c : List UInt8) (h1 : leB a b = true) (h2 : leB b c = true) : leB a c = true := by
  have h3 : a ≤ b := by simpa [leB] using h1
  have h4 : b ≤ c := by simpa [leB] using h2
  have := List.le_trans h3 h4
  simpa [leB] using this
theorem leB_iff {x y : List UInt8} : leB x y = true ↔ x ≤ y := by simp [leB]
/-- the keys that begin so are those among all -/
theorem lst_filter (l : List Rw) (p : ByteArray) : lstR l p = (lstR l { data := #[] }).filter (fun b => Lib.hasPrefix b (bl p)) := by
  have hall : (l.filter fun x => pfx x.k { data := #[] }) = l := List.filter_eq_self.2 fun x _ => by simp [pfx, Lib.hasPrefix, bl]
  have e2 : lstR l { data := #[] } = (l.map fun x => bl x.k).mergeSort leB := by unfold lstR; rw [hall]
  have e1 : lstR l p = ((l.map fun x => bl x.k).filter (fun b => Lib.hasPrefix b (bl p))).mergeSort leB := by
    unfold lstR
    rw [List.filter_map]
    rfl
  have h1 : ((l.map fun x => bl x.k).filter (fun b => Lib.hasPrefix b (bl p))).Perm ((lstR l { data := #[] }).filter (fun b => Lib.hasPrefix b (bl p))) := by
    rw [e2]
    exact ((List.mergeSort_perm _ _).symm).filter _
  rw [e1, mergeSort_of_perm h1]
  refine List.mergeSort_of_pairwise ?_
  refine List.Pairwise.filter _ ?_
  rw [e2]
  exact List.pairwise_mergeSort le_tra le_tot _
theorem lst_sorted {l : List Rw} (hn : (l.map (·.k)).Nodup) {i : Nat} {a b : List UInt8} (ha : (lstR l { data := #[] })[i]? = some a) (hb : (lstR l { data := #[] })[i + 1]? = some b) : a < b := by
  have hall : (l.filter fun x => pfx x.k { data := #[] }) = l := List.filter_eq_self.2 fun x _ => by simp [pfx, Lib.hasPrefix, bl]
  have e2 : lstR l { data := #[] } = (l.map fun x => bl x.k).mergeSort leB := by unfold lstR; rw [hall]
  have hp : (lstR l { data := #[] }).Pairwise (fun a b => leB a b = true) := by
    rw [e2]
    exact List.pairwise_mergeSort le_tra le_tot _
  have hd : (lstR l { data := #[] }).Nodup := by
    rw [e2, (List.mergeSort_perm _ _).nodup_iff]
    have : (l.map fun x => bl x.k) = (l.map (·.k)).map bl := by rw [List.map_map]; rfl
    rw [this]
    exact List.pairwise_map.2 (hn.imp fun h e => h (bl_inj e))
  obtain ⟨h1, e1⟩ := List.getElem?_eq_some_iff.1 ha
  obtain ⟨h2, e3⟩ := List.getElem?_eq_some_iff.1 hb
  have hle := List.pairwise_iff_getElem.1 hp i (i + 1) h1 h2 (by omega)
  have hne := List.pairwise_iff_getElem.1 hd i (i + 1) h1 h2 (by omega)
  rw [e1, e3] at hle hne
  have h9 := leB_iff.1 hle
  refine Decidable.byContradiction fun hc => hne ?_
  exact List.le_antisymm h9 (List.not_lt.1 hc)
/-- how many of the first begin so -/
def cntP (all : List (List UInt8)) (p : List UInt8) (i : Nat) : Nat := ((all.take i).filter (fun b => Lib.hasPrefix b p)).length
theorem cntP_succ {all : List (List UInt8)} {p b : List UInt8} {i : Nat} (h : all[i]? = some b) : cntP all p (i + 1) = cntP all p i + if Lib.hasPrefix b p = true then 1 else 0 := by
  unfold cntP
  rw [List.take_add_one, h, List.filter_append, List.length_append]
  congr 1
  simp only [Option.toList, List.filter_cons, List.filter_nil]
  split <;> rfl
theorem cntP_at {all : List (List UInt8)} {p b : List UInt8} {i : Nat} (h : all[i]? = some b) (hp : Lib.hasPrefix b p = true) : (all.filter (fun b => Lib.hasPrefix b p))[cntP all p i]? = some b := by
  have e : all = all.take i ++ b :: all.drop (i + 1) := by
    obtain ⟨hi, e1⟩ := List.getElem?_eq_some_iff.1 h
    rw [← e1, ← List.drop_eq_getElem_cons hi, List.take_append_drop]
  have e2 : all.filter (fun b => Lib.hasPrefix b p) = (all.take i).filter (fun b => Lib.hasPrefix b p) ++ b :: (all.drop (i + 1)).filter (fun b => Lib.hasPrefix b p) := by
    conv => lhs; rw [e]
    rw [List.filter_append, List.filter_cons_of_pos (p := fun b => Lib.hasPrefix b p) hp]
  rw [e2]
  unfold cntP
  rw [List.getElem?_append_right (Nat.le_refl _), Nat.sub_self]
  rfl
theorem cntP_all (all : List (List UInt8)) (p : List UInt8) : cntP all p all.length = (all.filter (fun b => Lib.hasPrefix b p)).length := by
  unfold cntP
  rw [List.take_length]
end Go.Proofs.Ytckmlaempffpjaa
