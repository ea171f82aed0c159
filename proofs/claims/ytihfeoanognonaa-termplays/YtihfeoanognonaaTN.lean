/-
 What stands within bytes: the mathematics; sorting and compacting a row of numbers.
-/
import Derived.Test.YtihfeoanognonaaT10
import Derived.Lib.IndexMore
namespace Go.Proofs.Ytihfeoanognonaa
open Go.RowKit
/-! where terms' texts stand -/
def occ (m : Nat) (s : ByteArray) (x : Nat) : Prop := ∃ i, firstT m (s.extract i s.size) = some x
theorem firstT_some {m : Nat} {s : ByteArray} {x : Nat} (h : firstT m s = some x) : 8 ≤ s.size ∧ s.extract 0 4 = hdS ∧ x < m := by
 unfold firstT at h
 split at h
 ·rename_i h1
  obtain rfl := Option.some.inj h
  exact ⟨h1.1, h1.2.1, h1.2.2⟩
 ·cases h
theorem extract_extract (s : ByteArray) (a b : Nat) (h : a + b ≤ s.size) : (s.extract a s.size).extract b (s.extract a s.size).size = s.extract (a + b) s.size := by
 have e : ∀ c, ((bl s).drop c).take (s.size - c) = (bl s).drop c := fun c => List.take_of_length_le (by rw [List.length_drop, bl_len]; exact Nat.le_refl _)
 apply bl_inj
 rw [bl_extract, bl_extract, e a, bl_extract, e (a + b), List.drop_drop, List.take_of_length_le]
 rw [List.length_drop, bl_len, ByteArray.size_extract]
 omega
theorem head_at {s : ByteArray} {i : Nat} (h : (s.extract i s.size).extract 0 4 = hdS) : i + 4 ≤ s.size ∧ ∀ j, j < 4 → (bl s)[i + j]? = (bl hdS)[j]? := by
 have hsz := congrArg ByteArray.size h
 rw [ByteArray.size_extract, ByteArray.size_extract, show hdS.size = 4 from rfl] at hsz
 refine ⟨by omega, fun j hj => ?_⟩
 have hl := congrArg bl h
 rw [bl_extract, bl_extract] at hl
 rw [← hl]
 simp [List.getElem?_take, List.getElem?_drop, hj]
 omega
theorem occAt_head {s : ByteArray} {i : Nat} : Lib.occAt (bl s) (bl hdS) i = true ↔ (s.extract i s.size).extract 0 4 = hdS := by
 have hx : bl ((s.extract i s.size).extract 0 4) = ((bl s).drop i).take 4 := by
  rw [bl_extract, bl_extract, List.drop_zero]
  rw [List.take_take, ← bl_len s]
  have hl : ((bl s).drop i).length = (bl s).length - i := List.length_drop
  rcases Nat.lt_or_ge 4 ((bl s).length - i) with h | h
  ·rw [Nat.min_eq_left (by omega)]
  ·rw [Nat.min_eq_right (by omega), List.take_of_length_le (by omega), List.take_of_length_le (by omega)]
 constructor
 ·intro h
  apply bl_inj
  rw [hx]
  unfold Lib.occAt at h
  exact (List.prefix_iff_eq_take.1 (List.isPrefixOf_iff_prefix.1 h)).symm
 ·intro h
  unfold Lib.occAt
  have h1 := congrArg bl h
  rw [hx] at h1
  exact List.isPrefixOf_iff_prefix.2 (List.prefix_iff_eq_take.2 h1.symm)
theorem occ_none {m : Nat} {s : ByteArray} (h : ∀ j, j ≤ (bl s).length → Lib.occAt (bl s) (bl hdS) j = false) (x : Nat) : ¬ occ m s x := fun ⟨i, hi⟩ => by
 obtain ⟨h1, h2, _⟩ := firstT_some hi
 have := (head_at h2).1
 have h3 := h i (by rw [bl_len]; omega)
 rw [occAt_head.2 h2] at h3
 cases h3
theorem occ_step {m : Nat} {s : ByteArray} {i : Nat} (hi : Lib.occAt (bl s) (bl hdS) i = true) (hno : Lib.NoOcc (bl s) (bl hdS) i) (x : Nat) : occ m s x ↔ firstT m (s.extract i s.size) = some x ∨ occ m (s.extract (i + 4) s.size) x := by
 have hd := head_at (occAt_head.1 hi)
 constructor
 ·rintro ⟨j, hj⟩
  obtain ⟨h1, h2, _⟩ := firstT_some hj
  have hdj := head_at h2
  rcases Nat.lt_trichotomy j i with hlt | rfl | hgt
  ·have := hno j hlt
   rw [occAt_head.2 h2] at this
   cases this
  ·exact .inl hj
  ·rcases Nat.lt_or_ge j (i + 4) with h4 | h4
   ·exfalso
    have e1 := hdj.2 0 (by decide)
    have e2 := hd.2 (j - i) (by omega)
    rw [show i + (j - i) = j + 0 by omega, e1] at e2
    have : j - i = 1 ∨ j - i = 2 ∨ j - i = 3 := by omega
    rcases this with h | h | h <;> rw [h] at e2 <;> revert e2 <;> decide
   ·refine .inr ⟨j - (i + 4), ?_⟩
    rw [extract_extract s (i + 4) (j - (i + 4)) (by omega), show i + 4 + (j - (i + 4)) = j by omega]
    exact hj
 ·rintro (h | ⟨j, hj⟩)
  ·exact ⟨i, h⟩
  ·refine ⟨i + 4 + j, ?_⟩
   obtain ⟨h1, _, _⟩ := firstT_some hj
   rw [ByteArray.size_extract, ByteArray.size_extract] at h1
   rw [← extract_extract s (i + 4) j (by omega)]
   exact hj
def wth (m : Nat) (s : ByteArray) : List Nat := (List.range m).filter fun x => (List.range s.size).any fun i => decide (firstT m (s.extract i s.size) = some x)
theorem mem_wth (m : Nat) (s : ByteArray) (x : Nat) : x ∈ wth m s ↔ occ m s x := by
 unfold wth
 rw [List.mem_filter, List.mem_range, List.any_eq_true]
 constructor
 ·rintro ⟨_, i, _, hi⟩
  exact ⟨i, of_decide_eq_true hi⟩
 ·rintro ⟨i, hi⟩
  obtain ⟨h1, _, h3⟩ := firstT_some hi
  rw [ByteArray.size_extract] at h1
  exact ⟨h3, i, List.mem_range.2 (by omega), decide_eq_true hi⟩
theorem wth_sorted (m : Nat) (s : ByteArray) : (wth m s).Pairwise (· < ·) := List.Pairwise.filter _ List.pairwise_lt_range
/-! rising rows -/
theorem eq_of_rising {α : Type} [LT α] (irr : ∀ a : α, ¬ a < a) (tr : ∀ a b c : α, a < b → b < c → a < c) : ∀ {l m : List α}, l.Pairwise (· < ·) → m.Pairwise (· < ·) → (∀ x, x ∈ l ↔ x ∈ m) → l = m
 | [], [], _, _, _ => rfl
 | [], b :: m, _, _, h => absurd ((h b).2 (List.mem_cons_self ..)) (by simp)
 | a :: l, [], _, _, h => absurd ((h a).1 (List.mem_cons_self ..)) (by simp)
 | a :: l, b :: m, hl, hm, h => by
  rw [List.pairwise_cons] at hl hm
  have hab : a = b := by
   rcases List.mem_cons.1 ((h a).1 (List.mem_cons_self ..)) with e | e
   ·exact e
   ·rcases List.mem_cons.1 ((h b).2 (List.mem_cons_self ..)) with e' | e'
    ·exact e'.symm
    ·exact absurd (tr _ _ _ (hm.1 a e) (hl.1 b e')) (irr _)
  subst hab
  rw [eq_of_rising irr tr hl.2 hm.2 (fun x => ?_)]
  constructor
  ·intro hx
   rcases List.mem_cons.1 ((h x).1 (List.mem_cons_of_mem _ hx)) with e | e
   ·subst e; exact absurd (hl.1 x hx) (irr _)
   ·exact e
  ·intro hx
   rcases List.mem_cons.1 ((h x).2 (List.mem_cons_of_mem _ hx)) with e | e
   ·subst e; exact absurd (hm.1 x hx) (irr _)
   ·exact e
theorem compact_ok (zs : List Int) (hs : zs.Pairwise (· ≤ ·)) : (Lib.compact zs).Pairwise (· < ·) ∧ ∀ x, x ∈ Lib.compact zs ↔ x ∈ zs := by
 have hget : ∀ j, j < zs.length → zs.toArray[j]! = zs.getD j 0 := fun j hj => by
  rw [getElem!_pos _ j (by simpa using hj)]
  simp [hj]
 have hle : ∀ i j, i ≤ j → j < zs.length → zs.getD i 0 ≤ zs.getD j 0 := fun i j hij hj => by
  rcases Nat.lt_or_eq_of_le hij with h | rfl
  ·have := List.pairwise_iff_getElem.1 hs i j (by omega) hj h
   simpa [List.getD_eq_getElem?_getD, List.getElem?_eq_getElem hj, List.getElem?_eq_getElem (show i < zs.length by omega)] using this
  ·exact Int.le_refl _
 have key : ∀ m, m ≤ zs.length → (Lib.compactUpTo zs.toArray m).Pairwise (· < ·) ∧ (∀ x, x ∈ Lib.compactUpTo zs.toArray m ↔ ∃ j, j < m ∧ x = zs.getD j 0) := by
  intro m
  induction m with
  | zero => exact fun _ => ⟨by simp [Lib.compactUpTo], fun x => by simp [Lib.compactUpTo]⟩
  | succ m ih =>
   intro hm
   obtain ⟨h1, h2⟩ := ih (by omega)
   rw [Lib.compactUpTo_succ]
   by_cases hk : Lib.keeps zs.toArray m = true
   ·rw [if_pos hk]
    refine ⟨List.pairwise_append.2 ⟨h1, by simp, fun a ha b hb => ?_⟩, fun x => ?_⟩
    ·obtain ⟨j, hj, rfl⟩ := (h2 a).1 ha
     rw [List.mem_singleton] at hb
     rw [hb, hget m (by omega)]
     have hk' : m = 0 ∨ zs.toArray[m]! ≠ zs.toArray[m - 1]! := by simpa [Lib.keeps] using hk
     rcases hk' with h0 | hne
     ·omega
     ·rw [hget m (by omega), hget (m - 1) (by omega)] at hne
      have a1 := hle j (m - 1) (by omega) (by omega)
      have a2 := hle (m - 1) m (by omega) (by omega)
      omega
    ·rw [List.mem_append, h2 x, List.mem_singleton, hget m (by omega)]
     constructor
     ·rintro (⟨j, hj, rfl⟩ | rfl)
      ·exact ⟨j, by omega, rfl⟩
      ·exact ⟨m, by omega, rfl⟩
     ·rintro ⟨j, hj, rfl⟩
      rcases Nat.lt_or_ge j m with h | h
      ·exact .inl ⟨j, h, rfl⟩
      ·have : j = m := by omega
       subst this; exact .inr rfl
   ·rw [if_neg hk, List.append_nil]
    refine ⟨h1, fun x => ?_⟩
    rw [h2 x]
    have hk' : m ≠ 0 ∧ zs.toArray[m]! = zs.toArray[m - 1]! := by
     have : ¬ (m = 0 ∨ zs.toArray[m]! ≠ zs.toArray[m - 1]!) := by simpa [Lib.keeps] using hk
     omega
    constructor
    ·rintro ⟨j, hj, rfl⟩; exact ⟨j, by omega, rfl⟩
    ·rintro ⟨j, hj, rfl⟩
     rcases Nat.lt_or_ge j m with h | h
     ·exact ⟨j, h, rfl⟩
     ·have : j = m := by omega
      subst this
      rw [hget j (by omega), hget (j - 1) (by omega)] at hk'
      exact ⟨j - 1, by omega, hk'.2⟩
 obtain ⟨h1, h2⟩ := key zs.length (Nat.le_refl _)
 refine ⟨h1, fun x => (h2 x).trans ?_⟩
 constructor
 ·rintro ⟨j, hj, rfl⟩
  rw [List.getD_eq_getElem?_getD, List.getElem?_eq_getElem hj]
  exact List.getElem_mem hj
 ·intro hx
  obtain ⟨j, hj, rfl⟩ := List.getElem_of_mem hx
  exact ⟨j, hj, by rw [List.getD_eq_getElem?_getD, List.getElem?_eq_getElem hj]; rfl⟩
theorem sorted_compact (F G : List Nat) (hG : G.Pairwise (· < ·)) (h : ∀ x, x ∈ F ↔ x ∈ G) : Lib.compact ((F.map Int.ofNat).mergeSort fun x y => decide (x ≤ y)) = G.map Int.ofNat := by
 have hs := List.pairwise_mergeSort (le := fun x y : Int => decide (x ≤ y)) (fun a b c h1 h2 => by have := of_decide_eq_true h1; have := of_decide_eq_true h2; exact decide_eq_true (by omega)) (fun a b => by simp; omega) (F.map Int.ofNat)
 obtain ⟨h1, h2⟩ := compact_ok _ (hs.imp fun h => of_decide_eq_true h)
 refine eq_of_rising (fun a => by omega) (fun a b c h1 h2 => by omega) h1 (hG.map _ (fun a b h => by show (a : Int) < b; omega)) (fun x => ?_)
 rw [h2 x, List.mem_mergeSort, List.mem_map, List.mem_map]
 constructor
 ·rintro ⟨y, hy, rfl⟩; exact ⟨y, (h y).1 hy, rfl⟩
 ·rintro ⟨y, hy, rfl⟩; exact ⟨y, (h y).2 hy, rfl⟩
end Go.Proofs.Ytihfeoanognonaa
