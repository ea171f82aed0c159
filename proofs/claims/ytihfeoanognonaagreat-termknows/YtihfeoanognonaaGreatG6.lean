/-
 What stands within bytes: the mathematics; sorting and compacting a row of numbers.
-/
import Derived.Test.YtihfeoanognonaaGreatT10
import Derived.Lib.IndexMore
import Derived.Test.YtihfeoanognonaaGreatSh
namespace Go.Proofs.YtihfeoanognonaaGreat
open Go.RowKit
/-! where terms' texts stand -/
def occ (m : Nat) (s : ByteArray) (x : Nat) : Prop := ∃ i, firstT m (s.extract i s.size) = some x
theorem firstT_some {m : Nat} {s : ByteArray} {x : Nat} (h : firstT m s = some x) : 8 ≤ s.size ∧ s.extract 0 4 = hdS ∧ x < m := by
 unfold firstT at h
 split at h
 ·rename_i h1
  obtain rfl := Option.some.inj h
  exact ⟨h1.1, h1.2.1, h1.2.2⟩
 ·cases h
theorem extract_extract (s : ByteArray) (a b : Nat) (h : a + b ≤ s.size) : (s.extract a s.size).extract b (s.extract a s.size).size = s.extract (a + b) s.size := by
 have e : ∀ c, ((bl s).drop c).take (s.size - c) = (bl s).drop c := fun c => List.take_of_length_le (by rw [List.length_drop, bl_len]; exact Nat.le_refl _)
 apply bl_inj
 rw [bl_extract, bl_extract, e a, bl_extract, e (a + b), List.drop_drop, List.take_of_length_le]
 rw [List.length_drop, bl_len, ByteArray.size_extract]
 omega
theorem head_at {s : ByteArray} {i : Nat} (h : (s.extract i s.size).extract 0 4 = hdS) : i + 4 ≤ s.size ∧ ∀ j, j < 4 → (bl s)[i + j]? = (bl hdS)[j]? := by
 have hsz := congrArg ByteArray.size h
 rw [ByteArray.size_extract, ByteArray.size_extract, show hdS.size = 4 from rfl] at hsz
 refine ⟨by omega, fun j hj => ?_⟩
 have hl := congrArg bl h
 rw [bl_extract, bl_extract] at hl
 rw [← hl]
 simp [List.getElem?_take, List.getElem?_drop, hj]
 omega
theorem occAt_head {s : ByteArray} {i : Nat} : Lib.occAt (bl s) (bl hdS) i = true ↔ (s.extract i s.size).extract 0 4 = hdS := by
 have hx : bl ((s.extract i s.size).extract 0 4) = ((bl s).drop i).take 4 := by
  rw [bl_extract, bl_extract, List.drop_zero]
  rw [List.take_take, ← bl_len s]
  have hl : ((bl s).drop i).length = (bl s).length - i := List.length_drop
  rcases Nat.lt_or_ge 4 ((bl s).length - i) with h | h
  ·rw [Nat.min_eq_left (by omega)]
  ·rw [Nat.min_eq_right (by omega), List.take_of_length_le (by omega), List.take_of_length_le (by omega)]
 constructor
 ·intro h
  apply bl_inj
  rw [hx]
  unfold Lib.occAt at h
  exact (List.prefix_iff_eq_take.1 (List.isPrefixOf_iff_prefix.1 h)).symm
 ·intro h
  unfold Lib.occAt
  have h1 := congrArg bl h
  rw [hx] at h1
  exact List.isPrefixOf_iff_prefix.2 (List.prefix_iff_eq_take.2 h1.symm)
theorem occ_none {m : Nat} {s : ByteArray} (h : ∀ j, j ≤ (bl s).length → Lib.occAt (bl s) (bl hdS) j = false) (x : Nat) : ¬ occ m s x := fun ⟨i, hi⟩ => by
 obtain ⟨h1, h2, _⟩ := firstT_some hi
 have := (head_at h2).1
 have h3 := h i (by rw [bl_len]; omega)
 rw [occAt_head.2 h2] at h3
 cases h3
theorem occ_step {m : Nat} {s : ByteArray} {i : Nat} (hi : Lib.occAt (bl s) (bl hdS) i = true) (hno : Lib.NoOcc (bl s) (bl hdS) i) (x : Nat) : occ m s x ↔ firstT m (s.extract i s.size) = some x ∨ occ m (s.extract (i + 4) s.size) x := by
 have hd := head_at (occAt_head.1 hi)
 constructor
 ·rintro ⟨j, hj⟩
  obtain ⟨h1, h2, _⟩ := firstT_some hj
  have hdj := head_at h2
  rcases Nat.lt_trichotomy j i with hlt | rfl | hgt
  ·have := hno j hlt
   rw [occAt_head.2 h2] at this
   cases this
  ·exact .inl hj
  ·rcases Nat.lt_or_ge j (i + 4) with h4 | h4
   ·exfalso
    have e1 := hdj.2 0 (by decide)
    have e2 := hd.2 (j - i) (by omega)
    rw [show i + (j - i) = j + 0 by omega, e1] at e2
    have : j - i = 1 ∨ j - i = 2 ∨ j - i = 3 := by omega
    rcases this with h | h | h <;> rw [h] at e2 <;> revert e2 <;> decide
   ·refine .inr ⟨j - (i + 4), ?_⟩
    rw [extract_extract s (i + 4) (j - (i + 4)) (by omega), show i + 4 + (j - (i + 4)) = j by omega]
    exact hj
 ·rintro (h | ⟨j, hj⟩)
  ·exact ⟨i, h⟩
  ·refine ⟨i + 4 + j, ?_⟩
   obtain ⟨h1, _, _⟩ := firstT_some hj
   rw [ByteArray.size_extract, ByteArray.size_extract] at h1
   rw [← extract_extract s (i + 4) j (by omega)]
   exact hj
def wth (m : Nat) (s : ByteArray) : List Nat := (List.range m).filter fun x => (List.range s.size).any fun i => decide (firstT m (s.extract i s.size) = some x)
theorem mem_wth (m : Nat) (s : ByteArray) (x : Nat) : x ∈ wth m s ↔ occ m s x := by
 unfold wth
 rw [List.mem_filter, List.mem_range, List.any_eq_true]
 constructor
 ·rintro ⟨_, i, _, hi⟩
  exact ⟨i, of_decide_eq_true hi⟩
 ·rintro ⟨i, hi⟩
  obtain ⟨h1, _, h3⟩ := firstT_some hi
  rw [ByteArray.size_extract] at h1
  exact ⟨h3, i, List.mem_range.2 (by omega), decide_eq_true hi⟩
theorem wth_sorted (m : Nat) (s : ByteArray) : (wth m s).Pairwise (· < ·) := List.Pairwise.filter _ List.pairwise_lt_range
/-! rising rows -/
theorem eq_of_rising {α : Type} [LT α] (irr : ∀ a : α, ¬ a < a) (tr : ∀ a b c : α, a < b → b < c → a < c) : ∀ {l m : List α}, l.Pairwise (· < ·) → m.Pairwise (· < ·) → (∀ x, x ∈ l ↔ x ∈ m) → l = m
 | [], [], _, _, _ => rfl
 | [], b :: m, _, _, h => absurd ((h b).2 (List.mem_cons_self ..)) (by simp)
 | a :: l, [], _, _, h => absurd ((h a).1 (List.mem_cons_self ..)) (by simp)
 | a :: l, b :: m, hl, hm, h => by
  rw [List.pairwise_cons] at hl hm
  have hab : a = b := by
   rcases List.mem_cons.1 ((h a).1 (List.mem_cons_self ..)) with e | e
   ·exact e
   ·rcases List.mem_cons.1 ((h b).2 (List.mem_cons_self ..)) with e' | e'
    ·exact e'.symm
    ·exact absurd (tr _ _ _ (hm.1 a e) (hl.1 b e')) (irr _)
  subst hab
  rw [eq_of_rising irr tr hl.2 hm.2 (fun x => ?_)]
  constructor
  ·intro hx
   rcases List.mem_cons.1 ((h x).1 (List.mem_cons_of_mem _ hx)) with e | e
   ·subst e; exact absurd (hl.1 x hx) (irr _)
   ·exact e
  ·intro hx
   rcases List.mem_cons.1 ((h x).2 (List.mem_cons_of_mem _ hx)) with e | e
   ·subst e; exact absurd (hm.1 x hx) (irr _)
   ·exact e
theorem compact_ok (zs : List Int) (hs : zs.Pairwise (· ≤ ·)) : (Lib.compact zs).Pairwise (· < ·) ∧ ∀ x, x ∈ Lib.compact zs ↔ x ∈ zs := by
 have hget : ∀ j, j < zs.length → zs.toArray[j]! = zs.getD j 0 := fun j hj => by
  rw [getElem!_pos _ j (by simpa using hj)]
  simp [hj]
 have hle : ∀ i j, i ≤ j → j < zs.length → zs.getD i 0 ≤ zs.getD j 0 := fun i j hij hj => by
  rcases Nat.lt_or_eq_of_le hij with h | rfl
  ·have := List.pairwise_iff_getElem.1 hs i j (by omega) hj h
   simpa [List.getD_eq_getElem?_getD, List.getElem?_eq_getElem hj, List.getElem?_eq_getElem (show i < zs.length by omega)] using this
  ·exact Int.le_refl _
 have key : ∀ m, m ≤ zs.length → (Lib.compactUpTo zs.toArray m).Pairwise (· < ·) ∧ (∀ x, x ∈ Lib.compactUpTo zs.toArray m ↔ ∃ j, j < m ∧ x = zs.getD j 0) := by
  intro m
  induction m with
  | zero => exact fun _ => ⟨by simp [Lib.compactUpTo], fun x => by simp [Lib.compactUpTo]⟩
  | succ m ih =>
   intro hm
   obtain ⟨h1, h2⟩ := ih (by omega)
   rw [Lib.compactUpTo_succ]
   by_cases hk : Lib.keeps zs.toArray m = true
   ·rw [if_pos hk]
    refine ⟨List.pairwise_append.2 ⟨h1, by simp, fun a ha b hb => ?_⟩, fun x => ?_⟩
    ·obtain ⟨j, hj, rfl⟩ := (h2 a).1 ha
     rw [List.mem_singleton] at hb
     rw [hb, hget m (by omega)]
     have hk' : m = 0 ∨ zs.toArray[m]! ≠ zs.toArray[m - 1]! := by simpa [Lib.keeps] using hk
     rcases hk' with h0 | hne
     ·omega
     ·rw [hget m (by omega), hget (m - 1) (by omega)] at hne
      have a1 := hle j (m - 1) (by omega) (by omega)
      have a2 := hle (m - 1) m (by omega) (by omega)
      omega
    ·rw [List.mem_append, h2 x, List.mem_singleton, hget m (by omega)]
     constructor
     ·rintro (⟨j, hj, rfl⟩ | rfl)
      ·exact ⟨j, by omega, rfl⟩
      ·exact ⟨m, by omega, rfl⟩
     ·rintro ⟨j, hj, rfl⟩
      rcases Nat.lt_or_ge j m with h | h
      ·exact .inl ⟨j, h, rfl⟩
      ·have : j = m := by omega
       subst this; exact .inr rfl
   ·rw [if_neg hk, List.append_nil]
    refine ⟨h1, fun x => ?_⟩
    rw [h2 x]
    have hk' : m ≠ 0 ∧ zs.toArray[m]! = zs.toArray[m - 1]! := by
     have : ¬ (m = 0 ∨ zs.toArray[m]! ≠ zs.toArray[m - 1]!) := by simpa [Lib.keeps] using hk
     omega
    constructor
    ·rintro ⟨j, hj, rfl⟩; exact ⟨j, by omega, rfl⟩
    ·rintro ⟨j, hj, rfl⟩
     rcases Nat.lt_or_ge j m with h | h
     ·exact ⟨j, h, rfl⟩
     ·have : j = m := by omega
      subst this
      rw [hget j (by omega), hget (j - 1) (by omega)] at hk'
      exact ⟨j - 1, by omega, hk'.2⟩
 obtain ⟨h1, h2⟩ := key zs.length (Nat.le_refl _)
 refine ⟨h1, fun x => (h2 x).trans ?_⟩
 constructor
 ·rintro ⟨j, hj, rfl⟩
  rw [List.getD_eq_getElem?_getD, List.getElem?_eq_getElem hj]
  exact List.getElem_mem hj
 ·intro hx
  obtain ⟨j, hj, rfl⟩ := List.getElem_of_mem hx
  exact ⟨j, hj, by rw [List.getD_eq_getElem?_getD, List.getElem?_eq_getElem hj]; rfl⟩
theorem sorted_compact (F G : List Nat) (hG : G.Pairwise (· < ·)) (h : ∀ x, x ∈ F ↔ x ∈ G) : Lib.compact ((F.map Int.ofNat).mergeSort fun x y => decide (x ≤ y)) = G.map Int.ofNat := by
 have hs := List.pairwise_mergeSort (le := fun x y : Int => decide (x ≤ y)) (fun a b c h1 h2 => by have := of_decide_eq_true h1; have := of_decide_eq_true h2; exact decide_eq_true (by omega)) (fun a b => by simp; omega) (F.map Int.ofNat)
 obtain ⟨h1, h2⟩ := compact_ok _ (hs.imp fun h => of_decide_eq_true h)
 refine eq_of_rising (fun a => by omega) (fun a b c h1 h2 => by omega) h1 (hG.map _ (fun a b h => by show (a : Int) < b; omega)) (fun x => ?_)
 rw [h2 x, List.mem_mergeSort, List.mem_map, List.mem_map]
 constructor
 ·rintro ⟨y, hy, rfl⟩; exact ⟨y, (h y).1 hy, rfl⟩
 ·rintro ⟨y, hy, rfl⟩; exact ⟨y, (h y).2 hy, rfl⟩
end Go.Proofs.YtihfeoanognonaaGreat

namespace Go.Proofs.YtihfeoanognonaaGreat
set_option linter.unusedVariables false
set_option maxRecDepth 100000
set_option maxHeartbeats 2000000
open Go.RowKit
theorem HA.row {z : Base} {L : BL} {w : World} {q : Nat} {c : Array Value} (H : HA z ((q, 3, c) :: L) w) (d : Array Int) (n : Nat) (os : Array Obj) : HA z ((q, 3, Sort.putCells (Value.int .i64) 0 d c) :: L) (Sort.grow (Sort.putRow (Value.int .i64) (Sort.ahead w n) q 0 d) os) := by
 have hq := H.get 0 rfl
 have hnd := H.nd
 simp only [List.map_cons, List.nodup_cons] at hnd
 have hlt : q < w.heap.size := hq.lt
 have hne : ∀ b, b < w.heap.size → b ≠ q → (Sort.grow (Sort.putRow (Value.int .i64) (Sort.ahead w n) q 0 d) os).heap[b]? = w.heap[b]? := fun b hb hbq => by
  rw [Sort.heap_grow_old _ _ (by simpa using hb)]
  simp [Sort.putRow, Sort.mapBlock, Array.getElem?_modify, Ne.symm hbq]
 have hB : Blk (Sort.grow (Sort.putRow (Value.int .i64) (Sort.ahead w n) q 0 d) os) q 3 (Sort.putCells (Value.int .i64) 0 d c) := by
  obtain ⟨f, hf, hff⟩ := hq
  refine ⟨f, ?_, ?_⟩
  ·rw [Sort.heap_grow_old _ _ (by simpa using hlt)]
   simp only [Sort.putRow, Sort.mapBlock, Array.getElem?_modify, Sort.heap_ahead, hf, if_true]
   rfl
  ·rcases hff with h | ⟨h, _⟩
   ·exact .inl h
   ·cases h
 have hg : w.grownBy (Sort.grow (Sort.putRow (Value.int .i64) (Sort.ahead w n) q 0 d) os) (some q) := ⟨rfl, rfl, rfl, by simp, fun b hb hbq => hne b hb (fun e => hbq (by rw [e]))⟩
 have HL : HA z L (Sort.grow (Sort.putRow (Value.int .i64) (Sort.ahead w n) q 0 d) os) := HA.grownL (row := some q) H.tl hg (fun k hk => by
  obtain rfl := Option.some.inj hk
  exact ⟨H.own _ (List.mem_cons_self ..), fun x hx e => hnd.1 (List.mem_map.2 ⟨x, hx, e⟩), H.tl.old.far hq⟩)
 exact HL.consNew hB (H.own _ (List.mem_cons_self ..)) (fun x hx e => hnd.1 (List.mem_map.2 ⟨x, hx, e⟩))
theorem put_get (d : Array Int) (c : Array Value) (j : Nat) (hj : j < d.size) (hc : j < c.size) : (Sort.putCells (Value.int .i64) 0 d c)[j]? = some (.int .i64 d[j]!) := by
 simp [Sort.putCells, hc, hj]
def preZ (c : Array Value) (zs : List Int) : Prop := zs.length ≤ c.size ∧ ∀ j, j < zs.length → c[j]? = some (.int .i64 (zs.getD j 0))
theorem preZ.holds {w : World} {q : Nat} {c : Array Value} {zs : List Int} (h : preZ c zs) (hb : Blk w q 3 c) : Sort.Holds (Value.int .i64) w q 0 zs.toArray := fun j hj => by
 have hj' : j < zs.length := by simpa using hj
 rw [Nat.zero_add, hb.cell j, h.2 j hj', getElem!_pos _ j (by simpa using hj)]
 refine ⟨by simp [hj'], hb.free j (by have := h.1; omega)⟩
theorem preZ.put {c : Array Value} (d : Array Int) (hd : d.size ≤ c.size) : preZ (Sort.putCells (Value.int .i64) 0 d c) d.toList := by
 refine ⟨by simp [Sort.putCells]; exact hd, fun j hj => ?_⟩
 have hj' : j < d.size := by simpa using hj
 rw [put_get d c j hj' (by omega), getElem!_pos _ j hj']
 simp [hj']
theorem sort_ok {z : Base} {L : BL} {w : World} {q : Nat} {c : Array Value} (H : HA z ((q, 3, c) :: L) w) (zs : List Int) (hz : preZ c zs) (cap : Nat) (hl : zs.length ≤ 1000000) :
  Calls Tryz.prog 43 #[.slice (some ⟨q, 0, none⟩) zs.length cap] w fun e w' => e = .returned (.tuple #[]) ∧ ∃ c', HA z ((q, 3, c') :: L) w' ∧ preZ c' (zs.mergeSort fun x y => decide (x ≤ y)) := by
 refine (Tryz.slices_Sort_int q 0 cap zs w (hz.holds (H.get 0 rfl)) (H.get 0 rfl).lt (by omega)).mono ?_
 rintro e w' ⟨rfl, n, os, rfl⟩
 exact ⟨rfl, _, H.row _ n os, by simpa using preZ.put (zs.mergeSort fun x y => decide (x ≤ y)).toArray (by simpa using hz.1)⟩
theorem compact_ok' {z : Base} {L : BL} {w : World} {q : Nat} {c : Array Value} (H : HA z ((q, 3, c) :: L) w) (zs : List Int) (hz : preZ c zs) (cap : Nat) (hl : zs.length ≤ 1000000) (hcap : zs.length ≤ cap) :
  Calls Tryz.prog 44 #[.slice (some ⟨q, 0, none⟩) zs.length cap] w fun e w' => e = .returned (.slice (some ⟨q, 0, none⟩) (Lib.compact zs).length cap) ∧ ∃ c', HA z ((q, 3, c') :: L) w' ∧ preZ c' (Lib.compact zs) := by
 refine (Tryz.slices_Compact_int q 0 cap zs w (hz.holds (H.get 0 rfl)) (by omega) hcap).mono ?_
 rintro e w' ⟨rfl, n, rfl⟩
 have hle := Lib.compact_length_le zs
 have h1 := H.row (Lib.compact zs ++ List.replicate (zs.length - (Lib.compact zs).length) 0).toArray n #[]
 rw [Sort.grow_empty] at h1
 refine ⟨rfl, _, h1, ?_⟩
 have h2 := preZ.put (c := c) (Lib.compact zs ++ List.replicate (zs.length - (Lib.compact zs).length) 0).toArray (by simp; have := hz.1; omega)
 refine ⟨by have := h2.1; simp at this ⊢; omega, fun j hj => ?_⟩
 rw [h2.2 j (by simp; omega)]
 simp [List.getElem?_append, hj]
theorem index_any (s : ByteArray) {m0 : Int} (hs : s.size < 4294967281) {w : World} (hm : w.cell? ⟨0, 0, none⟩ = some (.int .i64 m0)) :
  Calls Tryz.prog 41 #[.string s, .string hdS] w fun e w' => e = .returned (.int .i64 (Lib.index (bl s) (bl hdS))) ∧ Below w.heap.size w w' := by
 refine (Tryz.strings_Index s hdS m0 w hs hm).mono ?_
 rintro e w' ⟨rfl, rfl⟩
 exact ⟨rfl, Below.refl _ _⟩
theorem cell_below {w w' : World} {v : Value} (hb : Below w.heap.size w w') (h : w.cell? ⟨0, 0, none⟩ = some v) : w'.cell? ⟨0, 0, none⟩ = some v := by
 have hlt : 0 < w.heap.size := by
  rcases Nat.eq_zero_or_pos w.heap.size with h0 | h0
  ·simp [World.cell?, Array.getElem?_eq_none (show w.heap.size ≤ 0 by omega)] at h
  ·exact h0
 rw [World.cell?_of_block (w := w) (hb.block 0 hlt)]
 exact h
theorem ints_pre {F : List Nat} {cur : Array Value} (h : cur.toList.take (F.length * 1) = F.map (iN .i64 ·)) (hs : F.length ≤ cur.size) : preZ cur (F.map Int.ofNat) := by
 refine ⟨by simpa using hs, fun j hj => ?_⟩
 have hj' : j < F.length := by simpa using hj
 have h1 : (cur.toList.take (F.length * 1))[j]? = (F.map (iN .i64 ·))[j]? := by rw [h]
 rw [Nat.mul_one, List.getElem?_take, if_pos hj', List.getElem?_map, List.getElem?_eq_getElem hj'] at h1
 rw [List.getD_eq_getElem?_getD, List.getElem?_map, List.getElem?_eq_getElem hj']
 simpa [iN] using h1
def RI (B : Nat) (w : World) (o : Option Addr) (ps : List Nat) : Prop := ps = [] ∨ ∃ q c, o = some ⟨q, 0, none⟩ ∧ B ≤ q ∧ Blk w q 3 c ∧ ∀ j, j < ps.length → c[j]? = some (iN .i64 (ps.getD j 0))
theorem RI.keep {B : Nat} {w w' : World} {o : Option Addr} {ps : List Nat} (h : RI B w o ps) (hb : Below w.heap.size w w') : RI B w' o ps := h.imp id (fun ⟨q, c, h1, h2, h3, h4⟩ => ⟨q, c, h1, h2, h3.keep hb, h4⟩)
theorem Within_blk {w : World} {q : Nat} {t : Tb} {n m c : Nat} {p : Option Addr} (hq : Blk w q 61 (tcell t n (.slice p m c))) (hm : m ≤ 65536) {m0 : Int} (hv : w.cell? ⟨0, 0, none⟩ = some (.int .i64 m0)) (s : ByteArray) (hs : s.size ≤ 1000000) :
  Calls Tryz.prog 20 #[pt q, .string s] w fun e w' => ∃ o' c', e = .returned (.slice o' (wth m s).length c') ∧ RI w.heap.size w' o' (wth m s) ∧ Below w.heap.size w w' := by
 have H0 := HA.start w
 go_enter Tryz.func20, Tryz.ntmps20
 refine zsr ?_
 refine zwv (.slice none 0 0) ?_
 refine znt ?_
 refine zsr ?_
 refine zwv (.slice none 0 0) ?_
 refine znt ?_
 refine wp_seq ?_
 refine zsr ?_
 refine zwv (.string s) ?_
 refine zwc H0 enter41 (index_any s (by omega) (cell_below H0.old.old hv)) ?_
 intro w1 h2
 refine zwv (.int .i64 (Lib.index (bl s) (bl hdS))) ?_
 refine znt ?_
 refine wp_block ?_
 refine wp_while (fun mq A w' => ∃ (s1 : ByteArray) (F : List Nat) (v : Value) (Lr : BL) (u3 : Nat → Value), mq = s1.size ∧ A = ⟨(pt q :: .string s1 :: un :: un :: .slice none 0 0 :: v :: .int .i64 (Lib.index (bl s1) (bl hdS)) :: u3 7 :: u3 8 :: .string s :: .int .i64 (Lib.index (bl s) (bl hdS)) :: u3 11 :: u3 12 :: u3 13 :: u3 14 :: u3 15 :: u3 16 :: u3 17 :: u3 18 :: u3 19 :: u3 20 :: u3 21 :: u3 22 :: u3 23 :: u3 24 :: u3 25 :: u3 26 :: u3 27 :: u3 28 :: u3 29 :: u3 30 :: u3 31 :: List.replicate 4 un).toArray, []⟩ ∧ Row 3 1 v F.length (F.map (iN .i64 ·)) Lr ∧ HA (bs w) (Lr ++ []) w' ∧ (∀ y, occ m s y ↔ y ∈ F ∨ occ m s1 y) ∧ s1.size ≤ 1000000 ∧ F.length + s1.size ≤ 1000000) s.size ?_ ?_
 ·exact ⟨s, [], .slice none 0 0, [], lku (fun _ => undef) [], rfl, by kernel_rfl, Row.nil 3 1, h2, (by simp), hs, by simpa using hs⟩
 rintro _ _ w4 ⟨s1, F, v, Lr, u3, rfl, rfl, hR, hH, hoccs, hs1, hFl⟩
 obtain ⟨pv, cv, rfl⟩ := hR.form
 rcases Lib.index_spec (bl s1) (bl hdS) with ⟨hi, hno⟩ | ⟨i, hi, hil, hoc, hno⟩
 ·rw [hi]
  refine wp_seq ?_
  refine zsr ?_
  refine zwv (.int .i64 (-1)) ?_
  refine zwv (.bool false) ?_
  refine znt ?_
  refine zcf ?_
  refine wp_exit ?_
  repeat first | refine then_exit ?_ | refine block_exit ?_ | refine block_exit_ne (by decide) ?_
  refine then_at rfl ?_
  refine wp_seq ?_
  have hset : ∀ y, y ∈ F ↔ y ∈ wth m s := fun y => by rw [mem_wth, hoccs y]; simp [occ_none hno y]
  by_cases hF : F = []
  ·subst hF
   have hwe : wth m s = [] := List.eq_nil_iff_forall_not_mem.2 fun y hy => by simpa using (hset y).2 hy
   refine wl_region ?_
   refine zwv (.slice pv 0 cv) ?_
   refine wl_call (v := .tuple #[]) hH enter43 #[.slice pv 0 cv] (by refine (Tryz.slices_Sort_int_none pv cv w4).mono ?_; rintro e w2 ⟨rfl, rfl⟩; exact ⟨rfl, Below.refl _ _⟩) ?_
   intro w5 h6
   refine znt ?_
   refine zsr ?_
   refine zwv (.slice pv 0 cv) ?_
   refine wl_call (v := .slice pv 0 cv) h6 enter44 #[.slice pv 0 cv] (by refine (Tryz.slices_Compact_int_empty pv cv w5).mono ?_; rintro e w2 ⟨rfl, rfl⟩; exact ⟨rfl, Below.refl _ _⟩) ?_
   intro w7 h8
   refine zwv (.slice pv 0 cv) ?_
   refine znt ?_
   refine wp_ret ?_
   repeat first | refine then_ret ?_ | refine block_ret ?_
   exact bodyPost_ret (v := .slice pv 0 cv) (by kernel_rfl) rfl ⟨pv, cv, by rw [hwe]; rfl, .inl hwe, h8.old.old⟩
  ·obtain ⟨g, cap, cur, hvv, rfl, hc1, hc2, hc3, hc4⟩ : ∃ g cap cur, Value.slice pv F.length cv = .slice (some ⟨g, 0, none⟩) F.length cap ∧ Lr = [(g, 3, cur)] ∧ F.length ≤ cap ∧ cap ≤ maxLen ∧ cur.size = cap * 1 ∧ cur.toList.take (F.length * 1) = F.map (iN .i64 ·) := by
    rcases hR.2 with ⟨_, h2, _⟩ | h
    ·exact absurd (List.length_eq_zero_iff.1 h2) hF
    ·exact h
   rw [hvv]
   have hpz := ints_pre hc4 (by omega)
   rw [show F.length = (F.map Int.ofNat).length by simp]
   refine wl_region ?_
   refine zwv (.slice (some ⟨g, 0, none⟩) (F.map Int.ofNat).length cap) ?_
   refine wl_callx enter43 #[.slice (some ⟨g, 0, none⟩) (F.map Int.ofNat).length cap] (sort_ok hH (F.map Int.ofNat) hpz cap (by simp; omega)) ?_
   rintro _ w9 ⟨rfl, c2, hS, hpz2⟩
   refine ⟨_, rfl, ?_⟩
   refine znt ?_
   refine wp_seq ?_
   rw [show (F.map Int.ofNat).length = ((F.map Int.ofNat).mergeSort fun x y => decide (x ≤ y)).length by simp]
   refine wl_region ?_
   refine zwv (.slice (some ⟨g, 0, none⟩) ((F.map Int.ofNat).mergeSort fun x y => decide (x ≤ y)).length cap) ?_
   refine wl_callx enter44 #[.slice (some ⟨g, 0, none⟩) ((F.map Int.ofNat).mergeSort fun x y => decide (x ≤ y)).length cap] (compact_ok' hS _ hpz2 cap (by simp; omega) (by simp; omega)) ?_
   rintro _ w10 ⟨rfl, c3, hK, hpz3⟩
   refine ⟨_, rfl, ?_⟩
   refine zwv (.slice (some ⟨g, 0, none⟩) (Lib.compact ((F.map Int.ofNat).mergeSort fun x y => decide (x ≤ y))).length cap) ?_
   refine znt ?_
   refine wp_ret ?_
   repeat first | refine then_ret ?_ | refine block_ret ?_
   have hcl := sorted_compact F (wth m s) (wth_sorted m s) hset
   rw [hcl] at hpz3 ⊢
   exact bodyPost_ret (v := .slice (some ⟨g, 0, none⟩) ((wth m s).map Int.ofNat).length cap) (by kernel_rfl) rfl ⟨some ⟨g, 0, none⟩, cap, by rw [List.length_map], .inr ⟨g, c3, rfl, hK.own _ (List.mem_cons_self ..), hK.get 0 rfl, fun j hj => by rw [hpz3.2 j (by simpa using hj)]; simp [hj, iN]⟩, hK.old.old⟩
 ·rw [hi]
  have hir := Lib.index_room (bl s1) (bl hdS) (by rw [hi]; omega)
  rw [hi, bl_len, bl_len, show hdS.size = 4 from rfl] at hir
  refine wp_seq ?_
  refine zsr ?_
  refine zwv (iN .i64 i) ?_
  refine zwu (run_geq (k := .i64) (a := i) (b := 0) true (decide_eq_true (by omega))) ?_
  refine znt ?_
  refine zct ?_
  refine wp_skip ?_
  refine then_at rfl ?_
  refine wp_seq ?_
  refine wp_block ?_
  refine wp_seq ?_
  refine wp_seq ?_
  cases hfx : firstT m (s1.extract i s1.size)
  ·refine wl_region ?_
   refine zwv (.pointer (some ⟨q, 0, none⟩)) ?_
   refine zwv (.string s1) ?_
   refine zwv (iN .i64 i) ?_
   refine zwu (v := .string (s1.extract i s1.size)) (run_cut_lo (s := s1) (a := i) (by kernel_rfl) (by kernel_rfl) (by omega)) ?_
   refine wl_call (v := .tuple #[iN .i64 0, .bool false]) hH enter42 #[.pointer (some ⟨q, 0, none⟩), .string (s1.extract i s1.size)] (by have := first_any (hq.keep hH.old.old) hm (s1.extract i s1.size); rw [hfx] at this; exact this) ?_
   intro w11 h12
   refine zwv (.tuple #[iN .i64 0, .bool false]) ?_
   refine zwv (iN .i64 0) ?_
   refine zwv (.bool false) ?_
   refine zwv (iN .i64 0) ?_
   refine zwv (.bool false) ?_
   refine znt ?_
   refine zsr ?_
   refine zwv (.bool false) ?_
   refine znt ?_
   refine zcf ?_
   refine wp_skip ?_
   refine then_at rfl ?_
   refine wl_region ?_
   refine zwv (.string s1) ?_
   refine zwv (iN .i64 i) ?_
   refine zwu (run_add (k := .i64) (a := i) (b := 4) (by simp only [top]; omega)) ?_
   refine zwu (v := .string (s1.extract (i + 4) s1.size)) (run_cut_lo (s := s1) (a := i + 4) (by kernel_rfl) (by kernel_rfl) (by omega)) ?_
   refine zwv (.string (s1.extract (i + 4) s1.size)) ?_
   refine wl_nil ?_
   refine block_normal ?_
   refine then_at rfl ?_
   refine wl_region ?_
   refine zwv (.string (s1.extract (i + 4) s1.size)) ?_
   refine zwc h12 enter41 (index_any (s1.extract (i + 4) s1.size) (by rw [ByteArray.size_extract]; omega) (cell_below h12.old.old hv)) ?_
   intro w13 h14
   refine zwv (.int .i64 (Lib.index (bl (s1.extract (i + 4) s1.size)) (bl hdS))) ?_
   refine wl_nil ?_
   exact then_I ⟨(s1.extract (i + 4) s1.size).size, (by rw [ByteArray.size_extract]; omega), s1.extract (i + 4) s1.size, F, (.slice pv F.length cv), Lr, lku u3 [(7, iN .i64 0), (8, .bool false), (11, iN .i64 i), (12, .bool true), (13, .string (s1.extract (i + 4) s1.size)), (14, .int .i64 (Lib.index (bl (s1.extract (i + 4) s1.size)) (bl hdS))), (15, .tuple #[iN .i64 0, .bool false]), (16, .pointer (some ⟨q, 0, none⟩)), (17, .string s1), (18, iN .i64 i), (19, .string (s1.extract i s1.size)), (20, .tuple #[iN .i64 0, .bool false]), (21, iN .i64 0), (22, .bool false), (23, .bool false), (28, .string s1), (29, iN .i64 i), (30, iN .i64 (i + 4)), (31, .string (s1.extract (i + 4) s1.size))], rfl, by kernel_rfl, hR, h14, by intro y; rw [hoccs y, occ_step hoc hno y, hfx]; simp, by rw [ByteArray.size_extract]; omega, by rw [ByteArray.size_extract]; omega⟩
  ·rename_i x
   refine wl_region ?_
   refine zwv (.pointer (some ⟨q, 0, none⟩)) ?_
   refine zwv (.string s1) ?_
   refine zwv (iN .i64 i) ?_
   refine zwu (v := .string (s1.extract i s1.size)) (run_cut_lo (s := s1) (a := i) (by kernel_rfl) (by kernel_rfl) (by omega)) ?_
   refine wl_call (v := .tuple #[iN .i64 x, .bool true]) hH enter42 #[.pointer (some ⟨q, 0, none⟩), .string (s1.extract i s1.size)] (by have := first_any (hq.keep hH.old.old) hm (s1.extract i s1.size); rw [hfx] at this; exact this) ?_
   intro w15 h16
   refine zwv (.tuple #[iN .i64 x, .bool true]) ?_
   refine zwv (iN .i64 x) ?_
   refine zwv (.bool true) ?_
   refine zwv (iN .i64 x) ?_
   refine zwv (.bool true) ?_
   refine znt ?_
   refine zsr ?_
   refine zwv (.bool true) ?_
   refine znt ?_
   refine zct ?_
   refine wl_region ?_
   refine zwv (.slice pv F.length cv) ?_
   refine zwv (iN .i64 x) ?_
   refine wl_mks (n := 1) (m := 1) (c := intc [x]) h16 3 ?_
   intro q17 w18 (h19 : HA (bs w) ((q17, 3, intc [x]) :: (Lr ++ [])) w18)
   refine wl_append (m := 1) (c := 1) hR h19 (.int .i64 0) 8 Tryz.underlying63 info3 rfl rfl (h1 := (one_intc _)) (by unfold maxLen; omega) (by omega) ?_
   intro v1 w20 Lr1 hR1 h21
   refine zwv (v1) ?_
   refine znt ?_
   refine wl_region ?_
   refine zwv (.string s1) ?_
   refine zwv (iN .i64 i) ?_
   refine zwu (run_add (k := .i64) (a := i) (b := 4) (by simp only [top]; omega)) ?_
   refine zwu (v := .string (s1.extract (i + 4) s1.size)) (run_cut_lo (s := s1) (a := i + 4) (by kernel_rfl) (by kernel_rfl) (by omega)) ?_
   refine zwv (.string (s1.extract (i + 4) s1.size)) ?_
   refine wl_nil ?_
   refine block_normal ?_
   refine then_at rfl ?_
   refine wl_region ?_
   refine zwv (.string (s1.extract (i + 4) s1.size)) ?_
   refine zwc h21 enter41 (index_any (s1.extract (i + 4) s1.size) (by rw [ByteArray.size_extract]; omega) (cell_below h21.old.old hv)) ?_
   intro w22 h23
   refine zwv (.int .i64 (Lib.index (bl (s1.extract (i + 4) s1.size)) (bl hdS))) ?_
   refine wl_nil ?_
   exact then_I ⟨(s1.extract (i + 4) s1.size).size, (by rw [ByteArray.size_extract]; omega), s1.extract (i + 4) s1.size, F ++ [x], v1, Lr1, lku (fun _ => undef) [(7, iN .i64 x), (8, .bool true), (11, iN .i64 i), (12, .bool true), (13, .string (s1.extract (i + 4) s1.size)), (14, .int .i64 (Lib.index (bl (s1.extract (i + 4) s1.size)) (bl hdS))), (15, .tuple #[iN .i64 x, .bool true]), (16, .pointer (some ⟨q, 0, none⟩)), (17, .string s1), (18, iN .i64 i), (19, .string (s1.extract i s1.size)), (20, .tuple #[iN .i64 x, .bool true]), (21, iN .i64 x), (22, .bool true), (23, .bool true), (24, .slice pv F.length cv), (25, iN .i64 x), (26, .slice (some ⟨q17, 0, none⟩) 1 1), (27, v1), (28, .string s1), (29, iN .i64 i), (30, iN .i64 (i + 4)), (31, .string (s1.extract (i + 4) s1.size))], rfl, by kernel_rfl, by simpa [intc] using hR1, h23, by intro y; rw [hoccs y, occ_step hoc hno y, hfx]; rw [List.mem_append, List.mem_singleton, Option.some.injEq, or_assoc, eq_comm (a := x)], by rw [ByteArray.size_extract]; omega, by rw [List.length_append, List.length_singleton, ByteArray.size_extract]; omega⟩
end Go.Proofs.YtihfeoanognonaaGreat
