/-
  What stands within bytes: the mathematics; sorting and compacting a row of numbers.
-/
import Derived.Test.YtoogiblkommdfaaGreatT10
import Derived.Lib.IndexMore
import Derived.Test.YtoogiblkommdfaaGreatSh
set_option linter.unusedVariables false
namespace Go.Proofs.YtoogiblkommdfaaGreat
open Go.RowKit

/-! where terms' texts stand -/
def occ (m : Nat) (s : ByteArray) (x : Nat) : Prop := ∃ i, firstT m (s.extract i s.size) = some x
theorem firstT_some {m : Nat} {s : ByteArray} {x : Nat} (h : firstT m s = some x) : 8 ≤ s.size ∧ s.extract 0 4 = hdS ∧ x < m := by
  unfold firstT at h
  split at h
  · rename_i h1
    obtain rfl := Option.some.inj h
    exact ⟨h1.1, h1.2.1, h1.2.2⟩
  · cases h
theorem extract_extract (s : ByteArray) (a b : Nat) (h : a + b ≤ s.size) : (s.extract a s.size).extract b (s.extract a s.size).size = s.extract (a + b) s.size := by
  have e : ∀ c, ((bl s).drop c).take (s.size - c) = (bl s).drop c := fun c => List.take_of_length_le (by rw [List.length_drop, bl_len]; exact Nat.le_refl _)
  apply bl_inj
  rw [bl_extract, bl_extract, e a, bl_extract, e (a + b), List.drop_drop, List.take_of_length_le]
  rw [List.length_drop, bl_len, ByteArray.size_extract]
  omega
theorem head_at {s : ByteArray} {i : Nat} (h : (s.extract i s.size).extract 0 4 = hdS) : i + 4 ≤ s.size ∧ ∀ j, j < 4 → (bl s)[i + j]? = (bl hdS)[j]? := by
  have hsz := congrArg ByteArray.size h
  rw [ByteArray.size_extract, ByteArray.size_extract, show hdS.size = 4 from rfl] at hsz
  refine ⟨by omega, fun j hj => ?_⟩
  have hl := congrArg bl h
  rw [bl_extract, bl_extract] at hl
  rw [← hl]
  simp [List.getElem?_take, List.getElem?_drop, hj]
  omega
theorem occAt_head {s : ByteArray} {i : Nat} : Lib.occAt (bl s) (bl hdS) i = true ↔ (s.extract i s.size).extract 0 4 = hdS := by
  have hx : bl ((s.extract i s.size).extract 0 4) = ((bl s).drop i).take 4 := by
    rw [bl_extract, bl_extract, List.drop_zero]
    rw [List.take_take, ← bl_len s]
    have hl : ((bl s).drop i).length = (bl s).length - i := List.length_drop
    rcases Nat.lt_or_ge 4 ((bl s).length - i) with h | h
    · rw [Nat.min_eq_left (by omega)]
    · rw [Nat.min_eq_right (by omega), List.take_of_length_le (by omega), List.take_of_length_le (by omega)]
  constructor
  · intro h
    apply bl_inj
    rw [hx]
    unfold Lib.occAt at h
    exact (List.prefix_iff_eq_take.1 (List.isPrefixOf_iff_prefix.1 h)).symm
  · intro h
    unfold Lib.occAt
    have h1 := congrArg bl h
    rw [hx] at h1
    exact List.isPrefixOf_iff_prefix.2 (List.prefix_iff_eq_take.2 h1.symm)
theorem occ_none {m : Nat} {s : ByteArray} (h : ∀ j, j ≤ (bl s).length → Lib.occAt (bl s) (bl hdS) j = false) (x : Nat) : ¬ occ m s x := fun ⟨i, hi⟩ => by
  obtain ⟨h1, h2, _⟩ := firstT_some hi
  have := (head_at h2).1
  have h3 := h i (by rw [bl_len]; omega)
  rw [occAt_head.2 h2] at h3
  cases h3
theorem occ_step {m : Nat} {s : ByteArray} {i : Nat} (hi : Lib.occAt (bl s) (bl hdS) i = true) (hno : Lib.NoOcc (bl s) (bl hdS) i) (x : Nat) : occ m s x ↔ firstT m (s.extract i s.size) = some x ∨ occ m (s.extract (i + 4) s.size) x := by
  have hd := head_at (occAt_head.1 hi)
  constructor
  · rintro ⟨j, hj⟩
    obtain ⟨h1, h2, _⟩ := firstT_some hj
    have hdj := head_at h2
    rcases Nat.lt_trichotomy j i with hlt | rfl | hgt
    · have := hno j hlt
      rw [occAt_head.2 h2] at this
      cases this
    · exact .inl hj
    · rcases Nat.lt_or_ge j (i + 4) with h4 | h4
      · exfalso
        have e1 := hdj.2 0 (by decide)
        have e2 := hd.2 (j - i) (by omega)
        rw [show i + (j - i) = j + 0 by omega, e1] at e2
        have : j - i = 1 ∨ j - i = 2 ∨ j - i = 3 := by omega
        rcases this with h | h | h <;> rw [h] at e2 <;> revert e2 <;> decide
      · refine .inr ⟨j - (i + 4), ?_⟩
        rw [extract_extract s (i + 4) (j - (i + 4)) (by omega), show i + 4 + (j - (i + 4)) = j by omega]
        exact hj
  · rintro (h | ⟨j, hj⟩)
    · exact ⟨i, h⟩
    · refine ⟨i + 4 + j, ?_⟩
      obtain ⟨h1, _, _⟩ := firstT_some hj
      rw [ByteArray.size_extract, ByteArray.size_extract] at h1
      rw [← extract_extract s (i + 4) j (by omega)]
      exact hj
/-- the numbers of the terms within bytes, rising -/
def wth (m : Nat) (s : ByteArray) : List Nat := (List.range m).filter fun x => (List.range s.size).any fun i => decide (firstT m (s.extract i s.size) = some x)
theorem mem_wth (m : Nat) (s : ByteArray) (x : Nat) : x ∈ wth m s ↔ occ m s x := by
  unfold wth
  rw [List.mem_filter, List.mem_range, List.any_eq_true]
  constructor
  · rintro ⟨_, i, _, hi⟩
    exact ⟨i, of_decide_eq_true hi⟩
  · rintro ⟨i, hi⟩
    obtain ⟨h1, _, h3⟩ := firstT_some hi
    rw [ByteArray.size_extract] at h1
    exact ⟨h3, i, List.mem_range.2 (by omega), decide_eq_true hi⟩
theorem wth_sorted (m : Nat) (s : ByteArray) : (wth m s).Pairwise (· < ·) := List.Pairwise.filter _ List.pairwise_lt_range
/-! rising rows -/
theorem eq_of_rising {α : Type} [LT α] (irr : ∀ a : α, ¬ a < a) (tr : ∀ a b c : α, a < b → b < c → a < c) : ∀ {l m : List α}, l.Pairwise (· < ·) → m.Pairwise (· < ·) → (∀ x, x ∈ l ↔ x ∈ m) → l = m
  | [], [], _, _, _ => rfl
  | [], b :: m, _, _, h => absurd ((h b).2 (List.mem_cons_self ..)) (by simp)
  | a :: l, [], _, _, h => absurd ((h a).1 (List.mem_cons_self ..)) (by simp)
  | a :: l, b :: m, hl, hm, h => by
    rw [List.pairwise_cons] at hl hm
    have hab : a = b := by
      rcases List.mem_cons.1 ((h a).1 (List.mem_cons_self ..)) with e | e
      · exact e
      · rcases List.mem_cons.1 ((h b).2 (List.mem_cons_self ..)) with e' | e'
        · exact e'.symm
        · exact absurd (tr _ _ _ (hm.1 a e) (hl.1 b e')) (irr _)
    subst hab
    rw [eq_of_rising irr tr hl.2 hm.2 (fun x => ?_)]
    constructor
    · intro hx
      rcases List.mem_cons.1 ((h x).1 (List.mem_cons_of_mem _ hx)) with e | e
      · subst e; exact absurd (hl.1 x hx) (irr _)
      · exact e
    · intro hx
      rcases List.mem_cons.1 ((h x).2 (List.mem_cons_of_mem _ hx)) with e | e
      · subst e; exact absurd (hm.1 x hx) (irr _)
      · exact e
theorem compact_ok (zs : List Int) (hs : zs.Pairwise (· ≤ ·)) : (Lib.compact zs).Pairwise (· < ·) ∧ ∀ x, x ∈ Lib.compact zs ↔ x ∈ zs := by
  have hget : ∀ j, j < zs.length → zs.toArray[j]! = zs.getD j 0 := fun j hj => by
    rw [getElem!_pos _ j (by simpa using hj)]
    simp [hj]
  have hle : ∀ i j, i ≤ j → j < zs.length → zs.getD i 0 ≤ zs.getD j 0 := fun i j hij hj => by
    rcases Nat.lt_or_eq_of_le hij with h | rfl
    · have := List.pairwise_iff_getElem.1 hs i j (by omega) hj h
      simpa [List.getD_eq_getElem?_getD, List.getElem?_eq_getElem hj, List.getElem?_eq_getElem (show i < zs.length by omega)] using this
    · exact Int.le_refl _
  have key : ∀ m, m ≤ zs.length → (Lib.compactUpTo zs.toArray m).Pairwise (· < ·) ∧ (∀ x, x ∈ Lib.compactUpTo zs.toArray m ↔ ∃ j, j < m ∧ x = zs.getD j 0) := by
    intro m
    induction m with
    | zero => exact fun _ => ⟨by simp [Lib.compactUpTo], fun x => by simp [Lib.compactUpTo]⟩
    | succ m ih =>
      intro hm
      obtain ⟨h1, h2⟩ := ih (by omega)
      rw [Lib.compactUpTo_succ]
      by_cases hk : Lib.keeps zs.toArray m = true
      · rw [if_pos hk]
        refine ⟨List.pairwise_append.2 ⟨h1, by simp, fun a ha b hb => ?_⟩, fun x => ?_⟩
        · obtain ⟨j, hj, rfl⟩ := (h2 a).1 ha
          rw [List.mem_singleton] at hb
          rw [hb, hget m (by omega)]
          have hk' : m = 0 ∨ zs.toArray[m]! ≠ zs.toArray[m - 1]! := by simpa [Lib.keeps] using hk
          rcases hk' with h0 | hne
          · omega
          · rw [hget m (by omega), hget (m - 1) (by omega)] at hne
            have a1 := hle j (m - 1) (by omega) (by omega)
            have a2 := hle (m - 1) m (by omega) (by omega)
            omega
        · rw [List.mem_append, h2 x, List.mem_singleton, hget m (by omega)]
          constructor
          · rintro (⟨j, hj, rfl⟩ | rfl)
            · exact ⟨j, by omega, rfl⟩
            · exact ⟨m, by omega, rfl⟩
          · rintro ⟨j, hj, rfl⟩
            rcases Nat.lt_or_ge j m with h | h
            · exact .inl ⟨j, h, rfl⟩
            · have : j = m := by omega
              subst this; exact .inr rfl
      · rw [if_neg hk, List.append_nil]
        refine ⟨h1, fun x => ?_⟩
        rw [h2 x]
        have hk' : m ≠ 0 ∧ zs.toArray[m]! = zs.toArray[m - 1]! := by
          have : ¬ (m = 0 ∨ zs.toArray[m]! ≠ zs.toArray[m - 1]!) := by simpa [Lib.keeps] using hk
          omega
        constructor
        · rintro ⟨j, hj, rfl⟩; exact ⟨j, by omega, rfl⟩
        · rintro ⟨j, hj, rfl⟩
          rcases Nat.lt_or_ge j m with h | h
          · exact ⟨j, h, rfl⟩
          · have : j = m := by omega
            subst this
            rw [hget j (by omega), hget (j - 1) (by omega)] at hk'
            exact ⟨j - 1, by omega, hk'.2⟩
  obtain ⟨h1, h2⟩ := key zs.length (Nat.le_refl _)
  refine ⟨h1, fun x => (h2 x).trans ?_⟩
  constructor
  · rintro ⟨j, hj, rfl⟩
    rw [List.getD_eq_getElem?_getD, List.getElem?_eq_getElem hj]
    exact List.getElem_mem hj
  · intro hx
    obtain ⟨j, hj, rfl⟩ := List.getElem_of_mem hx
    exact ⟨j, hj, by rw [List.getD_eq_getElem?_getD, List.getElem?_eq_getElem hj]; rfl⟩
/-- sorted and compacted: the rising row of the same numbers -/
theorem sorted_compact (F G : List Nat) (hG : G.Pairwise (· < ·)) (h : ∀ x, x ∈ F ↔ x ∈ G) : Lib.compact ((F.map Int.ofNat).mergeSort fun x y => decide (x ≤ y)) = G.map Int.ofNat := by
  have hs := List.pairwise_mergeSort (le := fun x y : Int => decide (x ≤ y)) (fun a b c h1 h2 => by have := of_decide_eq_true h1; have := of_decide_eq_true h2; exact decide_eq_true (by omega)) (fun a b => by simp; omega) (F.map Int.ofNat)
  obtain ⟨h1, h2⟩ := compact_ok _ (hs.imp fun h => of_decide_eq_true h)
  refine eq_of_rising (fun a => by omega) (fun a b c h1 h2 => by omega) h1 (hG.map _ (fun a b h => by show (a : Int) < b; omega)) (fun x => ?_)
  rw [h2 x, List.mem_mergeSort, List.mem_map, List.mem_map]
  constructor
  · rintro ⟨y, hy, rfl⟩; exact ⟨y, (h y).1 hy, rfl⟩
  · rintro ⟨y, hy, rfl⟩; exact ⟨y, (h y).2 hy, rfl⟩
end Go.Proofs.YtoogiblkommdfaaGreat

namespace Go.Proofs.YtoogiblkommdfaaGreat
open Go.RowKit

theorem HA.row {z : Base} {L : BL} {w : World} {q : Nat} {c : Array Value} (H : HA z ((q, 3, c) :: L) w) (d : Array Int) (n : Nat) (os : Array Obj) : HA z ((q, 3, Sort.putCells (Value.int .i64) 0 d c) :: L) (Sort.grow (Sort.putRow (Value.int .i64) (Sort.ahead w n) q 0 d) os) := by
  have hq := H.get 0 rfl
  have hnd := H.nd
  simp only [List.map_cons, List.nodup_cons] at hnd
  have hlt : q < w.heap.size := hq.lt
  have hne : ∀ b, b < w.heap.size → b ≠ q → (Sort.grow (Sort.putRow (Value.int .i64) (Sort.ahead w n) q 0 d) os).heap[b]? = w.heap[b]? := fun b hb hbq => by
    rw [Sort.heap_grow_old _ _ (by simpa using hb)]
    simp [Sort.putRow, Sort.mapBlock, Array.getElem?_modify, Ne.symm hbq]
  have hB : Blk (Sort.grow (Sort.putRow (Value.int .i64) (Sort.ahead w n) q 0 d) os) q 3 (Sort.putCells (Value.int .i64) 0 d c) := by
    obtain ⟨f, hf, hff⟩ := hq
    refine ⟨f, ?_, ?_⟩
    · rw [Sort.heap_grow_old _ _ (by simpa using hlt)]
      simp only [Sort.putRow, Sort.mapBlock, Array.getElem?_modify, Sort.heap_ahead, hf, if_true]
      rfl
    · rcases hff with h | ⟨h, _⟩
      · exact .inl h
      · cases h
  have hg : w.grownBy (Sort.grow (Sort.putRow (Value.int .i64) (Sort.ahead w n) q 0 d) os) (some q) := ⟨rfl, rfl, rfl, by simp, fun b hb hbq => hne b hb (fun e => hbq (by rw [e]))⟩
  have HL : HA z L (Sort.grow (Sort.putRow (Value.int .i64) (Sort.ahead w n) q 0 d) os) := HA.grownL (row := some q) H.tl hg (fun k hk => by
    obtain rfl := Option.some.inj hk
    exact ⟨H.own _ (List.mem_cons_self ..), fun x hx e => hnd.1 (List.mem_map.2 ⟨x, hx, e⟩), H.tl.old.far hq⟩)
  exact HL.consNew hB (H.own _ (List.mem_cons_self ..)) (fun x hx e => hnd.1 (List.mem_map.2 ⟨x, hx, e⟩))
theorem put_get (d : Array Int) (c : Array Value) (j : Nat) (hj : j < d.size) (hc : j < c.size) : (Sort.putCells (Value.int .i64) 0 d c)[j]? = some (.int .i64 d[j]!) := by
  simp [Sort.putCells, hc, hj]
def preZ (c : Array Value) (zs : List Int) : Prop := zs.length ≤ c.size ∧ ∀ j, j < zs.length → c[j]? = some (.int .i64 (zs.getD j 0))
theorem preZ.holds {w : World} {q : Nat} {c : Array Value} {zs : List Int} (h : preZ c zs) (hb : Blk w q 3 c) : Sort.Holds (Value.int .i64) w q 0 zs.toArray := fun j hj => by
  have hj' : j < zs.length := by simpa using hj
  rw [Nat.zero_add, hb.cell j, h.2 j hj', getElem!_pos _ j (by simpa using hj)]
  refine ⟨by simp [hj'], hb.free j (by have := h.1; omega)⟩
theorem preZ.put {c : Array Value} (d : Array Int) (hd : d.size ≤ c.size) : preZ (Sort.putCells (Value.int .i64) 0 d c) d.toList := by
  refine ⟨by simp [Sort.putCells]; exact hd, fun j hj => ?_⟩
  have hj' : j < d.size := by simpa using hj
  rw [put_get d c j hj' (by omega), getElem!_pos _ j hj']
  simp [hj']
theorem sort_ok {z : Base} {L : BL} {w : World} {q : Nat} {c : Array Value} (H : HA z ((q, 3, c) :: L) w) (zs : List Int) (hz : preZ c zs) (cap : Nat) (hl : zs.length ≤ 1000000) :
    Calls Tryz.prog 78 #[.slice (some ⟨q, 0, none⟩) zs.length cap] w fun e w' => e = .returned (.tuple #[]) ∧ ∃ c', HA z ((q, 3, c') :: L) w' ∧ preZ c' (zs.mergeSort fun x y => decide (x ≤ y)) := by
  refine (Tryz.slices_Sort_int q 0 cap zs w (hz.holds (H.get 0 rfl)) (H.get 0 rfl).lt (by omega)).mono ?_
  rintro e w' ⟨rfl, n, os, rfl⟩
  exact ⟨rfl, _, H.row _ n os, by simpa using preZ.put (zs.mergeSort fun x y => decide (x ≤ y)).toArray (by simpa using hz.1)⟩
theorem compact_ok' {z : Base} {L : BL} {w : World} {q : Nat} {c : Array Value} (H : HA z ((q, 3, c) :: L) w) (zs : List Int) (hz : preZ c zs) (cap : Nat) (hl : zs.length ≤ 1000000) (hcap : zs.length ≤ cap) :
    Calls Tryz.prog 79 #[.slice (some ⟨q, 0, none⟩) zs.length cap] w fun e w' => e = .returned (.slice (some ⟨q, 0, none⟩) (Lib.compact zs).length cap) ∧ ∃ c', HA z ((q, 3, c') :: L) w' ∧ preZ c' (Lib.compact zs) := by
  refine (Tryz.slices_Compact_int q 0 cap zs w (hz.holds (H.get 0 rfl)) (by omega) hcap).mono ?_
  rintro e w' ⟨rfl, n, rfl⟩
  have hle := Lib.compact_length_le zs
  have h1 := H.row (Lib.compact zs ++ List.replicate (zs.length - (Lib.compact zs).length) 0).toArray n #[]
  rw [Sort.grow_empty] at h1
  refine ⟨rfl, _, h1, ?_⟩
  have h2 := preZ.put (c := c) (Lib.compact zs ++ List.replicate (zs.length - (Lib.compact zs).length) 0).toArray (by simp; have := hz.1; omega)
  refine ⟨by have := h2.1; simp at this ⊢; omega, fun j hj => ?_⟩
  rw [h2.2 j (by simp; omega)]
  simp [List.getElem?_append, hj]
theorem index_any (s : ByteArray) {m0 : Int} (hs : s.size < 4294967281) {w : World} (hm : w.cell? ⟨0, 0, none⟩ = some (.int .i64 m0)) :
    Calls Tryz.prog 76 #[.string s, .string hdS] w fun e w' => e = .returned (.int .i64 (Lib.index (bl s) (bl hdS))) ∧ Below w.heap.size w w' := by
  refine (Tryz.strings_Index s hdS m0 w hs hm).mono ?_
  rintro e w' ⟨rfl, rfl⟩
  exact ⟨rfl, Below.refl _ _⟩
theorem cell_below {w w' : World} {v : Value} (hb : Below w.heap.size w w') (h : w.cell? ⟨0, 0, none⟩ = some v) : w'.cell? ⟨0, 0, none⟩ = some v := by
  have hlt : 0 < w.heap.size := by
    rcases Nat.eq_zero_or_pos w.heap.size with h0 | h0
    · simp [World.cell?, Array.getElem?_eq_none (show w.heap.size ≤ 0 by omega)] at h
    · exact h0
  rw [World.cell?_of_block (w := w) (hb.block 0 hlt)]
  exact h
theorem ints_pre {F : List Nat} {cur : Array Value} (h : cur.toList.take (F.length * 1) = F.map (iN .i64 ·)) (hs : F.length ≤ cur.size) : preZ cur (F.map Int.ofNat) := by
  refine ⟨by simpa using hs, fun j hj => ?_⟩
  have hj' : j < F.length := by simpa using hj
  have h1 : (cur.toList.take (F.length * 1))[j]? = (F.map (iN .i64 ·))[j]? := by rw [h]
  rw [Nat.mul_one, List.getElem?_take, if_pos hj', List.getElem?_map, List.getElem?_eq_getElem hj'] at h1
  rw [List.getD_eq_getElem?_getD, List.getElem?_map, List.getElem?_eq_getElem hj']
  simpa [iN] using h1
/-- a row of numbers that was made -/
def RI (B : Nat) (w : World) (o : Option Addr) (ps : List Nat) : Prop := ps = [] ∨ ∃ q c, o = some ⟨q, 0, none⟩ ∧ B ≤ q ∧ Blk w q 3 c ∧ ∀ j, j < ps.length → c[j]? = some (iN .i64 (ps.getD j 0))
set_option maxRecDepth 100000 in
set_option maxHeartbeats 2000000 in
theorem Within_blk {w : World} {q : Nat} {t : Tb} {n m c : Nat} {p : Option Addr} (hq : Blk w q 145 (tcell t n (.slice p m c))) (hm : m ≤ 65536) {m0 : Int} (hv : w.cell? ⟨0, 0, none⟩ = some (.int .i64 m0)) (s : ByteArray) (hs : s.size ≤ 1000000) :
    Calls Tryz.prog 36 #[pt q, .string s] w fun e w' => ∃ o' c', e = .returned (.slice o' (wth m s).length c') ∧ RI w.heap.size w' o' (wth m s) ∧ Below w.heap.size w w' := by
  have H0 := HA.start w
  go_enter Tryz.func36, Tryz.ntmps36
  refine wp_seq (wl_region ?_)
  refine zv (.slice none 0 0) ?_
  refine wl_nil (then_at rfl (wp_seq (wl_region ?_)))
  refine zv (.slice none 0 0) ?_
  refine wl_nil (then_at rfl (wp_seq (wp_seq (wl_region ?_))))
  refine zv (.string s) ?_
  refine wl_call (v := .int .i64 (Lib.index (bl s) (bl hdS))) H0 ky enter76 #[.string s, .string ({ data := #[240, 84, 82, 77] })] ky (index_any s (by omega) (cell_below H0.old.old hv)) ?_
  intro w1 h2
  refine zv (.int .i64 (Lib.index (bl s) (bl hdS))) ?_
  refine wl_nil (then_at rfl (wp_block ?_))
  refine wp_while (fun mq A w' => ∃ (s1 : ByteArray) (F : List Nat) (v : Value) (Lr : BL) (u3 : Nat → Value), mq = s1.size ∧ A = ⟨(pt q :: .string s1 :: un :: un :: .slice none 0 0 :: v :: .int .i64 (Lib.index (bl s1) (bl hdS)) :: u3 7 :: u3 8 :: .string s :: .int .i64 (Lib.index (bl s) (bl hdS)) :: u3 11 :: u3 12 :: u3 13 :: u3 14 :: u3 15 :: u3 16 :: u3 17 :: u3 18 :: u3 19 :: u3 20 :: u3 21 :: u3 22 :: u3 23 :: u3 24 :: u3 25 :: u3 26 :: u3 27 :: u3 28 :: u3 29 :: u3 30 :: u3 31 :: List.replicate 4 un).toArray, []⟩ ∧ Row 3 1 v F.length (F.map (iN .i64 ·)) Lr ∧ HA (bs w) (Lr ++ []) w' ∧ (∀ y, occ m s y ↔ y ∈ F ∨ occ m s1 y) ∧ s1.size ≤ 1000000 ∧ F.length + s1.size ≤ 1000000) s.size ?_ ?_
  · exact ⟨s, [], .slice none 0 0, [], fun ii => (([(7, undef), (8, undef), (11, undef), (12, undef), (13, undef), (14, undef), (15, undef), (16, undef), (17, undef), (18, undef), (19, undef), (20, undef), (21, undef), (22, undef), (23, undef), (24, undef), (25, undef), (26, undef), (27, undef), (28, undef), (29, undef), (30, undef), (31, undef)] : List (Nat × Value)).find? (·.1 == ii)).elim undef (·.2), rfl, by kernel_rfl, Row.nil 3 1, h2, (by simp), hs, by simpa using hs⟩
  rintro _ _ w4 ⟨s1, F, v, Lr, u3, rfl, rfl, hR, hH, hoccs, hs1, hFl⟩
  obtain ⟨pv, cv, rfl⟩ := hR.form
  rcases Lib.index_spec (bl s1) (bl hdS) with ⟨hi, hno⟩ | ⟨i, hi, hil, hoc, hno⟩
  · rw [hi]
    refine wp_seq (wp_seq (wl_region ?_))
    refine zv (.int .i64 (-1)) ?_
    refine zv (.bool false) ?_
    refine wl_nil (then_at rfl ?_)
    refine wp_cond_false ky ?_
    refine wp_exit ?_
    repeat first | refine then_exit ?_ | refine block_exit ?_ | refine block_exit_ne (by decide) ?_
    refine then_at rfl (wp_seq ?_)
    have hset : ∀ y, y ∈ F ↔ y ∈ wth m s := fun y => by rw [mem_wth, hoccs y]; simp [occ_none hno y]
    by_cases hF : F = []
    · subst hF
      have hwe : wth m s = [] := List.eq_nil_iff_forall_not_mem.2 fun y hy => by simpa using (hset y).2 hy
      refine wl_region ?_
      refine zv (.slice pv 0 cv) ?_
      refine wl_call (v := .tuple #[]) hH ky enter78 #[.slice pv 0 cv] ky (by refine (Tryz.slices_Sort_int_none pv cv w4).mono ?_; rintro e w2 ⟨rfl, rfl⟩; exact ⟨rfl, Below.refl _ _⟩) ?_
      intro w5 h6
      refine wl_nil (then_at rfl (wp_seq (wl_region ?_)))
      refine zv (.slice pv 0 cv) ?_
      refine wl_call (v := .slice pv 0 cv) h6 ky enter79 #[.slice pv 0 cv] ky (by refine (Tryz.slices_Compact_int_empty pv cv w5).mono ?_; rintro e w2 ⟨rfl, rfl⟩; exact ⟨rfl, Below.refl _ _⟩) ?_
      intro w7 h8
      refine zv (.slice pv 0 cv) ?_
      refine wl_nil (then_at rfl ?_)
      refine wp_ret ?_
      repeat first | refine then_ret ?_ | refine block_ret ?_
      exact bodyPost_ret (v := .slice pv 0 cv) ky rfl ⟨pv, cv, by rw [hwe]; rfl, .inl hwe, h8.old.old⟩
    · obtain ⟨g, cap, cur, hvv, rfl, hc1, hc2, hc3, hc4⟩ : ∃ g cap cur, Value.slice pv F.length cv = .slice (some ⟨g, 0, none⟩) F.length cap ∧ Lr = [(g, 3, cur)] ∧ F.length ≤ cap ∧ cap ≤ maxLen ∧ cur.size = cap * 1 ∧ cur.toList.take (F.length * 1) = F.map (iN .i64 ·) := by
        rcases hR.2 with ⟨_, h2, _⟩ | h
        · exact absurd (List.length_eq_zero_iff.1 h2) hF
        · exact h
      rw [hvv]
      have hpz := ints_pre hc4 (by omega)
      rw [show F.length = (F.map Int.ofNat).length by simp]
      refine wl_region ?_
      refine zv (.slice (some ⟨g, 0, none⟩) (F.map Int.ofNat).length cap) ?_
      refine wl_callx ky enter78 #[.slice (some ⟨g, 0, none⟩) (F.map Int.ofNat).length cap] ky (sort_ok hH (F.map Int.ofNat) hpz cap (by simp; omega)) ?_
      rintro _ w9 ⟨rfl, c2, hS, hpz2⟩
      refine ⟨_, rfl, ?_⟩
      refine wl_nil (then_at rfl (wp_seq ?_))
      rw [show (F.map Int.ofNat).length = ((F.map Int.ofNat).mergeSort fun x y => decide (x ≤ y)).length by simp]
      refine wl_region ?_
      refine zv (.slice (some ⟨g, 0, none⟩) ((F.map Int.ofNat).mergeSort fun x y => decide (x ≤ y)).length cap) ?_
      refine wl_callx ky enter79 #[.slice (some ⟨g, 0, none⟩) ((F.map Int.ofNat).mergeSort fun x y => decide (x ≤ y)).length cap] ky (compact_ok' hS _ hpz2 cap (by simp; omega) (by simp; omega)) ?_
      rintro _ w10 ⟨rfl, c3, hK, hpz3⟩
      refine ⟨_, rfl, ?_⟩
      refine zv (.slice (some ⟨g, 0, none⟩) (Lib.compact ((F.map Int.ofNat).mergeSort fun x y => decide (x ≤ y))).length cap) ?_
      refine wl_nil (then_at rfl ?_)
      refine wp_ret ?_
      repeat first | refine then_ret ?_ | refine block_ret ?_
      have hcl := sorted_compact F (wth m s) (wth_sorted m s) hset
      rw [hcl] at hpz3 ⊢
      exact bodyPost_ret (v := .slice (some ⟨g, 0, none⟩) ((wth m s).map Int.ofNat).length cap) ky rfl ⟨some ⟨g, 0, none⟩, cap, by rw [List.length_map], .inr ⟨g, c3, rfl, hK.own _ (List.mem_cons_self ..), hK.get 0 rfl, fun j hj => by rw [hpz3.2 j (by simpa using hj)]; simp [hj, iN]⟩, hK.old.old⟩
  · rw [hi]
    have hir := Lib.index_room (bl s1) (bl hdS) (by rw [hi]; omega)
    rw [hi, bl_len, bl_len, show hdS.size = 4 from rfl] at hir
    refine wp_seq (wp_seq (wl_region ?_))
    refine zv (iN .i64 i) ?_
    refine zu (.bool true) (run_geq (k := .i64) (a := i) (b := 0) ky ky true (decide_eq_true (by omega))) ?_
    refine wl_nil (then_at rfl ?_)
    refine wp_cond_true ky ?_
    refine wp_skip (then_at rfl (wp_seq (wp_block (wp_seq (wp_seq ?_)))))
    cases hfx : firstT m (s1.extract i s1.size)
    · refine wl_region ?_
      refine zv (.pointer (some ⟨q, 0, none⟩)) ?_
      refine zv (.string s1) ?_
      refine zv (iN .i64 i) ?_
      refine zu (.string (s1.extract i s1.size)) (run_cut_lo (s := s1) (a := i) ky ky (by omega)) ?_
      refine wl_call (v := .tuple #[iN .i64 0, .bool false]) hH ky enter77 #[.pointer (some ⟨q, 0, none⟩), .string (s1.extract i s1.size)] ky (by have := first_any (hq.keep hH.old.old) hm (s1.extract i s1.size); rw [hfx] at this; exact this) ?_
      intro w11 h12
      refine zv (.tuple #[iN .i64 0, .bool false]) ?_
      refine zv (iN .i64 0) ?_
      refine zv (.bool false) ?_
      refine zv (iN .i64 0) ?_
      refine zv (.bool false) ?_
      refine wl_nil (then_at rfl (wp_seq (wl_region ?_)))
      refine zv (.bool false) ?_
      refine wl_nil (then_at rfl ?_)
      refine wp_cond_false ky ?_
      refine wp_skip (then_at rfl (wl_region ?_))
      refine zv (.string s1) ?_
      refine zv (iN .i64 i) ?_
      refine zu (iN .i64 (i + 4)) (run_add (k := .i64) (a := i) (b := 4) ky ky (by simp only [top]; omega)) ?_
      refine zu (.string (s1.extract (i + 4) s1.size)) (run_cut_lo (s := s1) (a := i + 4) ky ky (by omega)) ?_
      refine zv (.string (s1.extract (i + 4) s1.size)) ?_
      refine wl_nil (block_normal (then_at rfl (wl_region ?_)))
      refine zv (.string (s1.extract (i + 4) s1.size)) ?_
      refine wl_call (v := .int .i64 (Lib.index (bl (s1.extract (i + 4) s1.size)) (bl hdS))) h12 ky enter76 #[.string (s1.extract (i + 4) s1.size), .string ({ data := #[240, 84, 82, 77] })] ky (index_any (s1.extract (i + 4) s1.size) (by rw [ByteArray.size_extract]; omega) (cell_below h12.old.old hv)) ?_
      intro w13 h14
      refine zv (.int .i64 (Lib.index (bl (s1.extract (i + 4) s1.size)) (bl hdS))) ?_
      refine wl_nil ?_
      exact then_I ⟨(s1.extract (i + 4) s1.size).size, (by rw [ByteArray.size_extract]; omega), s1.extract (i + 4) s1.size, F, (.slice pv F.length cv), Lr, fun ii => (([(7, iN .i64 0), (8, .bool false), (11, iN .i64 i), (12, .bool true), (13, .string (s1.extract (i + 4) s1.size)), (14, .int .i64 (Lib.index (bl (s1.extract (i + 4) s1.size)) (bl hdS))), (15, .tuple #[iN .i64 0, .bool false]), (16, .pointer (some ⟨q, 0, none⟩)), (17, .string s1), (18, iN .i64 i), (19, .string (s1.extract i s1.size)), (20, .tuple #[iN .i64 0, .bool false]), (21, iN .i64 0), (22, .bool false), (23, .bool false), (24, u3 24), (25, u3 25), (26, u3 26), (27, u3 27), (28, .string s1), (29, iN .i64 i), (30, iN .i64 (i + 4)), (31, .string (s1.extract (i + 4) s1.size))] : List (Nat × Value)).find? (·.1 == ii)).elim undef (·.2), rfl, by kernel_rfl, hR, h14, by intro y; rw [hoccs y, occ_step hoc hno y, hfx]; simp, by rw [ByteArray.size_extract]; omega, by rw [ByteArray.size_extract]; omega⟩
    · rename_i x
      refine wl_region ?_
      refine zv (.pointer (some ⟨q, 0, none⟩)) ?_
      refine zv (.string s1) ?_
      refine zv (iN .i64 i) ?_
      refine zu (.string (s1.extract i s1.size)) (run_cut_lo (s := s1) (a := i) ky ky (by omega)) ?_
      refine wl_call (v := .tuple #[iN .i64 x, .bool true]) hH ky enter77 #[.pointer (some ⟨q, 0, none⟩), .string (s1.extract i s1.size)] ky (by have := first_any (hq.keep hH.old.old) hm (s1.extract i s1.size); rw [hfx] at this; exact this) ?_
      intro w15 h16
      refine zv (.tuple #[iN .i64 x, .bool true]) ?_
      refine zv (iN .i64 x) ?_
      refine zv (.bool true) ?_
      refine zv (iN .i64 x) ?_
      refine zv (.bool true) ?_
      refine wl_nil (then_at rfl (wp_seq (wl_region ?_)))
      refine zv (.bool true) ?_
      refine wl_nil (then_at rfl ?_)
      refine wp_cond_true ky ?_
      refine wl_region ?_
      refine zv (.slice pv F.length cv) ?_
      refine zv (iN .i64 x) ?_
      refine wl_mks (n := 1) (m := 1) (c := intc [x]) h16 3 ky ky ?_
      intro q17 w18 (h19 : HA (bs w) ((q17, 3, intc [x]) :: (Lr ++ [])) w18)
      refine wl_append (m := 1) (c := 1) hR h19 (by decide) (.int .i64 0) 8 Tryz.underlying84 info3 rfl (by decide) ky ky ky rfl (one_intc _) (by unfold maxLen; omega) (by omega) (by decide) ?_
      intro v1 w20 Lr1 hR1 h21
      refine zv (v1) ?_
      refine wl_nil (then_at rfl (wl_region ?_))
      refine zv (.string s1) ?_
      refine zv (iN .i64 i) ?_
      refine zu (iN .i64 (i + 4)) (run_add (k := .i64) (a := i) (b := 4) ky ky (by simp only [top]; omega)) ?_
      refine zu (.string (s1.extract (i + 4) s1.size)) (run_cut_lo (s := s1) (a := i + 4) ky ky (by omega)) ?_
      refine zv (.string (s1.extract (i + 4) s1.size)) ?_
      refine wl_nil (block_normal (then_at rfl (wl_region ?_)))
      refine zv (.string (s1.extract (i + 4) s1.size)) ?_
      refine wl_call (v := .int .i64 (Lib.index (bl (s1.extract (i + 4) s1.size)) (bl hdS))) h21 ky enter76 #[.string (s1.extract (i + 4) s1.size), .string ({ data := #[240, 84, 82, 77] })] ky (index_any (s1.extract (i + 4) s1.size) (by rw [ByteArray.size_extract]; omega) (cell_below h21.old.old hv)) ?_
      intro w22 h23
      refine zv (.int .i64 (Lib.index (bl (s1.extract (i + 4) s1.size)) (bl hdS))) ?_
      refine wl_nil ?_
      exact then_I ⟨(s1.extract (i + 4) s1.size).size, (by rw [ByteArray.size_extract]; omega), s1.extract (i + 4) s1.size, F ++ [x], v1, Lr1, fun ii => (([(7, iN .i64 x), (8, .bool true), (11, iN .i64 i), (12, .bool true), (13, .string (s1.extract (i + 4) s1.size)), (14, .int .i64 (Lib.index (bl (s1.extract (i + 4) s1.size)) (bl hdS))), (15, .tuple #[iN .i64 x, .bool true]), (16, .pointer (some ⟨q, 0, none⟩)), (17, .string s1), (18, iN .i64 i), (19, .string (s1.extract i s1.size)), (20, .tuple #[iN .i64 x, .bool true]), (21, iN .i64 x), (22, .bool true), (23, .bool true), (24, .slice pv F.length cv), (25, iN .i64 x), (26, .slice (some ⟨q17, 0, none⟩) 1 1), (27, v1), (28, .string s1), (29, iN .i64 i), (30, iN .i64 (i + 4)), (31, .string (s1.extract (i + 4) s1.size))] : List (Nat × Value)).find? (·.1 == ii)).elim undef (·.2), rfl, by kernel_rfl, by simpa [intc] using hR1, h23, by intro y; rw [hoccs y, occ_step hoc hno y, hfx]; rw [List.mem_append, List.mem_singleton, Option.some.injEq, or_assoc, eq_comm (a := x)], by rw [ByteArray.size_extract]; omega, by rw [List.length_append, List.length_singleton, ByteArray.size_extract]; omega⟩
end Go.Proofs.YtoogiblkommdfaaGreat

namespace Go.Proofs.YtoogiblkommdfaaGreat
open Go.RowKit

structure St where
  rules : List (Int × Nat)
  asked : List (List Nat)
  known : List Bool
  next : List Nat
def rcl (l : List (Int × Nat)) : List Value := l.flatMap fun r => [.int .i64 r.1, iN .i64 r.2]
theorem rcl_len : ∀ l : List (Int × Nat), (rcl l).length = l.length * 2
  | [] => rfl
  | _ :: l => by
    have := rcl_len l
    simp only [rcl, List.flatMap_cons, List.length_append, List.length_cons, List.length_nil] at this ⊢
    omega
theorem rcl_get : ∀ (l : List (Int × Nat)) (i : Nat) (r : Int × Nat), l[i]? = some r → (rcl l)[2 * i]? = some (.int .i64 r.1) ∧ (rcl l)[2 * i + 1]? = some (iN .i64 r.2)
  | [], i, r, h => by simp at h
  | a :: l, 0, r, h => by
    obtain rfl : a = r := by simpa using h
    exact ⟨rfl, rfl⟩
  | a :: l, i + 1, r, h => rcl_get l i r (by simpa using h)
theorem rcl_set : ∀ (l : List (Int × Nat)) (i : Nat) (z : Int) (x : Nat), l[i]? = some (z, x) → ∀ z', (rcl l).set (2 * i) (.int .i64 z') = rcl (l.set i (z', x))
  | [], i, z, x, h, z' => by simp at h
  | a :: l, 0, z, x, h, z' => by
    obtain rfl : a = (z, x) := by simpa using h
    rfl
  | a :: l, i + 1, z, x, h, z' => by
    have := rcl_set l i z x (by simpa using h) z'
    simp only [rcl, List.flatMap_cons] at this ⊢
    rw [show 2 * (i + 1) = (2 * i) + 1 + 1 by omega]
    simp only [List.cons_append, List.nil_append, List.set_cons_succ, List.flatMap_cons]
    rw [this]
def boc (l : List Bool) : Array Value := (l.map Value.bool).toArray
theorem boc_get (l : List Bool) (i : Nat) (h : i < l.length) : (boc l)[i]? = some (.bool (l.getD i false)) := by simp [boc, h]
theorem boc_put (l : List Bool) (i : Nat) (b : Bool) : (boc l).setIfInBounds i (.bool b) = boc (l.set i b) := by simp [boc]
theorem boc_size (l : List Bool) : (boc l).size = l.length := by simp [boc]
def inl (l : List Nat) : List Value := l.map (iN .i64 ·)
/-- rows of numbers, one for each -/
inductive NRows : List Value → List (List Nat) → BL → Prop
  | nil : NRows [] [] []
  | cons {v : Value} {vs : List Value} {l : List Nat} {ls : List (List Nat)} {A B : BL} (h : Row 3 1 v l.length (inl l) A) (hs : NRows vs ls B) : NRows (v :: vs) (l :: ls) (A ++ B)
theorem NRows.len {vs : List Value} {ls : List (List Nat)} {A : BL} (h : NRows vs ls A) : vs.length = ls.length := by
  induction h with
  | nil => rfl
  | cons _ _ ih => simp [ih]
theorem NRows.at {vs : List Value} {ls : List (List Nat)} {A : BL} (h : NRows vs ls A) : ∀ (i : Nat), i < ls.length → ∃ v B C D, vs[i]? = some v ∧ A = B ++ (C ++ D) ∧ Row 3 1 v (ls.getD i []).length (inl (ls.getD i [])) C ∧
    ∀ v' l' C', Row 3 1 v' l'.length (inl l') C' → NRows (vs.set i v') (ls.set i l') (B ++ (C' ++ D)) := by
  induction h with
  | nil => intro i hi; simp at hi
  | @cons v vs l ls A B hr hs ih =>
    intro i hi
    cases i with
    | zero => exact ⟨v, [], A, B, rfl, rfl, by simpa using hr, fun v' l' C' h' => NRows.cons (A := C') h' hs⟩
    | succ i =>
      obtain ⟨u, B', C, D, h1, h2, h3, h4⟩ := ih i (by simpa using hi)
      refine ⟨u, A ++ B', C, D, by simpa using h1, by rw [h2, List.append_assoc], by simpa using h3, fun v' l' C' h' => ?_⟩
      rw [List.append_assoc]
      exact NRows.cons hr (h4 v' l' C' h')
theorem NRows.nils : ∀ n, NRows (List.replicate n (.slice none 0 0)) (List.replicate n []) []
  | 0 => NRows.nil
  | n + 1 => NRows.cons (A := []) (by exact Row.nil 3 1) (NRows.nils n)
def lef : List Bool → Nat
  | [] => 0
  | true :: l => lef l
  | false :: l => lef l + 1
theorem lef_set : ∀ (l : List Bool) (i : Nat), i < l.length → l.getD i false = false → lef (l.set i true) + 1 = lef l
  | [], i, h, _ => by simp at h
  | a :: l, 0, _, h => by
    obtain rfl : a = false := by simpa using h
    simp [lef]
  | a :: l, i + 1, h, h2 => by
    have := lef_set l i (by simpa using h) (by simpa using h2)
    cases a <;> simp only [List.set_cons_succ, lef] <;> omega
structure Wb where
  p : Nat
  ab : Nat
  kb : Nat
def wcell (b : Wb) (m : Nat) (rv nv : Value) : Array Value := #[rv, .slice (some ⟨b.ab, 0, none⟩) m m, .slice (some ⟨b.kb, 0, none⟩) m m, nv]
/-- what holds of a web of m terms -/
structure Wok (m : Nat) (st : St) : Prop where
  al : st.asked.length = m
  kl : st.known.length = m
  th : ∀ r ∈ st.rules, r.2 < m
  rl : ∀ l ∈ st.asked, ∀ r ∈ l, r < st.rules.length
  nx : ∀ x ∈ st.next, x < m
  nl : st.next.length + lef st.known ≤ m
def WH (z : Base) (b : Wb) (m : Nat) (st : St) (L : BL) (w : World) : Prop :=
  ∃ rv nv avs Lr Ln La, Row 193 2 rv st.rules.length (rcl st.rules) Lr ∧ Row 3 1 nv st.next.length (inl st.next) Ln ∧ NRows avs st.asked La ∧
    HA z ((b.p, 148, wcell b m rv nv) :: (b.ab, 84, avs.toArray) :: (b.kb, 4, boc st.known) :: (Lr ++ (Ln ++ (La ++ L)))) w
/-- the same, the rows of what is asked named -/
def WX (z : Base) (b : Wb) (m : Nat) (st : St) (avs : List Value) (La L : BL) (w : World) : Prop :=
  ∃ rv nv Lr Ln, Row 193 2 rv st.rules.length (rcl st.rules) Lr ∧ Row 3 1 nv st.next.length (inl st.next) Ln ∧
    HA z ((b.p, 148, wcell b m rv nv) :: (b.ab, 84, avs.toArray) :: (b.kb, 4, boc st.known) :: (Lr ++ (Ln ++ (La ++ L)))) w
theorem WH.open {z : Base} {b : Wb} {m : Nat} {st : St} {L : BL} {w : World} (h : WH z b m st L w) : ∃ avs La, NRows avs st.asked La ∧ WX z b m st avs La L w := by
  obtain ⟨rv, nv, avs, Lr, Ln, La, h1, h2, h3, H⟩ := h
  exact ⟨avs, La, h3, rv, nv, Lr, Ln, h1, h2, H⟩
theorem WX.close {z : Base} {b : Wb} {m : Nat} {st : St} {avs : List Value} {La L : BL} {w : World} (h : WX z b m st avs La L w) (hA : NRows avs st.asked La) : WH z b m st L w := by
  obtain ⟨rv, nv, Lr, Ln, h1, h2, H⟩ := h
  exact ⟨rv, nv, avs, Lr, Ln, La, h1, h2, hA, H⟩
theorem WH.keep {z : Base} {b : Wb} {m : Nat} {st : St} {L : BL} {w w' : World} (h : WH z b m st L w) (hb : Below w.heap.size w w') : WH z b m st L w' := by
  obtain ⟨rv, nv, avs, Lr, Ln, La, h1, h2, h3, H⟩ := h
  exact ⟨rv, nv, avs, Lr, Ln, La, h1, h2, h3, H.keep _ _ hb⟩
/-! what the program does -/
def learnS (st : St) (x : Nat) : St := if st.known.getD x false = true then st else { st with known := st.known.set x true, next := st.next ++ [x] }
def askS (st : St) (k : Nat) (l : List Nat) : List (List Nat) := l.foldl (fun a x => a.set x (a.getD x [] ++ [k])) st.asked
def ruleS (st : St) (x : Nat) (l : List Nat) : St :=
  let s1 : St := { st with asked := askS st st.rules.length l, rules := st.rules ++ [((l.length : Int), x)] }
  if l.length = 0 then learnS s1 x else s1
def decS (st : St) (r : Nat) : St :=
  match st.rules[r]? with
  | some (z, x) => let s1 : St := { st with rules := st.rules.set r (IntKind.i64.wrap (z - 1), x) }
    if IntKind.i64.wrap (z - 1) = 0 then learnS s1 x else s1
  | none => st
def stepS (st : St) : St := ((st.asked.getD (st.next.getD (st.next.length - 1) 0) []).foldl decS { st with next := st.next.take (st.next.length - 1) })
def runS : Nat → St → St
  | 0, st => st
  | n + 1, st => if st.next = [] then st else runS n (stepS st)
def mu (st : St) : Nat := 2 * lef st.known + st.next.length
theorem learnS_mu (st : St) (x : Nat) (h : x < st.known.length) : mu (learnS st x) ≤ mu st := by
  unfold learnS
  split
  · exact Nat.le_refl _
  · rename_i hk
    have := lef_set st.known x h (by simpa using hk)
    simp only [mu, List.length_append, List.length_singleton]
    omega
theorem learnS_ok {m : Nat} {st : St} (h : Wok m st) {x : Nat} (hx : x < m) : Wok m (learnS st x) := by
  unfold learnS
  split
  · exact h
  · rename_i hk
    exact ⟨h.al, by simpa using h.kl, h.th, h.rl, fun y hy => by
      rcases List.mem_append.1 hy with hy | hy
      · exact h.nx y hy
      · rw [List.mem_singleton] at hy; rw [hy]; exact hx, by
      have h1 := lef_set st.known x (by rw [h.kl]; exact hx) (by simpa using hk)
      have h2 := h.nl
      simp only [List.length_append, List.length_singleton]
      omega⟩
theorem learnS_rules (st : St) (x : Nat) : (learnS st x).rules = st.rules ∧ (learnS st x).asked = st.asked := by
  unfold learnS
  split <;> exact ⟨rfl, rfl⟩
theorem decS_ok {m : Nat} {st : St} (h : Wok m st) (r : Nat) : Wok m (decS st r) := by
  unfold decS
  split
  · rename_i z x hr
    have hx : x < m := h.th _ (List.mem_of_getElem? hr)
    have h1 : Wok m { st with rules := st.rules.set r (IntKind.i64.wrap (z - 1), x) } := ⟨h.al, h.kl, fun y hy => by
      rcases List.mem_or_eq_of_mem_set hy with hy | rfl
      · exact h.th y hy
      · exact hx, fun l hl y hy => by simpa using h.rl l hl y hy, h.nx, h.nl⟩
    simp only
    split
    · exact learnS_ok h1 hx
    · exact h1
  · exact h
theorem decS_same (st : St) (r : Nat) : (decS st r).rules.length = st.rules.length ∧ (decS st r).asked = st.asked := by
  unfold decS
  split
  · rename_i z x hr
    simp only
    split
    · have := learnS_rules { st with rules := st.rules.set r (IntKind.i64.wrap (z - 1), x) } x
      rw [this.1, this.2]
      simp
    · simp
  · exact ⟨rfl, rfl⟩
theorem decS_mu {m : Nat} {st : St} (h : Wok m st) (r : Nat) : mu (decS st r) ≤ mu st := by
  unfold decS
  split
  · rename_i z x hr
    have hx : x < m := h.th _ (List.mem_of_getElem? hr)
    simp only
    split
    · exact Nat.le_trans (learnS_mu _ x (by simpa [h.kl] using hx)) (Nat.le_refl _)
    · exact Nat.le_refl _
  · exact Nat.le_refl _
theorem decs_ok {m : Nat} (l : List Nat) : ∀ (st : St), Wok m st → Wok m (l.foldl decS st) ∧ (l.foldl decS st).asked = st.asked ∧ (l.foldl decS st).rules.length = st.rules.length ∧ mu (l.foldl decS st) ≤ mu st := by
  induction l with
  | nil => exact fun st h => ⟨h, rfl, rfl, Nat.le_refl _⟩
  | cons r l ih =>
    intro st h
    obtain ⟨h1, h2, h3, h4⟩ := ih (decS st r) (decS_ok h r)
    have h5 := decS_same st r
    exact ⟨h1, h2.trans h5.2, h3.trans h5.1, Nat.le_trans h4 (decS_mu h r)⟩
theorem pop_ok {m : Nat} {st : St} (h : Wok m st) : Wok m { st with next := st.next.take (st.next.length - 1) } := ⟨h.al, h.kl, h.th, h.rl, fun x hx => h.nx x (List.mem_of_mem_take hx), by have := h.nl; simp only [List.length_take]; omega⟩
theorem stepS_ok {m : Nat} {st : St} (h : Wok m st) (hn : st.next ≠ []) : Wok m (stepS st) ∧ mu (stepS st) < mu st := by
  obtain ⟨h1, _, _, h4⟩ := decs_ok (st.asked.getD (st.next.getD (st.next.length - 1) 0) []) _ (pop_ok h)
  refine ⟨h1, Nat.lt_of_le_of_lt h4 ?_⟩
  have : st.next.length ≠ 0 := fun e => hn (List.length_eq_zero_iff.1 e)
  simp only [mu, List.length_take]
  omega
theorem runS_more {m : Nat} : ∀ (n k : Nat) (st : St), Wok m st → mu st ≤ n → runS (n + k) st = runS n st
  | 0, k, st, _, h => by
    have : st.next = [] := List.length_eq_zero_iff.1 (by simp only [mu] at h; omega)
    cases k with
    | zero => rfl
    | succ k => rw [Nat.zero_add]; show (if st.next = [] then st else runS k (stepS st)) = st; rw [if_pos this]
  | n + 1, k, st, hw, h => by
    rw [show n + 1 + k = (n + k) + 1 by omega, runS, runS]
    split
    · rfl
    · rename_i hn
      obtain ⟨h1, h2⟩ := stepS_ok hw hn
      exact runS_more n k _ h1 (by omega)
/-- till nothing more comes -/
def spreadS (st : St) : St := runS (mu st) st
theorem spreadS_step {m : Nat} {st : St} (h : Wok m st) (hn : st.next ≠ []) : spreadS (stepS st) = spreadS st := by
  obtain ⟨h1, h2⟩ := stepS_ok h hn
  unfold spreadS
  obtain ⟨k, hk⟩ : ∃ k, mu st = mu (stepS st) + k + 1 := ⟨mu st - mu (stepS st) - 1, by omega⟩
  rw [hk, runS, if_neg hn, runS_more _ k _ h1 (Nat.le_refl _)]
theorem spreadS_end {st : St} (hn : st.next = []) : spreadS st = st := by
  unfold spreadS
  cases mu st with
  | zero => rfl
  | succ n => rw [runS, if_pos hn]
end Go.Proofs.YtoogiblkommdfaaGreat

namespace Go.Proofs.YtoogiblkommdfaaGreat
open Go.RowKit

theorem perm_mv (A B C : BL) : (A ++ (B ++ C)).Perm (B ++ (A ++ C)) := by
  rw [← List.append_assoc, ← List.append_assoc]
  exact List.perm_append_comm.append_right C
set_option maxRecDepth 100000 in
set_option maxHeartbeats 2000000 in
theorem learn_y {z : Base} {b : Wb} {m : Nat} {st : St} {avs : List Value} {La L : BL} {w : World} (H : WX z b m st avs La L w) (hw : Wok m st) {x : Nat} (hx : x < m) (hnl : st.next.length ≤ 1000000) (hkx : st.known.getD x false = true) :
    Calls Tryz.prog 82 #[pt b.p, iN .i64 x] w fun e w' => e = .returned (.tuple #[]) ∧ WX z b m (learnS st x) avs La L w' := by
  obtain ⟨rv, nv, Lr, Ln, hR, hN, H0⟩ := H
  obtain ⟨pr, cr, rfl⟩ := hR.form
  obtain ⟨pn, cn, rfl⟩ := hN.form
  have hkl := hw.kl
  have hal := hw.al
  go_enter Tryz.func82, Tryz.ntmps82
  refine wp_seq (wl_region ?_)
  refine zv (.pointer (some ⟨b.p, 0, none⟩)) ?_
  refine zv (.pointer (some ⟨b.p, 0, none⟩)) ?_
  refine zv (.pointer (some ⟨b.p, 2, none⟩)) ?_
  refine zu (.slice (some ⟨b.kb, 0, none⟩) m m) (run_load1 (fun w => Tryz.isAgg87 w) ky (((H0.get 0 rfl).cell 2).trans rfl)) ?_
  refine zv (iN .i64 x) ?_
  refine zu (.pointer (some ⟨b.kb, x, none⟩)) (run_addr_slice (q := b.kb) (n := m) (m := m) (a := x) Tryz.underlying87 (fun w => Tryz.sizeOf4 w) ky ky (by omega)) ?_
  refine zu (.bool true) (run_load1 (fun w => Tryz.isAgg4 w) ky (((H0.get 2 rfl).cell x).trans ((boc_get st.known x (by omega)).trans (by rw [hkx])))) ?_
  refine zv (.bool false) ?_
  refine wl_nil (then_at rfl ?_)
  refine wp_cond_false ky ?_
  refine wp_skip ?_
  exact bodyPost_end (v := .tuple #[]) ky rfl ⟨rfl, by rw [learnS, if_pos hkx]; exact ⟨_, _, Lr, Ln, hR, hN, H0⟩⟩
set_option maxRecDepth 100000 in
set_option maxHeartbeats 2000000 in
theorem learn_n {z : Base} {b : Wb} {m : Nat} {st : St} {avs : List Value} {La L : BL} {w : World} (H : WX z b m st avs La L w) (hw : Wok m st) {x : Nat} (hx : x < m) (hnl : st.next.length ≤ 1000000) (hkx : st.known.getD x false = false) :
    Calls Tryz.prog 82 #[pt b.p, iN .i64 x] w fun e w' => e = .returned (.tuple #[]) ∧ WX z b m (learnS st x) avs La L w' := by
  obtain ⟨rv, nv, Lr, Ln, hR, hN, H0⟩ := H
  obtain ⟨pr, cr, rfl⟩ := hR.form
  obtain ⟨pn, cn, rfl⟩ := hN.form
  have hkl := hw.kl
  have hal := hw.al
  go_enter Tryz.func82, Tryz.ntmps82
  refine wp_seq (wl_region ?_)
  refine zv (.pointer (some ⟨b.p, 0, none⟩)) ?_
  refine zv (.pointer (some ⟨b.p, 0, none⟩)) ?_
  refine zv (.pointer (some ⟨b.p, 2, none⟩)) ?_
  refine zu (.slice (some ⟨b.kb, 0, none⟩) m m) (run_load1 (fun w => Tryz.isAgg87 w) ky (((H0.get 0 rfl).cell 2).trans rfl)) ?_
  refine zv (iN .i64 x) ?_
  refine zu (.pointer (some ⟨b.kb, x, none⟩)) (run_addr_slice (q := b.kb) (n := m) (m := m) (a := x) Tryz.underlying87 (fun w => Tryz.sizeOf4 w) ky ky (by omega)) ?_
  refine zu (.bool false) (run_load1 (fun w => Tryz.isAgg4 w) ky (((H0.get 2 rfl).cell x).trans ((boc_get st.known x (by omega)).trans (by rw [hkx])))) ?_
  refine zv (.bool true) ?_
  refine wl_nil (then_at rfl ?_)
  refine wp_cond_true ky ?_
  refine wp_seq (wl_region ?_)
  refine zv (.pointer (some ⟨b.p, 0, none⟩)) ?_
  refine zv (.pointer (some ⟨b.p, 0, none⟩)) ?_
  refine zv (.pointer (some ⟨b.p, 2, none⟩)) ?_
  refine zu (.slice (some ⟨b.kb, 0, none⟩) m m) (run_load1 (fun w => Tryz.isAgg87 w) ky (((H0.get 0 rfl).cell 2).trans rfl)) ?_
  refine zv (iN .i64 x) ?_
  refine zu (.pointer (some ⟨b.kb, x, none⟩)) (run_addr_slice (q := b.kb) (n := m) (m := m) (a := x) Tryz.underlying87 (fun w => Tryz.sizeOf4 w) ky ky (by omega)) ?_
  refine wl_putv (v := .bool true) H0 2 rfl x (by rw [boc_size]; omega) ky (fun w => Tryz.sizeOf4 w) ky ky ky ?_
  intro w1 h2
  have h3 : HA z ((b.p, 148, wcell b m (.slice pr st.rules.length cr) (.slice pn st.next.length cn)) :: (b.ab, 84, avs.toArray) :: (b.kb, 4, boc (st.known.set x true)) :: (Lr ++ (Ln ++ (La ++ L)))) w1 := (by rw [← boc_put]; exact h2)
  clear h2
  refine wl_nil (then_at rfl (wl_region ?_))
  refine zv (.pointer (some ⟨b.p, 0, none⟩)) ?_
  refine zv (.pointer (some ⟨b.p, 0, none⟩)) ?_
  refine zv (.pointer (some ⟨b.p, 0, none⟩)) ?_
  refine zv (.pointer (some ⟨b.p, 3, none⟩)) ?_
  refine zu (.slice pn st.next.length cn) (run_load1 (fun w => Tryz.isAgg84 w) ky (((h3.get 0 rfl).cell 3).trans rfl)) ?_
  refine zv (iN .i64 x) ?_
  refine wl_mks (n := 1) (m := 1) (c := intc [x]) h3 3 ky ky ?_
  intro q4 w5 (h6 : HA z ((q4, 3, intc [x]) :: (b.p, 148, wcell b m (.slice pr st.rules.length cr) (.slice pn st.next.length cn)) :: (b.ab, 84, avs.toArray) :: (b.kb, 4, boc (st.known.set x true)) :: (Lr ++ (Ln ++ (La ++ L)))) w5)
  have h7 : HA z ((q4, 3, intc [x]) :: (Ln ++ (([(b.p, 148, wcell b m (.slice pr st.rules.length cr) (.slice pn st.next.length cn)), (b.ab, 84, avs.toArray), (b.kb, 4, boc (st.known.set x true))] ++ Lr) ++ (La ++ L)))) w5 := h6.perm (List.Perm.cons _ (perm_mv ([(b.p, 148, wcell b m (.slice pr st.rules.length cr) (.slice pn st.next.length cn)), (b.ab, 84, avs.toArray), (b.kb, 4, boc (st.known.set x true))] ++ Lr) Ln (La ++ L)))
  refine wl_append (m := 1) (c := 1) hN h7 (by decide) (.int .i64 0) 8 Tryz.underlying84 info3 rfl (by decide) ky ky ky rfl (one_intc _) (by unfold maxLen; omega) (by omega) (by decide) ?_
  intro v1 w8 Ln1 hN1 h9
  obtain ⟨pn1, cn1, rfl⟩ := hN1.form
  have h10 : HA z ((b.p, 148, wcell b m (.slice pr st.rules.length cr) (.slice pn st.next.length cn)) :: (b.ab, 84, avs.toArray) :: (b.kb, 4, boc (st.known.set x true)) :: (Lr ++ (Ln1 ++ (La ++ L)))) w8 := HA.mv Ln1 ([(b.p, 148, wcell b m (.slice pr st.rules.length cr) (.slice pn st.next.length cn)), (b.ab, 84, avs.toArray), (b.kb, 4, boc (st.known.set x true))] ++ Lr) (La ++ L) h9
  refine zv (.pointer (some ⟨b.p, 0, none⟩)) ?_
  refine zv (.pointer (some ⟨b.p, 3, none⟩)) ?_
  refine wl_putv (v := .slice pn1 (st.next.length + 1) cn1) h10 0 rfl 3 (by show 3 < 4; decide) ky (fun w => Tryz.sizeOf84 w) ky ky ky ?_
  intro w11 (h12 : HA z ((b.p, 148, wcell b m (.slice pr st.rules.length cr) (.slice pn1 (st.next.length + 1) cn1)) :: (b.ab, 84, avs.toArray) :: (b.kb, 4, boc (st.known.set x true)) :: (Lr ++ (Ln1 ++ (La ++ L)))) w11)
  refine wl_nil ?_
  exact bodyPost_end (v := .tuple #[]) ky rfl ⟨rfl, by rw [learnS, if_neg (by rw [hkx]; decide)]; exact ⟨_, _, Lr, Ln1, hR, by simpa [inl, intc] using hN1, h12⟩⟩
theorem learn_x {z : Base} {b : Wb} {m : Nat} {st : St} {avs : List Value} {La L : BL} {w : World} (H : WX z b m st avs La L w) (hw : Wok m st) {x : Nat} (hx : x < m) (hnl : st.next.length ≤ 1000000) :
    Calls Tryz.prog 82 #[pt b.p, iN .i64 x] w fun e w' => e = .returned (.tuple #[]) ∧ WX z b m (learnS st x) avs La L w' := by
  cases hk : st.known.getD x false with
  | true => exact learn_y H hw hx hnl hk
  | false => exact learn_n H hw hx hnl hk
theorem learn_any {z : Base} {b : Wb} {m : Nat} {st : St} {L : BL} {w : World} (H : WH z b m st L w) (hw : Wok m st) {x : Nat} (hx : x < m) (hnl : st.next.length ≤ 1000000) :
    Calls Tryz.prog 82 #[pt b.p, iN .i64 x] w fun e w' => e = .returned (.tuple #[]) ∧ WH z b m (learnS st x) L w' := by
  obtain ⟨avs, La, hA, h⟩ := H.open
  refine (learn_x h hw hx hnl).mono ?_
  rintro e w' ⟨rfl, h'⟩
  exact ⟨rfl, h'.close (by rw [(learnS_rules st x).2]; exact hA)⟩
end Go.Proofs.YtoogiblkommdfaaGreat
