/-
  keys of a key: Expand, and the reference's.
-/
import Derived.Test.YtmlldbkhphngeaaDoorM3
namespace Go.Proofs.YtmlldbkhphngeaaDoor
open Go.RowKit


def exT (k f : ByteArray) : Nat → List UInt8
  | 0 => []
  | i + 1 => hmP k (exT k f i ++ bl f ++ [UInt8.ofNat (i + 1)])
theorem exT_len (k f : ByteArray) (i : Nat) : (exT k f (i + 1)).length = 32 := hmP_len _ _
theorem exT_le (k f : ByteArray) : ∀ i, (exT k f i).length ≤ 32
  | 0 => Nat.zero_le _
  | i + 1 => by rw [exT_len]; exact Nat.le_refl _
def exP (k f : ByteArray) : Nat → List UInt8
  | 0 => []
  | i + 1 => exP k f i ++ exT k f (i + 1)
theorem exP_len (k f : ByteArray) : ∀ i, (exP k f i).length = 32 * i
  | 0 => rfl
  | i + 1 => by rw [exP, List.length_append, exP_len k f i, exT_len]; omega
/-- the first n bytes of T1, T2, .. -/
def exR (k f : ByteArray) (n : Nat) : List UInt8 := (exP k f ((n + 31) / 32)).take n
theorem exR_len (k f : ByteArray) (n : Nat) : (exR k f n).length = n := by
  unfold exR
  rw [List.length_take, exP_len]
  omega
theorem exP_take (k f : ByteArray) (i : Nat) : ∀ j, i ≤ j → (exP k f j).take (32 * i) = exP k f i
  | 0, h => by
    obtain rfl : i = 0 := by omega
    rfl
  | j + 1, h => by
    rcases Nat.lt_or_ge i (j + 1) with h1 | h1
    · rw [exP, List.take_append_of_le_length (by rw [exP_len]; omega)]
      exact exP_take k f i j (by omega)
    · obtain rfl : i = j + 1 := by omega
      rw [List.take_of_length_le (by rw [exP_len]; exact Nat.le_refl _)]
/-- the fewer are the beginning of the more -/
theorem exR_take (k f : ByteArray) (m n : Nat) (h : m ≤ n) : (exR k f n).take m = exR k f m := by
  unfold exR
  rw [List.take_take, Nat.min_eq_left h, ← exP_take k f ((m + 31) / 32) ((n + 31) / 32) (by omega), List.take_take, Nat.min_eq_left (by omega)]
theorem hm_three (k f : ByteArray) (i : Nat) : Value.string ⟨(hmP k (catP [ByteArray.mk (exT k f i).toArray, f, ByteArray.mk [UInt8.ofNat (i + 1)].toArray] 3)).toArray⟩ = .string ⟨(exT k f (i + 1)).toArray⟩ := rfl
theorem hm_threeR (k f : ByteArray) (i : Nat) : Value.string ⟨(hmP k (bl ((ByteArray.mk (exT k f i).toArray ++ f) ++ ByteArray.mk [UInt8.ofNat (i + 1)].toArray))).toArray⟩ = .string ⟨(exT k f (i + 1)).toArray⟩ := by
  rw [bl_append, bl_append]
  rfl
theorem owns_below {w w' : World} {base e size n : Nat} {v : Value} {xs : List Value} (h : w.ownsRow base e size v n xs) (hb : Below w.heap.size w w') : w'.ownsRow base e size v n xs := by
  obtain ⟨hl, h1 | ⟨g, cap, cur, e1, e2, hg, e4, e5, e6, e7⟩⟩ := h
  · exact ⟨hl, .inl h1⟩
  · exact ⟨hl, .inr ⟨g, cap, cur, e1, e2, (hb.block g (Array.getElem?_eq_some_iff.1 hg).1).trans hg, e4, e5, e6, e7⟩⟩
section
variable {ρ : Operand → Value} {x y : Operand} {w : World} {dst : Option Tmp} {T T2 ty : TypeId} {pos : String} {aft : Array Edge} {gd : Option (Nat × Bool)}
theorem run_incb {a : Nat} (hx : ρ x = by8 (UInt8.ofNat a)) (hy : ρ y = by8 1) : (execOp ρ ⟨dst, .binOp .add T x y T2, ty, pos, aft, gd⟩).run Tryd.prog w = .ok (.value (by8 (UInt8.ofNat (a + 1)))) w := by
  have e : UInt8.ofNat (a + 1) = UInt8.ofNat a + 1 := UInt8.ofNat_add a 1
  rw [e]
  exact run_addb hx hy
theorem run_lssz {k : IntKind} {a b : Int} (hx : ρ x = .int k a) (hy : ρ y = .int k b) (t : Bool) (ht : decide (a < b) = t) : (execOp ρ ⟨dst, .binOp .lss T x y T2, ty, pos, aft, gd⟩).run Tryd.prog w = .ok (.value (.bool t)) w := by
  subst ht
  simp only [execOp, hx, hy]
  simp [binOp, go_sem]
theorem run_cut_own {o : Option Addr} {m c b base : Nat} {xs : List Value} (hx : ρ x = .slice o m c) (hy : ρ y = iN .i64 b) (h : w.ownsRow base 5 1 (.slice o m c) m xs) (hb : b ≤ m) :
    (execOp ρ ⟨dst, .slice 31 x none (some y) none, ty, pos, aft, gd⟩).run Tryd.prog w = .ok (.value (.slice o b c)) w := by
  obtain ⟨hl, ⟨h1, h2⟩ | ⟨g, cap, cur, e1, e2, hg, e4, e5, e6, e7⟩⟩ := h
  · injection h1 with h3 h4 h5
    subst h3 h4 h5
    obtain rfl : b = 0 := by omega
    simp only [execOp, hx, Option.map, hy, iN]
    go_simp
  · injection e1 with h3 h4 h5
    subst h3 h5
    have hbc : b ≤ c := Nat.le_trans hb e4
    simp only [execOp, hx, Option.map, hy, iN]
    go_simp
theorem run_text_own {o : Option Addr} {m c b base : Nat} {l : List UInt8} (hx : ρ x = .slice o b c) (h : w.ownsRow base 5 1 (.slice o m c) m (l.map by8)) (hb : b ≤ m) :
    (execOp ρ ⟨dst, .convert 31 9 x, ty, pos, aft, gd⟩).run Tryd.prog w = .ok (.value (.string ⟨(l.take b).toArray⟩)) w := by
  obtain ⟨hl, ⟨h1, h2⟩ | ⟨g, cap, cur, e1, e2, hg, e4, e5, e6, e7⟩⟩ := h
  · injection h1 with h3 h4 h5
    subst h3 h4 h5
    obtain rfl : b = 0 := by omega
    rw [List.take_zero]
    simp only [execOp, hx]
    go_simp
    rfl
  · injection e1 with h3 h4 h5
    subst h3 h5
    have hll : l.length = m := by
      rw [List.length_map] at hl
      omega
    have e0 : (l.take b).length = b := by rw [List.length_take]; omega
    have e := run_convert_bytes_back (P := Tryd.prog) w 31 9 5 ⟨g, 0, none⟩ c (l.take b) Tryd.underlying31 Tryd.underlying5 Tryd.underlying9 (fun j hj => by
      have hadd : (⟨g, 0, none⟩ : Addr).add j = ⟨g, j, none⟩ := by unfold Addr.add; split <;> simp_all
      rw [e0] at hj
      have hc : cur.toList[j]? = some (by8 (l.getD j 0)) := by
        have h2 : (cur.toList.take (m * 1))[j]? = cur.toList[j]? := List.getElem?_take_of_lt (by omega)
        rw [← h2, e7, List.getElem?_map, List.getD_eq_getElem?_getD, List.getElem?_eq_getElem (by omega)]
        rfl
      rw [hadd]
      rw [Array.getElem?_toList] at hc
      simp only [World.cell?, hg]
      rw [List.getElem_take, show l[j] = l.getD j 0 by rw [List.getD_eq_getElem?_getD, List.getElem?_eq_getElem (by omega)]; rfl]
      simpa [by8, iN] using hc)
    rw [e0] at e
    simp only [execOp, hx, Sem.run_bind, e, Result.andThen_ok, Sem.run_pure]
end
section
variable {ops : Array Oper} {Q : Exit → Act → World → Prop} {a : Act} {w w0 : World} {rest : List Oper} {dst : Option Tmp} {ty : TypeId} {pos : String} {aft : Array Edge} {gd : Option (Nat × Bool)} {x y : Operand}
/-- a text's bytes behind a row of bytes of one's own -/
theorem wl_grow {o : Option Addr} {c m m' : Nat} {l : List UInt8} {s : ByteArray} (H : HA w0 [] w) (hown : w.ownsRow w0.heap.size 5 1 (.slice o m c) m (l.map by8)) (hm : m + s.size = m') (hle : m' ≤ 100000)
    (hw : Region.wanted ⟨dst, .call { callee := .builtin .append, args := #[x, y], argTypes := #[31, 9] }, ty, pos, aft, gd⟩ (yielded ops a.tmps) = true) (hx : a.eval x = .slice o m c) (hy : a.eval y = .string s)
    (h : ∀ o' c' w', HA w0 [] w' → w'.ownsRow w0.heap.size 5 1 (.slice o' m' c') m' ((l ++ bl s).map by8) → WL Tryd.prog ops Q rest (a.put dst (.slice o' m' c')) w') :
    WL Tryd.prog ops Q (⟨dst, .call { callee := .builtin .append, args := #[x, y], argTypes := #[31, 9] }, ty, pos, aft, gd⟩ :: rest) a w := by
  subst hm
  refine ⟨?_⟩
  unfold wpList
  rw [if_pos hw]
  refine .inl ?_
  unfold Oper.wp
  obtain ⟨i, hi, hh⟩ := Option.map_eq_some_iff.1 info5
  simp only [Prod.mk.injEq] at hh
  obtain ⟨v', w', hrun, hown', hgr, _⟩ := Lib.run_append_own_string (P := Tryd.prog) w w0.heap.size 31 9 ty 5 i Tryd.underlying31 Tryd.underlying9 hi hh.1 hh.2.1 hh.2.2 _ m _ hown s (by unfold maxLen; omega) (by omega) H.old.size
  have e0 : (execOp a.eval ⟨dst, .call { callee := .builtin .append, args := #[x, y], argTypes := #[31, 9] }, ty, pos, aft, gd⟩).run Tryd.prog w = ((Builtin.append_ #[31, 9] ty #[a.eval x, a.eval y]).run Tryd.prog w).andThen (fun a w' => .ok (.value a) w') := by simp [go_sem]
  rw [e0, hx, hy, hrun]
  have e2 : Lib.strCells s = (bl s).map by8 := rfl
  rw [e2, ← List.map_append] at hown'
  have hbel : Below w0.heap.size w0 w' := H.old.grown hgr H.old.size (fun r hr => (hown.lt r hr).1)
  have hv : ∃ o' c', v' = .slice o' (m + s.size) c' := by
    obtain ⟨_, ⟨rfl, h2⟩ | ⟨g, cap, cur, rfl, _⟩⟩ := hown'
    · exact ⟨none, 0, by rw [h2]⟩
    · exact ⟨_, _, rfl⟩
  obtain ⟨o', c', rfl⟩ := hv
  exact (h o' c' w' ⟨hbel, (fun x hx => by cases hx), (fun x hx => by cases hx), List.nodup_nil⟩ hown').out
end

set_option linter.unusedVariables false in
set_option maxRecDepth 100000 in
set_option maxHeartbeats 2000000 in
theorem expandc (k : ByteArray) (hk : k.size ≤ 2251799813685248) (f : ByteArray) (hf : f.size ≤ 562949953421312) (n : Nat) (hn : n ≤ 8160) (w : World) (VV : Vars w) :
    Calls Tryd.prog 15 #[.string k, .string f, iN .i64 n] w fun e w' => e = .returned (.tuple #[.string ⟨(exR k f n).toArray⟩, iN .i64 0]) ∧ Below w.heap.size w w' := by
  have H0 := HA.start w
  go_enter Tryd.func15, Tryd.ntmps15
  refine wp_seq ?_
  -- region 0
  refine wl_region ?_
  refine wl_val (.string { data := #[] }) (by kernel_rfl) (by kernel_rfl) ?_
  refine wl_val (iN .i64 0) (by kernel_rfl) (by kernel_rfl) ?_
  refine wl_nil ?_
  refine then_at (F := ⟨(.string k :: .string f :: iN .i64 n :: un :: un :: un :: .string { data := #[] } :: iN .i64 0 :: List.replicate 28 un).toArray, []⟩) (by kernel_rfl) ?_
  refine wp_seq ?_
  refine wp_seq ?_
  -- region 1
  refine wl_region ?_
  refine wl_val (iN .i64 n) (by kernel_rfl) (by kernel_rfl) ?_
  refine wl_val (.bool false) (by kernel_rfl) (run_lss (k := .i64) (a := n) (b := 0) (by kernel_rfl) (by kernel_rfl) false (decide_eq_false (Nat.not_lt_zero _))) ?_
  refine wl_nil ?_
  refine then_at (F := ⟨(.string k :: .string f :: iN .i64 n :: un :: un :: un :: .string { data := #[] } :: iN .i64 0 :: un :: un :: un :: iN .i64 n :: .bool false :: List.replicate 23 un).toArray, []⟩) (by kernel_rfl) ?_
  refine wp_cond_false (by kernel_rfl) ?_
  refine wp_skip ?_
  refine then_at (F := ⟨(.string k :: .string f :: iN .i64 n :: un :: un :: un :: .string { data := #[] } :: iN .i64 0 :: un :: un :: un :: iN .i64 n :: .bool false :: List.replicate 23 un).toArray, []⟩) (by kernel_rfl) ?_
  refine wp_seq ?_
  refine wp_seq ?_
  -- region 3
  refine wl_region ?_
  refine wl_val (iN .i64 n) (by kernel_rfl) (by kernel_rfl) ?_
  refine wl_val (.bool false) (by kernel_rfl) (run_gtr (k := .i64) (a := n) (b := 8160) (by kernel_rfl) (by kernel_rfl) false (decide_eq_false (by omega))) ?_
  refine wl_nil ?_
  refine then_at (F := ⟨(.string k :: .string f :: iN .i64 n :: un :: un :: un :: .string { data := #[] } :: iN .i64 0 :: un :: un :: un :: iN .i64 n :: .bool false :: iN .i64 n :: .bool false :: List.replicate 21 un).toArray, []⟩) (by kernel_rfl) ?_
  refine wp_cond_false (by kernel_rfl) ?_
  refine wp_skip ?_
  refine then_at (F := ⟨(.string k :: .string f :: iN .i64 n :: un :: un :: un :: .string { data := #[] } :: iN .i64 0 :: un :: un :: un :: iN .i64 n :: .bool false :: iN .i64 n :: .bool false :: List.replicate 21 un).toArray, []⟩) (by kernel_rfl) ?_
  refine wp_seq ?_
  -- region 5
  refine wl_region ?_
  refine wl_val (.slice none 0 0) (by kernel_rfl) (by kernel_rfl) ?_
  refine wl_nil ?_
  refine then_at (F := ⟨(.string k :: .string f :: iN .i64 n :: un :: un :: un :: .string { data := #[] } :: iN .i64 0 :: .slice none 0 0 :: un :: un :: iN .i64 n :: .bool false :: iN .i64 n :: .bool false :: List.replicate 21 un).toArray, []⟩) (by kernel_rfl) ?_
  refine wp_seq ?_
  -- region 6
  refine wl_region ?_
  refine wl_val (.string { data := #[] }) (by kernel_rfl) (by kernel_rfl) ?_
  refine wl_nil ?_
  refine then_at (F := ⟨(.string k :: .string f :: iN .i64 n :: un :: un :: un :: .string { data := #[] } :: iN .i64 0 :: .slice none 0 0 :: .string { data := #[] } :: un :: iN .i64 n :: .bool false :: iN .i64 n :: .bool false :: List.replicate 21 un).toArray, []⟩) (by kernel_rfl) ?_
  refine wp_seq ?_
  refine wp_seq ?_
  -- region 7
  refine wl_region ?_
  refine wl_val (by8 1) (by kernel_rfl) (by kernel_rfl) ?_
  refine wl_nil ?_
  refine then_at (F := ⟨(.string k :: .string f :: iN .i64 n :: un :: un :: un :: .string { data := #[] } :: iN .i64 0 :: .slice none 0 0 :: .string { data := #[] } :: by8 1 :: iN .i64 n :: .bool false :: iN .i64 n :: .bool false :: List.replicate 21 un).toArray, []⟩) (by kernel_rfl) ?_
  refine wp_block ?_
  refine wp_while (fun mq A w' => ∃ (i : Nat) (o : Option Addr) (c : Nat) (u1 : Nat → Value), mq = (n + 31) / 32 - i ∧ A = ⟨(.string k :: .string f :: iN .i64 n :: un :: un :: un :: .string { data := #[] } :: iN .i64 0 :: .slice o (32 * i) c :: .string (ByteArray.mk (exT k f i).toArray) :: by8 (UInt8.ofNat (i + 1)) :: iN .i64 n :: .bool false :: iN .i64 n :: .bool false :: u1 15 :: u1 16 :: u1 17 :: u1 18 :: u1 19 :: u1 20 :: u1 21 :: u1 22 :: u1 23 :: u1 24 :: u1 25 :: u1 26 :: u1 27 :: u1 28 :: u1 29 :: u1 30 :: u1 31 :: List.replicate 4 un).toArray, []⟩ ∧ HA w [] w' ∧ i ≤ (n + 31) / 32 ∧ w'.ownsRow w.heap.size 5 1 (.slice o (32 * i) c) (32 * i) ((exP k f i).map by8)) ((n + 31) / 32 - 0) ?_ ?_
  · exact ⟨0, none, 0, fun ii => (([(15, undef), (16, undef), (17, undef), (18, undef), (19, undef), (20, undef), (21, undef), (22, undef), (23, undef), (24, undef), (25, undef), (26, undef), (27, undef), (28, undef), (29, undef), (30, undef), (31, undef)] : List (Nat × Value)).find? (·.1 == ii)).elim undef (·.2), rfl, by kernel_rfl, H0, (Nat.zero_le _), (World.ownsRow_nil _ _ _ _)⟩
  rintro _ _ w2 ⟨i, o, c, u1, rfl, rfl, h3, hI, hown⟩
  refine wp_seq ?_
  refine wp_seq ?_
  by_cases hin : 32 * i < n
  · -- region 8
    refine wl_region ?_
    refine wl_val (.slice o (32 * i) c) (by kernel_rfl) (by kernel_rfl) ?_
    refine wl_val (iN .i64 (32 * i)) (by kernel_rfl) (run_len28 (q := o) (m := 32 * i) (c := c) (by kernel_rfl)) ?_
    refine wl_val (iN .i64 n) (by kernel_rfl) (by kernel_rfl) ?_
    refine wl_val (.bool true) (by kernel_rfl) (run_lss (k := .i64) (a := 32 * i) (b := n) (by kernel_rfl) (by kernel_rfl) true (decide_eq_true hin)) ?_
    refine wl_nil ?_
    refine then_at (F := ⟨(.string k :: .string f :: iN .i64 n :: un :: un :: un :: .string { data := #[] } :: iN .i64 0 :: .slice o (32 * i) c :: .string (ByteArray.mk (exT k f i).toArray) :: by8 (UInt8.ofNat (i + 1)) :: iN .i64 n :: .bool false :: iN .i64 n :: .bool false :: .slice o (32 * i) c :: iN .i64 (32 * i) :: iN .i64 n :: .bool true :: u1 19 :: u1 20 :: u1 21 :: u1 22 :: u1 23 :: u1 24 :: u1 25 :: u1 26 :: u1 27 :: u1 28 :: u1 29 :: u1 30 :: u1 31 :: List.replicate 4 un).toArray, []⟩) (by kernel_rfl) ?_
    refine wp_cond_true (by kernel_rfl) ?_
    refine wp_skip ?_
    refine then_at (F := ⟨(.string k :: .string f :: iN .i64 n :: un :: un :: un :: .string { data := #[] } :: iN .i64 0 :: .slice o (32 * i) c :: .string (ByteArray.mk (exT k f i).toArray) :: by8 (UInt8.ofNat (i + 1)) :: iN .i64 n :: .bool false :: iN .i64 n :: .bool false :: .slice o (32 * i) c :: iN .i64 (32 * i) :: iN .i64 n :: .bool true :: u1 19 :: u1 20 :: u1 21 :: u1 22 :: u1 23 :: u1 24 :: u1 25 :: u1 26 :: u1 27 :: u1 28 :: u1 29 :: u1 30 :: u1 31 :: List.replicate 4 un).toArray, []⟩) (by kernel_rfl) ?_
    refine wp_seq ?_
    refine wp_block ?_
    refine wp_seq ?_
    have VX : Vars w2 := VV.below h3.old VV.big
    have HX := HA.start w2
    -- region 10
    refine wl_region ?_
    refine wl_val (.string k) (by kernel_rfl) (by kernel_rfl) ?_
    refine wl_val (.string (ByteArray.mk (exT k f i).toArray)) (by kernel_rfl) (by kernel_rfl) ?_
    refine wl_val (.string f) (by kernel_rfl) (by kernel_rfl) ?_
    refine wl_val (by8 (UInt8.ofNat (i + 1))) (by kernel_rfl) (by kernel_rfl) ?_
    refine wl_mks (n := 1) (m := 1) HX 5 (by kernel_rfl) (run_build1 (u := UInt8.ofNat (i + 1)) (by kernel_rfl)) ?_
    intro q4 w5 h6
    refine wl_val (.string (ByteArray.mk [UInt8.ofNat (i + 1)].toArray)) (by kernel_rfl) (run_textg (q := q4) (m := 1) (c := 1) (l := [UInt8.ofNat (i + 1)]) (by kernel_rfl) (h6.get 0 rfl) (Nat.le_refl 1)) ?_
    refine wl_mks (n := 3) (m := 3) (c := psc ([ByteArray.mk (exT k f i).toArray, f, ByteArray.mk [UInt8.ofNat (i + 1)].toArray])) h6 9 (by kernel_rfl) (run_bs3 (a := ByteArray.mk (exT k f i).toArray) (b := f) (c := ByteArray.mk [UInt8.ofNat (i + 1)].toArray) (by kernel_rfl) (by kernel_rfl) (by kernel_rfl)) ?_
    intro q7 w8 h9
    refine wl_call (v := .string (ByteArray.mk (exT k f (i + 1)).toArray)) h9 (by kernel_rfl) enter10 #[.string k, .slice (some ⟨q7, 0, none⟩) 3 3] (by kernel_rfl) (ret_eq (hmacc k hk ([ByteArray.mk (exT k f i).toArray, f, ByteArray.mk [UInt8.ofNat (i + 1)].toArray]) 3 rfl (by decide) (some ⟨q7, 0, none⟩) 3 w8 (VX.below h9.old VX.big) (parts_ofc (h9.get 0 rfl)) (fun h => by cases h) (by show 0 + (ByteArray.mk (exT k f i).toArray).size + f.size + (ByteArray.mk [UInt8.ofNat (i + 1)].toArray).size ≤ _; have h1 : (ByteArray.mk (exT k f i).toArray).size ≤ 32 := exT_le k f i; have h2 : (ByteArray.mk [UInt8.ofNat (i + 1)].toArray).size = 1 := rfl; omega)) (hm_three k f i)) ?_
    intro w10 h11
    refine wl_val (.string (ByteArray.mk (exT k f (i + 1)).toArray)) (by kernel_rfl) (by kernel_rfl) ?_
    refine wl_nil ?_
    have hown2 := owns_below hown h11.old
    have h12 := h3.keep _ _ h11.old
    refine then_at (F := ⟨(.string k :: .string f :: iN .i64 n :: un :: un :: un :: .string { data := #[] } :: iN .i64 0 :: .slice o (32 * i) c :: .string (ByteArray.mk (exT k f (i + 1)).toArray) :: by8 (UInt8.ofNat (i + 1)) :: iN .i64 n :: .bool false :: iN .i64 n :: .bool false :: .slice o (32 * i) c :: iN .i64 (32 * i) :: iN .i64 n :: .bool true :: u1 19 :: u1 20 :: .string k :: .string (ByteArray.mk (exT k f i).toArray) :: .string f :: by8 (UInt8.ofNat (i + 1)) :: .slice (some ⟨q4, 0, none⟩) 1 1 :: .string (ByteArray.mk [UInt8.ofNat (i + 1)].toArray) :: .slice (some ⟨q7, 0, none⟩) 3 3 :: .string (ByteArray.mk (exT k f (i + 1)).toArray) :: u1 29 :: u1 30 :: u1 31 :: List.replicate 4 un).toArray, []⟩) (by kernel_rfl) ?_
    -- region 11
    refine wl_region ?_
    refine wl_val (.slice o (32 * i) c) (by kernel_rfl) (by kernel_rfl) ?_
    refine wl_val (.string (ByteArray.mk (exT k f (i + 1)).toArray)) (by kernel_rfl) (by kernel_rfl) ?_
    refine wl_grow (o := o) (c := c) (m := 32 * i) (m' := 32 * (i + 1)) (l := exP k f i) (s := ByteArray.mk (exT k f (i + 1)).toArray) h12 hown2 (by rw [sz_mk, exT_len]; omega) (by omega) (by kernel_rfl) (by kernel_rfl) (by kernel_rfl) ?_
    intro o' c' w13 h14 hown3
    refine wl_val ((.slice o' (32 * (i + 1)) c')) (by kernel_rfl) (by kernel_rfl) ?_
    refine wl_nil ?_
    refine block_normal ?_
    refine then_at (F := ⟨(.string k :: .string f :: iN .i64 n :: un :: un :: un :: .string { data := #[] } :: iN .i64 0 :: (.slice o' (32 * (i + 1)) c') :: .string (ByteArray.mk (exT k f (i + 1)).toArray) :: by8 (UInt8.ofNat (i + 1)) :: iN .i64 n :: .bool false :: iN .i64 n :: .bool false :: .slice o (32 * i) c :: iN .i64 (32 * i) :: iN .i64 n :: .bool true :: u1 19 :: u1 20 :: .string k :: .string (ByteArray.mk (exT k f i).toArray) :: .string f :: by8 (UInt8.ofNat (i + 1)) :: .slice (some ⟨q4, 0, none⟩) 1 1 :: .string (ByteArray.mk [UInt8.ofNat (i + 1)].toArray) :: .slice (some ⟨q7, 0, none⟩) 3 3 :: .string (ByteArray.mk (exT k f (i + 1)).toArray) :: .slice o (32 * i) c :: .string (ByteArray.mk (exT k f (i + 1)).toArray) :: (.slice o' (32 * (i + 1)) c') :: List.replicate 4 un).toArray, []⟩) (by kernel_rfl) ?_
    -- region 9
    refine wl_region ?_
    refine wl_val (by8 (UInt8.ofNat (i + 1))) (by kernel_rfl) (by kernel_rfl) ?_
    refine wl_val (by8 (UInt8.ofNat (i + 1 + 1))) (by kernel_rfl) (run_incb (a := i + 1) (by kernel_rfl) (by kernel_rfl)) ?_
    refine wl_val (by8 (UInt8.ofNat (i + 1 + 1))) (by kernel_rfl) (by kernel_rfl) ?_
    refine wl_nil ?_
    exact then_I ⟨(n + 31) / 32 - (i + 1), (by omega), i + 1, o', c', fun ii => (([(15, .slice o (32 * i) c), (16, iN .i64 (32 * i)), (17, iN .i64 n), (18, .bool true), (19, by8 (UInt8.ofNat (i + 1))), (20, by8 (UInt8.ofNat (i + 1 + 1))), (21, .string k), (22, .string (ByteArray.mk (exT k f i).toArray)), (23, .string f), (24, by8 (UInt8.ofNat (i + 1))), (25, .slice (some ⟨q4, 0, none⟩) 1 1), (26, .string (ByteArray.mk [UInt8.ofNat (i + 1)].toArray)), (27, .slice (some ⟨q7, 0, none⟩) 3 3), (28, .string (ByteArray.mk (exT k f (i + 1)).toArray)), (29, .slice o (32 * i) c), (30, .string (ByteArray.mk (exT k f (i + 1)).toArray)), (31, (.slice o' (32 * (i + 1)) c'))] : List (Nat × Value)).find? (·.1 == ii)).elim undef (·.2), rfl, by kernel_rfl, h14, (by omega), hown3⟩
  · -- region 8
    refine wl_region ?_
    refine wl_val (.slice o (32 * i) c) (by kernel_rfl) (by kernel_rfl) ?_
    refine wl_val (iN .i64 (32 * i)) (by kernel_rfl) (run_len28 (q := o) (m := 32 * i) (c := c) (by kernel_rfl)) ?_
    refine wl_val (iN .i64 n) (by kernel_rfl) (by kernel_rfl) ?_
    refine wl_val (.bool false) (by kernel_rfl) (run_lss (k := .i64) (a := 32 * i) (b := n) (by kernel_rfl) (by kernel_rfl) false (decide_eq_false hin)) ?_
    refine wl_nil ?_
    refine then_at (F := ⟨(.string k :: .string f :: iN .i64 n :: un :: un :: un :: .string { data := #[] } :: iN .i64 0 :: .slice o (32 * i) c :: .string (ByteArray.mk (exT k f i).toArray) :: by8 (UInt8.ofNat (i + 1)) :: iN .i64 n :: .bool false :: iN .i64 n :: .bool false :: .slice o (32 * i) c :: iN .i64 (32 * i) :: iN .i64 n :: .bool false :: u1 19 :: u1 20 :: u1 21 :: u1 22 :: u1 23 :: u1 24 :: u1 25 :: u1 26 :: u1 27 :: u1 28 :: u1 29 :: u1 30 :: u1 31 :: List.replicate 4 un).toArray, []⟩) (by kernel_rfl) ?_
    refine wp_cond_false (by kernel_rfl) ?_
    refine wp_exit ?_
    repeat first | refine then_exit ?_ | refine block_exit ?_ | refine block_exit_ne (by decide) ?_
    refine then_at (F := ⟨(.string k :: .string f :: iN .i64 n :: un :: un :: un :: .string { data := #[] } :: iN .i64 0 :: .slice o (32 * i) c :: .string (ByteArray.mk (exT k f i).toArray) :: by8 (UInt8.ofNat (i + 1)) :: iN .i64 n :: .bool false :: iN .i64 n :: .bool false :: .slice o (32 * i) c :: iN .i64 (32 * i) :: iN .i64 n :: .bool false :: u1 19 :: u1 20 :: u1 21 :: u1 22 :: u1 23 :: u1 24 :: u1 25 :: u1 26 :: u1 27 :: u1 28 :: u1 29 :: u1 30 :: u1 31 :: List.replicate 4 un).toArray, []⟩) (by kernel_rfl) ?_
    refine wp_seq ?_
    -- region 12
    refine wl_region ?_
    refine wl_val (.slice o (32 * i) c) (by kernel_rfl) (by kernel_rfl) ?_
    refine wl_val (iN .i64 n) (by kernel_rfl) (by kernel_rfl) ?_
    refine wl_val (.slice o n c) (by kernel_rfl) (run_cut_own (by kernel_rfl) (by kernel_rfl) hown (by omega)) ?_
    refine wl_val (.string (ByteArray.mk ((exP k f i).take n).toArray)) (by kernel_rfl) (run_text_own (by kernel_rfl) hown (by omega)) ?_
    refine wl_val (.string (ByteArray.mk ((exP k f i).take n).toArray)) (by kernel_rfl) (by kernel_rfl) ?_
    refine wl_val (iN .i64 0) (by kernel_rfl) (by kernel_rfl) ?_
    refine wl_nil ?_
    refine then_at (F := ⟨(.string k :: .string f :: iN .i64 n :: un :: un :: un :: .string (ByteArray.mk ((exP k f i).take n).toArray) :: iN .i64 0 :: .slice o (32 * i) c :: .string (ByteArray.mk (exT k f i).toArray) :: by8 (UInt8.ofNat (i + 1)) :: iN .i64 n :: .bool false :: iN .i64 n :: .bool false :: .slice o (32 * i) c :: iN .i64 (32 * i) :: iN .i64 n :: .bool false :: u1 19 :: u1 20 :: u1 21 :: u1 22 :: u1 23 :: u1 24 :: u1 25 :: u1 26 :: u1 27 :: u1 28 :: u1 29 :: u1 30 :: u1 31 :: .slice o (32 * i) c :: iN .i64 n :: .slice o n c :: .string (ByteArray.mk ((exP k f i).take n).toArray) :: List.replicate 0 un).toArray, []⟩) (by kernel_rfl) ?_
    refine wp_ret ?_
    repeat first | refine then_ret ?_ | refine block_ret ?_
    exact bodyPost_ret (v := .tuple #[.string ⟨((exP k f i).take n).toArray⟩, iN .i64 0]) (by kernel_rfl) rfl ⟨by rw [show i = (n + 31) / 32 by omega]; rfl, h3.old⟩

set_option linter.unusedVariables false in
set_option maxRecDepth 100000 in
set_option maxHeartbeats 2000000 in
theorem expandR (k : ByteArray) (hk : k.size ≤ 2251799813685248) (f : ByteArray) (hf : f.size ≤ 562949953421312) (n : Nat) (hn : n ≤ 8160) (w : World) :
    Calls Tryd.prog 16 #[.string k, .string f, iN .i64 n] w fun e w' => e = .returned (.tuple #[.string ⟨(exR k f n).toArray⟩, iN .i64 0]) ∧ Below w.heap.size w w' := by
  have H0 := HA.start w
  go_enter Tryd.func16, Tryd.ntmps16
  refine wp_seq ?_
  -- region 0
  refine wl_region ?_
  refine wl_val (.string { data := #[] }) (by kernel_rfl) (by kernel_rfl) ?_
  refine wl_val (iN .i64 0) (by kernel_rfl) (by kernel_rfl) ?_
  refine wl_nil ?_
  refine then_at (F := ⟨(.string k :: .string f :: iN .i64 n :: un :: un :: un :: .string { data := #[] } :: iN .i64 0 :: List.replicate 29 un).toArray, []⟩) (by kernel_rfl) ?_
  refine wp_seq ?_
  refine wp_seq ?_
  -- region 1
  refine wl_region ?_
  refine wl_val (iN .i64 n) (by kernel_rfl) (by kernel_rfl) ?_
  refine wl_val (.bool false) (by kernel_rfl) (run_lss (k := .i64) (a := n) (b := 0) (by kernel_rfl) (by kernel_rfl) false (decide_eq_false (Nat.not_lt_zero _))) ?_
  refine wl_nil ?_
  refine then_at (F := ⟨(.string k :: .string f :: iN .i64 n :: un :: un :: un :: .string { data := #[] } :: iN .i64 0 :: un :: un :: un :: iN .i64 n :: .bool false :: List.replicate 24 un).toArray, []⟩) (by kernel_rfl) ?_
  refine wp_cond_false (by kernel_rfl) ?_
  refine wp_skip ?_
  refine then_at (F := ⟨(.string k :: .string f :: iN .i64 n :: un :: un :: un :: .string { data := #[] } :: iN .i64 0 :: un :: un :: un :: iN .i64 n :: .bool false :: List.replicate 24 un).toArray, []⟩) (by kernel_rfl) ?_
  refine wp_seq ?_
  refine wp_seq ?_
  -- region 3
  refine wl_region ?_
  refine wl_val (iN .i64 n) (by kernel_rfl) (by kernel_rfl) ?_
  refine wl_val (.bool false) (by kernel_rfl) (run_gtr (k := .i64) (a := n) (b := 8160) (by kernel_rfl) (by kernel_rfl) false (decide_eq_false (by omega))) ?_
  refine wl_nil ?_
  refine then_at (F := ⟨(.string k :: .string f :: iN .i64 n :: un :: un :: un :: .string { data := #[] } :: iN .i64 0 :: un :: un :: un :: iN .i64 n :: .bool false :: iN .i64 n :: .bool false :: List.replicate 22 un).toArray, []⟩) (by kernel_rfl) ?_
  refine wp_cond_false (by kernel_rfl) ?_
  refine wp_skip ?_
  refine then_at (F := ⟨(.string k :: .string f :: iN .i64 n :: un :: un :: un :: .string { data := #[] } :: iN .i64 0 :: un :: un :: un :: iN .i64 n :: .bool false :: iN .i64 n :: .bool false :: List.replicate 22 un).toArray, []⟩) (by kernel_rfl) ?_
  refine wp_seq ?_
  -- region 5
  refine wl_region ?_
  refine wl_val (.string { data := #[] }) (by kernel_rfl) (by kernel_rfl) ?_
  refine wl_nil ?_
  refine then_at (F := ⟨(.string k :: .string f :: iN .i64 n :: un :: un :: un :: .string { data := #[] } :: iN .i64 0 :: .string { data := #[] } :: un :: un :: iN .i64 n :: .bool false :: iN .i64 n :: .bool false :: List.replicate 22 un).toArray, []⟩) (by kernel_rfl) ?_
  refine wp_seq ?_
  -- region 6
  refine wl_region ?_
  refine wl_val (.string { data := #[] }) (by kernel_rfl) (by kernel_rfl) ?_
  refine wl_nil ?_
  refine then_at (F := ⟨(.string k :: .string f :: iN .i64 n :: un :: un :: un :: .string { data := #[] } :: iN .i64 0 :: .string { data := #[] } :: .string { data := #[] } :: un :: iN .i64 n :: .bool false :: iN .i64 n :: .bool false :: List.replicate 22 un).toArray, []⟩) (by kernel_rfl) ?_
  refine wp_seq ?_
  refine wp_seq ?_
  -- region 7
  refine wl_region ?_
  refine wl_val (iN .i64 1) (by kernel_rfl) (by kernel_rfl) ?_
  refine wl_nil ?_
  refine then_at (F := ⟨(.string k :: .string f :: iN .i64 n :: un :: un :: un :: .string { data := #[] } :: iN .i64 0 :: .string { data := #[] } :: .string { data := #[] } :: iN .i64 1 :: iN .i64 n :: .bool false :: iN .i64 n :: .bool false :: List.replicate 22 un).toArray, []⟩) (by kernel_rfl) ?_
  refine wp_block ?_
  refine wp_while (fun mq A w' => ∃ (i : Nat) (ou : ByteArray) (u1 : Nat → Value), mq = (n + 31) / 32 - i ∧ A = ⟨(.string k :: .string f :: iN .i64 n :: un :: un :: un :: .string { data := #[] } :: iN .i64 0 :: .string ou :: .string (ByteArray.mk (exT k f i).toArray) :: iN .i64 (i + 1) :: iN .i64 n :: .bool false :: iN .i64 n :: .bool false :: u1 15 :: u1 16 :: u1 17 :: u1 18 :: u1 19 :: u1 20 :: u1 21 :: u1 22 :: u1 23 :: u1 24 :: u1 25 :: u1 26 :: u1 27 :: u1 28 :: u1 29 :: u1 30 :: u1 31 :: u1 32 :: u1 33 :: List.replicate 3 un).toArray, []⟩ ∧ HA w [] w' ∧ i ≤ (n + 31) / 32 ∧ bl ou = exP k f i) ((n + 31) / 32 - 0) ?_ ?_
  · exact ⟨0, { data := #[] }, fun ii => (([(15, undef), (16, undef), (17, undef), (18, undef), (19, undef), (20, undef), (21, undef), (22, undef), (23, undef), (24, undef), (25, undef), (26, undef), (27, undef), (28, undef), (29, undef), (30, undef), (31, undef), (32, undef), (33, undef)] : List (Nat × Value)).find? (·.1 == ii)).elim undef (·.2), rfl, by kernel_rfl, H0, (Nat.zero_le _), rfl⟩
  rintro _ _ w2 ⟨i, ou, u1, rfl, rfl, h3, hI, hou⟩
  refine wp_seq ?_
  refine wp_seq ?_
  have hos : ou.size = 32 * i := by rw [size_of_bl hou, exP_len]
  by_cases hin : ou.size < n
  · -- region 8
    refine wl_region ?_
    refine wl_val (.string ou) (by kernel_rfl) (by kernel_rfl) ?_
    refine wl_val (iN .i64 ou.size) (by kernel_rfl) (run_len (s := ou) (by kernel_rfl)) ?_
    refine wl_val (iN .i64 n) (by kernel_rfl) (by kernel_rfl) ?_
    refine wl_val (.bool true) (by kernel_rfl) (run_lss (k := .i64) (a := ou.size) (b := n) (by kernel_rfl) (by kernel_rfl) true (decide_eq_true hin)) ?_
    refine wl_nil ?_
    refine then_at (F := ⟨(.string k :: .string f :: iN .i64 n :: un :: un :: un :: .string { data := #[] } :: iN .i64 0 :: .string ou :: .string (ByteArray.mk (exT k f i).toArray) :: iN .i64 (i + 1) :: iN .i64 n :: .bool false :: iN .i64 n :: .bool false :: .string ou :: iN .i64 ou.size :: iN .i64 n :: .bool true :: u1 19 :: u1 20 :: u1 21 :: u1 22 :: u1 23 :: u1 24 :: u1 25 :: u1 26 :: u1 27 :: u1 28 :: u1 29 :: u1 30 :: u1 31 :: u1 32 :: u1 33 :: List.replicate 3 un).toArray, []⟩) (by kernel_rfl) ?_
    refine wp_cond_true (by kernel_rfl) ?_
    refine wp_skip ?_
    refine then_at (F := ⟨(.string k :: .string f :: iN .i64 n :: un :: un :: un :: .string { data := #[] } :: iN .i64 0 :: .string ou :: .string (ByteArray.mk (exT k f i).toArray) :: iN .i64 (i + 1) :: iN .i64 n :: .bool false :: iN .i64 n :: .bool false :: .string ou :: iN .i64 ou.size :: iN .i64 n :: .bool true :: u1 19 :: u1 20 :: u1 21 :: u1 22 :: u1 23 :: u1 24 :: u1 25 :: u1 26 :: u1 27 :: u1 28 :: u1 29 :: u1 30 :: u1 31 :: u1 32 :: u1 33 :: List.replicate 3 un).toArray, []⟩) (by kernel_rfl) ?_
    refine wp_seq ?_
    refine wp_block ?_
    refine wp_seq ?_
    -- region 10
    refine wl_region ?_
    refine wl_val (.string k) (by kernel_rfl) (by kernel_rfl) ?_
    refine wl_val (.string (ByteArray.mk (exT k f i).toArray)) (by kernel_rfl) (by kernel_rfl) ?_
    refine wl_val (.string f) (by kernel_rfl) (by kernel_rfl) ?_
    refine wl_val (.string (ByteArray.mk (exT k f i).toArray ++ f)) (by kernel_rfl) (run_cat (s := ByteArray.mk (exT k f i).toArray) (t := f) (by kernel_rfl) (by kernel_rfl) (by have h1 : (ByteArray.mk (exT k f i).toArray).size ≤ 32 := exT_le k f i; have h2 : (ByteArray.mk [UInt8.ofNat (i + 1)].toArray).size = 1 := rfl; first | omega | (rw [ByteArray.size_append]; omega) | (have h3 := size_of_bl hou; rw [exP_len] at h3; have h4 : (ByteArray.mk (exT k f (i + 1)).toArray).size ≤ 32 := exT_le k f (i + 1); omega))) ?_
    refine wl_val (iN .i64 (i + 1)) (by kernel_rfl) (by kernel_rfl) ?_
    refine wl_val (by8 (UInt8.ofNat (i + 1))) (by kernel_rfl) (run_lown (a := i + 1) (by kernel_rfl) Tryd.underlying3 Tryd.underlying5) ?_
    refine wl_mks (n := 1) (m := 1) h3 5 (by kernel_rfl) (run_build1 (u := UInt8.ofNat (i + 1)) (by kernel_rfl)) ?_
    intro q4 w5 h6
    refine wl_val (.string (ByteArray.mk [UInt8.ofNat (i + 1)].toArray)) (by kernel_rfl) (run_textg (q := q4) (m := 1) (c := 1) (l := [UInt8.ofNat (i + 1)]) (by kernel_rfl) (h6.get 0 rfl) (Nat.le_refl 1)) ?_
    refine wl_val (.string ((ByteArray.mk (exT k f i).toArray ++ f) ++ ByteArray.mk [UInt8.ofNat (i + 1)].toArray)) (by kernel_rfl) (run_cat (s := (ByteArray.mk (exT k f i).toArray ++ f)) (t := ByteArray.mk [UInt8.ofNat (i + 1)].toArray) (by kernel_rfl) (by kernel_rfl) (by have h1 : (ByteArray.mk (exT k f i).toArray).size ≤ 32 := exT_le k f i; have h2 : (ByteArray.mk [UInt8.ofNat (i + 1)].toArray).size = 1 := rfl; first | omega | (rw [ByteArray.size_append]; omega) | (have h3 := size_of_bl hou; rw [exP_len] at h3; have h4 : (ByteArray.mk (exT k f (i + 1)).toArray).size ≤ 32 := exT_le k f (i + 1); omega))) ?_
    refine wl_call (v := .string (ByteArray.mk (exT k f (i + 1)).toArray)) h6 (by kernel_rfl) enter11 #[.string k, .string ((ByteArray.mk (exT k f i).toArray ++ f) ++ ByteArray.mk [UInt8.ofNat (i + 1)].toArray)] (by kernel_rfl) (ret_eq (hmacR k hk ((ByteArray.mk (exT k f i).toArray ++ f) ++ ByteArray.mk [UInt8.ofNat (i + 1)].toArray) (by rw [ByteArray.size_append, ByteArray.size_append]; have h1 : (ByteArray.mk (exT k f i).toArray).size ≤ 32 := exT_le k f i; have h2 : (ByteArray.mk [UInt8.ofNat (i + 1)].toArray).size = 1 := rfl; omega) w5) (hm_threeR k f i)) ?_
    intro w7 h8
    refine wl_val (.string (ByteArray.mk (exT k f (i + 1)).toArray)) (by kernel_rfl) (by kernel_rfl) ?_
    refine wl_nil ?_
    refine then_at (F := ⟨(.string k :: .string f :: iN .i64 n :: un :: un :: un :: .string { data := #[] } :: iN .i64 0 :: .string ou :: .string (ByteArray.mk (exT k f (i + 1)).toArray) :: iN .i64 (i + 1) :: iN .i64 n :: .bool false :: iN .i64 n :: .bool false :: .string ou :: iN .i64 ou.size :: iN .i64 n :: .bool true :: u1 19 :: u1 20 :: .string k :: .string (ByteArray.mk (exT k f i).toArray) :: .string f :: .string (ByteArray.mk (exT k f i).toArray ++ f) :: iN .i64 (i + 1) :: by8 (UInt8.ofNat (i + 1)) :: .slice (some ⟨q4, 0, none⟩) 1 1 :: .string (ByteArray.mk [UInt8.ofNat (i + 1)].toArray) :: .string ((ByteArray.mk (exT k f i).toArray ++ f) ++ ByteArray.mk [UInt8.ofNat (i + 1)].toArray) :: .string (ByteArray.mk (exT k f (i + 1)).toArray) :: u1 31 :: u1 32 :: u1 33 :: List.replicate 3 un).toArray, []⟩) (by kernel_rfl) ?_
    have h9 : HA w [] w7 := h8.tl
    -- region 11
    refine wl_region ?_
    refine wl_val (.string ou) (by kernel_rfl) (by kernel_rfl) ?_
    refine wl_val (.string (ByteArray.mk (exT k f (i + 1)).toArray)) (by kernel_rfl) (by kernel_rfl) ?_
    refine wl_val (.string (ou ++ ByteArray.mk (exT k f (i + 1)).toArray)) (by kernel_rfl) (run_cat (s := ou) (t := ByteArray.mk (exT k f (i + 1)).toArray) (by kernel_rfl) (by kernel_rfl) (by have h1 : (ByteArray.mk (exT k f i).toArray).size ≤ 32 := exT_le k f i; have h2 : (ByteArray.mk [UInt8.ofNat (i + 1)].toArray).size = 1 := rfl; first | omega | (rw [ByteArray.size_append]; omega) | (have h3 := size_of_bl hou; rw [exP_len] at h3; have h4 : (ByteArray.mk (exT k f (i + 1)).toArray).size ≤ 32 := exT_le k f (i + 1); omega))) ?_
    refine wl_val (.string (ou ++ ByteArray.mk (exT k f (i + 1)).toArray)) (by kernel_rfl) (by kernel_rfl) ?_
    refine wl_nil ?_
    refine block_normal ?_
    refine then_at (F := ⟨(.string k :: .string f :: iN .i64 n :: un :: un :: un :: .string { data := #[] } :: iN .i64 0 :: .string (ou ++ ByteArray.mk (exT k f (i + 1)).toArray) :: .string (ByteArray.mk (exT k f (i + 1)).toArray) :: iN .i64 (i + 1) :: iN .i64 n :: .bool false :: iN .i64 n :: .bool false :: .string ou :: iN .i64 ou.size :: iN .i64 n :: .bool true :: u1 19 :: u1 20 :: .string k :: .string (ByteArray.mk (exT k f i).toArray) :: .string f :: .string (ByteArray.mk (exT k f i).toArray ++ f) :: iN .i64 (i + 1) :: by8 (UInt8.ofNat (i + 1)) :: .slice (some ⟨q4, 0, none⟩) 1 1 :: .string (ByteArray.mk [UInt8.ofNat (i + 1)].toArray) :: .string ((ByteArray.mk (exT k f i).toArray ++ f) ++ ByteArray.mk [UInt8.ofNat (i + 1)].toArray) :: .string (ByteArray.mk (exT k f (i + 1)).toArray) :: .string ou :: .string (ByteArray.mk (exT k f (i + 1)).toArray) :: .string (ou ++ ByteArray.mk (exT k f (i + 1)).toArray) :: List.replicate 3 un).toArray, []⟩) (by kernel_rfl) ?_
    -- region 9
    refine wl_region ?_
    refine wl_val (iN .i64 (i + 1)) (by kernel_rfl) (by kernel_rfl) ?_
    refine wl_val (iN .i64 ((i + 1) + 1)) (by kernel_rfl) (run_add (k := .i64) (a := i + 1) (b := 1) (by kernel_rfl) (by kernel_rfl) (by simp only [top]; omega)) ?_
    refine wl_val (iN .i64 ((i + 1) + 1)) (by kernel_rfl) (by kernel_rfl) ?_
    refine wl_nil ?_
    exact then_I ⟨(n + 31) / 32 - (i + 1), (by omega), i + 1, ou ++ ByteArray.mk (exT k f (i + 1)).toArray, fun ii => (([(15, .string ou), (16, iN .i64 ou.size), (17, iN .i64 n), (18, .bool true), (19, iN .i64 (i + 1)), (20, iN .i64 ((i + 1) + 1)), (21, .string k), (22, .string (ByteArray.mk (exT k f i).toArray)), (23, .string f), (24, .string (ByteArray.mk (exT k f i).toArray ++ f)), (25, iN .i64 (i + 1)), (26, by8 (UInt8.ofNat (i + 1))), (27, .slice (some ⟨q4, 0, none⟩) 1 1), (28, .string (ByteArray.mk [UInt8.ofNat (i + 1)].toArray)), (29, .string ((ByteArray.mk (exT k f i).toArray ++ f) ++ ByteArray.mk [UInt8.ofNat (i + 1)].toArray)), (30, .string (ByteArray.mk (exT k f (i + 1)).toArray)), (31, .string ou), (32, .string (ByteArray.mk (exT k f (i + 1)).toArray)), (33, .string (ou ++ ByteArray.mk (exT k f (i + 1)).toArray))] : List (Nat × Value)).find? (·.1 == ii)).elim undef (·.2), rfl, by kernel_rfl, h9, (by omega), (by rw [bl_append, hou]; rfl)⟩
  · -- region 8
    refine wl_region ?_
    refine wl_val (.string ou) (by kernel_rfl) (by kernel_rfl) ?_
    refine wl_val (iN .i64 ou.size) (by kernel_rfl) (run_len (s := ou) (by kernel_rfl)) ?_
    refine wl_val (iN .i64 n) (by kernel_rfl) (by kernel_rfl) ?_
    refine wl_val (.bool false) (by kernel_rfl) (run_lss (k := .i64) (a := ou.size) (b := n) (by kernel_rfl) (by kernel_rfl) false (decide_eq_false hin)) ?_
    refine wl_nil ?_
    refine then_at (F := ⟨(.string k :: .string f :: iN .i64 n :: un :: un :: un :: .string { data := #[] } :: iN .i64 0 :: .string ou :: .string (ByteArray.mk (exT k f i).toArray) :: iN .i64 (i + 1) :: iN .i64 n :: .bool false :: iN .i64 n :: .bool false :: .string ou :: iN .i64 ou.size :: iN .i64 n :: .bool false :: u1 19 :: u1 20 :: u1 21 :: u1 22 :: u1 23 :: u1 24 :: u1 25 :: u1 26 :: u1 27 :: u1 28 :: u1 29 :: u1 30 :: u1 31 :: u1 32 :: u1 33 :: List.replicate 3 un).toArray, []⟩) (by kernel_rfl) ?_
    refine wp_cond_false (by kernel_rfl) ?_
    refine wp_exit ?_
    repeat first | refine then_exit ?_ | refine block_exit ?_ | refine block_exit_ne (by decide) ?_
    refine then_at (F := ⟨(.string k :: .string f :: iN .i64 n :: un :: un :: un :: .string { data := #[] } :: iN .i64 0 :: .string ou :: .string (ByteArray.mk (exT k f i).toArray) :: iN .i64 (i + 1) :: iN .i64 n :: .bool false :: iN .i64 n :: .bool false :: .string ou :: iN .i64 ou.size :: iN .i64 n :: .bool false :: u1 19 :: u1 20 :: u1 21 :: u1 22 :: u1 23 :: u1 24 :: u1 25 :: u1 26 :: u1 27 :: u1 28 :: u1 29 :: u1 30 :: u1 31 :: u1 32 :: u1 33 :: List.replicate 3 un).toArray, []⟩) (by kernel_rfl) ?_
    refine wp_seq ?_
    -- region 12
    refine wl_region ?_
    refine wl_val (.string ou) (by kernel_rfl) (by kernel_rfl) ?_
    refine wl_val (iN .i64 n) (by kernel_rfl) (by kernel_rfl) ?_
    refine wl_val (.string (ou.extract 0 n)) (by kernel_rfl) (run_cut_hi (s := ou) (b := n) (by kernel_rfl) (by kernel_rfl) (by have h3 := size_of_bl hou; rw [exP_len] at h3; omega)) ?_
    refine wl_val (.string (ou.extract 0 n)) (by kernel_rfl) (by kernel_rfl) ?_
    refine wl_val (iN .i64 0) (by kernel_rfl) (by kernel_rfl) ?_
    refine wl_nil ?_
    refine then_at (F := ⟨(.string k :: .string f :: iN .i64 n :: un :: un :: un :: .string (ou.extract 0 n) :: iN .i64 0 :: .string ou :: .string (ByteArray.mk (exT k f i).toArray) :: iN .i64 (i + 1) :: iN .i64 n :: .bool false :: iN .i64 n :: .bool false :: .string ou :: iN .i64 ou.size :: iN .i64 n :: .bool false :: u1 19 :: u1 20 :: u1 21 :: u1 22 :: u1 23 :: u1 24 :: u1 25 :: u1 26 :: u1 27 :: u1 28 :: u1 29 :: u1 30 :: u1 31 :: u1 32 :: u1 33 :: .string ou :: iN .i64 n :: .string (ou.extract 0 n) :: List.replicate 0 un).toArray, []⟩) (by kernel_rfl) ?_
    refine wp_ret ?_
    repeat first | refine then_ret ?_ | refine block_ret ?_
    exact bodyPost_ret (v := .tuple #[.string (ou.extract 0 n), iN .i64 0]) (by kernel_rfl) rfl ⟨by rw [show ou.extract 0 n = ⟨(exR k f n).toArray⟩ from bl_inj (by rw [bl_extract, hou, show i = (n + 31) / 32 by omega]; rfl)], h3.old⟩

set_option linter.unusedVariables false in
set_option maxRecDepth 100000 in
set_option maxHeartbeats 2000000 in
theorem expandc_big (k f : ByteArray) (n : Nat) (hn : 8160 < n) (w : World) :
    Calls Tryd.prog 15 #[.string k, .string f, iN .i64 n] w fun e w' => e = .returned (.tuple #[.string { data := #[] }, iN .i64 3]) ∧ Below w.heap.size w w' := by
  have H0 := HA.start w
  go_enter Tryd.func15, Tryd.ntmps15
  refine wp_seq ?_
  -- region 0
  refine wl_region ?_
  refine wl_val (.string { data := #[] }) (by kernel_rfl) (by kernel_rfl) ?_
  refine wl_val (iN .i64 0) (by kernel_rfl) (by kernel_rfl) ?_
  refine wl_nil ?_
  refine then_at (F := ⟨(.string k :: .string f :: iN .i64 n :: un :: un :: un :: .string { data := #[] } :: iN .i64 0 :: List.replicate 28 un).toArray, []⟩) (by kernel_rfl) ?_
  refine wp_seq ?_
  refine wp_seq ?_
  -- region 1
  refine wl_region ?_
  refine wl_val (iN .i64 n) (by kernel_rfl) (by kernel_rfl) ?_
  refine wl_val (.bool false) (by kernel_rfl) (run_lss (k := .i64) (a := n) (b := 0) (by kernel_rfl) (by kernel_rfl) false (decide_eq_false (Nat.not_lt_zero _))) ?_
  refine wl_nil ?_
  refine then_at (F := ⟨(.string k :: .string f :: iN .i64 n :: un :: un :: un :: .string { data := #[] } :: iN .i64 0 :: un :: un :: un :: iN .i64 n :: .bool false :: List.replicate 23 un).toArray, []⟩) (by kernel_rfl) ?_
  refine wp_cond_false (by kernel_rfl) ?_
  refine wp_skip ?_
  refine then_at (F := ⟨(.string k :: .string f :: iN .i64 n :: un :: un :: un :: .string { data := #[] } :: iN .i64 0 :: un :: un :: un :: iN .i64 n :: .bool false :: List.replicate 23 un).toArray, []⟩) (by kernel_rfl) ?_
  refine wp_seq ?_
  refine wp_seq ?_
  -- region 3
  refine wl_region ?_
  refine wl_val (iN .i64 n) (by kernel_rfl) (by kernel_rfl) ?_
  refine wl_val (.bool true) (by kernel_rfl) (run_gtr (k := .i64) (a := n) (b := 8160) (by kernel_rfl) (by kernel_rfl) true (decide_eq_true (by omega))) ?_
  refine wl_nil ?_
  refine then_at (F := ⟨(.string k :: .string f :: iN .i64 n :: un :: un :: un :: .string { data := #[] } :: iN .i64 0 :: un :: un :: un :: iN .i64 n :: .bool false :: iN .i64 n :: .bool true :: List.replicate 21 un).toArray, []⟩) (by kernel_rfl) ?_
  refine wp_cond_true (by kernel_rfl) ?_
  refine wp_seq ?_
  -- region 4
  refine wl_region ?_
  refine wl_val (.string { data := #[] }) (by kernel_rfl) (by kernel_rfl) ?_
  refine wl_val (iN .i64 3) (by kernel_rfl) (by kernel_rfl) ?_
  refine wl_nil ?_
  refine then_at (F := ⟨(.string k :: .string f :: iN .i64 n :: un :: un :: un :: .string { data := #[] } :: iN .i64 3 :: un :: un :: un :: iN .i64 n :: .bool false :: iN .i64 n :: .bool true :: List.replicate 21 un).toArray, []⟩) (by kernel_rfl) ?_
  refine wp_ret ?_
  repeat first | refine then_ret ?_ | refine block_ret ?_
  exact bodyPost_ret (v := .tuple #[.string { data := #[] }, iN .i64 3]) (by kernel_rfl) rfl ⟨rfl, H0.old⟩

set_option linter.unusedVariables false in
set_option maxRecDepth 100000 in
set_option maxHeartbeats 2000000 in
theorem expandc_neg (k f : ByteArray) (z : Int) (hz : z < 0) (w : World) :
    Calls Tryd.prog 15 #[.string k, .string f, .int .i64 z] w fun e w' => e = .returned (.tuple #[.string { data := #[] }, iN .i64 2]) ∧ Below w.heap.size w w' := by
  have H0 := HA.start w
  go_enter Tryd.func15, Tryd.ntmps15
  refine wp_seq ?_
  -- region 0
  refine wl_region ?_
  refine wl_val (.string { data := #[] }) (by kernel_rfl) (by kernel_rfl) ?_
  refine wl_val (iN .i64 0) (by kernel_rfl) (by kernel_rfl) ?_
  refine wl_nil ?_
  refine then_at (F := ⟨(.string k :: .string f :: .int .i64 z :: un :: un :: un :: .string { data := #[] } :: iN .i64 0 :: List.replicate 28 un).toArray, []⟩) (by kernel_rfl) ?_
  refine wp_seq ?_
  refine wp_seq ?_
  -- region 1
  refine wl_region ?_
  refine wl_val (.int .i64 z) (by kernel_rfl) (by kernel_rfl) ?_
  refine wl_val (.bool true) (by kernel_rfl) (run_lssz (k := .i64) (a := z) (b := 0) (by kernel_rfl) (by kernel_rfl) true (decide_eq_true hz)) ?_
  refine wl_nil ?_
  refine then_at (F := ⟨(.string k :: .string f :: .int .i64 z :: un :: un :: un :: .string { data := #[] } :: iN .i64 0 :: un :: un :: un :: .int .i64 z :: .bool true :: List.replicate 23 un).toArray, []⟩) (by kernel_rfl) ?_
  refine wp_cond_true (by kernel_rfl) ?_
  refine wp_seq ?_
  -- region 2
  refine wl_region ?_
  refine wl_val (.string { data := #[] }) (by kernel_rfl) (by kernel_rfl) ?_
  refine wl_val (iN .i64 2) (by kernel_rfl) (by kernel_rfl) ?_
  refine wl_nil ?_
  refine then_at (F := ⟨(.string k :: .string f :: .int .i64 z :: un :: un :: un :: .string { data := #[] } :: iN .i64 2 :: un :: un :: un :: .int .i64 z :: .bool true :: List.replicate 23 un).toArray, []⟩) (by kernel_rfl) ?_
  refine wp_ret ?_
  repeat first | refine then_ret ?_ | refine block_ret ?_
  exact bodyPost_ret (v := .tuple #[.string { data := #[] }, iN .i64 2]) (by kernel_rfl) rfl ⟨rfl, H0.old⟩

set_option linter.unusedVariables false in
set_option maxRecDepth 100000 in
set_option maxHeartbeats 2000000 in
theorem expandR_big (k f : ByteArray) (n : Nat) (hn : 8160 < n) (w : World) :
    Calls Tryd.prog 16 #[.string k, .string f, iN .i64 n] w fun e w' => e = .returned (.tuple #[.string { data := #[] }, iN .i64 3]) ∧ Below w.heap.size w w' := by
  have H0 := HA.start w
  go_enter Tryd.func16, Tryd.ntmps16
  refine wp_seq ?_
  -- region 0
  refine wl_region ?_
  refine wl_val (.string { data := #[] }) (by kernel_rfl) (by kernel_rfl) ?_
  refine wl_val (iN .i64 0) (by kernel_rfl) (by kernel_rfl) ?_
  refine wl_nil ?_
  refine then_at (F := ⟨(.string k :: .string f :: iN .i64 n :: un :: un :: un :: .string { data := #[] } :: iN .i64 0 :: List.replicate 29 un).toArray, []⟩) (by kernel_rfl) ?_
  refine wp_seq ?_
  refine wp_seq ?_
  -- region 1
  refine wl_region ?_
  refine wl_val (iN .i64 n) (by kernel_rfl) (by kernel_rfl) ?_
  refine wl_val (.bool false) (by kernel_rfl) (run_lss (k := .i64) (a := n) (b := 0) (by kernel_rfl) (by kernel_rfl) false (decide_eq_false (Nat.not_lt_zero _))) ?_
  refine wl_nil ?_
  refine then_at (F := ⟨(.string k :: .string f :: iN .i64 n :: un :: un :: un :: .string { data := #[] } :: iN .i64 0 :: un :: un :: un :: iN .i64 n :: .bool false :: List.replicate 24 un).toArray, []⟩) (by kernel_rfl) ?_
  refine wp_cond_false (by kernel_rfl) ?_
  refine wp_skip ?_
  refine then_at (F := ⟨(.string k :: .string f :: iN .i64 n :: un :: un :: un :: .string { data := #[] } :: iN .i64 0 :: un :: un :: un :: iN .i64 n :: .bool false :: List.replicate 24 un).toArray, []⟩) (by kernel_rfl) ?_
  refine wp_seq ?_
  refine wp_seq ?_
  -- region 3
  refine wl_region ?_
  refine wl_val (iN .i64 n) (by kernel_rfl) (by kernel_rfl) ?_
  refine wl_val (.bool true) (by kernel_rfl) (run_gtr (k := .i64) (a := n) (b := 8160) (by kernel_rfl) (by kernel_rfl) true (decide_eq_true (by omega))) ?_
  refine wl_nil ?_
  refine then_at (F := ⟨(.string k :: .string f :: iN .i64 n :: un :: un :: un :: .string { data := #[] } :: iN .i64 0 :: un :: un :: un :: iN .i64 n :: .bool false :: iN .i64 n :: .bool true :: List.replicate 22 un).toArray, []⟩) (by kernel_rfl) ?_
  refine wp_cond_true (by kernel_rfl) ?_
  refine wp_seq ?_
  -- region 4
  refine wl_region ?_
  refine wl_val (.string { data := #[] }) (by kernel_rfl) (by kernel_rfl) ?_
  refine wl_val (iN .i64 3) (by kernel_rfl) (by kernel_rfl) ?_
  refine wl_nil ?_
  refine then_at (F := ⟨(.string k :: .string f :: iN .i64 n :: un :: un :: un :: .string { data := #[] } :: iN .i64 3 :: un :: un :: un :: iN .i64 n :: .bool false :: iN .i64 n :: .bool true :: List.replicate 22 un).toArray, []⟩) (by kernel_rfl) ?_
  refine wp_ret ?_
  repeat first | refine then_ret ?_ | refine block_ret ?_
  exact bodyPost_ret (v := .tuple #[.string { data := #[] }, iN .i64 3]) (by kernel_rfl) rfl ⟨rfl, H0.old⟩

set_option linter.unusedVariables false in
set_option maxRecDepth 100000 in
set_option maxHeartbeats 2000000 in
theorem expandR_neg (k f : ByteArray) (z : Int) (hz : z < 0) (w : World) :
    Calls Tryd.prog 16 #[.string k, .string f, .int .i64 z] w fun e w' => e = .returned (.tuple #[.string { data := #[] }, iN .i64 2]) ∧ Below w.heap.size w w' := by
  have H0 := HA.start w
  go_enter Tryd.func16, Tryd.ntmps16
  refine wp_seq ?_
  -- region 0
  refine wl_region ?_
  refine wl_val (.string { data := #[] }) (by kernel_rfl) (by kernel_rfl) ?_
  refine wl_val (iN .i64 0) (by kernel_rfl) (by kernel_rfl) ?_
  refine wl_nil ?_
  refine then_at (F := ⟨(.string k :: .string f :: .int .i64 z :: un :: un :: un :: .string { data := #[] } :: iN .i64 0 :: List.replicate 29 un).toArray, []⟩) (by kernel_rfl) ?_
  refine wp_seq ?_
  refine wp_seq ?_
  -- region 1
  refine wl_region ?_
  refine wl_val (.int .i64 z) (by kernel_rfl) (by kernel_rfl) ?_
  refine wl_val (.bool true) (by kernel_rfl) (run_lssz (k := .i64) (a := z) (b := 0) (by kernel_rfl) (by kernel_rfl) true (decide_eq_true hz)) ?_
  refine wl_nil ?_
  refine then_at (F := ⟨(.string k :: .string f :: .int .i64 z :: un :: un :: un :: .string { data := #[] } :: iN .i64 0 :: un :: un :: un :: .int .i64 z :: .bool true :: List.replicate 24 un).toArray, []⟩) (by kernel_rfl) ?_
  refine wp_cond_true (by kernel_rfl) ?_
  refine wp_seq ?_
  -- region 2
  refine wl_region ?_
  refine wl_val (.string { data := #[] }) (by kernel_rfl) (by kernel_rfl) ?_
  refine wl_val (iN .i64 2) (by kernel_rfl) (by kernel_rfl) ?_
  refine wl_nil ?_
  refine then_at (F := ⟨(.string k :: .string f :: .int .i64 z :: un :: un :: un :: .string { data := #[] } :: iN .i64 2 :: un :: un :: un :: .int .i64 z :: .bool true :: List.replicate 24 un).toArray, []⟩) (by kernel_rfl) ?_
  refine wp_ret ?_
  repeat first | refine then_ret ?_ | refine block_ret ?_
  exact bodyPost_ret (v := .tuple #[.string { data := #[] }, iN .i64 2]) (by kernel_rfl) rfl ⟨rfl, H0.old⟩
end Go.Proofs.YtmlldbkhphngeaaDoor
