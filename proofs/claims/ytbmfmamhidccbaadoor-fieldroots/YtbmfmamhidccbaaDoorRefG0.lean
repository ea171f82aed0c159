/-
  The reference's products, over lists; a cell that is read and put in one drawn region.
-/
import Derived.Test.YtbmfmamhidccbaaDoorRefF
namespace Go.Proofs.YtbmfmamhidccbaaDoor
open Go.RowKit Num

/-- one place grows -/
def bump (l : List Nat) (j x : Nat) : List Nat := l.set j (dg l j + x)
theorem bump_len (l : List Nat) (j x : Nat) : (bump l j x).length = l.length := List.length_set ..
theorem bump_num (l : List Nat) (j x : Nat) (h : j < l.length) : num 65536 (bump l j x) = num 65536 l + x * 65536 ^ j := by
  unfold bump
  rw [dg_get l j h]
  exact num_more 65536 l j x h
theorem bump_dg (l : List Nat) (j x m : Nat) (h : j < l.length) : dg (bump l j x) m = if m = j then dg l j + x else dg l m := by
  unfold bump dg
  rw [List.getD_eq_getElem?_getD, List.getD_eq_getElem?_getD, List.getD_eq_getElem?_getD]
  by_cases hm : m = j
  · subst hm
    rw [if_pos rfl, List.getElem?_set_self h]
    rfl
  · rw [if_neg hm, List.getElem?_set_ne (Ne.symm hm)]
/-- digit times digit -/
def dd (a b i k : Nat) : Nat := a / 65536 ^ i % 65536 * (b / 65536 ^ k % 65536)
theorem dd_le (a b i k : Nat) : dd a b i k ≤ 4294836225 := by
  have h1 : a / 65536 ^ i % 65536 ≤ 65535 := by omega
  have h2 : b / 65536 ^ k % 65536 ≤ 65535 := by omega
  exact Nat.mul_le_mul h1 h2
def rowL (a b : Nat) (l : List Nat) (i : Nat) : Nat → List Nat
  | 0 => l
  | k + 1 => bump (rowL a b l i k) (i + k) (dd a b i k)
theorem rowL_len (a b : Nat) (l : List Nat) (i : Nat) : ∀ k, (rowL a b l i k).length = l.length
  | 0 => rfl
  | k + 1 => by rw [rowL, bump_len, rowL_len a b l i k]
theorem rowL_num (a b : Nat) (l : List Nat) (i : Nat) (hl : l.length = 32) (hi : i < 16) : ∀ k, k ≤ 16 → num 65536 (rowL a b l i k) = num 65536 l + a / 65536 ^ i % 65536 * 65536 ^ i * (b % 65536 ^ k)
  | 0, _ => by rw [rowL, Nat.pow_zero, Nat.mod_one, Nat.mul_zero, Nat.add_zero]
  | k + 1, hk => by
    rw [rowL, bump_num _ _ _ (by rw [rowL_len, hl]; omega), rowL_num a b l i hl hi k (by omega), mod_step 65536 b k]
    unfold dd
    rw [Nat.pow_add, Nat.mul_add, Nat.add_assoc]
    congr 2
    generalize a / 65536 ^ i % 65536 = x
    generalize b / 65536 ^ k % 65536 = y
    rw [Nat.mul_assoc, Nat.mul_assoc, Nat.mul_left_comm y]
theorem rowL_bound (a b : Nat) (l : List Nat) (i : Nat) (hl : l.length = 32) (hi : i < 16) : ∀ k, k ≤ 16 → (∀ m, i + k ≤ m → dg (rowL a b l i k) m = dg l m) ∧ ∀ m, dg (rowL a b l i k) m ≤ dg l m + 4294836225
  | 0, _ => ⟨fun _ _ => rfl, fun m => Nat.le_add_right _ _⟩
  | k + 1, hk => by
    obtain ⟨h1, h2⟩ := rowL_bound a b l i hl hi k (by omega)
    have hj : i + k < (rowL a b l i k).length := by rw [rowL_len, hl]; omega
    refine ⟨fun m hm => ?_, fun m => ?_⟩
    · rw [rowL, bump_dg _ _ _ _ hj, if_neg (by omega), h1 m (by omega)]
    · rw [rowL, bump_dg _ _ _ _ hj]
      split
      · rename_i hm
        subst hm
        rw [h1 _ (Nat.le_refl _)]
        have := dd_le a b i k
        omega
      · exact h2 m
def wide (a b : Nat) : Nat → List Nat
  | 0 => List.replicate 32 0
  | i + 1 => rowL a b (wide a b i) i 16
theorem wide_len (a b : Nat) : ∀ i, (wide a b i).length = 32
  | 0 => rfl
  | i + 1 => by rw [wide, rowL_len, wide_len a b i]
theorem wide_num (a b : Nat) (hb : b < 65536 ^ 16) : ∀ i, i ≤ 16 → num 65536 (wide a b i) = a % 65536 ^ i * b
  | 0, _ => by rw [wide, num_zeros, Nat.pow_zero, Nat.mod_one, Nat.zero_mul]
  | i + 1, hi => by
    rw [wide, rowL_num a b _ i (wide_len a b i) (by omega) 16 (Nat.le_refl _), wide_num a b hb i (by omega), Nat.mod_eq_of_lt hb, mod_step 65536 a i, Nat.add_mul]
theorem wide_bound (a b : Nat) : ∀ i, i ≤ 16 → ∀ m, dg (wide a b i) m ≤ i * 4294836225
  | 0, _, m => by
    unfold dg wide
    rw [List.getD_eq_getElem?_getD]
    by_cases hm : m < 32
    · rw [List.getElem?_replicate, if_pos hm]; exact Nat.zero_le _
    · rw [List.getElem?_replicate, if_neg hm]; exact Nat.zero_le _
  | i + 1, hi, m => by
    have h1 := (rowL_bound a b (wide a b i) i (wide_len a b i) (by omega) 16 (Nat.le_refl _)).2 m
    have h2 := wide_bound a b i (by omega) m
    rw [wide]
    omega
theorem row_bound (a b i k : Nat) (hi : i < 16) (hk : k ≤ 16) (m : Nat) : dg (rowL a b (wide a b i) i k) m < 73014444032 := by
  have h1 := (rowL_bound a b (wide a b i) i (wide_len a b i) hi k hk).2 m
  have h2 := wide_bound a b i (by omega) m
  omega
/-- both halves together -/
def halves (W : List Nat) : List Nat := List.zipWith (fun x y => x + 38 * y) (W.take 16) (W.drop 16)
theorem halves_len (W : List Nat) (hW : W.length = 32) : (halves W).length = 16 := by unfold halves; rw [List.length_zipWith, List.length_take, List.length_drop, hW]; rfl
theorem halves_dg (W : List Nat) (hW : W.length = 32) (k : Nat) (hk : k < 16) : dg (halves W) k = dg W k + 38 * dg W (k + 16) := by
  rw [dg_get _ k (by rw [halves_len W hW]; exact hk), dg_get W k (by omega), dg_get W (k + 16) (by omega)]
  unfold halves
  rw [List.getElem_zipWith, List.getElem_take, List.getElem_drop]
  simp only [Nat.add_comm 16 k]
theorem num_zip38 : ∀ (l m : List Nat), l.length = m.length → num 65536 (List.zipWith (fun x y => x + 38 * y) l m) = num 65536 l + 38 * num 65536 m
  | [], [], _ => rfl
  | x :: l, y :: m, h => by
    have := num_zip38 l m (by simpa using h)
    simp only [List.zipWith_cons_cons, num]
    rw [this, Nat.mul_add]
    omega
theorem halves_mod (W : List Nat) (hW : W.length = 32) : num 65536 (halves W) % P = num 65536 W % P := by
  unfold halves
  rw [num_zip38 _ _ (by rw [List.length_take, List.length_drop, hW]; rfl)]
  conv => rhs; rw [num_cut 65536 W 16 (by omega)]
  have e : (65536 : Nat) ^ 16 % P = 38 := by decide
  rw [Nat.add_mod, Nat.mul_mod 38, Nat.add_mod (num 65536 (W.take 16)) (65536 ^ 16 * _), Nat.mul_mod (65536 ^ 16), e]
  rfl
theorem halves_bound (a b : Nat) : ∀ x ∈ halves (wide a b 16), x < 4398046511104 := fun x hx => by
  obtain ⟨k, hk, rfl⟩ := List.mem_iff_getElem.1 hx
  rw [halves_len _ (wide_len a b 16)] at hk
  rw [← dg_get _ k (by rw [halves_len _ (wide_len a b 16)]; exact hk), halves_dg _ (wide_len a b 16) k hk]
  have h1 := wide_bound a b 16 (Nat.le_refl _) k
  have h2 := wide_bound a b 16 (Nat.le_refl _) (k + 16)
  omega
theorem mul_num (a b : Nat) (ha : a < 65536 ^ 16) (hb : b < 65536 ^ 16) : num 65536 (halves (wide a b 16)) % P = mulP a b := by
  rw [halves_mod _ (wide_len a b 16), wide_num a b hb 16 (Nat.le_refl _), Nat.mod_eq_of_lt ha]
  rfl
theorem info67 : (Tryd.prog.info? 67).map (·.size) = some 32 := by kernel_rfl
theorem run_alloc67 {ρ : Operand → Value} {w : World} {dst : Option Tmp} {ty : TypeId} {pos : String} {aft : Array Edge} {gd : Option (Nat × Bool)} :
    (execOp ρ ⟨dst, .alloc 67, ty, pos, aft, gd⟩).run Tryd.prog w = .ok (.value (.pointer (some ⟨w.heap.size, 0, none⟩))) (w.alloc (.cells (ul (List.replicate 32 0)) 67)) := by
  simp only [execOp]
  go_simp
  rfl
section
variable {ops : Array Oper} {Q : Exit → Act → World → Prop} {F : (Nat → Nat) → Act} {i i0 i1 j q : Nat} {dst : Option Tmp} {T ty : TypeId} {pos : String} {aft : Array Edge} {gd : Option (Nat × Bool)}
  {w0 : World} {L : List (Nat × TypeId × Array Value)} {t : TypeId} {c : Array Value}
/-- the cell that is read ahead of the put -/
theorem gf_cell {x : Operand} {v : Value} {e : Nat × TypeId × Array Value} (m : Nat) (hm : L[m]? = some e) (hi : i1 ≠ i0) (off : Nat) (hv : e.2.2[off]? = some v) (hg : ∀ w, (isAgg T).run Tryd.prog w = .ok false w)
    (hw : ∀ g, Region.wanted ⟨dst, .load T x, ty, pos, aft, gd⟩ (yielded ops (F g).tmps) = true) (hp : ∀ g, (F g).put dst v = F g) (hx : ∀ g, (F g).eval x = .pointer (some ⟨e.1, off, none⟩)) :
    OpGhost Tryd.prog .any ops Q (GF w0 L i0 i1 j q t c) F i1 ⟨dst, .load T x, ty, pos, aft, gd⟩ := fun g d w h hdi _ => by
  rw [if_pos (hw g)]
  unfold Oper.wp
  have h0 : d i0 = false := by
    cases h0 : d i0 with
    | false => rfl
    | true => rw [h.seen h0] at hdi; cases hdi
  have hH := h.held
  rw [h0, if_neg (by decide)] at hH
  rw [run_load1 hg (hx g) (((hH.get m hm).cell off).trans hv)]
  exact ⟨g i1, by rw [up_self]; exact hp g, by rw [up_self]; exact h.keep hi (Below.refl _ w)⟩
theorem gf_cell2 {x : Operand} {v : Value} {e : Nat × TypeId × Array Value} (m : Nat) (hjm : j ≠ m) (hm : L[m]? = some e) (hi : i ≠ i0) (off : Nat) (hv : e.2.2[off]? = some v) (hg : ∀ w, (isAgg T).run Tryd.prog w = .ok false w)
    (hw : ∀ g, Region.wanted ⟨dst, .load T x, ty, pos, aft, gd⟩ (yielded ops (F g).tmps) = true) (hp : ∀ g, (F g).put dst v = F g) (hx : ∀ g, (F g).eval x = .pointer (some ⟨e.1, off, none⟩)) :
    OpGhost Tryd.prog .any ops Q (GF w0 L i0 i1 j q t c) F i ⟨dst, .load T x, ty, pos, aft, gd⟩ :=
  OpGhost.take (v := fun _ => v) hw hp (fun g d w h _ => by
    have hB : Blk w e.1 e.2.1 e.2.2 := by
      have hH := h.held
      split at hH
      · exact hH.get m (by rw [List.getElem?_set_ne hjm]; exact hm)
      · exact hH.get m hm
    exact ⟨run_load1 hg (hx g) ((hB.cell off).trans hv), h.keep hi (Below.refl _ w)⟩)
theorem gf_put {x y : Operand} {k : IntKind} {z : Int} {c0 : Array Value} {off : Nat} (hL : L[j]? = some (q, t, c0)) (hoff : off < c0.size) (hc : c0.setIfInBounds off (.int k z) = c) (hs : ∀ w, (sizeOf T).run Tryd.prog w = .ok 1 w)
    (hw : ∀ g, Region.wanted ⟨dst, .store T x y, ty, pos, aft, gd⟩ (yielded ops (F g).tmps) = true) (hp : ∀ g, (F g).put dst undef = F g) (hx : ∀ g, (F g).eval x = .pointer (some ⟨q, off, none⟩)) (hy : ∀ g, (F g).eval y = .int k z) (hi : i1 ≠ i0)
    (he : (aft.any fun e => Region.binds .any e && e.on == i1) = true) :
    OpGhost Tryd.prog .any ops Q (GF w0 L i0 i1 j q t c) F i0 ⟨dst, .store T x y, ty, pos, aft, gd⟩ :=
  OpGhost.skips (W := fun _ w => w.setCell ⟨q, off, none⟩ (.int k z)) hw hp (fun g d w h hd haft => by
    obtain ⟨m, hm, h3⟩ := Array.any_eq_true.1 he
    rw [Bool.and_eq_true, beq_iff_eq] at h3
    have ha : d i1 = true := by rw [← h3.2]; exact haft _ (Array.getElem_mem hm) h3.1
    have hH := h.held
    rw [hd, if_neg (by decide)] at hH
    refine ⟨run_store1 hs (hx g) (hy g) (by rw [(hH.get j hL).cell off]; simp [hoff]) ((hH.get j hL).free off), ?_, fun _ => by rw [up_ne _ _ hi]; exact ha⟩
    rw [up_at, if_pos rfl]
    have := hH.put j hL off (.int k z)
    rw [hc] at this
    exact this)
end
end Go.Proofs.YtbmfmamhidccbaaDoor
