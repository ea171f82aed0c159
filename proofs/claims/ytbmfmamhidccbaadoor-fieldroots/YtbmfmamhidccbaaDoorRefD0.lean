/-
  Passes of carries, as reduced makes them.
-/
import Derived.Test.YtbmfmamhidccbaaDoorRefC
namespace Go.Proofs.YtbmfmamhidccbaaDoor
open Go.RowKit Num

/-- sixteen words -/
def ul (l : List Nat) : Array Value := cl .u64 l
theorem ul_size (l : List Nat) : (ul l).size = l.length := cl_size _ _
theorem one_ul (l : List Nat) : (ul l).all (·.oneCell') = true := one_cl _ _
theorem info61 : (Tryd.prog.info? 61).map (·.size) = some 16 := by kernel_rfl
theorem enter39' : True := trivial
theorem run_box61 {ρ : Operand → Value} {x : Operand} {c : Array Value} {w : World} {dst : Option Tmp} {ty : TypeId} {pos : String} {aft : Array Edge} {gd : Option (Nat × Bool)} (hx : ρ x = .agg c) :
    (execOp ρ ⟨dst, .box 61 x, ty, pos, aft, gd⟩).run Tryd.prog w = .ok (.value (.pointer (some ⟨w.heap.size, 0, none⟩))) (w.alloc (.cells c 61)) := by
  simp only [execOp, hx]
  go_simp
theorem run_alloc61 {ρ : Operand → Value} {w : World} {dst : Option Tmp} {ty : TypeId} {pos : String} {aft : Array Edge} {gd : Option (Nat × Bool)} :
    (execOp ρ ⟨dst, .alloc 61, ty, pos, aft, gd⟩).run Tryd.prog w = .ok (.value (.pointer (some ⟨w.heap.size, 0, none⟩))) (w.alloc (.cells (ul (List.replicate 16 0)) 61)) := by
  simp only [execOp]
  go_simp
  rfl
def dg (l : List Nat) (k : Nat) : Nat := l.getD k 0
theorem dg_get (l : List Nat) (k : Nat) (h : k < l.length) : dg l k = l[k] := by unfold dg; rw [List.getD_eq_getElem?_getD, List.getElem?_eq_getElem h]; rfl
/-- what is carried into place k -/
def crr (l : List Nat) : Nat → Nat
  | 0 => 0
  | k + 1 => num 65536 (l.take (k + 1)) / 65536 ^ (k + 1)
theorem crr_eq (l : List Nat) (k : Nat) : crr l k = num 65536 (l.take k) / 65536 ^ k := by
  cases k with
  | zero => rw [List.take_zero]; rfl
  | succ k => rfl
/-- k places are passed -/
def pc (l : List Nat) (k : Nat) : List Nat := mix 65536 k (num 65536 (l.take k)) l
theorem pc_zero (l : List Nat) : pc l 0 = l := rfl
theorem pc_len (l : List Nat) (hl : l.length = 16) (k : Nat) (hk : k ≤ 16) : (pc l k).length = 16 := by unfold pc; rw [mix_length _ _ _ _ (by omega), hl]
theorem pc_dg (l : List Nat) (hl : l.length = 16) (k : Nat) (hk : k < 16) : dg (pc l k) k = dg l k := by
  rw [dg_get _ _ (by rw [pc_len l hl k (by omega)]; exact hk), dg_get l k (by omega)]
  exact mix_get _ _ _ _ (by omega)
theorem ul_get (l : List Nat) (k : Nat) (h : k < l.length) : (ul l)[k]? = some (iN .u64 (dg l k)) := by
  unfold ul
  rw [cl_get .u64 l k h, dg_get l k h]
  rfl
theorem ul_put (l : List Nat) (k x : Nat) : (ul l).setIfInBounds k (.int .u64 (x : Int)) = ul (l.set k x) := by
  unfold ul
  simp [cl, List.map_set]
theorem pc_get (l : List Nat) (hl : l.length = 16) (k : Nat) (hk : k < 16) : (ul (pc l k))[k]? = some (iN .u64 (dg l k)) := by
  rw [ul_get _ _ (by rw [pc_len l hl k (by omega)]; exact hk), pc_dg l hl k hk]
theorem set_get (l : List Nat) (k x : Nat) (h : k < l.length) : (ul (l.set k x))[k]? = some (iN .u64 x) := by
  rw [ul_get _ _ (by rw [List.length_set]; exact h), dg_get _ _ (by rw [List.length_set]; exact h), List.getElem_set_self]
theorem pc_step (l : List Nat) (hl : l.length = 16) (k : Nat) (hk : k < 16) : ((pc l k).set k (dg l k + crr l k)).set k ((dg l k + crr l k) &&& 65535) = pc l (k + 1) ∧ (dg l k + crr l k) / 2 ^ 16 = crr l (k + 1) := by
  have h := pass_step 65536 k l (by decide) (by omega)
  rw [List.set_set, and16, crr_eq, dg_get l k (by omega)]
  exact ⟨h.1, h.2.symm⟩
theorem pc_end (l : List Nat) (hl : l.length = 16) : pc l 16 = digs 65536 16 (num 65536 l) := by
  unfold pc mix
  rw [List.take_of_length_le (by omega), List.drop_eq_nil_of_le (by omega), List.append_nil]
theorem crr_le (l : List Nat) (hb : ∀ x ∈ l, x < 4398046511104) (k : Nat) : crr l k ≤ 134217728 := by
  rw [crr_eq]
  exact num_take_le 65536 134217728 k (by decide) l fun x hx => by have := hb x hx; omega
theorem dg_lt (l : List Nat) (hl : l.length = 16) (hb : ∀ x ∈ l, x < 4398046511104) (k : Nat) (hk : k < 16) : dg l k < 4398046511104 := by
  rw [dg_get l k (by omega)]
  exact hb _ (List.getElem_mem _)
/-- what is carried out comes back 38 times -/
def again (l : List Nat) : List Nat := (digs 65536 16 (num 65536 l)).set 0 (dg (digs 65536 16 (num 65536 l)) 0 + 38 * crr l 16)
theorem again_len (l : List Nat) : (again l).length = 16 := by unfold again; rw [List.length_set, digs_length]
theorem crr16 (l : List Nat) (hl : l.length = 16) : crr l 16 = num 65536 l / 65536 ^ 16 := by rw [crr_eq, List.take_of_length_le (by omega)]
theorem again_num (l : List Nat) (hl : l.length = 16) : num 65536 (again l) = num 65536 l % 65536 ^ 16 + 38 * (num 65536 l / 65536 ^ 16) := by
  unfold again
  rw [dg_get _ 0 (by rw [digs_length]; decide), num_more 65536 _ 0 _ (by rw [digs_length]; decide), num_digs, crr16 l hl, Nat.pow_zero, Nat.mul_one]
theorem again_less (l : List Nat) (hl : l.length = 16) (h : crr l 16 ≠ 0) : num 65536 (again l) < num 65536 l := by
  rw [again_num l hl]
  rw [crr16 l hl] at h
  have h1 := Nat.mod_add_div (num 65536 l) (65536 ^ 16)
  have e : (65536 : Nat) ^ 16 = 115792089237316195423570985008687907853269984665640564039457584007913129639936 := by decide
  rw [e] at *
  omega
theorem again_mod (l : List Nat) (hl : l.length = 16) : num 65536 (again l) % P = num 65536 l % P := by
  rw [again_num l hl]
  have h1 := Nat.mod_add_div (num 65536 l) (65536 ^ 16)
  have e : (65536 : Nat) ^ 16 % P = 38 := by decide
  conv => rhs; rw [← h1]
  rw [Nat.add_mod, Nat.mul_mod 38, Nat.add_mod (num 65536 l % 65536 ^ 16) (65536 ^ 16 * _), Nat.mul_mod (65536 ^ 16), e]
  rfl
theorem again_bound (l : List Nat) (hb : ∀ x ∈ l, x < 4398046511104) : ∀ x ∈ again l, x < 4398046511104 := fun x hx => by
  unfold again at hx
  have h1 := digs_lt 65536 (by decide) 16 (num 65536 l)
  rcases List.mem_or_eq_of_mem_set hx with h | h
  · have := h1 x h; omega
  · have h2 := crr_le l hb 16
    have h3 : dg (digs 65536 16 (num 65536 l)) 0 < 65536 := by
      rw [dg_get _ 0 (by rw [digs_length]; decide)]
      exact h1 _ (List.getElem_mem _)
    omega
end Go.Proofs.YtbmfmamhidccbaaDoor
