/-
  Streams: back, beginnings, block by block.
-/
import Derived.Test.YthljhhhjdajfhaaAc
import Derived.Test.YthljhhhjdajfhaaAd
namespace Go.Proofs.Ythljhhhjdajfhaa
open Go.RowKit

theorem list_ext0 {l m : List UInt8} (hl : l.length = m.length) (h : ∀ j, j < l.length → l.getD j 0 = m.getD j 0) : l = m := by
  apply List.ext_getElem hl
  intro i h1 h2
  have e := h i h1
  rw [List.getD_eq_getElem?_getD, List.getD_eq_getElem?_getD, List.getElem?_eq_getElem h1, List.getElem?_eq_getElem h2] at e
  exact e
theorem ctrL_len (key nonce text : ByteArray) : (ctrL key nonce text).length = text.size := by unfold ctrL; rw [xk_len, bl_len]
theorem ctrL_get (key nonce text : ByteArray) (j : Nat) (hj : j < text.size) : (ctrL key nonce text).getD j 0 = (bl text).getD j 0 ^^^ stS key nonce j := by
  unfold ctrL
  rw [xk_get _ _ _ _ (by rw [bl_len]; exact hj), if_pos hj]
theorem bl_ctrS (key nonce text : ByteArray) : bl (ctrS key nonce text) = ctrL key nonce text := rfl
theorem xor_twice (a b : UInt8) : a ^^^ b ^^^ b = a := by rw [UInt8.xor_assoc, UInt8.xor_self, UInt8.xor_zero]
theorem ctr_back (key nonce text : ByteArray) : ctrS key nonce (ctrS key nonce text) = text := by
  apply bl_inj
  rw [bl_ctrS]
  refine list_ext0 (by rw [ctrL_len, ctrS_size, bl_len]) fun j hj => ?_
  rw [ctrL_len] at hj
  rw [ctrL_get _ _ _ _ hj, bl_ctrS, ctrL_get _ _ _ _ (by rw [ctrS_size] at hj; exact hj), xor_twice]
theorem ext0_get (s : ByteArray) (c j : Nat) (hj : j < c) : (bl (s.extract 0 c)).getD j 0 = (bl s).getD j 0 := by
  rw [bl_extract, List.getD_eq_getElem?_getD, List.getElem?_take_of_lt (by omega), List.getElem?_drop, List.getD_eq_getElem?_getD, Nat.zero_add]
theorem ctr_cut (key nonce text : ByteArray) (c : Nat) (hc : c ≤ text.size) : ctrS key nonce (text.extract 0 c) = (ctrS key nonce text).extract 0 c := by
  have e1 := extract_size text c hc
  have e2 := extract_size (ctrS key nonce text) c (by rw [ctrS_size]; exact hc)
  apply bl_inj
  rw [bl_ctrS]
  refine list_ext0 (by rw [ctrL_len, bl_len, e1, e2]) fun j hj => ?_
  rw [ctrL_len, e1] at hj
  rw [ctrL_get _ _ _ _ (by rw [e1]; exact hj), ext0_get _ _ _ hj, ext0_get _ _ _ hj, bl_ctrS, ctrL_get _ _ _ _ (by omega)]
theorem cq_abc (c : Q4) : ∀ k, (cq c k).a = c.a ∧ (cq c k).b = c.b ∧ (cq c k).c = c.c ∧ (cq c k).d = c.d + BitVec.ofNat 32 k
  | 0 => ⟨rfl, rfl, rfl, by show c.d = _; rw [show BitVec.ofNat 32 0 = 0#32 from rfl, BitVec.add_zero]⟩
  | k + 1 => by
    obtain ⟨h1, h2, h3, h4⟩ := cq_abc c k
    refine ⟨h1, h2, h3, ?_⟩
    show (cq c k).d + 1#32 = _
    rw [h4, BitVec.add_assoc]
    congr 1
    apply BitVec.eq_of_toNat_eq
    simp [BitVec.toNat_add, BitVec.toNat_ofNat]
theorem wo_num (i : Nat) (h : i < 4294967296) : wo (UInt8.ofNat (i / 2 ^ 24)) (UInt8.ofNat (i / 2 ^ 16)) (UInt8.ofNat (i / 2 ^ 8)) (UInt8.ofNat (i / 2 ^ 0)) = BitVec.ofNat 32 i := by
  apply BitVec.eq_of_toNat_eq
  rw [wo_toNat, UInt8.toNat_ofNat', UInt8.toNat_ofNat', UInt8.toNat_ofNat', UInt8.toNat_ofNat', BitVec.toNat_ofNat]
  omega
theorem app_lo (l m : List UInt8) (j : Nat) (h : j < l.length) : (l ++ m).getD j 0 = l.getD j 0 := by rw [List.getD_eq_getElem?_getD, List.getElem?_append_left h, ← List.getD_eq_getElem?_getD]
theorem app_hi (l m : List UInt8) (j n : Nat) (h : l.length = n) : (l ++ m).getD (n + j) 0 = m.getD j 0 := by
  subst h
  rw [List.getD_eq_getElem?_getD, List.getElem?_append_right (by omega), show l.length + j - l.length = j by omega, ← List.getD_eq_getElem?_getD]
theorem bl_app (s t : ByteArray) : bl (s ++ t) = bl s ++ bl t := by unfold bl; simp
theorem p4_app (s : ByteArray) (n : Nat) : p4 s n = bl s ++ [UInt8.ofNat (n / 2 ^ 24), UInt8.ofNat (n / 2 ^ 16), UInt8.ofNat (n / 2 ^ 8), UInt8.ofNat (n / 2 ^ 0)] := by unfold p4; simp only [List.append_assoc]; rfl
theorem putS_size (s : ByteArray) (n : Nat) : (putS s n).size = s.size + 4 := by
  show (List.toArray _).size = _
  rw [List.size_toArray, p4_len]
/-- the columns of a nonce and four bytes -/
theorem col_app (s : ByteArray) (hs : s.size = 12) (t : ByteArray) (l : List UInt8) (hl : bl t = bl s ++ l) :
    colS t = ⟨wS (s.extract 0 4), wS (s.extract 4 8), wS (s.extract 8 12), wo (l.getD 0 0) (l.getD 1 0) (l.getD 2 0) (l.getD 3 0)⟩ := by
  have h12 : (bl s).length = 12 := by rw [bl_len, hs]
  unfold colS
  rw [wS_ext t 0, wS_ext t 4, wS_ext t 8, wS_ext t 12, wS_ext s 0, wS_ext s 4, wS_ext s 8, hl,
    app_lo _ _ 0 (by omega), app_lo _ _ (0 + 1) (by omega), app_lo _ _ (0 + 2) (by omega), app_lo _ _ (0 + 3) (by omega),
    app_lo _ _ 4 (by omega), app_lo _ _ (4 + 1) (by omega), app_lo _ _ (4 + 2) (by omega), app_lo _ _ (4 + 3) (by omega),
    app_lo _ _ 8 (by omega), app_lo _ _ (8 + 1) (by omega), app_lo _ _ (8 + 2) (by omega), app_lo _ _ (8 + 3) (by omega),
    show (bl s ++ l).getD 12 0 = l.getD 0 0 from app_hi _ _ 0 12 h12, app_hi _ _ 1 12 h12, app_hi _ _ 2 12 h12, app_hi _ _ 3 12 h12]
theorem col_put (s : ByteArray) (hs : s.size = 12) (i : Nat) (h : i < 4294967296) : colS (putS s i) = cq (colS (s ++ nz)) i := by
  have e1 := col_app s hs (putS s i) _ (p4_app s i)
  have e2 := col_app s hs (s ++ nz) (bl nz) (bl_app s nz)
  obtain ⟨h1, h2, h3, h4⟩ := cq_abc (colS (s ++ nz)) i
  refine Q4.ext' ?_ ?_ ?_ ?_
  · rw [h1, e1, e2]
  · rw [h2, e1, e2]
  · rw [h3, e1, e2]
  · rw [h4, e1, e2]
    show wo (UInt8.ofNat (i / 2 ^ 24)) (UInt8.ofNat (i / 2 ^ 16)) (UInt8.ofNat (i / 2 ^ 8)) (UInt8.ofNat (i / 2 ^ 0)) = 0#32 + BitVec.ofNat 32 i
    rw [wo_num i h, BitVec.zero_add]
theorem back_byte (key nonce text : ByteArray) (hn : nonce.size = 12) (i j : Nat) (hj : j < 16) (h : 16 * i + j < text.size) (hi : i < 4294967296) :
    (bl (ctrS key nonce text)).getD (16 * i + j) 0 = (bl text).getD (16 * i + j) 0 ^^^ (bl (blkS key (putS nonce i))).getD ((16 * i + j) % 16) 0 := by
  rw [bl_ctrS, ctrL_get _ _ _ _ h, stS_at _ _ _ _ hj, show (16 * i + j) % 16 = j by omega]
  show _ = _ ^^^ (blkP (kwS key) (colS (putS nonce i))).getD j 0
  rw [col_put nonce hn i hi]
/-- steps of 1 + y -/
def ik (y : Nat) : Nat → Nat
  | 0 => 0
  | k + 1 => ik y k + 1 + y
theorem ik_ge (y : Nat) : ∀ k, k ≤ ik y k
  | 0 => Nat.le_refl _
  | k + 1 => by have := ik_ge y k; rw [ik]; omega
theorem ik_stop (y n : Nat) : ∃ N, (∀ k, k < N → 16 * ik y k < n) ∧ ¬ 16 * ik y N < n := by
  have key : ∀ m, (∀ k, k < m → 16 * ik y k < n) ∨ ∃ N, (∀ k, k < N → 16 * ik y k < n) ∧ ¬ 16 * ik y N < n := by
    intro m
    induction m with
    | zero => exact .inl fun k hk => absurd hk (Nat.not_lt_zero _)
    | succ m ih =>
      rcases ih with ih | ih
      · by_cases h : 16 * ik y m < n
        · refine .inl fun k hk => ?_
          rcases Nat.lt_succ_iff_lt_or_eq.1 hk with hk | rfl
          · exact ih k hk
          · exact h
        · exact .inr ⟨m, ih, h⟩
      · exact .inr ih
  rcases key (n + 1) with h | h
  · have h1 := h n (by omega)
    have h2 := ik_ge y n
    omega
  · exact h
theorem run_nes {ρ : Operand → Value} {x y : Operand} {w : World} {dst : Option Tmp} {T T2 ty : TypeId} {pos : String} {aft : Array Edge} {gd : Option (Nat × Bool)} {P : Program} {s t : ByteArray} (hx : ρ x = .string s) (hy : ρ y = .string t) (r : Bool) (hr : decide (s ≠ t) = r) :
    (execOp ρ ⟨dst, .binOp .neq T x y T2, ty, pos, aft, gd⟩).run P w = .ok (.value (.bool r)) w := by
  subst hr
  simp only [execOp, hx, hy]
  by_cases h : s = t
  · subst h; simp [binOp, go_sem, Op.stringOp]
  · have h2 : ¬s.toList = t.toList := fun e => by
      rw [ByteArray.toList_eq, ByteArray.toList_eq] at e
      refine h ?_
      obtain ⟨⟨l⟩⟩ := s
      obtain ⟨⟨m⟩⟩ := t
      exact congrArg (fun l : List UInt8 => (⟨⟨l⟩⟩ : ByteArray)) e
    simp [binOp, go_sem, Op.stringOp, h, h2]
end Go.Proofs.Ythljhhhjdajfhaa
