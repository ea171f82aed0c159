/-
  The reference's blocks: what is reckoned.
-/
import Derived.Test.YtmlldbkhphngeaaDoorRs1
import Derived.Test.YtmlldbkhphngeaaDoorHs2
import Derived.Test.YtmlldbkhphngeaaDoorHT
namespace Go.Proofs.YtmlldbkhphngeaaDoor
open Go.RowKit

theorem getD_app {α : Type} (l m : List α) (i : Nat) (d : α) (h : i < l.length) : (l ++ m).getD i d = l.getD i d := by
  rw [List.getD_eq_getElem?_getD, List.getElem?_append_left h, ← List.getD_eq_getElem?_getD]
theorem rnds_same (K : Kd) (l m : List (BitVec K.w)) (v : V8 K.w) : ∀ i, i ≤ l.length → rndsP K (l ++ m) v i = rndsP K l v i
  | 0, _ => rfl
  | i + 1, h => by rw [rndsP, rndsP, rnds_same K l m v i (by omega), getD_app l m i 0 (by omega)]
/-- the n-th block of a text -/
def blkP (B : Nat) (F : List UInt8) (n : Nat) : List UInt8 := (F.drop (B * n)).take B
theorem blkP_len (B : Nat) (F : List UInt8) (n N : Nat) (hF : F.length = B * N) (hn : n < N) : (blkP B F n).length = B := by
  unfold blkP
  rw [List.length_take, List.length_drop, hF, Nat.min_def]
  have : B * n + B ≤ B * N := by rw [← Nat.mul_succ]; exact Nat.mul_le_mul_left _ hn
  split <;> omega
theorem blkP_get (B : Nat) (F : List UInt8) (n i : Nat) (hi : i < B) : (blkP B F n).getD i 0 = F.getD (B * n + i) 0 := by
  unfold blkP
  rw [List.getD_eq_getElem?_getD, List.getD_eq_getElem?_getD, List.getElem?_take_of_lt hi, List.getElem?_drop]
def rsP (K : Kd) (F : List UInt8) : Nat → List (BitVec K.w)
  | 0 => begP K.w
  | n + 1 => turnP K (rsP K F n) (blkP K.B F n)
theorem rsP_len (K : Kd) (F : List UInt8) : ∀ n, (rsP K F n).length = 8
  | 0 => begP_len _
  | n + 1 => by rw [rsP, turnP_len, rsP_len K F n]
theorem fed_rs (K : Kd) (hB : 0 < K.B) (F : List UInt8) (N : Nat) (hF : F.length = K.B * N) : ∀ n, n ≤ N → fedP K (begP K.w, []) (F.take (K.B * n)) = (rsP K F n, [])
  | 0, _ => by rw [Nat.mul_zero, List.take_zero]; rfl
  | n + 1, h => by
    have hl := blkP_len K.B F n N hF (by omega)
    have e : F.take (K.B * (n + 1)) = F.take (K.B * n) ++ blkP K.B F n := by rw [Nat.mul_succ, List.take_add]; rfl
    have h4 : blkP K.B F n ≠ [] := fun e => by rw [e, List.length_nil] at hl; omega
    have h3 : (rsP K F n, ([] : List UInt8)).2.length + (blkP K.B F n).length = K.B := by rw [hl, List.length_nil, Nat.zero_add]
    rw [e, fedP_app, fed_rs K hB F N hF n (by omega), fedP_full K _ _ h4 h3]
    rfl
theorem dig_rs (K : Kd) (hB : 0 < K.B) (l F : List UInt8) (N : Nat) (hl : F = l ++ fillP K l.length) (hF : F.length = K.B * N) : outP (rsP K F N) 8 = digP K l := by
  have h := fed_rs K hB F N hF N (Nat.le_refl _)
  rw [List.take_of_length_le (by rw [hF]; exact Nat.le_refl _)] at h
  unfold digP
  rw [← hl, h]
theorem l8_v8 {w : Nat} (l : List (BitVec w)) (h : l.length = 8) : l8 (v8 l) = l := by
  match l, h with
  | [_, _, _, _, _, _, _, _], _ => rfl
theorem fillP_len (K : Kd) (z : Nat) : (fillP K z).length = 1 + gapP K z + K.Ln := by unfold fillP; rw [List.length_append, List.length_cons, List.length_replicate, beP_len]; omega
section
variable {ops : Array Oper} {Q : Exit → Act → World → Prop} {a : Act} {w w0 : World} {L : List (Nat × TypeId × Array Value)} {rest : List Oper} {dst : Option Tmp} {ty : TypeId} {pos : String} {aft : Array Edge} {gd : Option (Nat × Bool)}
theorem wl_callt {f : FuncId} {xs : Array Operand} {ats : Array TypeId} {Pt : ByteArray → Prop} (H : HA w0 L w) (hw : Region.wanted ⟨dst, .call { callee := .value (.func f), args := xs, argTypes := ats }, ty, pos, aft, gd⟩ (yielded ops a.tmps) = true)
    (hr : ∀ args w, (callFunc f args).run Tryd.prog w = .ok (.enter f args) w) (args : Array Value) (ha : #[] ++ xs.map a.eval ++ #[] = args) (hc : Calls Tryd.prog f args w fun e w' => (∃ t, e = .returned (.string t) ∧ Pt t) ∧ Below w.heap.size w w')
    (h : ∀ t w', Pt t → HA w0 L w' → WL Tryd.prog ops Q rest (a.put dst (.string t)) w') : WL Tryd.prog ops Q (⟨dst, .call { callee := .value (.func f), args := xs, argTypes := ats }, ty, pos, aft, gd⟩ :: rest) a w := by
  refine ⟨?_⟩
  unfold wpList
  rw [if_pos hw]
  refine .inl ?_
  unfold Oper.wp
  rw [execOp_call_go, ha, hr]
  refine hc.mono ?_
  rintro e w' ⟨⟨t, rfl, ht⟩, hb⟩
  exact (h t w' ht (H.keep _ _ hb)).out
end
section
variable {ops : Array Oper} {Q : Exit → Act → World → Prop} {F : (Nat → Nat) → Act} {md : Region.Mode} {i : Nat} {w0 : World} {L M : List (Nat × TypeId × Array Value)}
theorem gm_held {o : Oper} {v : Value} (hi : M.all (fun x => x.1 != i) = true) (hw : ∀ g, Region.wanted o (yielded ops (F g).tmps) = true) (hp : ∀ g, (F g).put o.dst v = F g)
    (hr : ∀ g w, HA w0 L w → (execOp (F g).eval o).run Tryd.prog w = .ok (.value v) w) : OpGhost Tryd.prog md ops Q (GM w0 L M) F i o :=
  OpGhost.take (v := fun _ => v) hw hp (fun g _ w h _ => ⟨hr g w h.held, h.call hi (Below.refl _ w)⟩)
end
theorem run_build4 {ρ : Operand → Value} {x y z u : Operand} {w : World} {dst : Option Tmp} {ty : TypeId} {pos : String} {aft : Array Edge} {gd : Option (Nat × Bool)} {a b c d : UInt8} (hx : ρ x = by8 a) (hy : ρ y = by8 b) (hz : ρ z = by8 c) (hu : ρ u = by8 d) : (execOp ρ ⟨dst, .buildSlice 31 4 #[(0, x), (1, y), (2, z), (3, u)], ty, pos, aft, gd⟩).run Tryd.prog w = .ok (.value (.slice (some ⟨w.heap.size, 0, none⟩) 4 4)) (w.alloc (.cells (bc [a, b, c, d]) 5)) := by
  simp only [by8, iN] at hx hy hz hu
  simp only [execOp]
  go_simp
  rfl
/-- four bytes as a word -/
theorem word4 (a b c d : UInt8) : wordP 32 [a, b, c, d] = (((BitVec.ofNat 32 a.toNat <<< 24) ||| (BitVec.ofNat 32 b.toNat <<< 16)) ||| (BitVec.ofNat 32 c.toNat <<< 8)) ||| BitVec.ofNat 32 d.toNat := by
  have e0 : ∀ x : BitVec 32, (0 : BitVec 32) <<< 8 ||| x = x := fun x => by simp
  have e1 : ∀ (x y : BitVec 32), (x ||| y) <<< 8 = (x <<< 8) ||| (y <<< 8) := fun x y => BitVec.shiftLeft_or_distrib x y 8
  show ((((((((0 : BitVec 32) <<< 8) ||| BitVec.ofNat 32 a.toNat) <<< 8) ||| BitVec.ofNat 32 b.toNat) <<< 8) ||| BitVec.ofNat 32 c.toNat) <<< 8) ||| BitVec.ofNat 32 d.toNat = _
  rw [e0, e1, e1, e1, ← BitVec.shiftLeft_add, ← BitVec.shiftLeft_add, ← BitVec.shiftLeft_add]
theorem four_of (l : List UInt8) (a : Nat) (h : a + 4 ≤ l.length) : (l.drop a).take 4 = [l.getD a 0, l.getD (a + 1) 0, l.getD (a + 2) 0, l.getD (a + 3) 0] := by
  apply List.ext_getElem?
  intro i
  rcases i with _ | _ | _ | _ | i
  all_goals simp [List.getElem?_take, List.getElem?_drop]
  all_goals first | omega | (rw [List.getElem?_eq_getElem (by omega)]; rfl)

def rqS (st : List (BitVec 32)) (blk : List UInt8) (i : Nat) : V8 32 := rndsP KS (schP KS blk 48) (v8 st) i
def sqS (st : List (BitVec 32)) (blk : List UInt8) (i : Nat) : List (BitVec 32) := sumL st (l8 (rqS st blk 64)) i
theorem sq_endS (st : List (BitVec 32)) (blk : List UInt8) : sqS st blk 8 = turnP KS st blk := by
  unfold sqS turnP rqS sprP
  rw [← rnds_same KS (schP KS blk 48) (List.replicate (80 - 64) 0) (v8 st) 64 (by rw [schP_len]; exact Nat.le_refl _)]
  rfl
theorem sq_lenS (st : List (BitVec 32)) (hst : st.length = 8) (blk : List UInt8) (i : Nat) : (sqS st blk i).length = 8 := by unfold sqS; rw [sumL_len]; exact hst
theorem sq_putS (st : List (BitVec 32)) (blk : List UInt8) (i : Nat) : (wc .u32 (sqS st blk i)).setIfInBounds i (.int .u32 (((sqS st blk i).getD i 0 + (l8 (rqS st blk 64)).getD i 0).toNat : Int)) = wc .u32 (sqS st blk (i + 1)) := wc_put .u32 (sqS st blk i) i _
theorem l8q_lenS (v : V8 32) : (l8 v).length = 8 := rfl
theorem blocksS (s t : ByteArray) (h : bl t = bl s ++ fillP KS s.size) : t.size = 64 * (t.size / 64) := by
  have e := size_of_bl h
  rw [List.length_append, bl_len, fillP_len] at e
  have h2 := gp_yesS s.size
  have h3 : KS.Ln = 8 := rfl
  rw [h3] at e
  omega
theorem fstr_lenS (blk : List UInt8) (i : Nat) (hi : i ≤ 16) : (firstP 32 4 blk i ++ List.replicate (64 - i) 0).length = 64 := by rw [pad_len, firstP_len]; omega
theorem schr_lenS (blk : List UInt8) (i : Nat) (hi : i ≤ 48) : (schP KS blk i ++ List.replicate (48 - i) 0).length = 64 := by rw [pad_len, schP_len]; omega
theorem inr_lenS (blk : List UInt8) (i j : Nat) (hi : i < 16) : ((firstP 32 4 blk i ++ [segP 32 blk (i * 4) j]) ++ List.replicate (64 - (i + 1)) 0).length = 64 := by rw [pad_len, List.length_append, firstP_len]; simp; omega
theorem inr_startS (blk : List UInt8) (i : Nat) (hi : i < 16) : firstP 32 4 blk i ++ List.replicate (64 - i) 0 = (firstP 32 4 blk i ++ [segP 32 blk (i * 4) 0]) ++ List.replicate (64 - (i + 1)) 0 := by
  rw [show 64 - i = (64 - (i + 1)) + 1 by omega, List.replicate_succ, List.append_assoc]
  rfl
theorem sch_endS (blk : List UInt8) : schP KS blk 48 ++ List.replicate (48 - 48) 0 = schP KS blk 48 := List.append_nil _
theorem schq_lenS (blk : List UInt8) : (schP KS blk 48).length = 64 := by rw [schP_len]

def rqL (st : List (BitVec 64)) (blk : List UInt8) (i : Nat) : V8 64 := rndsP KL (schP KL blk 64) (v8 st) i
def sqL (st : List (BitVec 64)) (blk : List UInt8) (i : Nat) : List (BitVec 64) := sumL st (l8 (rqL st blk 80)) i
theorem sq_endL (st : List (BitVec 64)) (blk : List UInt8) : sqL st blk 8 = turnP KL st blk := by
  unfold sqL turnP rqL sprP
  rw [← rnds_same KL (schP KL blk 64) (List.replicate (80 - 80) 0) (v8 st) 80 (by rw [schP_len]; exact Nat.le_refl _)]
  rfl
theorem sq_lenL (st : List (BitVec 64)) (hst : st.length = 8) (blk : List UInt8) (i : Nat) : (sqL st blk i).length = 8 := by unfold sqL; rw [sumL_len]; exact hst
theorem sq_putL (st : List (BitVec 64)) (blk : List UInt8) (i : Nat) : (wc .u64 (sqL st blk i)).setIfInBounds i (.int .u64 (((sqL st blk i).getD i 0 + (l8 (rqL st blk 80)).getD i 0).toNat : Int)) = wc .u64 (sqL st blk (i + 1)) := wc_put .u64 (sqL st blk i) i _
theorem l8q_lenL (v : V8 64) : (l8 v).length = 8 := rfl
theorem blocksL (s t : ByteArray) (h : bl t = bl s ++ fillP KL s.size) : t.size = 128 * (t.size / 128) := by
  have e := size_of_bl h
  rw [List.length_append, bl_len, fillP_len] at e
  have h2 := gp_yesL s.size
  have h3 : KL.Ln = 16 := rfl
  rw [h3] at e
  omega
theorem fstr_lenL (blk : List UInt8) (i : Nat) (hi : i ≤ 16) : (firstP 64 8 blk i ++ List.replicate (80 - i) 0).length = 80 := by rw [pad_len, firstP_len]; omega
theorem schr_lenL (blk : List UInt8) (i : Nat) (hi : i ≤ 64) : (schP KL blk i ++ List.replicate (64 - i) 0).length = 80 := by rw [pad_len, schP_len]; omega
theorem inr_lenL (blk : List UInt8) (i j : Nat) (hi : i < 16) : ((firstP 64 8 blk i ++ [segP 64 blk (i * 8) j]) ++ List.replicate (80 - (i + 1)) 0).length = 80 := by rw [pad_len, List.length_append, firstP_len]; simp; omega
theorem inr_startL (blk : List UInt8) (i : Nat) (hi : i < 16) : firstP 64 8 blk i ++ List.replicate (80 - i) 0 = (firstP 64 8 blk i ++ [segP 64 blk (i * 8) 0]) ++ List.replicate (80 - (i + 1)) 0 := by
  rw [show 80 - i = (80 - (i + 1)) + 1 by omega, List.replicate_succ, List.append_assoc]
  rfl
theorem sch_endL (blk : List UInt8) : schP KL blk 64 ++ List.replicate (64 - 64) 0 = schP KL blk 64 := List.append_nil _
theorem schq_lenL (blk : List UInt8) : (schP KL blk 64).length = 80 := by rw [schP_len]
end Go.Proofs.YtmlldbkhphngeaaDoor
