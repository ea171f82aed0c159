/-
  Bytes there and back: lists, calls.
-/
import Derived.Test.YtiogegoepgkjlaaC11
namespace Go.Proofs.Ytiogegoepgkjlaa
open Go.RowKit

open Rs
theorem bl_app (a b : ByteArray) : bl (a ++ b) = bl a ++ bl b := by
  unfold bl
  simp
theorem bl_n1 (n : Nat) : bl (nbT 1 n) = Wi.be n 1 := by
  show ((Wi.be n (Wi.wd 1)).toArray).toList = _
  rw [show Wi.wd 1 = 1 from rfl]
theorem bl_n4 (n : Nat) : bl (nbT 4 n) = Wi.be n 4 := by
  show ((Wi.be n (Wi.wd 4)).toArray).toList = _
  rw [show Wi.wd 4 = 4 from rfl]
theorem bl_n8 (n : Nat) : bl (nbT 8 n) = Wi.be n 8 := by
  show ((Wi.be n (Wi.wd 8)).toArray).toList = _
  rw [show Wi.wd 8 = 8 from rfl]
/-- texts, a list -/
def ptL (ss : List ByteArray) : List UInt8 := ss.flatMap fun s => Wi.pt (bl s)
theorem bl_lk (ss : List ByteArray) : ∀ k, k ≤ ss.length → bl (layT ss k) = ptL (ss.take k)
  | 0, _ => by simp [layT, ptL, bl]
  | k + 1, h => by
    have h1 := bl_lk ss k (by omega)
    have h2 : ss.take (k + 1) = ss.take k ++ [ss.getD k ByteArray.empty] := by
      rw [List.take_add_one, List.getD_eq_getElem?_getD, List.getElem?_eq_getElem (by omega)]
      rfl
    rw [h2]
    show (((layT ss k).data.toList ++ Wi.pt (ss.getD k ByteArray.empty).data.toList).toArray).toList = _
    unfold ptL at h1 ⊢
    rw [List.flatMap_append, ← h1]
    simp [bl]
theorem bl_ln (ss : List ByteArray) : bl (layT ss ss.length) = ptL ss := by rw [bl_lk ss _ (Nat.le_refl _), List.take_length]
theorem bl_l1 (s : ByteArray) : bl (layT [s] 1) = Wi.pt (bl s) := by
  have := bl_ln [s]
  rw [show layT [s] [s].length = layT [s] 1 from rfl] at this
  rw [this]
  simp [ptL]
theorem bl_l2 (s u : ByteArray) : bl (layT [s, u] 2) = Wi.pt (bl s) ++ Wi.pt (bl u) := by
  have := bl_ln [s, u]
  rw [show layT [s, u] [s, u].length = layT [s, u] 2 from rfl] at this
  rw [this]
  simp [ptL]
theorem R1 (n : Nat) (r : List UInt8) (h : n < 256) : nxn 1 (Wi.be n 1 ++ r) = (n, true, r) := nxn_be 1 n r h
theorem R4 (n : Nat) (r : List UInt8) (h : n < 4294967296) : nxn 4 (Wi.be n 4 ++ r) = (n, true, r) := nxn_be 4 n r h
theorem R8 (n : Nat) (r : List UInt8) (h : n < 18446744073709551616) : nxn 8 (Wi.be n 8 ++ r) = (n, true, r) := nxn_be 8 n r h
theorem RT (s : ByteArray) (r : List UInt8) (h : s.size ≤ 16384) : nxt 16384 (Wi.pt (bl s) ++ r) = (s, true, r) := nxt_pt 16384 s r h (by omega)
/-- devices, a list -/
def devL (ds : List Mb) : List UInt8 := ds.flatMap fun m => Wi.be m.dv.toNat 1 ++ (Wi.pt (bl m.sg) ++ Wi.pt (bl m.dh))
theorem dvs_enc : ∀ (ds acc : List Mb) (r : List UInt8), (∀ m ∈ ds, 0 ≤ m.dv ∧ m.dv ≤ 1 ∧ 1 ≤ m.sg.size ∧ m.sg.size ≤ 1000 ∧ 1 ≤ m.dh.size ∧ m.dh.size ≤ 1000) → dvs ds.length (devL ds ++ r) acc = (acc ++ ds, r)
  | [], acc, r, _ => by simp [devL, dvs]
  | m :: ds, acc, r, h => by
    obtain ⟨h0, h1, h2, h3, h4, h5⟩ := h m (List.mem_cons_self ..)
    have e : devL (m :: ds) ++ r = Wi.be m.dv.toNat 1 ++ (Wi.pt (bl m.sg) ++ (Wi.pt (bl m.dh) ++ (devL ds ++ r))) := by simp [devL]
    rw [e, List.length_cons, dvs_s, R1 m.dv.toNat _ (by omega)]
    simp only []
    rw [RT m.sg _ (by omega)]
    simp only []
    rw [RT m.dh _ (by omega)]
    have := dvs_enc ds (acc ++ [m]) r fun x hx => h x (List.mem_cons_of_mem _ hx)
    simp only [Int.toNat_of_nonneg h0]
    rw [this, List.append_assoc]
    rfl
theorem bl_tx (b : ByteArray) (ds : List Mb) : ∀ k, k ≤ ds.length → bl (txS b ds k) = bl b ++ devL (ds.take k)
  | 0, _ => by simp [txS, devL]
  | k + 1, h => by
    have h1 := bl_tx b ds k (by omega)
    have h2 : ds.take (k + 1) = ds.take k ++ [ds.getD k mb0] := by
      rw [List.take_add_one, List.getD_eq_getElem?_getD, List.getElem?_eq_getElem (by omega)]
      rfl
    rw [h2]
    show bl (txS b ds k ++ dvT (ds.getD k mb0)) = _
    rw [bl_app, h1, dvT, bl_app, bl_n1, bl_l2]
    simp [devL]
theorem rdL_of {bs r1 r2 r3 r4 r5 r6 : List UInt8} {u v n : Nat} {ac sg : ByteArray} {ds : List Mb} (i1 : nxn 1 bs = (u, true, r1)) (i2 : nxn 4 r1 = (v, true, r2)) (i3 : nxt 16384 r2 = (ac, true, r3)) (i4 : nxn 1 r3 = (n, true, r4)) (i5 : dvs n r4 [] = (ds, r5)) (i6 : nxt 16384 r5 = (sg, true, r6)) : rdL bs = (⟨(u : Int), (v : Int), ac, ds, sg⟩, r6) := by
  unfold rdL
  simp only [i1, i2, i3, i4, i5, i6]
theorem rdL_enc {l : Li} (hM : MayL l) (r : List UInt8) : rdL (bl (lisB l) ++ r) = (l, r) := by
  have h0 := hM.u0; have h1 := hM.u1; have h2 := hM.v0; have h3 := hM.v1; have h4 := hM.dl; have h5 := hM.ac; have h6 := hM.sg
  have e : bl (lisB l) ++ r = Wi.be l.u.toNat 1 ++ (Wi.be l.v.toNat 4 ++ (Wi.pt (bl l.ac) ++ (Wi.be l.ds.length 1 ++ (devL l.ds ++ (Wi.pt (bl l.sg) ++ r))))) := by
    unfold lisB hdL
    rw [bl_app, bl_tx _ _ _ (Nat.le_refl _), List.take_length]
    simp only [bl_app, bl_n1, bl_n4, bl_l1, List.append_assoc]
  rw [e, rdL_of (R1 _ _ (by omega)) (R4 _ _ (by omega)) (RT _ _ (by omega)) (R1 _ _ (by omega)) (dvs_enc l.ds [] _ hM.dm) (RT _ _ (by omega))]
  rw [Int.toNat_of_nonneg h0, Int.toNat_of_nonneg (show 0 ≤ l.v by omega)]
  rfl
theorem lisR_enc {l : Li} (hm : mayL l = true) : lisR (lbA l) = l := by
  unfold lbA
  rw [hm]
  unfold lisR
  have := rdL_enc (mayL_iff hm) []
  rw [List.append_nil] at this
  show (rdL (bl (lisB l))).1 = l
  rw [this]
theorem enc_ne {b : Bu} (h : (encA b).1 ≠ { data := #[] }) : mayX b = true := by
  unfold encA at h
  rcases hm : mayX b with _ | _
  · rw [hm] at h
    exact absurd rfl h
  · rfl
theorem decA_enc {b : Bu} (hm : mayX b = true) : decA (encA b).1 = (b, 0) := by
  unfold encA
  rw [hm]
  exact dec_enc hm
theorem bdA_ok {s : ByteArray} (h : s.size ≤ 16384) : bdA s = (s, 0) := if_pos h
theorem nxn8_lt (bs : List UInt8) : (nxn 8 bs).1 < 18446744073709551616 := by
  unfold nxn
  split
  · have h1 := Wi.val_lt (bs.take 8)
    have h2 : (bs.take 8).length ≤ 8 := List.length_take_le _ _
    have h3 : 256 ^ (bs.take 8).length ≤ 256 ^ 8 := Nat.pow_le_pow_right (by decide) h2
    show Wi.val (bs.take 8) < 18446744073709551616
    omega
  · show (0 : Nat) < 18446744073709551616
    decide
end Go.Proofs.Ytiogegoepgkjlaa
