/-
  Bytes there and back: lists, calls.
-/
import Derived.Test.YtiogegoepgkjlaaC11
namespace Go.Proofs.Ytiogegoepgkjlaa
open Go.RowKit

open Rs
theorem bl_app (a b : ByteArray) : bl (a ++ b) = bl a ++ bl b := by
  unfold bl
  simp
theorem bl_n1 (n : Nat) : bl (nbT 1 n) = Wi.be n 1 := by
  show ((Wi.be n (Wi.wd 1)).toArray).toList = _
  rw [show Wi.wd 1 = 1 from rfl]
theorem bl_n4 (n : Nat) : bl (nbT 4 n) = Wi.be n 4 := by
  show ((Wi.be n (Wi.wd 4)).toArray).toList = _
  rw [show Wi.wd 4 = 4 from rfl]
theorem bl_n8 (n : Nat) : bl (nbT 8 n) = Wi.be n 8 := by
  show ((Wi.be n (Wi.wd 8)).toArray).toList = _
  rw [show Wi.wd 8 = 8 from rfl]
/-- texts, a list -/
def ptL (ss : List ByteArray) : List UInt8 := ss.flatMap fun s => Wi.pt (bl s)
theorem bl_lk (ss : List ByteArray) : ∀ k, k ≤ ss.length → bl (layT ss k) = ptL (ss.take k)
  | 0, _ => by simp [layT, ptL, bl]
  | k + 1, h => by
    have h1 := bl_lk ss k (by omega)
    have h2 : ss.take (k + 1) = ss.take k ++ [ss.getD k ByteArray.empty] := by
      rw [List.take_add_one, List.getD_eq_getElem?_getD, List.getElem?_eq_getElem (by omega)]
      rfl
    rw [h2]
    show (((layT ss k).data.toList ++ Wi.pt (ss.getD k ByteArray.empty).data.toList).toArray).toList = _
    unfold ptL at h1 ⊢
    rw [List.flatMap_append, ← h1]
    simp [bl]
theorem bl_ln (ss : List ByteArray) : bl (layT ss ss.length) = ptL ss := by rw [bl_lk ss _ (Nat.le_refl _), List.take_length]
theorem bl_l1 (s : ByteArray) : bl (layT [s] 1) = Wi.pt (bl s) := by
  have := bl_ln [s]
  rw [show layT [s] [s].length = layT [s] 1 from rfl] at this
  rw [this]
  simp [ptL]
theorem bl_l2 (s u : ByteArray) : bl (layT [s, u] 2) = Wi.pt (bl s) ++ Wi.pt (bl u) := by
  have := bl_ln [s, u]
  rw [show layT [s, u] [s, u].length = layT [s, u] 2 from rfl] at this
  rw [this]
  simp [ptL]
theorem lay1_sz (s : ByteArray) : (layT [s] 1).size = 4 + s.size := by
  have h := congrArg List.length (bl_l1 s)
  unfold bl at h
  rw [pt_len] at h
  rw [show (layT [s] 1).size = (layT [s] 1).data.toList.length from Array.length_toList.symm]
  exact h
theorem R1 (n : Nat) (r : List UInt8) (h : n < 256) : nxn 1 (Wi.be n 1 ++ r) = (n, true, r) := nxn_be 1 n r h
theorem R4 (n : Nat) (r : List UInt8) (h : n < 4294967296) : nxn 4 (Wi.be n 4 ++ r) = (n, true, r) := nxn_be 4 n r h
theorem R8 (n : Nat) (r : List UInt8) (h : n < 18446744073709551616) : nxn 8 (Wi.be n 8 ++ r) = (n, true, r) := nxn_be 8 n r h
theorem RT (s : ByteArray) (r : List UInt8) (h : s.size ≤ 16384) : nxt 16384 (Wi.pt (bl s) ++ r) = (s, true, r) := nxt_pt 16384 s r h (by omega)
theorem txs_enc : ∀ (ss acc : List ByteArray) (r : List UInt8), (∀ s ∈ ss, s.size ≤ 16384) → txs ss.length (ptL ss ++ r) acc = (acc ++ ss, r)
  | [], acc, r, _ => by simp [ptL, txs]
  | s :: ss, acc, r, h => by
    have e : ptL (s :: ss) ++ r = Wi.pt (bl s) ++ (ptL ss ++ r) := by simp [ptL]
    rw [e, List.length_cons, txs_s, RT s _ (h s (List.mem_cons_self ..))]
    have := txs_enc ss (acc ++ [s]) r fun x hx => h x (List.mem_cons_of_mem _ hx)
    rw [this, List.append_assoc]
    rfl
/-- devices, a list -/
def devL (ds : List Mb) : List UInt8 := ds.flatMap fun m => Wi.be m.dv.toNat 1 ++ (Wi.pt (bl m.sg) ++ Wi.pt (bl m.dh))
theorem dvs_enc : ∀ (ds acc : List Mb) (r : List UInt8), (∀ m ∈ ds, 0 ≤ m.dv ∧ m.dv ≤ 1 ∧ 1 ≤ m.sg.size ∧ m.sg.size ≤ 1000 ∧ 1 ≤ m.dh.size ∧ m.dh.size ≤ 1000) → dvs ds.length (devL ds ++ r) acc = (acc ++ ds, r)
  | [], acc, r, _ => by simp [devL, dvs]
  | m :: ds, acc, r, h => by
    obtain ⟨h0, h1, h2, h3, h4, h5⟩ := h m (List.mem_cons_self ..)
    have e : devL (m :: ds) ++ r = Wi.be m.dv.toNat 1 ++ (Wi.pt (bl m.sg) ++ (Wi.pt (bl m.dh) ++ (devL ds ++ r))) := by simp [devL]
    rw [e, List.length_cons, dvs_s, R1 m.dv.toNat _ (by omega)]
    simp only []
    rw [RT m.sg _ (by omega)]
    simp only []
    rw [RT m.dh _ (by omega)]
    have := dvs_enc ds (acc ++ [m]) r fun x hx => h x (List.mem_cons_of_mem _ hx)
    simp only [Int.toNat_of_nonneg h0]
    rw [this, List.append_assoc]
    rfl
theorem bl_tx (b : ByteArray) (ds : List Mb) : ∀ k, k ≤ ds.length → bl (txS b ds k) = bl b ++ devL (ds.take k)
  | 0, _ => by simp [txS, devL]
  | k + 1, h => by
    have h1 := bl_tx b ds k (by omega)
    have h2 : ds.take (k + 1) = ds.take k ++ [ds.getD k mb0] := by
      rw [List.take_add_one, List.getD_eq_getElem?_getD, List.getElem?_eq_getElem (by omega)]
      rfl
    rw [h2]
    show bl (txS b ds k ++ dvT (ds.getD k mb0)) = _
    rw [bl_app, h1, dvT, bl_app, bl_n1, bl_l2]
    simp [devL]
theorem rdL_of {bs r1 r2 r3 r4 r5 r6 : List UInt8} {u v n : Nat} {ac sg : ByteArray} {ds : List Mb} (i1 : nxn 1 bs = (u, true, r1)) (i2 : nxn 4 r1 = (v, true, r2)) (i3 : nxt 16384 r2 = (ac, true, r3)) (i4 : nxn 1 r3 = (n, true, r4)) (i5 : dvs n r4 [] = (ds, r5)) (i6 : nxt 16384 r5 = (sg, true, r6)) : rdL bs = (⟨(u : Int), (v : Int), ac, ds, sg⟩, r6) := by
  unfold rdL
  simp only [i1, i2, i3, i4, i5, i6]
theorem rdL_enc {l : Li} (hM : MayL l) (r : List UInt8) : rdL (bl (lisB l) ++ r) = (l, r) := by
  have h0 := hM.u0; have h1 := hM.u1; have h2 := hM.v0; have h3 := hM.v1; have h4 := hM.dl; have h5 := hM.ac; have h6 := hM.sg
  have e : bl (lisB l) ++ r = Wi.be l.u.toNat 1 ++ (Wi.be l.v.toNat 4 ++ (Wi.pt (bl l.ac) ++ (Wi.be l.ds.length 1 ++ (devL l.ds ++ (Wi.pt (bl l.sg) ++ r))))) := by
    unfold lisB hdL
    rw [bl_app, bl_tx _ _ _ (Nat.le_refl _), List.take_length]
    simp only [bl_app, bl_n1, bl_n4, bl_l1, List.append_assoc]
  rw [e, rdL_of (R1 _ _ (by omega)) (R4 _ _ (by omega)) (RT _ _ (by omega)) (R1 _ _ (by omega)) (dvs_enc l.ds [] _ hM.dm) (RT _ _ (by omega))]
  rw [Int.toNat_of_nonneg h0, Int.toNat_of_nonneg (show 0 ≤ l.v by omega)]
  rfl
theorem lisR_enc {l : Li} (hm : mayL l = true) : lisR (lbA l) = l := by
  unfold lbA
  rw [hm]
  unfold lisR
  have := rdL_enc (mayL_iff hm) []
  rw [List.append_nil] at this
  show (rdL (bl (lisB l))).1 = l
  rw [this]
theorem enc_ne {b : Bu} (h : (encA b).1 ≠ { data := #[] }) : mayX b = true := by
  unfold encA at h
  rcases hm : mayX b with _ | _
  · rw [hm] at h
    exact absurd rfl h
  · rfl
theorem decA_enc {b : Bu} (hm : mayX b = true) : decA (encA b).1 = (b, 0) := by
  unfold encA
  rw [hm]
  exact dec_enc hm
theorem bdA_ok {s : ByteArray} (h : s.size ≤ 16384) : bdA s = (s, 0) := if_pos h
theorem calP1 {id : Nat} {n : Nat}  : calB id ⟨(1 : Int), (n : Int), 0, ⟨0, 0, { data := #[] }, [], { data := #[] }⟩, ⟨0, 0, { data := #[] }, { data := #[] }, 0, { data := #[] }, { data := #[] }, 0, { data := #[] }⟩, [], 0, 0, 0, { data := #[] }, 0, { data := #[] }⟩ = ((nbT 8 id ++ nbT 1 1) ++ nbT 1 (n : Int).toNat) := by kernel_rfl
theorem rdC_1 {id : Nat} {n : Nat}  (h : wi (n : Int) 0 2 = true) (hid : id < 18446744073709551616) (r : List UInt8) : rdC (bl (calB id ⟨(1 : Int), (n : Int), 0, ⟨0, 0, { data := #[] }, [], { data := #[] }⟩, ⟨0, 0, { data := #[] }, { data := #[] }, 0, { data := #[] }, { data := #[] }, 0, { data := #[] }⟩, [], 0, 0, 0, { data := #[] }, 0, { data := #[] }⟩) ++ r) = (id, ⟨(1 : Int), (n : Int), 0, ⟨0, 0, { data := #[] }, [], { data := #[] }⟩, ⟨0, 0, { data := #[] }, { data := #[] }, 0, { data := #[] }, { data := #[] }, 0, { data := #[] }⟩, [], 0, 0, 0, { data := #[] }, 0, { data := #[] }⟩, r) := by
  have hb := wi_le h
  have e : bl (calB id ⟨(1 : Int), (n : Int), 0, ⟨0, 0, { data := #[] }, [], { data := #[] }⟩, ⟨0, 0, { data := #[] }, { data := #[] }, 0, { data := #[] }, { data := #[] }, 0, { data := #[] }⟩, [], 0, 0, 0, { data := #[] }, 0, { data := #[] }⟩) ++ r = Wi.be id 8 ++ (Wi.be 1 1 ++ (Wi.be n 1 ++ r)) := by
    rw [calP1]
    simp only [bl_app, bl_n1, bl_n8, List.append_assoc, Int.toNat_natCast]
  rw [e]
  unfold rdC
  rw [R8 id _ hid]
  simp only []
  rw [R1 1 _ (by decide)]
  simp only []
  rw [rdK_1 rfl]
  rw [R1 n _ (by omega)]
  rfl
theorem calP2 {id : Nat} {n : Nat} {m : Nat}  : calB id ⟨(2 : Int), (n : Int), (m : Int), ⟨0, 0, { data := #[] }, [], { data := #[] }⟩, ⟨0, 0, { data := #[] }, { data := #[] }, 0, { data := #[] }, { data := #[] }, 0, { data := #[] }⟩, [], 0, 0, 0, { data := #[] }, 0, { data := #[] }⟩ = (((nbT 8 id ++ nbT 1 2) ++ nbT 1 (n : Int).toNat) ++ nbT 1 (m : Int).toNat) := by kernel_rfl
theorem rdC_2 {id : Nat} {n : Nat} {m : Nat}  (h : (wi (m : Int) 0 1 && wi (n : Int) 0 2) = true) (hid : id < 18446744073709551616) (r : List UInt8) : rdC (bl (calB id ⟨(2 : Int), (n : Int), (m : Int), ⟨0, 0, { data := #[] }, [], { data := #[] }⟩, ⟨0, 0, { data := #[] }, { data := #[] }, 0, { data := #[] }, { data := #[] }, 0, { data := #[] }⟩, [], 0, 0, 0, { data := #[] }, 0, { data := #[] }⟩) ++ r) = (id, ⟨(2 : Int), (n : Int), (m : Int), ⟨0, 0, { data := #[] }, [], { data := #[] }⟩, ⟨0, 0, { data := #[] }, { data := #[] }, 0, { data := #[] }, { data := #[] }, 0, { data := #[] }⟩, [], 0, 0, 0, { data := #[] }, 0, { data := #[] }⟩, r) := by
  have hb := wi_le (and2 h).2; have hb2 := wi_le (and2 h).1
  have e : bl (calB id ⟨(2 : Int), (n : Int), (m : Int), ⟨0, 0, { data := #[] }, [], { data := #[] }⟩, ⟨0, 0, { data := #[] }, { data := #[] }, 0, { data := #[] }, { data := #[] }, 0, { data := #[] }⟩, [], 0, 0, 0, { data := #[] }, 0, { data := #[] }⟩) ++ r = Wi.be id 8 ++ (Wi.be 2 1 ++ (Wi.be n 1 ++ (Wi.be m 1 ++ r))) := by
    rw [calP2]
    simp only [bl_app, bl_n1, bl_n8, List.append_assoc, Int.toNat_natCast]
  rw [e]
  unfold rdC
  rw [R8 id _ hid]
  simp only []
  rw [R1 2 _ (by decide)]
  simp only []
  rw [rdK_2 rfl rfl]
  rw [R1 n _ (by omega)]
  simp only []
  rw [R1 m _ (by omega)]
  rfl
theorem calP3 {id : Nat}  {li : Li} : calB id ⟨(3 : Int), 0, 0, li, ⟨0, 0, { data := #[] }, { data := #[] }, 0, { data := #[] }, { data := #[] }, 0, { data := #[] }⟩, [], 0, 0, 0, { data := #[] }, 0, { data := #[] }⟩ = ((nbT 8 id ++ nbT 1 3) ++ layT [lbA li] 1) := by kernel_rfl
theorem rdC_3 {id : Nat}  {li : Li} (h : mayL li = true) (hid : id < 18446744073709551616) (r : List UInt8) : rdC (bl (calB id ⟨(3 : Int), 0, 0, li, ⟨0, 0, { data := #[] }, { data := #[] }, 0, { data := #[] }, { data := #[] }, 0, { data := #[] }⟩, [], 0, 0, 0, { data := #[] }, 0, { data := #[] }⟩) ++ r) = (id, ⟨(3 : Int), 0, 0, li, ⟨0, 0, { data := #[] }, { data := #[] }, 0, { data := #[] }, { data := #[] }, 0, { data := #[] }⟩, [], 0, 0, 0, { data := #[] }, 0, { data := #[] }⟩, r) := by
  have e : bl (calB id ⟨(3 : Int), 0, 0, li, ⟨0, 0, { data := #[] }, { data := #[] }, 0, { data := #[] }, { data := #[] }, 0, { data := #[] }⟩, [], 0, 0, 0, { data := #[] }, 0, { data := #[] }⟩) ++ r = Wi.be id 8 ++ (Wi.be 3 1 ++ (Wi.pt (bl (lbA li)) ++ r)) := by
    rw [calP3]
    simp only [bl_app, bl_n1, bl_n8, bl_l1, List.append_assoc]
  rw [e]
  unfold rdC
  rw [R8 id _ hid]
  simp only []
  rw [R1 3 _ (by decide)]
  simp only []
  rw [rdK_3 rfl rfl rfl]
  rw [RT (lbA li) _ (Nat.le_trans (lbA_le li) (by decide))]
  simp only [lisR_enc h]
  rfl
theorem calP4 {id : Nat} {n : Nat} {bu : Bu} {on : List ByteArray} : calB id ⟨(4 : Int), 0, 0, ⟨0, 0, { data := #[] }, [], { data := #[] }⟩, bu, on, 0, 0, 0, { data := #[] }, (n : Int), { data := #[] }⟩ = (((nbT 8 id ++ nbT 1 4) ++ (layT [(encA bu).1] 1 ++ nbT 4 (n : Int).toNat)) ++ (nbT 1 on.length ++ layT on on.length)) := by kernel_rfl
theorem rdC_4 {id : Nat} {n : Nat} {bu : Bu} {on : List ByteArray} (h : (!decide ((encA bu).1 = { data := #[] }) && decide (bu.oi = 0) && wi (n : Int) 1 1073741824 && decide (on.length ≤ 20) && on.all kk) = true) (hid : id < 18446744073709551616) (hz : (calB id ⟨(4 : Int), 0, 0, ⟨0, 0, { data := #[] }, [], { data := #[] }⟩, bu, on, 0, 0, 0, { data := #[] }, (n : Int), { data := #[] }⟩).size ≤ 16384) (r : List UInt8) : rdC (bl (calB id ⟨(4 : Int), 0, 0, ⟨0, 0, { data := #[] }, [], { data := #[] }⟩, bu, on, 0, 0, 0, { data := #[] }, (n : Int), { data := #[] }⟩) ++ r) = (id, ⟨(4 : Int), 0, 0, ⟨0, 0, { data := #[] }, [], { data := #[] }⟩, bu, on, 0, 0, 0, { data := #[] }, (n : Int), { data := #[] }⟩, r) := by
  have hb := wi_le (and2 (and2 (and2 h).1).1).2; have hl := of_decide_eq_true (and2 (and2 h).1).2; have hk4 := List.all_eq_true.1 (and2 h).2; have hbn := (and2 (and2 (and2 (and2 h).1).1).1).1; have hbm := enc_ne (b := bu) (by intro e; rw [e] at hbn; cases hbn); have hz2 : (encA bu).1.size ≤ 16384 := by have h9 := lay1_sz (encA bu).1; simp only [calP4, ByteArray.size_append] at hz; omega
  have e : bl (calB id ⟨(4 : Int), 0, 0, ⟨0, 0, { data := #[] }, [], { data := #[] }⟩, bu, on, 0, 0, 0, { data := #[] }, (n : Int), { data := #[] }⟩) ++ r = Wi.be id 8 ++ (Wi.be 4 1 ++ (Wi.pt (bl (encA bu).1) ++ (Wi.be n 4 ++ (Wi.be on.length 1 ++ (ptL on ++ r))))) := by
    rw [calP4]
    simp only [bl_app, bl_n1, bl_n4, bl_n8, bl_l1, bl_ln, List.append_assoc, Int.toNat_natCast]
  rw [e]
  unfold rdC
  rw [R8 id _ hid]
  simp only []
  rw [R1 4 _ (by decide)]
  simp only []
  rw [rdK_4 rfl rfl rfl rfl]
  rw [RT (encA bu).1 _ hz2]
  simp only []
  rw [R4 n _ (by omega)]
  simp only []
  rw [R1 on.length _ (by omega)]
  simp only []
  rw [txs_enc on [] _ fun s hs => Nat.le_trans (kk_le (hk4 s hs)).2 (by decide)]
  simp only [decA_enc hbm]
  rfl
theorem calP5 {id : Nat} {n : Nat} {no : Nat} {bt : ByteArray} : calB id ⟨(5 : Int), 0, 0, ⟨0, 0, { data := #[] }, [], { data := #[] }⟩, ⟨0, 0, { data := #[] }, { data := #[] }, 0, { data := #[] }, { data := #[] }, 0, { data := #[] }⟩, [], (n : Int), no, 0, { data := #[] }, 0, bt⟩ = (((nbT 8 id ++ nbT 1 5) ++ (nbT 1 (n : Int).toNat ++ nbT 8 no)) ++ layT [bt] 1) := by kernel_rfl
theorem rdC_5 {id : Nat} {n : Nat} {no : Nat} {bt : ByteArray} (h : (isD (n : Int) && wn no 1 1099511627776 && wi ((bt.size : Nat) : Int) 1 4096) = true) (hid : id < 18446744073709551616) (r : List UInt8) : rdC (bl (calB id ⟨(5 : Int), 0, 0, ⟨0, 0, { data := #[] }, [], { data := #[] }⟩, ⟨0, 0, { data := #[] }, { data := #[] }, 0, { data := #[] }, { data := #[] }, 0, { data := #[] }⟩, [], (n : Int), no, 0, { data := #[] }, 0, bt⟩) ++ r) = (id, ⟨(5 : Int), 0, 0, ⟨0, 0, { data := #[] }, [], { data := #[] }⟩, ⟨0, 0, { data := #[] }, { data := #[] }, 0, { data := #[] }, { data := #[] }, 0, { data := #[] }⟩, [], (n : Int), no, 0, { data := #[] }, 0, bt⟩, r) := by
  have hb := wi_le (show wi _ 2 7 = true from (and2 (and2 h).1).1); have hb2 := wn_le (and2 (and2 h).1).2; have hb3 := wi_le (and2 h).2
  have e : bl (calB id ⟨(5 : Int), 0, 0, ⟨0, 0, { data := #[] }, [], { data := #[] }⟩, ⟨0, 0, { data := #[] }, { data := #[] }, 0, { data := #[] }, { data := #[] }, 0, { data := #[] }⟩, [], (n : Int), no, 0, { data := #[] }, 0, bt⟩) ++ r = Wi.be id 8 ++ (Wi.be 5 1 ++ (Wi.be n 1 ++ (Wi.be no 8 ++ (Wi.pt (bl bt) ++ r)))) := by
    rw [calP5]
    simp only [bl_app, bl_n1, bl_n8, bl_l1, List.append_assoc, Int.toNat_natCast]
  rw [e]
  unfold rdC
  rw [R8 id _ hid]
  simp only []
  rw [R1 5 _ (by decide)]
  simp only []
  rw [rdK_5 rfl rfl rfl rfl rfl]
  rw [R1 n _ (by omega)]
  simp only []
  rw [R8 no _ (by omega)]
  simp only []
  rw [RT bt _ (by omega)]
  rfl
theorem calP6 {id : Nat}  {af : Nat} : calB id ⟨(6 : Int), 0, 0, ⟨0, 0, { data := #[] }, [], { data := #[] }⟩, ⟨0, 0, { data := #[] }, { data := #[] }, 0, { data := #[] }, { data := #[] }, 0, { data := #[] }⟩, [], 0, 0, af, { data := #[] }, 0, { data := #[] }⟩ = ((nbT 8 id ++ nbT 1 6) ++ nbT 8 af) := by kernel_rfl
theorem rdC_6 {id : Nat}  {af : Nat} (h : wn af 0 1099511627776 = true) (hid : id < 18446744073709551616) (r : List UInt8) : rdC (bl (calB id ⟨(6 : Int), 0, 0, ⟨0, 0, { data := #[] }, [], { data := #[] }⟩, ⟨0, 0, { data := #[] }, { data := #[] }, 0, { data := #[] }, { data := #[] }, 0, { data := #[] }⟩, [], 0, 0, af, { data := #[] }, 0, { data := #[] }⟩) ++ r) = (id, ⟨(6 : Int), 0, 0, ⟨0, 0, { data := #[] }, [], { data := #[] }⟩, ⟨0, 0, { data := #[] }, { data := #[] }, 0, { data := #[] }, { data := #[] }, 0, { data := #[] }⟩, [], 0, 0, af, { data := #[] }, 0, { data := #[] }⟩, r) := by
  have hb := wn_le h
  have e : bl (calB id ⟨(6 : Int), 0, 0, ⟨0, 0, { data := #[] }, [], { data := #[] }⟩, ⟨0, 0, { data := #[] }, { data := #[] }, 0, { data := #[] }, { data := #[] }, 0, { data := #[] }⟩, [], 0, 0, af, { data := #[] }, 0, { data := #[] }⟩) ++ r = Wi.be id 8 ++ (Wi.be 6 1 ++ (Wi.be af 8 ++ r)) := by
    rw [calP6]
    simp only [bl_app, bl_n1, bl_n8, List.append_assoc]
  rw [e]
  unfold rdC
  rw [R8 id _ hid]
  simp only []
  rw [R1 6 _ (by decide)]
  simp only []
  rw [rdK_6 rfl rfl rfl rfl rfl rfl]
  rw [R8 af _ (by omega)]
  rfl
theorem calP7 {id : Nat}  {af : Nat} : calB id ⟨(7 : Int), 0, 0, ⟨0, 0, { data := #[] }, [], { data := #[] }⟩, ⟨0, 0, { data := #[] }, { data := #[] }, 0, { data := #[] }, { data := #[] }, 0, { data := #[] }⟩, [], 0, 0, af, { data := #[] }, 0, { data := #[] }⟩ = ((nbT 8 id ++ nbT 1 7) ++ nbT 8 af) := by kernel_rfl
theorem rdC_7 {id : Nat}  {af : Nat} (h : wn af 0 1099511627776 = true) (hid : id < 18446744073709551616) (r : List UInt8) : rdC (bl (calB id ⟨(7 : Int), 0, 0, ⟨0, 0, { data := #[] }, [], { data := #[] }⟩, ⟨0, 0, { data := #[] }, { data := #[] }, 0, { data := #[] }, { data := #[] }, 0, { data := #[] }⟩, [], 0, 0, af, { data := #[] }, 0, { data := #[] }⟩) ++ r) = (id, ⟨(7 : Int), 0, 0, ⟨0, 0, { data := #[] }, [], { data := #[] }⟩, ⟨0, 0, { data := #[] }, { data := #[] }, 0, { data := #[] }, { data := #[] }, 0, { data := #[] }⟩, [], 0, 0, af, { data := #[] }, 0, { data := #[] }⟩, r) := by
  have hb := wn_le h
  have e : bl (calB id ⟨(7 : Int), 0, 0, ⟨0, 0, { data := #[] }, [], { data := #[] }⟩, ⟨0, 0, { data := #[] }, { data := #[] }, 0, { data := #[] }, { data := #[] }, 0, { data := #[] }⟩, [], 0, 0, af, { data := #[] }, 0, { data := #[] }⟩) ++ r = Wi.be id 8 ++ (Wi.be 7 1 ++ (Wi.be af 8 ++ r)) := by
    rw [calP7]
    simp only [bl_app, bl_n1, bl_n8, List.append_assoc]
  rw [e]
  unfold rdC
  rw [R8 id _ hid]
  simp only []
  rw [R1 7 _ (by decide)]
  simp only []
  rw [rdK_7 rfl rfl rfl rfl rfl rfl rfl]
  rw [R8 af _ (by omega)]
  rfl
theorem calP8 {id : Nat} {n : Nat} {nm : ByteArray} {bt : ByteArray} : calB id ⟨(8 : Int), 0, 0, ⟨0, 0, { data := #[] }, [], { data := #[] }⟩, ⟨0, 0, { data := #[] }, { data := #[] }, 0, { data := #[] }, { data := #[] }, 0, { data := #[] }⟩, [], 0, 0, 0, nm, (n : Int), bt⟩ = (((nbT 8 id ++ nbT 1 8) ++ (layT [nm] 1 ++ nbT 1 (n : Int).toNat)) ++ layT [bt] 1) := by kernel_rfl
theorem rdC_8 {id : Nat} {n : Nat} {nm : ByteArray} {bt : ByteArray} (h : (wi ((bt.size : Nat) : Int) 1 4096 && wi ((nm.size : Nat) : Int) 1 40 && wi (n : Int) 0 63) = true) (hid : id < 18446744073709551616) (r : List UInt8) : rdC (bl (calB id ⟨(8 : Int), 0, 0, ⟨0, 0, { data := #[] }, [], { data := #[] }⟩, ⟨0, 0, { data := #[] }, { data := #[] }, 0, { data := #[] }, { data := #[] }, 0, { data := #[] }⟩, [], 0, 0, 0, nm, (n : Int), bt⟩) ++ r) = (id, ⟨(8 : Int), 0, 0, ⟨0, 0, { data := #[] }, [], { data := #[] }⟩, ⟨0, 0, { data := #[] }, { data := #[] }, 0, { data := #[] }, { data := #[] }, 0, { data := #[] }⟩, [], 0, 0, 0, nm, (n : Int), bt⟩, r) := by
  have hb := wi_le (and2 (and2 h).1).1; have hb2 := wi_le (and2 (and2 h).1).2; have hb3 := wi_le (and2 h).2
  have e : bl (calB id ⟨(8 : Int), 0, 0, ⟨0, 0, { data := #[] }, [], { data := #[] }⟩, ⟨0, 0, { data := #[] }, { data := #[] }, 0, { data := #[] }, { data := #[] }, 0, { data := #[] }⟩, [], 0, 0, 0, nm, (n : Int), bt⟩) ++ r = Wi.be id 8 ++ (Wi.be 8 1 ++ (Wi.pt (bl nm) ++ (Wi.be n 1 ++ (Wi.pt (bl bt) ++ r)))) := by
    rw [calP8]
    simp only [bl_app, bl_n1, bl_n8, bl_l1, List.append_assoc, Int.toNat_natCast]
  rw [e]
  unfold rdC
  rw [R8 id _ hid]
  simp only []
  rw [R1 8 _ (by decide)]
  simp only []
  rw [rdK_8 rfl rfl rfl rfl rfl rfl rfl rfl]
  rw [RT nm _ (by omega)]
  simp only []
  rw [R1 n _ (by omega)]
  simp only []
  rw [RT bt _ (by omega)]
  rfl
theorem calP9 {id : Nat} {n : Nat} {nm : ByteArray} : calB id ⟨(9 : Int), 0, 0, ⟨0, 0, { data := #[] }, [], { data := #[] }⟩, ⟨0, 0, { data := #[] }, { data := #[] }, 0, { data := #[] }, { data := #[] }, 0, { data := #[] }⟩, [], 0, 0, 0, nm, (n : Int), { data := #[] }⟩ = ((nbT 8 id ++ nbT 1 9) ++ (layT [nm] 1 ++ nbT 1 (n : Int).toNat)) := by kernel_rfl
theorem rdC_9 {id : Nat} {n : Nat} {nm : ByteArray} (h : (wi ((nm.size : Nat) : Int) 1 40 && wi (n : Int) 0 63) = true) (hid : id < 18446744073709551616) (r : List UInt8) : rdC (bl (calB id ⟨(9 : Int), 0, 0, ⟨0, 0, { data := #[] }, [], { data := #[] }⟩, ⟨0, 0, { data := #[] }, { data := #[] }, 0, { data := #[] }, { data := #[] }, 0, { data := #[] }⟩, [], 0, 0, 0, nm, (n : Int), { data := #[] }⟩) ++ r) = (id, ⟨(9 : Int), 0, 0, ⟨0, 0, { data := #[] }, [], { data := #[] }⟩, ⟨0, 0, { data := #[] }, { data := #[] }, 0, { data := #[] }, { data := #[] }, 0, { data := #[] }⟩, [], 0, 0, 0, nm, (n : Int), { data := #[] }⟩, r) := by
  have hb := wi_le (and2 h).1; have hb2 := wi_le (and2 h).2
  have e : bl (calB id ⟨(9 : Int), 0, 0, ⟨0, 0, { data := #[] }, [], { data := #[] }⟩, ⟨0, 0, { data := #[] }, { data := #[] }, 0, { data := #[] }, { data := #[] }, 0, { data := #[] }⟩, [], 0, 0, 0, nm, (n : Int), { data := #[] }⟩) ++ r = Wi.be id 8 ++ (Wi.be 9 1 ++ (Wi.pt (bl nm) ++ (Wi.be n 1 ++ r))) := by
    rw [calP9]
    simp only [bl_app, bl_n1, bl_n8, bl_l1, List.append_assoc, Int.toNat_natCast]
  rw [e]
  unfold rdC
  rw [R8 id _ hid]
  simp only []
  rw [R1 9 _ (by decide)]
  simp only []
  rw [rdK_9 rfl rfl rfl rfl rfl rfl rfl rfl rfl]
  rw [RT nm _ (by omega)]
  simp only []
  rw [R1 n _ (by omega)]
  rfl
theorem rdC_enc {id : Nat} {c : Ca} (hm : mayC c = true) (hid : id < 18446744073709551616) (hz : (calB id c).size ≤ 16384) (r : List UInt8) : rdC (bl (calB id c) ++ r) = (id, c, r) := by
  have hO := mayC_ok hm
  unfold OkC at hO
  obtain ⟨kd, us, dv, li, bu, on, tt, no, af, nm, ix, bt⟩ := c
  rcases hO with ⟨k, h, e⟩ | ⟨k, h, e⟩ | ⟨k, h, e⟩ | ⟨k, h, e⟩ | ⟨k, h, e⟩ | ⟨k, h, e⟩ | ⟨k, h, e⟩ | ⟨k, h, e⟩ | ⟨k, h, e⟩
  · simp only at k; subst k; simp only [Ca.mk.injEq, true_and] at e
    obtain ⟨rfl, rfl, rfl, rfl, rfl, rfl, rfl, rfl, rfl⟩ := e
    obtain ⟨n, rfl⟩ := Int.eq_ofNat_of_zero_le (wi_le (and2 h).2).1
    obtain ⟨m, rfl⟩ := Int.eq_ofNat_of_zero_le (wi_le (and2 h).1).1
    exact rdC_2 h hid r
  · simp only at k; subst k; simp only [Ca.mk.injEq, true_and] at e
    obtain ⟨rfl, rfl, rfl, rfl, rfl, rfl, rfl, rfl, rfl, rfl⟩ := e
    obtain ⟨n, rfl⟩ := Int.eq_ofNat_of_zero_le (wi_le h).1
    exact rdC_1 h hid r
  · simp only at k; subst k; simp only [Ca.mk.injEq, true_and] at e
    obtain ⟨rfl, rfl, rfl, rfl, rfl, rfl, rfl, rfl, rfl, rfl⟩ := e
    exact rdC_3 h hid r
  · simp only at k; subst k; simp only [Ca.mk.injEq, true_and] at e
    obtain ⟨rfl, rfl, rfl, rfl, rfl, rfl, rfl, rfl⟩ := e
    obtain ⟨n, rfl⟩ := Int.eq_ofNat_of_zero_le (show (0 : Int) ≤ ix from Int.le_trans (by decide) (wi_le (and2 (and2 (and2 h).1).1).2).1)
    exact rdC_4 h hid hz r
  · simp only at k; subst k; simp only [Ca.mk.injEq, true_and, and_true] at e
    obtain ⟨rfl, rfl, rfl, rfl, rfl, rfl, rfl, rfl⟩ := e
    obtain ⟨n, rfl⟩ := Int.eq_ofNat_of_zero_le (show (0 : Int) ≤ tt from Int.le_trans (by decide) (wi_le (show wi tt 2 7 = true from (and2 (and2 h).1).1)).1)
    exact rdC_5 h hid r
  · simp only at k; subst k; simp only [Ca.mk.injEq, true_and] at e
    obtain ⟨rfl, rfl, rfl, rfl, rfl, rfl, rfl, rfl, rfl, rfl⟩ := e
    exact rdC_6 h hid r
  · simp only at k; subst k; simp only [Ca.mk.injEq, true_and] at e
    obtain ⟨rfl, rfl, rfl, rfl, rfl, rfl, rfl, rfl, rfl, rfl⟩ := e
    exact rdC_7 h hid r
  · simp only at k; subst k; simp only [Ca.mk.injEq, true_and, and_true] at e
    obtain ⟨rfl, rfl, rfl, rfl, rfl, rfl, rfl, rfl⟩ := e
    obtain ⟨n, rfl⟩ := Int.eq_ofNat_of_zero_le (wi_le (and2 h).2).1
    exact rdC_8 h hid r
  · simp only at k; subst k; simp only [Ca.mk.injEq, true_and] at e
    obtain ⟨rfl, rfl, rfl, rfl, rfl, rfl, rfl, rfl, rfl⟩ := e
    obtain ⟨n, rfl⟩ := Int.eq_ofNat_of_zero_le (wi_le (and2 h).2).1
    exact rdC_9 h hid r
theorem nxn8_lt (bs : List UInt8) : (nxn 8 bs).1 < 18446744073709551616 := by
  unfold nxn
  split
  · have h1 := Wi.val_lt (bs.take 8)
    have h2 : (bs.take 8).length ≤ 8 := List.length_take_le _ _
    have h3 : 256 ^ (bs.take 8).length ≤ 256 ^ 8 := Nat.pow_le_pow_right (by decide) h2
    show Wi.val (bs.take 8) < 18446744073709551616
    omega
  · show (0 : Nat) < 18446744073709551616
    decide
/-- a call's bytes come back -/
theorem encC_ok {id : Nat} {c : Ca} (hm : mayC c = true) (hz : (calB id c).size ≤ 16384) : encC id c = (calB id c, 0) := by
  unfold encC
  rw [hm]
  exact bdA_ok hz
theorem encC_inv {id : Nat} {c : Ca} {y : ByteArray} (h : encC id c = (y, 0)) : mayC c = true ∧ (calB id c).size ≤ 16384 ∧ calB id c = y := by
  unfold encC at h
  rcases hm : mayC c with _ | _
  · rw [hm] at h
    cases h
  · rw [hm] at h
    have h2 : bdA (calB id c) = (y, 0) := h
    unfold bdA at h2
    split at h2
    · next hz =>
      exact ⟨rfl, hz, (Prod.mk.inj h2).1⟩
    · cases h2
theorem decC_enc {id : Nat} {c : Ca} (hm : mayC c = true) (hid : id < 18446744073709551616) (hz : (calB id c).size ≤ 16384) : decC (calB id c) = (id, c, 0) := by
  have h := rdC_enc hm hid hz []
  rw [List.append_nil] at h
  exact decC_y h (encC_ok hm hz) rfl (decide_eq_true rfl)
theorem decC_cases (s : ByteArray) : decC s = (0, ca0, 4) ∨ ∃ id c, decC s = (id, c, 0) ∧ id < 18446744073709551616 ∧ mayC c = true ∧ (calB id c).size ≤ 16384 ∧ calB id c = s := by
  obtain ⟨id, c, r, hrd⟩ : ∃ id c r, rdC (bl s) = (id, c, r) := ⟨_, _, _, rfl⟩
  obtain ⟨y, e, hE⟩ : ∃ y e, encC id c = (y, e) := ⟨_, _, rfl⟩
  rcases q1 : decide (e = 0) with _ | _
  · exact .inl (decC_n hrd hE (af_1 q1))
  rcases q2 : decide (y = s) with _ | _
  · exact .inl (decC_n hrd hE (af_2 q2))
  · right
    obtain rfl := of_decide_eq_true q1
    obtain rfl := of_decide_eq_true q2
    have hi := encC_inv hE
    refine ⟨id, c, decC_y hrd hE q1 q2, ?_, hi⟩
    have := nxn8_lt (bl y)
    have h2 : id = (nxn 8 (bl y)).1 := by
      have := congrArg Prod.fst hrd
      exact this.symm
    omega
end Go.Proofs.Ytiogegoepgkjlaa

namespace Go.Proofs.Ytiogegoepgkjlaa
open Go.RowKit

open Rs
end Go.Proofs.Ytiogegoepgkjlaa
