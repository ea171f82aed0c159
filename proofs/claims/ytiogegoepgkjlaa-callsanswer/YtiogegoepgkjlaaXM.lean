/-
  Bundles and their bytes: each tells the other.
-/
import Derived.Test.YtiogegoepgkjlaaX7
namespace Go.Proofs.Ytiogegoepgkjlaa
open Go.RowKit
namespace Rs
theorem val_cons (c : UInt8) (l : List UInt8) : Wi.val (c :: l) = c.toNat * 256 ^ l.length + Wi.val l := by
  have key : ∀ (l : List UInt8) (a : Nat), l.foldl (fun v c => v * 256 + c.toNat) a = a * 256 ^ l.length + l.foldl (fun v c => v * 256 + c.toNat) 0 := by
    intro l
    induction l with
    | nil => intro a; simp
    | cons d l ih =>
      intro a
      rw [List.foldl_cons, List.foldl_cons, ih (a * 256 + d.toNat), ih (0 * 256 + d.toNat), List.length_cons, Nat.pow_succ, Nat.zero_mul, Nat.zero_add, Nat.add_mul, Nat.mul_comm (256 ^ l.length) 256, ← Nat.mul_assoc]
      omega
  unfold Wi.val
  rw [List.foldl_cons, key l (0 * 256 + c.toNat), Nat.zero_mul, Nat.zero_add]
theorem val_be (m n : Nat) (h : n < 256 ^ m) : Wi.val (Wi.be n m) = n := by
  have key : ∀ (m n : Nat), Wi.val (Wi.be n m) = n % 256 ^ m := by
    intro m
    induction m with
    | zero => intro n; simp [Wi.be, Wi.val, Nat.mod_one]
    | succ m ih =>
      intro n
      rw [Wi.be, val_cons, ih, Wi.be_length, UInt8.toNat_ofNat', show n % 256 ^ (m + 1) = n % (256 ^ m * 256) by rw [Nat.pow_succ], Nat.mod_mul, Nat.mul_comm (256 ^ m)]
      exact Nat.add_comm _ _
  rw [key, Nat.mod_eq_of_lt h]
theorem take_be (n m : Nat) (rest : List UInt8) : (Wi.be n m ++ rest).take m = Wi.be n m := by
  rw [List.take_append_of_le_length (by rw [Wi.be_length]; exact Nat.le_refl _), List.take_of_length_le (by rw [Wi.be_length]; exact Nat.le_refl _)]
theorem nxn_be (m n : Nat) (rest : List UInt8) (h : n < 256 ^ m) : nxn m (Wi.be n m ++ rest) = (n, true, rest) := by
  unfold nxn
  rw [if_pos (by rw [List.length_append, Wi.be_length]; omega), take_be, val_be m n h, List.drop_left' (Wi.be_length n m)]
theorem nxt_pt (m : Nat) (s : ByteArray) (rest : List UInt8) (hm : s.size ≤ m) (h : s.size < 4294967296) : nxt m (Wi.pt s.data.toList ++ rest) = (s, true, rest) := by
  have hn : s.data.toList.length = s.size := by rw [Array.length_toList]; rfl
  have h4 : (Wi.pt s.data.toList ++ rest).take 4 = Wi.be s.size 4 := by rw [Wi.pt, hn, List.append_assoc, take_be]
  have hv : Wi.val ((Wi.pt s.data.toList ++ rest).take 4) = s.size := by rw [h4, val_be 4 _ h]
  have hp : (Wi.pt s.data.toList).length = 4 + s.size := pt_len s
  have hl : (Wi.pt s.data.toList ++ rest).length = 4 + s.size + rest.length := by rw [List.length_append, hp]
  unfold nxt
  rw [hv, if_pos (by rw [hl]; omega)]
  have e1 : Wi.txt (Wi.pt s.data.toList ++ rest) = s.data.toList := by
    unfold Wi.txt
    rw [hv, Wi.pt, hn, List.append_assoc, List.drop_left' (Wi.be_length _ 4), List.take_append_of_le_length (by rw [hn]; exact Nat.le_refl _), List.take_of_length_le (by rw [hn]; exact Nat.le_refl _)]
  rw [e1, List.drop_left' hp]
end Rs
open Rs
theorem rdB_enc {u d : Nat} {sg dh : ByteArray} {pi : Nat} {pr ps : ByteArray} {oi : Nat} {on : ByteArray} (hu : u < 256) (hd : d < 256) (hp : pi < 4294967296) (ho : oi < 4294967296) (hsg : sg.size ≤ 16384) (hdh : dh.size ≤ 16384) (hpr : pr.size ≤ 16384) (hps : ps.size ≤ 16384) (hon : on.size ≤ 16384) :
    rdB (encL u d sg dh pi pr ps oi on) = (mkB u d sg dh pi pr ps oi on, true, []) := by
  have e : encL u d sg dh pi pr ps oi on = Wi.be u 1 ++ (Wi.be d 1 ++ (Wi.pt sg.data.toList ++ (Wi.pt dh.data.toList ++ (Wi.be pi 4 ++ (Wi.pt pr.data.toList ++ (Wi.pt ps.data.toList ++ (Wi.be oi 4 ++ (Wi.pt on.data.toList ++ [])))))))) := by
    unfold encL
    simp only [List.append_assoc, List.append_nil]
    rfl
  rw [e]
  unfold rdB
  rw [nxn_be 1 u _ hu]
  simp only []
  rw [nxn_be 1 d _ hd]
  simp only []
  rw [nxt_pt 16384 sg _ hsg (by omega)]
  simp only []
  rw [nxt_pt 16384 dh _ hdh (by omega)]
  simp only []
  rw [nxn_be 4 pi _ hp]
  simp only []
  rw [nxt_pt 16384 pr _ hpr (by omega)]
  simp only []
  rw [nxt_pt 16384 ps _ hps (by omega)]
  simp only []
  rw [nxn_be 4 oi _ ho]
  simp only []
  rw [nxt_pt 16384 on _ hon (by omega)]
  rfl
theorem encB_L {x : Bu} (hM : MayX x) : encB x = bsA (encL x.u.toNat x.d.toNat x.sg x.dh x.pi.toNat x.pr x.ps x.oi.toNat x.on) := by
  have := encB_eq x.u.toNat x.d.toNat x.sg x.dh x.pi.toNat x.pr x.ps x.oi.toNat x.on
  rw [← bu_nat hM] at this
  exact this
theorem dec_enc {x : Bu} (hx : mayX x = true) : decA (encB x) = (x, 0) := by
  have hM := mayX_iff hx
  have h1 := hM.u0; have h2 := hM.d0; have h3 := hM.p0; have h4 := hM.o0; have h5 := hM.u1; have h6 := hM.d1; have h7 := hM.p1; have h8 := hM.o1
  have e := rdB_enc (u := x.u.toNat) (d := x.d.toNat) (sg := x.sg) (dh := x.dh) (pi := x.pi.toNat) (pr := x.pr) (ps := x.ps) (oi := x.oi.toNat) (on := x.on) (by omega) (by omega) (by omega) (by omega) hM.sg hM.dh hM.pr hM.ps hM.on
  rw [← bu_nat hM] at e
  have e2 : bl (encB x) = encL x.u.toNat x.d.toNat x.sg x.dh x.pi.toNat x.pr x.ps x.oi.toNat x.on := by rw [encB_L hM]; unfold bl bsA; simp
  unfold decA
  rw [e2, e, if_pos ⟨rfl, rfl, hx⟩]
end Go.Proofs.Ytiogegoepgkjlaa
