/-
  Bundles and their bytes: each tells the other.
-/
import Derived.Test.YtoogiblkommdfaaGreatX7
namespace Go.Proofs.YtoogiblkommdfaaGreat
open Go.RowKit
namespace Rs
theorem val_cons (c : UInt8) (l : List UInt8) : Wi.val (c :: l) = c.toNat * 256 ^ l.length + Wi.val l := by
  have key : ∀ (l : List UInt8) (a : Nat), l.foldl (fun v c => v * 256 + c.toNat) a = a * 256 ^ l.length + l.foldl (fun v c => v * 256 + c.toNat) 0 := by
    intro l
    induction l with
    | nil => intro a; simp
    | cons d l ih =>
      intro a
      rw [List.foldl_cons, List.foldl_cons, ih (a * 256 + d.toNat), ih (0 * 256 + d.toNat), List.length_cons, Nat.pow_succ, Nat.zero_mul, Nat.zero_add, Nat.add_mul, Nat.mul_comm (256 ^ l.length) 256, ← Nat.mul_assoc]
      omega
  unfold Wi.val
  rw [List.foldl_cons, key l (0 * 256 + c.toNat), Nat.zero_mul, Nat.zero_add]
theorem val_be (m n : Nat) (h : n < 256 ^ m) : Wi.val (Wi.be n m) = n := by
  have key : ∀ (m n : Nat), Wi.val (Wi.be n m) = n % 256 ^ m := by
    intro m
    induction m with
    | zero => intro n; simp [Wi.be, Wi.val, Nat.mod_one]
    | succ m ih =>
      intro n
      rw [Wi.be, val_cons, ih, Wi.be_length, UInt8.toNat_ofNat', show n % 256 ^ (m + 1) = n % (256 ^ m * 256) by rw [Nat.pow_succ], Nat.mod_mul, Nat.mul_comm (256 ^ m)]
      exact Nat.add_comm _ _
  rw [key, Nat.mod_eq_of_lt h]
theorem be_add : ∀ (n k v : Nat), Wi.be (v + k * 256 ^ n) n = Wi.be v n
  | 0, _, _ => rfl
  | n + 1, k, v => by
    have e : v + k * 256 ^ (n + 1) = v + (k * 256) * 256 ^ n := by rw [Nat.pow_succ, Nat.mul_assoc, Nat.mul_comm 256]
    rw [Wi.be, Wi.be, e, be_add n (k * 256) v, Nat.add_mul_div_right _ _ (Nat.pow_pos (by decide))]
    congr 1
    apply UInt8.toNat.inj
    rw [UInt8.toNat_ofNat', UInt8.toNat_ofNat']
    omega
theorem be_val : ∀ (l : List UInt8), Wi.be (Wi.val l) l.length = l
  | [] => rfl
  | c :: l => by
    have hl := Wi.val_lt l
    have hp : 0 < 256 ^ l.length := Nat.pow_pos (by decide)
    rw [List.length_cons, Wi.be, val_cons, Nat.add_comm (c.toNat * _), be_add, be_val l, Nat.add_mul_div_right _ _ hp, Nat.div_eq_of_lt hl, Nat.zero_add]
    congr 1
    apply UInt8.toNat.inj
    rw [UInt8.toNat_ofNat']
    have := c.toNat_lt
    omega
theorem take_be (n m : Nat) (rest : List UInt8) : (Wi.be n m ++ rest).take m = Wi.be n m := by
  rw [List.take_append_of_le_length (by rw [Wi.be_length]; exact Nat.le_refl _), List.take_of_length_le (by rw [Wi.be_length]; exact Nat.le_refl _)]
theorem nxn_be (m n : Nat) (rest : List UInt8) (h : n < 256 ^ m) : nxn m (Wi.be n m ++ rest) = (n, true, rest) := by
  unfold nxn
  rw [if_pos (by rw [List.length_append, Wi.be_length]; omega), take_be, val_be m n h, List.drop_left' (Wi.be_length n m)]
theorem nxt_pt (m : Nat) (s : ByteArray) (rest : List UInt8) (hm : s.size ≤ m) (h : s.size < 4294967296) : nxt m (Wi.pt s.data.toList ++ rest) = (s, true, rest) := by
  have hn : s.data.toList.length = s.size := by rw [Array.length_toList]; rfl
  have h4 : (Wi.pt s.data.toList ++ rest).take 4 = Wi.be s.size 4 := by rw [Wi.pt, hn, List.append_assoc, take_be]
  have hv : Wi.val ((Wi.pt s.data.toList ++ rest).take 4) = s.size := by rw [h4, val_be 4 _ h]
  have hp : (Wi.pt s.data.toList).length = 4 + s.size := pt_len s
  have hl : (Wi.pt s.data.toList ++ rest).length = 4 + s.size + rest.length := by rw [List.length_append, hp]
  unfold nxt
  rw [hv, if_pos (by rw [hl]; omega)]
  have e1 : Wi.txt (Wi.pt s.data.toList ++ rest) = s.data.toList := by
    unfold Wi.txt
    rw [hv, Wi.pt, hn, List.append_assoc, List.drop_left' (Wi.be_length _ 4), List.take_append_of_le_length (by rw [hn]; exact Nat.le_refl _), List.take_of_length_le (by rw [hn]; exact Nat.le_refl _)]
  rw [e1, List.drop_left' hp]
theorem nxn_inv {m v : Nat} {bs r : List UInt8} (h : nxn m bs = (v, true, r)) : Wi.be v m ++ r = bs := by
  unfold nxn at h
  split at h
  · next hc =>
    obtain ⟨rfl, g⟩ := Prod.mk.inj h
    obtain ⟨-, rfl⟩ := Prod.mk.inj g
    have e := be_val (bs.take m)
    rw [List.length_take, Nat.min_eq_left hc] at e
    rw [e, List.take_append_drop]
  · cases h
theorem nxt_inv {m : Nat} {t : ByteArray} {bs r : List UInt8} (h : nxt m bs = (t, true, r)) : Wi.pt t.data.toList ++ r = bs ∧ t.size ≤ m := by
  unfold nxt at h
  split at h
  · next hc =>
    obtain ⟨rfl, g⟩ := Prod.mk.inj h
    obtain ⟨-, rfl⟩ := Prod.mk.inj g
    have hl : (Wi.txt bs).length = Wi.val (bs.take 4) := by
      unfold Wi.txt
      rw [List.length_take, List.length_drop]; omega
    have e := be_val (bs.take 4)
    rw [List.length_take, Nat.min_eq_left hc.1] at e
    refine ⟨?_, by show ((Wi.txt bs).toArray).size ≤ m; rw [List.size_toArray, hl]; exact hc.2.1⟩
    show Wi.be ((Wi.txt bs).toArray.toList).length 4 ++ (Wi.txt bs).toArray.toList ++ _ = bs
    rw [show (Wi.txt bs).toArray.toList = Wi.txt bs from by simp, hl, e]
    unfold Wi.txt
    rw [← List.drop_drop, List.append_assoc, List.take_append_drop, List.take_append_drop]
  · cases h
end Rs
open Rs
theorem rdB_enc {u d : Nat} {sg dh : ByteArray} {pi : Nat} {pr ps : ByteArray} {oi : Nat} {on : ByteArray} (hu : u < 256) (hd : d < 256) (hp : pi < 4294967296) (ho : oi < 4294967296) (hsg : sg.size ≤ 16384) (hdh : dh.size ≤ 16384) (hpr : pr.size ≤ 16384) (hps : ps.size ≤ 16384) (hon : on.size ≤ 16384) :
    rdB (encL u d sg dh pi pr ps oi on) = (mkB u d sg dh pi pr ps oi on, true, []) := by
  have e : encL u d sg dh pi pr ps oi on = Wi.be u 1 ++ (Wi.be d 1 ++ (Wi.pt sg.data.toList ++ (Wi.pt dh.data.toList ++ (Wi.be pi 4 ++ (Wi.pt pr.data.toList ++ (Wi.pt ps.data.toList ++ (Wi.be oi 4 ++ (Wi.pt on.data.toList ++ [])))))))) := by
    unfold encL
    simp only [List.append_assoc, List.append_nil]
    rfl
  rw [e]
  unfold rdB
  rw [nxn_be 1 u _ hu]
  simp only []
  rw [nxn_be 1 d _ hd]
  simp only []
  rw [nxt_pt 16384 sg _ hsg (by omega)]
  simp only []
  rw [nxt_pt 16384 dh _ hdh (by omega)]
  simp only []
  rw [nxn_be 4 pi _ hp]
  simp only []
  rw [nxt_pt 16384 pr _ hpr (by omega)]
  simp only []
  rw [nxt_pt 16384 ps _ hps (by omega)]
  simp only []
  rw [nxn_be 4 oi _ ho]
  simp only []
  rw [nxt_pt 16384 on _ hon (by omega)]
  rfl
theorem encB_L {x : Bu} (hM : MayX x) : encB x = bsA (encL x.u.toNat x.d.toNat x.sg x.dh x.pi.toNat x.pr x.ps x.oi.toNat x.on) := by
  have := encB_eq x.u.toNat x.d.toNat x.sg x.dh x.pi.toNat x.pr x.ps x.oi.toNat x.on
  rw [← bu_nat hM] at this
  exact this
theorem dec_enc {x : Bu} (hx : mayX x = true) : decA (encB x) = (x, 0) := by
  have hM := mayX_iff hx
  have h1 := hM.u0; have h2 := hM.d0; have h3 := hM.p0; have h4 := hM.o0; have h5 := hM.u1; have h6 := hM.d1; have h7 := hM.p1; have h8 := hM.o1
  have e := rdB_enc (u := x.u.toNat) (d := x.d.toNat) (sg := x.sg) (dh := x.dh) (pi := x.pi.toNat) (pr := x.pr) (ps := x.ps) (oi := x.oi.toNat) (on := x.on) (by omega) (by omega) (by omega) (by omega) hM.sg hM.dh hM.pr hM.ps hM.on
  rw [← bu_nat hM] at e
  have e2 : bl (encB x) = encL x.u.toNat x.d.toNat x.sg x.dh x.pi.toNat x.pr x.ps x.oi.toNat x.on := by rw [encB_L hM]; unfold bl bsA; simp
  unfold decA
  rw [e2, e, if_pos ⟨rfl, rfl, hx⟩]
theorem dec_cases (s : ByteArray) : decA s = (bu0, 4) ∨ ∃ c, decA s = (c, 0) ∧ encA c = (s, 0) := by
  unfold decA
  split
  · next hc =>
    refine .inr ⟨_, rfl, ?_⟩
    obtain ⟨hO, hl, hx⟩ := hc
    obtain ⟨x1, o1, r1, i1⟩ : ∃ x o r, nxn 1 (bl s) = (x, o, r) := ⟨_, _, _, rfl⟩
    obtain ⟨x2, o2, r2, i2⟩ : ∃ x o r, nxn 1 r1 = (x, o, r) := ⟨_, _, _, rfl⟩
    obtain ⟨x3, o3, r3, i3⟩ : ∃ x o r, nxt 16384 r2 = (x, o, r) := ⟨_, _, _, rfl⟩
    obtain ⟨x4, o4, r4, i4⟩ : ∃ x o r, nxt 16384 r3 = (x, o, r) := ⟨_, _, _, rfl⟩
    obtain ⟨x5, o5, r5, i5⟩ : ∃ x o r, nxn 4 r4 = (x, o, r) := ⟨_, _, _, rfl⟩
    obtain ⟨x6, o6, r6, i6⟩ : ∃ x o r, nxt 16384 r5 = (x, o, r) := ⟨_, _, _, rfl⟩
    obtain ⟨x7, o7, r7, i7⟩ : ∃ x o r, nxt 16384 r6 = (x, o, r) := ⟨_, _, _, rfl⟩
    obtain ⟨x8, o8, r8, i8⟩ : ∃ x o r, nxn 4 r7 = (x, o, r) := ⟨_, _, _, rfl⟩
    obtain ⟨x9, o9, r9, i9⟩ : ∃ x o r, nxt 16384 r8 = (x, o, r) := ⟨_, _, _, rfl⟩
    have e : rdB (bl s) = (mkB x1 x2 x3 x4 x5 x6 x7 x8 x9, (true && o1 && o2 && o3 && o4 && o5 && o6 && o7 && o8 && o9), r9) := by
      unfold rdB
      simp only [i1, i2, i3, i4, i5, i6, i7, i8, i9]
    rw [e] at hO hl hx ⊢
    simp only [Bool.and_eq_true] at hO
    obtain ⟨⟨⟨⟨⟨⟨⟨⟨⟨-, rfl⟩, rfl⟩, rfl⟩, rfl⟩, rfl⟩, rfl⟩, rfl⟩, rfl⟩, rfl⟩ := hO
    simp only at hl hx
    obtain rfl := List.length_eq_zero_iff.1 hl
    unfold encA
    simp only
    rw [if_pos hx]
    have hs : bl s = encL x1 x2 x3 x4 x5 x6 x7 x8 x9 := by
      rw [← nxn_inv i1, ← nxn_inv i2, ← (nxt_inv i3).1, ← (nxt_inv i4).1, ← nxn_inv i5, ← (nxt_inv i6).1, ← (nxt_inv i7).1, ← nxn_inv i8, ← (nxt_inv i9).1]
      unfold encL
      simp only [List.append_assoc, List.append_nil]
      rfl
    rw [encB_eq, ← hs]
    congr 1
  · exact .inl rfl
theorem enc_E {w : World} {x : Bu} {y : ByteArray} {n : Nat} (h : encA x = (y, n)) :
    Calls Tryz.prog 10 #[.agg (buC x)] w fun e w' => e = .returned (.tuple #[.string y, iN .i64 n]) ∧ Below w.heap.size w w' := by
  have := enc_any (w := w) x
  rw [h] at this
  exact this
theorem dec_E {w : World} {s : ByteArray} {c : Bu} {n : Nat} (hs : s.size ≤ 140737488351232) (h : decA s = (c, n)) :
    Calls Tryz.prog 12 #[.string s] w fun e w' => e = .returned (.tuple #[.agg (buC c), iN .i64 n]) ∧ Below w.heap.size w w' := by
  have := dec_any (w := w) s hs
  rw [h] at this
  exact this
end Go.Proofs.YtoogiblkommdfaaGreat
