/-
  Words and their bytes; what is mixed; the box leads back.
-/
import Derived.Test.YthljhhhjdajfhaaAM
namespace Go.Proofs.Ythljhhhjdajfhaa
open Go.RowKit

theorem wo_toNat (a b c d : UInt8) : (wo a b c d).toNat = 16777216 * a.toNat + 65536 * b.toNat + 256 * c.toNat + d.toNat := by
  have ha := a.toNat_lt
  have hb := b.toNat_lt
  have hc := c.toNat_lt
  have hd := d.toNat_lt
  have e1 : ∀ n k, n < 256 → k ≤ 24 → (BitVec.ofNat 32 n <<< k).toNat = 2 ^ k * n := fun n k hn hk => by
    have h2 : 2 ^ k * n < 2 ^ 32 := by
      have h3 : 2 ^ k ≤ 2 ^ 24 := Nat.pow_le_pow_right (by decide) hk
      calc 2 ^ k * n ≤ 2 ^ 24 * n := Nat.mul_le_mul_right _ h3
        _ < 2 ^ 32 := by omega
    have h4 : n % 2 ^ 32 = n := Nat.mod_eq_of_lt (by omega)
    rw [BitVec.toNat_shiftLeft, BitVec.toNat_ofNat, h4, Nat.shiftLeft_eq, Nat.mul_comm, Nat.mod_eq_of_lt h2]
  have e0 : (BitVec.ofNat 32 d.toNat).toNat = d.toNat := by rw [BitVec.toNat_ofNat]; omega
  unfold wo
  rw [BitVec.toNat_or, BitVec.toNat_or, BitVec.toNat_or, e1 _ 24 ha (by decide), e1 _ 16 hb (by decide), e1 _ 8 hc (by decide), e0]
  have o1 := Nat.two_pow_add_eq_or_of_lt (i := 24) (b := 2 ^ 16 * b.toNat) (by omega) a.toNat
  rw [← o1, show 2 ^ 24 * a.toNat + 2 ^ 16 * b.toNat = 2 ^ 16 * (2 ^ 8 * a.toNat + b.toNat) by omega]
  have o2 := Nat.two_pow_add_eq_or_of_lt (i := 16) (b := 2 ^ 8 * c.toNat) (by omega) (2 ^ 8 * a.toNat + b.toNat)
  rw [← o2, show 2 ^ 16 * (2 ^ 8 * a.toNat + b.toNat) + 2 ^ 8 * c.toNat = 2 ^ 8 * (2 ^ 8 * (2 ^ 8 * a.toNat + b.toNat) + c.toNat) by omega]
  have o3 := Nat.two_pow_add_eq_or_of_lt (i := 8) (b := d.toNat) (by omega) (2 ^ 8 * (2 ^ 8 * a.toNat + b.toNat) + c.toNat)
  rw [← o3]
  all_goals omega
theorem B3_nat (x : BitVec 32) : (B3 x).toNat = x.toNat / 16777216 % 256 := by unfold B3; rw [UInt8.toNat_ofNat', BitVec.toNat_ushiftRight, Nat.shiftRight_eq_div_pow]
theorem B2_nat (x : BitVec 32) : (B2 x).toNat = x.toNat / 65536 % 256 := by unfold B2; rw [UInt8.toNat_ofNat', BitVec.toNat_ushiftRight, Nat.shiftRight_eq_div_pow]
theorem B1_nat (x : BitVec 32) : (B1 x).toNat = x.toNat / 256 % 256 := by unfold B1; rw [UInt8.toNat_ofNat', BitVec.toNat_ushiftRight, Nat.shiftRight_eq_div_pow]
theorem B0_nat (x : BitVec 32) : (B0 x).toNat = x.toNat % 256 := by unfold B0; rw [UInt8.toNat_ofNat']
theorem B3_wo (a b c d : UInt8) : B3 (wo a b c d) = a := UInt8.toNat_inj.1 (by
  have ha := a.toNat_lt; have hb := b.toNat_lt; have hc := c.toNat_lt; have hd := d.toNat_lt
  rw [B3_nat, wo_toNat]; omega)
theorem B2_wo (a b c d : UInt8) : B2 (wo a b c d) = b := UInt8.toNat_inj.1 (by
  have ha := a.toNat_lt; have hb := b.toNat_lt; have hc := c.toNat_lt; have hd := d.toNat_lt
  rw [B2_nat, wo_toNat]; omega)
theorem B1_wo (a b c d : UInt8) : B1 (wo a b c d) = c := UInt8.toNat_inj.1 (by
  have ha := a.toNat_lt; have hb := b.toNat_lt; have hc := c.toNat_lt; have hd := d.toNat_lt
  rw [B1_nat, wo_toNat]; omega)
theorem B0_wo (a b c d : UInt8) : B0 (wo a b c d) = d := UInt8.toNat_inj.1 (by
  have ha := a.toNat_lt; have hb := b.toNat_lt; have hc := c.toNat_lt; have hd := d.toNat_lt
  rw [B0_nat, wo_toNat]; omega)
theorem wo_B (x : BitVec 32) : wo (B3 x) (B2 x) (B1 x) (B0 x) = x := BitVec.eq_of_toNat_eq (by
  have hx := x.isLt
  rw [wo_toNat, B3_nat, B2_nat, B1_nat, B0_nat]; omega)
theorem ext_B {x y : BitVec 32} (h3 : B3 x = B3 y) (h2 : B2 x = B2 y) (h1 : B1 x = B1 y) (h0 : B0 x = B0 y) : x = y := by rw [← wo_B x, ← wo_B y, h3, h2, h1, h0]
theorem wo_inj {a b c d a' b' c' d' : UInt8} (h : wo a b c d = wo a' b' c' d') : a = a' ∧ b = b' ∧ c = c' ∧ d = d' :=
  ⟨by rw [← B3_wo a b c d, h, B3_wo], by rw [← B2_wo a b c d, h, B2_wo], by rw [← B1_wo a b c d, h, B1_wo], by rw [← B0_wo a b c d, h, B0_wo]⟩
theorem of_xor (m n : Nat) : UInt8.ofNat (m ^^^ n) = UInt8.ofNat m ^^^ UInt8.ofNat n := UInt8.toNat_inj.1 (by
  rw [UInt8.toNat_xor, UInt8.toNat_ofNat', UInt8.toNat_ofNat', UInt8.toNat_ofNat']
  exact Nat.xor_mod_two_pow (n := 8))
theorem B3_xor (x y : BitVec 32) : B3 (x ^^^ y) = B3 x ^^^ B3 y := by unfold B3; rw [BitVec.ushiftRight_xor_distrib, BitVec.toNat_xor, of_xor]
theorem B2_xor (x y : BitVec 32) : B2 (x ^^^ y) = B2 x ^^^ B2 y := by unfold B2; rw [BitVec.ushiftRight_xor_distrib, BitVec.toNat_xor, of_xor]
theorem B1_xor (x y : BitVec 32) : B1 (x ^^^ y) = B1 x ^^^ B1 y := by unfold B1; rw [BitVec.ushiftRight_xor_distrib, BitVec.toNat_xor, of_xor]
theorem B0_xor (x y : BitVec 32) : B0 (x ^^^ y) = B0 x ^^^ B0 y := by unfold B0; rw [BitVec.toNat_xor, of_xor]
theorem wo_xor (a b c d a' b' c' d' : UInt8) : wo (a ^^^ a') (b ^^^ b') (c ^^^ c') (d ^^^ d') = wo a b c d ^^^ wo a' b' c' d' :=
  ext_B (by rw [B3_xor, B3_wo, B3_wo, B3_wo]) (by rw [B2_xor, B2_wo, B2_wo, B2_wo]) (by rw [B1_xor, B1_wo, B1_wo, B1_wo]) (by rw [B0_xor, B0_wo, B0_wo, B0_wo])
theorem wo_parts (a b c d : UInt8) : wo a b c d = wo a 0 0 0 ^^^ wo 0 b 0 0 ^^^ wo 0 0 c 0 ^^^ wo 0 0 0 d := by
  rw [← wo_xor, ← wo_xor, ← wo_xor]
  simp only [UInt8.xor_zero, UInt8.zero_xor]
theorem rlW_xor (x y : BitVec 32) (k : Nat) (hk : k ≤ 32) : rlW (x ^^^ y) k = rlW x k ^^^ rlW y k := by
  unfold rlW
  apply BitVec.eq_of_getLsbD_eq
  intro i hi
  simp only [BitVec.getLsbD_or, BitVec.getLsbD_xor, BitVec.getLsbD_shiftLeft, BitVec.getLsbD_ushiftRight]
  by_cases h : i < k
  · simp [h]
  · have e : ∀ z : BitVec 32, z.getLsbD (32 - k + i) = false := fun z => BitVec.getLsbD_of_ge z _ (by omega)
    simp [h, e, hi]
theorem mul27 (u : BitVec 32) : (u &&& 16843009#32) * 27#32 = (u &&& 16843009#32) ^^^ (u &&& 16843009#32) <<< 1 ^^^ (u &&& 16843009#32) <<< 3 ^^^ (u &&& 16843009#32) <<< 4 := by
  have e : u &&& 16843009#32 = (u &&& BitVec.twoPow 32 24) ||| (u &&& BitVec.twoPow 32 16) ||| (u &&& BitVec.twoPow 32 8) ||| (u &&& BitVec.twoPow 32 0) := by
    rw [← BitVec.and_or_distrib_left, ← BitVec.and_or_distrib_left, ← BitVec.and_or_distrib_left]
    congr 1
  rw [e, BitVec.and_twoPow, BitVec.and_twoPow, BitVec.and_twoPow, BitVec.and_twoPow]
  cases u.getLsbD 24 <;> cases u.getLsbD 16 <;> cases u.getLsbD 8 <;> cases u.getLsbD 0 <;> decide
theorem and_xor_r (x y m : BitVec 32) : (x ^^^ y) &&& m = (x &&& m) ^^^ (y &&& m) := by
  apply BitVec.eq_of_getLsbD_eq
  intro i _
  simp only [BitVec.getLsbD_and, BitVec.getLsbD_xor]
  cases x.getLsbD i <;> cases y.getLsbD i <;> cases m.getLsbD i <;> rfl
theorem twc_xor (x y : BitVec 32) : twc (x ^^^ y) = twc x ^^^ twc y := by
  unfold twc
  rw [mul27, mul27, mul27]
  simp only [BitVec.ushiftRight_xor_distrib, and_xor_r, BitVec.shiftLeft_xor_distrib]
  ac_rfl
theorem mixW_xor (x y : BitVec 32) : mixW (x ^^^ y) = mixW x ^^^ mixW y := by
  unfold mixW
  rw [twc_xor, show x ^^^ y ^^^ (twc x ^^^ twc y) = (x ^^^ twc x) ^^^ (y ^^^ twc y) by ac_rfl, rlW_xor _ _ 8 (by decide), rlW_xor x y 16 (by decide), rlW_xor x y 24 (by decide)]
  ac_rfl
/-- twice, of a byte -/
def xt (a : UInt8) : UInt8 := UInt8.ofNat (a.toNat * 2) ^^^ (if 128 ≤ a.toNat then 27 else 0)
theorem all8 {p : UInt8 → Prop} (h : ∀ n, n < 256 → p (UInt8.ofNat n)) (a : UInt8) : p a := by
  have := h a.toNat a.toNat_lt
  rwa [UInt8.ofNat_toNat] at this
set_option maxRecDepth 100000 in
theorem mix_a : ∀ n, n < 256 → mixW (wo (UInt8.ofNat n) 0 0 0) = wo (xt (UInt8.ofNat n)) (UInt8.ofNat n) (UInt8.ofNat n) (xt (UInt8.ofNat n) ^^^ UInt8.ofNat n) := by decide +kernel
set_option maxRecDepth 100000 in
theorem mix_b : ∀ n, n < 256 → mixW (wo 0 (UInt8.ofNat n) 0 0) = wo (xt (UInt8.ofNat n) ^^^ UInt8.ofNat n) (xt (UInt8.ofNat n)) (UInt8.ofNat n) (UInt8.ofNat n) := by decide +kernel
set_option maxRecDepth 100000 in
theorem mix_c : ∀ n, n < 256 → mixW (wo 0 0 (UInt8.ofNat n) 0) = wo (UInt8.ofNat n) (xt (UInt8.ofNat n) ^^^ UInt8.ofNat n) (xt (UInt8.ofNat n)) (UInt8.ofNat n) := by decide +kernel
set_option maxRecDepth 100000 in
theorem mix_d : ∀ n, n < 256 → mixW (wo 0 0 0 (UInt8.ofNat n)) = wo (UInt8.ofNat n) (UInt8.ofNat n) (xt (UInt8.ofNat n) ^^^ UInt8.ofNat n) (xt (UInt8.ofNat n)) := by decide +kernel
theorem mixL_a (a : UInt8) : mixW (wo a 0 0 0) = wo (xt a) a a (xt a ^^^ a) := all8 (p := fun a => mixW (wo a 0 0 0) = wo (xt a) a a (xt a ^^^ a)) mix_a a
theorem mixL_b (b : UInt8) : mixW (wo 0 b 0 0) = wo (xt b ^^^ b) (xt b) b b := all8 (p := fun b => mixW (wo 0 b 0 0) = wo (xt b ^^^ b) (xt b) b b) mix_b b
theorem mixL_c (c : UInt8) : mixW (wo 0 0 c 0) = wo c (xt c ^^^ c) (xt c) c := all8 (p := fun c => mixW (wo 0 0 c 0) = wo c (xt c ^^^ c) (xt c) c) mix_c c
theorem mixL_d (d : UInt8) : mixW (wo 0 0 0 d) = wo d d (xt d ^^^ d) (xt d) := all8 (p := fun d => mixW (wo 0 0 0 d) = wo d d (xt d ^^^ d) (xt d)) mix_d d
/-- a column, mixed -/
theorem mix_wo (a b c d : UInt8) : mixW (wo a b c d) = wo (xt a ^^^ (xt b ^^^ b) ^^^ c ^^^ d) (a ^^^ xt b ^^^ (xt c ^^^ c) ^^^ d) (a ^^^ b ^^^ xt c ^^^ (xt d ^^^ d)) ((xt a ^^^ a) ^^^ b ^^^ c ^^^ xt d) := by
  rw [wo_parts, mixW_xor, mixW_xor, mixW_xor, mixL_a, mixL_b, mixL_c, mixL_d, ← wo_xor, ← wo_xor, ← wo_xor]
/-- four times mixed, it is as it was -/
def m4 (x : BitVec 32) : BitVec 32 := mixW (mixW (mixW (mixW x)))
set_option maxRecDepth 100000 in
theorem m4_a : ∀ n, n < 256 → m4 (wo (UInt8.ofNat n) 0 0 0) = wo (UInt8.ofNat n) 0 0 0 := by decide +kernel
set_option maxRecDepth 100000 in
theorem m4_b : ∀ n, n < 256 → m4 (wo 0 (UInt8.ofNat n) 0 0) = wo 0 (UInt8.ofNat n) 0 0 := by decide +kernel
set_option maxRecDepth 100000 in
theorem m4_c : ∀ n, n < 256 → m4 (wo 0 0 (UInt8.ofNat n) 0) = wo 0 0 (UInt8.ofNat n) 0 := by decide +kernel
set_option maxRecDepth 100000 in
theorem m4_d : ∀ n, n < 256 → m4 (wo 0 0 0 (UInt8.ofNat n)) = wo 0 0 0 (UInt8.ofNat n) := by decide +kernel
theorem m4L_a (a : UInt8) : m4 (wo a 0 0 0) = wo a 0 0 0 := all8 (p := fun a => m4 (wo a 0 0 0) = wo a 0 0 0) m4_a a
theorem m4L_b (b : UInt8) : m4 (wo 0 b 0 0) = wo 0 b 0 0 := all8 (p := fun b => m4 (wo 0 b 0 0) = wo 0 b 0 0) m4_b b
theorem m4L_c (c : UInt8) : m4 (wo 0 0 c 0) = wo 0 0 c 0 := all8 (p := fun c => m4 (wo 0 0 c 0) = wo 0 0 c 0) m4_c c
theorem m4L_d (d : UInt8) : m4 (wo 0 0 0 d) = wo 0 0 0 d := all8 (p := fun d => m4 (wo 0 0 0 d) = wo 0 0 0 d) m4_d d
theorem m4_same (x : BitVec 32) : m4 x = x := by
  have hx : ∀ x y, m4 (x ^^^ y) = m4 x ^^^ m4 y := fun x y => by unfold m4; rw [mixW_xor, mixW_xor, mixW_xor, mixW_xor]
  rw [← wo_B x, wo_parts, hx, hx, hx, m4L_a, m4L_b, m4L_c, m4L_d]
theorem mixW_inj {x y : BitVec 32} (h : mixW x = mixW y) : x = y := by
  rw [← m4_same x, ← m4_same y]
  unfold m4
  rw [h]
def invL : List UInt8 := [82, 9, 106, 213, 48, 54, 165, 56, 191, 64, 163, 158, 129, 243, 215, 251, 124, 227, 57, 130, 155, 47, 255, 135, 52, 142, 67, 68, 196, 222, 233, 203, 84, 123, 148, 50, 166, 194, 35, 61, 238, 76, 149, 11, 66, 250, 195, 78, 8, 46, 161, 102, 40, 217, 36, 178, 118, 91, 162, 73, 109, 139, 209, 37, 114, 248, 246, 100, 134, 104, 152, 22, 212, 164, 92, 204, 93, 101, 182, 146, 108, 112, 72, 80, 253, 237, 185, 218, 94, 21, 70, 87, 167, 141, 157, 132, 144, 216, 171, 0, 140, 188, 211, 10, 247, 228, 88, 5, 184, 179, 69, 6, 208, 44, 30, 143, 202, 63, 15, 2, 193, 175, 189, 3, 1, 19, 138, 107, 58, 145, 17, 65, 79, 103, 220, 234, 151, 242, 207, 206, 240, 180, 230, 115, 150, 172, 116, 34, 231, 173, 53, 133, 226, 249, 55, 232, 28, 117, 223, 110, 71, 241, 26, 113, 29, 41, 197, 137, 111, 183, 98, 14, 170, 24, 190, 27, 252, 86, 62, 75, 198, 210, 121, 32, 154, 219, 192, 254, 120, 205, 90, 244, 31, 221, 168, 51, 136, 7, 199, 49, 177, 18, 16, 89, 39, 128, 236, 95, 96, 81, 127, 169, 25, 181, 74, 13, 45, 229, 122, 159, 147, 201, 156, 239, 160, 224, 59, 77, 174, 42, 245, 176, 200, 235, 187, 60, 131, 83, 153, 97, 23, 43, 4, 126, 186, 119, 214, 38, 225, 105, 20, 99, 85, 33, 12, 125]
set_option maxRecDepth 100000 in
theorem inv_all : ∀ n, n < 256 → invL.getD (bx (UInt8.ofNat n)).toNat 0 = UInt8.ofNat n := by decide +kernel
theorem bx_inj {u v : UInt8} (h : bx u = bx v) : u = v := by
  rw [← all8 (p := fun u => invL.getD (bx u).toNat 0 = u) inv_all u, h, all8 (p := fun u => invL.getD (bx u).toNat 0 = u) inv_all v]
theorem Q4.ext' {x y : Q4} (ha : x.a = y.a) (hb : x.b = y.b) (hc : x.c = y.c) (hd : x.d = y.d) : x = y := by cases x; cases y; simp_all
theorem bxW_inj {a b c d a' b' c' d' : BitVec 32} (h : bxW a b c d = bxW a' b' c' d') : B3 a = B3 a' ∧ B2 b = B2 b' ∧ B1 c = B1 c' ∧ B0 d = B0 d' := by
  obtain ⟨h3, h2, h1, h0⟩ := wo_inj h
  exact ⟨bx_inj h3, bx_inj h2, bx_inj h1, bx_inj h0⟩
theorem trnQ_inj {x y : Q4} (h : trnQ x = trnQ y) : x = y := by
  have hh := (Q4.mk.injEq ..).mp h
  obtain ⟨a3, b2, c1, d0⟩ := bxW_inj hh.1
  obtain ⟨b3, c2, d1, a0⟩ := bxW_inj hh.2.1
  obtain ⟨c3, d2, a1, b0⟩ := bxW_inj hh.2.2.1
  obtain ⟨d3, a2, b1, c0⟩ := bxW_inj hh.2.2.2
  exact Q4.ext' (ext_B a3 a2 a1 a0) (ext_B b3 b2 b1 b0) (ext_B c3 c2 c1 c0) (ext_B d3 d2 d1 d0)
theorem mixQ_inj {x y : Q4} (h : mixQ x = mixQ y) : x = y := by
  have hh := (Q4.mk.injEq ..).mp h
  exact Q4.ext' (mixW_inj hh.1) (mixW_inj hh.2.1) (mixW_inj hh.2.2.1) (mixW_inj hh.2.2.2)
theorem xor_cancel {x y z : BitVec 32} (h : x ^^^ z = y ^^^ z) : x = y := by
  have e : (x ^^^ z) ^^^ z = (y ^^^ z) ^^^ z := by rw [h]
  rwa [BitVec.xor_assoc, BitVec.xor_assoc, BitVec.xor_self, BitVec.xor_zero, BitVec.xor_zero] at e
theorem addQ_inj {x y z : Q4} (h : addQ x z = addQ y z) : x = y := by
  have hh := (Q4.mk.injEq ..).mp h
  exact Q4.ext' (xor_cancel hh.1) (xor_cancel hh.2.1) (xor_cancel hh.2.2.1) (xor_cancel hh.2.2.2)
theorem encR_inj (kw : List (BitVec 32)) {x y : Q4} : ∀ k, encR kw x k = encR kw y k → x = y
  | 0, h => addQ_inj h
  | k + 1, h => by
    by_cases hk : k < 13
    · rw [encR_mix _ _ _ hk, encR_mix _ _ _ hk] at h
      exact encR_inj kw k (trnQ_inj (mixQ_inj (addQ_inj h)))
    · rw [encR_last _ _ _ hk, encR_last _ _ _ hk] at h
      exact encR_inj kw k (trnQ_inj (addQ_inj h))
theorem outQ4 (q : Q4) : outQ q 4 = [B3 q.a, B2 q.a, B1 q.a, B0 q.a, B3 q.b, B2 q.b, B1 q.b, B0 q.b, B3 q.c, B2 q.c, B1 q.c, B0 q.c, B3 q.d, B2 q.d, B1 q.d, B0 q.d] := rfl
theorem outQ_inj {x y : Q4} (h : outQ x 4 = outQ y 4) : x = y := by
  rw [outQ4, outQ4] at h
  simp only [List.cons.injEq, and_true] at h
  obtain ⟨a3, a2, a1, a0, b3, b2, b1, b0, c3, c2, c1, c0, d3, d2, d1, d0⟩ := h
  exact Q4.ext' (ext_B a3 a2 a1 a0) (ext_B b3 b2 b1 b0) (ext_B c3 c2 c1 c0) (ext_B d3 d2 d1 d0)
/-- bytes of a part of a text -/
theorem ext_get (s : ByteArray) (a j : Nat) (hj : j < 4) : (bl (s.extract a (a + 4))).getD j 0 = (bl s).getD (a + j) 0 := by
  rw [bl_extract, List.getD_eq_getElem?_getD, List.getElem?_take_of_lt (by omega), List.getElem?_drop, List.getD_eq_getElem?_getD]
theorem wS_ext (s : ByteArray) (a : Nat) : wS (s.extract a (a + 4)) = wo ((bl s).getD a 0) ((bl s).getD (a + 1) 0) ((bl s).getD (a + 2) 0) ((bl s).getD (a + 3) 0) := by
  unfold wS
  rw [ext_get s a 0 (by decide), ext_get s a 1 (by decide), ext_get s a 2 (by decide), ext_get s a 3 (by decide), Nat.add_zero]
theorem colS_inj {s t : ByteArray} (hs : s.size = 16) (ht : t.size = 16) (h : colS s = colS t) : s = t := by
  have hh := (Q4.mk.injEq ..).mp h
  have e0 := hh.1; have e1 := hh.2.1; have e2 := hh.2.2.1; have e3 := hh.2.2.2
  rw [wS_ext s 0, wS_ext t 0] at e0
  rw [wS_ext s 4, wS_ext t 4] at e1
  rw [wS_ext s 8, wS_ext t 8] at e2
  rw [wS_ext s 12, wS_ext t 12] at e3
  have f0 := wo_inj e0; have f1 := wo_inj e1; have f2 := wo_inj e2; have f3 := wo_inj e3
  apply bl_inj
  apply List.ext_getElem (by rw [bl_len, bl_len, hs, ht])
  intro i h1 h2
  have g : ∀ (u : ByteArray) (hi : i < (bl u).length), (bl u)[i] = (bl u).getD i 0 := fun u hi => by rw [List.getD_eq_getElem?_getD, List.getElem?_eq_getElem hi]; rfl
  rw [g s h1, g t h2]
  rw [bl_len, hs] at h1
  rcases i with _ | _ | _ | _ | _ | _ | _ | _ | _ | _ | _ | _ | _ | _ | _ | _ | i
  · exact f0.1
  · exact f0.2.1
  · exact f0.2.2.1
  · exact f0.2.2.2
  · exact f1.1
  · exact f1.2.1
  · exact f1.2.2.1
  · exact f1.2.2.2
  · exact f2.1
  · exact f2.2.1
  · exact f2.2.2.1
  · exact f2.2.2.2
  · exact f3.1
  · exact f3.2.1
  · exact f3.2.2.1
  · exact f3.2.2.2
  · omega
theorem blkS_inj {key s t : ByteArray} (hs : s.size = 16) (ht : t.size = 16) (h : blkS key s = blkS key t) : s = t := by
  have h1 : blkP (kwS key) (colS s) = blkP (kwS key) (colS t) := by
    have := congrArg bl h
    exact this
  exact colS_inj hs ht (encR_inj (kwS key) 14 (outQ_inj h1))
end Go.Proofs.Ythljhhhjdajfhaa
