/-
  Digits of 16 bits out of bytes, and bytes out of digits.
-/
import Derived.Test.YtbmfmamhidccbaaDoorRefA
namespace Go.Proofs.YtbmfmamhidccbaaDoor
open Go.RowKit Num

/-- bytes laid so far -/
def by8 (m : Nat) : Array Value := cl .u8 (digs 256 32 m)
theorem by8_size (m : Nat) : (by8 m).size = 32 := rfl
theorem by8_put (m i x : Nat) (hm : m < 256 ^ i) (hi : i < 32) (hx : x < 256) : (by8 m).setIfInBounds i (.int .u8 (x : Int)) = by8 (m + x * 256 ^ i) := by
  unfold by8
  rw [← digs_push 256 32 m i x hm hi hx]
  simp [cl, List.map_set]
theorem pow2 (k : Nat) : 65536 ^ k = 256 ^ (2 * k) := by rw [show (65536 : Nat) = 256 ^ 2 from rfl, ← Nat.pow_mul]
theorem two_bytes (n k : Nat) : n % 65536 ^ k + n / 65536 ^ k % 65536 % 256 * 256 ^ (2 * k) + n / 65536 ^ k % 65536 / 2 ^ 8 % 256 * 256 ^ (2 * k + 1) = n % 65536 ^ (k + 1) := by
  have e : 65536 ^ (k + 1) = 65536 ^ k * 65536 := Nat.pow_succ ..
  have e2 : 256 ^ (2 * k + 1) = 65536 ^ k * 256 := by rw [Nat.pow_succ, pow2]
  have hd : n / 65536 ^ k % 65536 < 65536 := Nat.mod_lt _ (by decide)
  rw [e, e2, Nat.mod_mul, ← pow2]
  generalize n / 65536 ^ k % 65536 = d at *
  generalize 65536 ^ k = p
  have e3 : d = d % 256 + d / 2 ^ 8 % 256 * 256 := by omega
  conv => rhs; rw [e3]
  rw [Nat.mul_add, Nat.mul_comm p (d % 256), Nat.add_assoc]
  congr 2
  rw [Nat.mul_left_comm]
theorem by8_text (n : Nat) : by8 (n % 65536 ^ 16) = (cs (les 32 n)).toArray := by
  unfold by8 cs les cl
  rw [digs_mod 256 32 (n % 65536 ^ 16) n (by decide) (by rw [pow2]; exact Nat.mod_mod _ _)]
  congr 1
  rw [List.map_map]
  refine List.map_congr_left fun x hx => ?_
  have := digs_lt 256 (by decide) 32 n x hx
  show Value.int .u8 (x : Int) = Value.int .u8 ((UInt8.ofNat x).toNat : Int)
  rw [UInt8.toNat_ofNat']
  congr 2
  omega
/-- a byte of a text -/
def sb (s : ByteArray) (i : Nat) : Nat := numS s / 256 ^ i % 256
theorem sb_lt (s : ByteArray) (i : Nat) : sb s i < 256 := Nat.mod_lt _ (by decide)
theorem sb_get (s : ByteArray) (i : Nat) (h : i < s.size) : (s.get i h).toNat = sb s i := by
  unfold sb numS
  have hl : (bts s).length = s.size := bts_length s
  have h1 : digs 256 (bts s).length (num 256 (bts s)) = bts s := digs_num 256 (bts s) (bts_lt s) _ rfl
  have h2 := digs_get 256 (bts s).length (num 256 (bts s)) i (by rw [digs_length]; omega)
  rw [← h2]
  simp only [h1]
  simp [bts]
  rfl
theorem run_sidx {ρ : Operand → Value} {x y : Operand} {s : ByteArray} {a : Nat} {w : World} {dst : Option Tmp} {ty : TypeId} {pos : String} {aft : Array Edge} {gd : Option (Nat × Bool)} (hx : ρ x = .string s) (hy : ρ y = iN .i64 a) (ha : a < s.size) :
    (execOp ρ ⟨dst, .index 9 x y, ty, pos, aft, gd⟩).run Tryd.prog w = .ok (.value (iN .u8 (sb s a))) w := by
  rw [← sb_get s a ha]
  exact run_index_str Tryd.underlying9 hx hy ha
theorem or16 (x y : Nat) (hx : x < 256) : x ||| y * 2 ^ 8 = x + y * 256 := by
  rw [Nat.or_comm, nat_join 8 (y * 2 ^ 8) x (Nat.mul_mod_left ..) hx]
  omega
theorem dig16 (s : ByteArray) (k : Nat) : numS s % 65536 ^ k + (sb s (2 * k) ||| sb s (2 * k + 1) * 2 ^ 8) * 65536 ^ k = numS s % 65536 ^ (k + 1) := by
  rw [or16 _ _ (sb_lt s _), Nat.pow_succ, Nat.mod_mul]
  unfold sb
  rw [pow2, Nat.pow_succ, ← Nat.div_div_eq_div_mul]
  generalize numS s / 256 ^ (2 * k) = d
  have e : d % 65536 = d % 256 + d / 256 % 256 * 256 := by omega
  rw [e, Nat.mul_comm (256 ^ (2 * k))]
end Go.Proofs.YtbmfmamhidccbaaDoor
