/-
  ShakeTurned, over what comes in.
-/
import Derived.Test.YtcjjbpbehapjpaaGreatL3
namespace Go.Proofs.YtcjjbpbehapjpaaGreat
open Go.RowKit

theorem by8_of {z : Nat} (h : z < 256) : by8 (UInt8.ofNat z) = .int .u8 (z : Int) := by
  unfold by8 iN
  rw [UInt8.toNat_ofNat', Nat.mod_eq_of_lt h]
theorem turnedW (z0 : Nat) (h0 : z0 < 65536) (z1 : Nat) (h1 : z1 < 256) (z2 : Nat) (h2 : z2 < 256) (w : World) :
    Calls Tryz.prog 5 #[.int .u16 (z0 : Int), .int .u8 (z1 : Int), .int .u8 (z2 : Int)] w fun e w' => e = .returned (.bool true) ∧ Below w.heap.size w w' := by
  have h := turnedL z0 h0 (UInt8.ofNat z1) (UInt8.ofNat z2) w
  rw [by8_of h1, by8_of h2] at h
  exact h
end Go.Proofs.YtcjjbpbehapjpaaGreat
