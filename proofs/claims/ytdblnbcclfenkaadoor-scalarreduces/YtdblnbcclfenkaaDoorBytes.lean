/-
  bytes: the 32 bytes of a number.
-/
import Derived.Test.YtdblnbcclfenkaaDoorTxt
namespace Go.Proofs.YtdblnbcclfenkaaDoor
open Go.RowKit Num

set_option maxHeartbeats 2000000 in
theorem Bytes_any (n : Nat) (w : World) :
    Calls Tryd.prog 24 #[arr n] w fun e w' => e = .returned (.string (bytesOf n)) ∧ Below w.heap.size w w' := by
  obtain ⟨i0, hi, hz0, hz1, hz2⟩ := info_parts info5
  obtain ⟨a0, a1, a2, a3, ea, ea'⟩ := arr_open n
  have EA := hide ea
  rw [ea']
  clear ea ea'
  go_enter Tryd.func24, Tryd.ntmps24
  go_wp2_with (at_make; refine wpList_make_own _ rfl (.const (.int .i64 0)) (.const (.int .i64 32)) 31 rfl (w.heap.size + 1) 5 i0 (.int .u8 0) 1 Tryd.underlying31 hi hz0 hz1 .i64 .i64 _ 32 rfl rfl (by omega) (by rw [hz2]; omega) (by unfold maxLen; omega) (by simp) ?_; intro w1 hown1 hg1)
  have RA : Row (w.alloc (.cells #[.int .u64 a0, .int .u64 a1, .int .u64 a2, .int .u64 a3] 34)) w.heap.size 34 .u64 (digs K 4 n) := by rw [EA.out]; exact Row.mk rfl rfl
  have hsz0 : (w.alloc (.cells #[.int .u64 a0, .int .u64 a1, .int .u64 a2, .int .u64 a3] 34)).heap.size = w.heap.size + 1 := by simp
  have L : Below (w.heap.size + 1) (w.alloc (.cells #[.int .u64 a0, .int .u64 a1, .int .u64 a2, .int .u64 a3] 34)) w1 := (Below.refl _ _).grown hg1 (by simp) (fun k h => by cases h)
  have hBw : Below w.heap.size w (w.alloc (.cells #[.int .u64 a0, .int .u64 a1, .int .u64 a2, .int .u64 a3] 34)) := new_below (Below.refl _ w) (Nat.le_refl _)
  generalize w.alloc (.cells #[.int .u64 a0, .int .u64 a1, .int .u64 a2, .int .u64 a3] 34) = wa at *
  have O : Owns w1 (w.heap.size + 1) (.slice (some ⟨w.heap.size + 1, 0, none⟩) 0 32) (les 0 n) := by rw [hsz0] at hown1; exact hown1
  clear hown1 hg1
  go_loopw [3, 6] (fun o i wr => ∃ k : Nat, k ≤ 32 ∧ i = .int .i64 k ∧ Owns wr (w.heap.size + 1) o (les k n) ∧ Below (w.heap.size + 1) wa wr) (fun _ i _ => 32 - (intOf i).toNat)
  case atStart => exact ⟨0, by omega, rfl, O, L⟩
  case round =>
    clear O L
    obtain ⟨k, hk, rfl, hown, hbel⟩ := hrel
    have hwr := hbel.size
    by_cases hlt : k < 32
    · have co := (RA.below hbel (by omega)).dig (k / 8) (by omega)
      have hby := hide (byte_of n k)
      have hsn := hide (les_snoc k n)
      have hll := les_length k n
      obtain ⟨q, hq⟩ : ∃ q, q = k / 8 := ⟨_, rfl⟩
      obtain ⟨r, hr⟩ : ∃ r, r = 8 * (k % 8) := ⟨_, rfl⟩
      rw [← hq, ← hr] at hby
      rw [← hq] at co
      generalize n / K ^ q % K = z at *
      obtain ⟨c, hc⟩ : ∃ c, c = UInt8.ofNat (n / 256 ^ k % 256) := ⟨_, rfl⟩
      rw [← hc] at hsn
      have hcn : c.toNat = z / 2 ^ r % 256 := by
        rw [hc, hby.out, UInt8.toNat_ofNat']
        omega
      have hk0 : (0 : Int) ≤ (k : Int) := by omega
      have hq1 : (q : Int) < 4 := by omega
      have hq0 : (0 : Int) ≤ (q : Int) := by omega
      have hdiv : (k : Int) / 8 = (q : Int) := by omega
      have hmod : (8 : Int) * ((k : Int) % 8) = (r : Int) := by omega
      have hr1 : (r : Int) < 64 := by omega
      have hr0 : (0 : Int) ≤ (r : Int) := by omega
      have hsh : (z : Int) / 2 ^ r % 256 = (c.toNat : Int) := by
        rw [hcn, Int.natCast_emod, Int.natCast_ediv, Int.natCast_pow]; rfl
      generalize les k n = acc at *
      have HQ := hide hq
      have HR := hide hr
      clear hq hr hc hcn
      go_wp2_with (at_builtin; refine wpList_append_own _ rfl (.tmp 9) (.tmp 19) 31 rfl (w.heap.size + 1) 5 i0 (.int .u8 0) 1 1 Tryd.underlying31 hi hz0 hz1 hz2 rfl (by decide) _ acc.length (cs acc) rfl (World.ownsRow.alloc hown _) ⟨wr.heap.size, 0, none⟩ 1 1 [.int .u8 (c.toNat : Int)] rfl rfl (news_one _ _) (one_one _ _) (by unfold maxLen; omega) (by omega) (by simp; omega) ?_; intro v3 w3 hown3 hg3 hn3)
      have P1 := push_byte rfl hown3
      have P2 := push_below hbel (by omega) hown hg3
      rw [← hsn.out] at P1
      clear hown3 hg3 hn3 hown hbel
      go_wp2
      go_roundw
      case rel => exact ⟨k + 1, by omega, int_eq (by omega), P1, P2⟩
      case measure => simp [intOf]; omega
    · have hk4 : k = 32 := by omega
      subst hk4
      have HS := hown.str (by rw [les_length]; omega)
      have hB := hBw.trans (hbel.mono (by omega))
      go_wp2
      go_ret
      exact ⟨rfl, hB⟩
end Go.Proofs.YtdblnbcclfenkaaDoor
