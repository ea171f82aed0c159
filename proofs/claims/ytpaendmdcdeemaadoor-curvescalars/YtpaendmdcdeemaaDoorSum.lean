/-
  sum and difference.
-/
import Derived.Test.YtpaendmdcdeemaaDoorMem
namespace Go.Proofs.YtpaendmdcdeemaaDoor
open Go.RowKit Num

theorem carry_le (a b i : Nat) : (a % K ^ i + b % K ^ i) / K ^ i ≤ 1 := by
  have hp : 0 < K ^ i := Nat.pow_pos (by decide)
  have h1 := Nat.mod_lt a hp
  have h2 := Nat.mod_lt b hp
  have : (a % K ^ i + b % K ^ i) / K ^ i < 2 := by
    rw [Nat.div_lt_iff_lt_mul hp]; omega
  omega

set_option maxHeartbeats 1000000 in
theorem sum_any (a b : Nat) (w : World) :
    Calls Tryd.prog 107 #[arr a, arr b] w fun e w' => e = .returned (.tuple #[arr ((a % K ^ 4 + b % K ^ 4) % K ^ 4), .int .u64 ((a % K ^ 4 + b % K ^ 4) / K ^ 4 : Nat)]) ∧ Below w.heap.size w w' := by
  obtain ⟨a0, a1, a2, a3, ea, ea'⟩ := arr_open a
  obtain ⟨b0, b1, b2, b3, eb, eb'⟩ := arr_open b
  have EA := hide ea
  have EB := hide eb
  rw [ea', eb']
  clear ea eb ea' eb'
  go_enter Tryd.func107, Tryd.ntmps107
  go_wp2
  go_loopw [7, 9] (fun c i wr => ∃ k : Nat, k ≤ 4 ∧ i = .int .i64 k ∧ c = .int .u64 ((a % K ^ k + b % K ^ k) / K ^ k : Nat) ∧ wr.heap.size = w.heap.size + 4 ∧ Row wr w.heap.size 23 .u64 (digs K 4 a) ∧ Row wr (w.heap.size + 1) 23 .u64 (digs K 4 b) ∧ Row wr (w.heap.size + 1 + 1) 23 .u64 (digs K 4 0) ∧ Row wr (w.heap.size + 1 + 1 + 1) 23 .u64 (digs K 4 ((a % K ^ k + b % K ^ k) % K ^ k)) ∧ Below w.heap.size w wr) (fun _ i _ => 4 - (intOf i).toNat)
  case atStart =>
    refine ⟨0, by omega, rfl, by simp [Nat.mod_one], ?_, ?_, ?_, ?_, ?_, ?_⟩
    · simp
    · rw [EA.out]; repeat (first | (refine Row.mk ?_ rfl; simp; done) | refine Row.alloc ?_ _)
    · rw [EB.out]; repeat (first | (refine Row.mk ?_ rfl; simp; done) | refine Row.alloc ?_ _)
    · repeat (first | (refine Row.mk ?_ rfl; simp; done) | refine Row.alloc ?_ _)
    · simp only [Nat.pow_zero, Nat.mod_one]; repeat (first | (refine Row.mk ?_ rfl; simp; done) | refine Row.alloc ?_ _)
    · exact ((((Below.refl _ w).alloc (Nat.le_refl _) _).alloc (by simp) _).alloc (by simp; omega) _).alloc (by simp; omega) _
  case round =>
    obtain ⟨k, hk, rfl, rfl, hsz, ra, rb, rr, ro, hbel⟩ := hrel
    by_cases hlt : k < 4
    · have ca := ra.dig k hlt
      have cb := rb.dig k hlt
      have co := ro.dig k hlt
      have hA := hide (add_step K a b k (by decide))
      have hcl := carry_le a b k
      have hc1 := hide (carry_le a b (k + 1))
      obtain ⟨c, hc⟩ : ∃ c, c = (a % K ^ k + b % K ^ k) / K ^ k := ⟨_, rfl⟩
      obtain ⟨x, hx⟩ : ∃ x, x = a / K ^ k % K := ⟨_, rfl⟩
      obtain ⟨y, hy⟩ : ∃ y, y = b / K ^ k % K := ⟨_, rfl⟩
      obtain ⟨z, hz⟩ : ∃ z, z = (a % K ^ k + b % K ^ k) % K ^ k / K ^ k % K := ⟨_, rfl⟩
      rw [← hx] at ca
      rw [← hy] at cb
      rw [← hz] at co
      rw [← hc] at hcl ⊢
      rw [← hc, ← hx, ← hy] at hA
      have fo := ro.free k
      have A := fun w => add64 x y c hcl w
      have hk0 : (0 : Int) ≤ (k : Int) := by omega
      have hk1 : (k : Int) < 4 := by omega
      obtain ⟨s, hs⟩ : ∃ s, s = (x + y + c) % 18446744073709551616 := ⟨_, rfl⟩
      obtain ⟨d, hd⟩ : ∃ d, d = (x + y + c) / 18446744073709551616 := ⟨_, rfl⟩
      rw [← hs, ← hd] at A
      have HS := hide hs
      have HD := hide hd
      have HC := hide hc
      have hro := hide ro
      have hra := hide ra
      have hrb := hide rb
      have hrr := hide rr
      clear hs hd hc hx hy hz ra rb rr ro
      go_wp2
      go_region
      go_wp2
      go_roundw
      case rel =>
        refine ⟨k + 1, by omega, int_eq (by omega), ?_, by simp; omega, (hra.out.off (by omega)).drew, (hrb.out.off (by omega)).drew, (hrr.out.off (by omega)).drew, ?_, (put_below hbel (by omega)).drew⟩
        · rw [hA.out.2, HD.out]
        · rw [hA.out.1, ← digs_push K 4 _ k _ (Nat.mod_lt _ (Nat.pow_pos (by decide))) hlt (Nat.mod_lt _ (by decide)), ← HS.out]
          exact (hro.out.set k s).drew
      case measure => simp [intOf]; omega
    · have hk4 : k = 4 := by omega
      subst hk4
      obtain ⟨r0, r1, r2, r3, er, er'⟩ := arr_open ((a % K ^ 4 + b % K ^ 4) % K ^ 4)
      have ER := hide er'
      rw [er] at ro
      obtain ⟨c0, c1, c2, c3⟩ := ro.four
      obtain ⟨d0, d1, d2, d3⟩ := rr.four
      obtain ⟨f0, f1, f2, f3⟩ := rr.frees
      clear er er' ro rr ra rb
      obtain ⟨c, hc⟩ : ∃ c, c = (a % K ^ 4 + b % K ^ 4) / K ^ 4 := ⟨_, rfl⟩
      rw [← hc]
      have HC := hide hc
      clear hc
      go_wp2
      refine bodyPost_ret (v := .tuple #[.agg #[.int .u64 r0, .int .u64 r1, .int .u64 r2, .int .u64 r3], .int .u64 c]) (by simp [results, Tryd.results107, go_sem, d0, d1, d2, d3]) rfl ⟨by rw [ER.out, HC.out], ?_⟩
      exact put_below (put_below (put_below (put_below hbel (by omega)) (by omega)) (by omega)) (by omega)
theorem bor_le (a b i : Nat) : bor K a b i ≤ 1 := by
  unfold bor
  split <;> omega

set_option maxHeartbeats 1000000 in
theorem difference_any (a b : Nat) (w : World) :
    Calls Tryd.prog 77 #[arr a, arr b] w fun e w' => e = .returned (.tuple #[arr ((a % K ^ 4 + K ^ 4 - b % K ^ 4) % K ^ 4), .int .u64 (bor K a b 4 : Nat)]) ∧ Below w.heap.size w w' := by
  obtain ⟨a0, a1, a2, a3, ea, ea'⟩ := arr_open a
  obtain ⟨b0, b1, b2, b3, eb, eb'⟩ := arr_open b
  have EA := hide ea
  have EB := hide eb
  rw [ea', eb']
  clear ea eb ea' eb'
  go_enter Tryd.func77, Tryd.ntmps77
  go_wp2
  go_loopw [7, 9] (fun c i wr => ∃ k : Nat, k ≤ 4 ∧ i = .int .i64 k ∧ c = .int .u64 (bor K a b k : Nat) ∧ wr.heap.size = w.heap.size + 4 ∧ Row wr w.heap.size 23 .u64 (digs K 4 a) ∧ Row wr (w.heap.size + 1) 23 .u64 (digs K 4 b) ∧ Row wr (w.heap.size + 1 + 1) 23 .u64 (digs K 4 0) ∧ Row wr (w.heap.size + 1 + 1 + 1) 23 .u64 (digs K 4 ((a % K ^ k + K ^ k - b % K ^ k) % K ^ k)) ∧ Below w.heap.size w wr) (fun _ i _ => 4 - (intOf i).toNat)
  case atStart =>
    refine ⟨0, by omega, rfl, by simp [bor, Nat.mod_one], ?_, ?_, ?_, ?_, ?_, ?_⟩
    · simp
    · rw [EA.out]; repeat (first | (refine Row.mk ?_ rfl; simp; done) | refine Row.alloc ?_ _)
    · rw [EB.out]; repeat (first | (refine Row.mk ?_ rfl; simp; done) | refine Row.alloc ?_ _)
    · repeat (first | (refine Row.mk ?_ rfl; simp; done) | refine Row.alloc ?_ _)
    · simp only [Nat.pow_zero, Nat.mod_one]; repeat (first | (refine Row.mk ?_ rfl; simp; done) | refine Row.alloc ?_ _)
    · exact ((((Below.refl _ w).alloc (Nat.le_refl _) _).alloc (by simp) _).alloc (by simp; omega) _).alloc (by simp; omega) _
  case round =>
    obtain ⟨k, hk, rfl, rfl, hsz, ra, rb, rr, ro, hbel⟩ := hrel
    by_cases hlt : k < 4
    · have ca := ra.dig k hlt
      have cb := rb.dig k hlt
      have co := ro.dig k hlt
      have hA := hide (sub_step K a b k (by decide))
      have hcl := bor_le a b k
      have hc1 := hide (bor_le a b (k + 1))
      obtain ⟨c, hc⟩ : ∃ c, c = bor K a b k := ⟨_, rfl⟩
      obtain ⟨x, hx⟩ : ∃ x, x = a / K ^ k % K := ⟨_, rfl⟩
      obtain ⟨y, hy⟩ : ∃ y, y = b / K ^ k % K := ⟨_, rfl⟩
      obtain ⟨z, hz⟩ : ∃ z, z = (a % K ^ k + K ^ k - b % K ^ k) % K ^ k / K ^ k % K := ⟨_, rfl⟩
      rw [← hx] at ca
      rw [← hy] at cb
      rw [← hz] at co
      rw [← hc] at hcl ⊢
      rw [← hc, ← hx, ← hy] at hA
      have fo := ro.free k
      have A := fun w => sub64 x y c hcl w
      have hk0 : (0 : Int) ≤ (k : Int) := by omega
      have hk1 : (k : Int) < 4 := by omega
      obtain ⟨s, hs⟩ : ∃ s, s = (x + 18446744073709551616 - y - c) % 18446744073709551616 := ⟨_, rfl⟩
      obtain ⟨d, hd⟩ : ∃ d : Nat, d = if x < y + c then 1 else 0 := ⟨_, rfl⟩
      rw [← hs, ← hd] at A
      have HS := hide hs
      have HD := hide hd
      have HC := hide hc
      have hro := hide ro
      have hra := hide ra
      have hrb := hide rb
      have hrr := hide rr
      clear hs hd hc hx hy hz ra rb rr ro
      go_wp2
      go_region
      go_wp2
      go_roundw
      case rel =>
        refine ⟨k + 1, by omega, int_eq (by omega), ?_, by simp; omega, (hra.out.off (by omega)).drew, (hrb.out.off (by omega)).drew, (hrr.out.off (by omega)).drew, ?_, (put_below hbel (by omega)).drew⟩
        · rw [hA.out.2, HD.out]
        · rw [hA.out.1, ← digs_push K 4 _ k _ (Nat.mod_lt _ (Nat.pow_pos (by decide))) hlt (Nat.mod_lt _ (by decide)), ← HS.out]
          exact (hro.out.set k s).drew
      case measure => simp [intOf]; omega
    · have hk4 : k = 4 := by omega
      subst hk4
      obtain ⟨r0, r1, r2, r3, er, er'⟩ := arr_open ((a % K ^ 4 + K ^ 4 - b % K ^ 4) % K ^ 4)
      have ER := hide er'
      rw [er] at ro
      obtain ⟨c0, c1, c2, c3⟩ := ro.four
      obtain ⟨d0, d1, d2, d3⟩ := rr.four
      obtain ⟨f0, f1, f2, f3⟩ := rr.frees
      clear er er' ro rr ra rb
      obtain ⟨c, hc⟩ : ∃ c, c = bor K a b 4 := ⟨_, rfl⟩
      rw [← hc]
      have HC := hide hc
      clear hc
      go_wp2
      refine bodyPost_ret (v := .tuple #[.agg #[.int .u64 r0, .int .u64 r1, .int .u64 r2, .int .u64 r3], .int .u64 c]) (by simp [results, Tryd.results77, go_sem, d0, d1, d2, d3]) rfl ⟨by rw [ER.out, HC.out], ?_⟩
      exact put_below (put_below (put_below (put_below hbel (by omega)) (by omega)) (by omega)) (by omega)
end Go.Proofs.YtpaendmdcdeemaaDoor
