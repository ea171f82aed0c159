/-
  The reference's step, of, bytes, Reduce.
-/
import Derived.Test.YtdblnbcclfenkaaDoorRefS2
namespace Go.Proofs.YtdblnbcclfenkaaDoor
open Go.RowKit Num

/-- a number's digits, one place up -/
def dR (r : Nat) : Nat → Nat
  | 0 => 0
  | k + 1 => r / 256 ^ k % 256
theorem dR_eq (B r k : Nat) (hB : B = 256) : dR r k = r * B / B ^ k % B := by
  have hp : 0 < B := by omega
  cases k with
  | zero =>
    rw [Nat.pow_zero, Nat.div_one, Nat.mul_mod_left]
    rfl
  | succ k =>
    rw [Nat.pow_succ, Nat.mul_div_mul_right _ _ hp]
    subst hB
    rfl
theorem dR_lt (r k : Nat) : dR r k < 256 := by rw [dR_eq 256 r k rfl]; exact Nat.mod_lt _ (by decide)
/-- what is laid, and what is carried -/
def sS (r a n k : Nat) : Nat := r * 256 % 256 ^ k + a % 256 ^ k * n
def cyS (r a n : Nat) : Nat → Nat
  | 0 => 0
  | k + 1 => (cyS r a n k + a / 256 ^ k % 256 * n + dR r k) / 256
theorem sS_step (B r a n k : Nat) (hB : B = 256) : r * B % B ^ (k + 1) + a % B ^ (k + 1) * n = (r * B % B ^ k + a % B ^ k * n) + (a / B ^ k % B * n + dR r k) * B ^ k := by
  rw [mod_step B (r * B) k, mod_step B a k, dR_eq B r k hB, Nat.add_mul (a % B ^ k), Nat.add_mul (a / B ^ k % B * n), Nat.mul_right_comm]
  omega
theorem cyS_eq (B r a n : Nat) : ∀ k, (hB : B = 256) → cyS r a n k = (r * B % B ^ k + a % B ^ k * n) / B ^ k
  | 0, _ => by simp [cyS, Nat.mod_one]
  | k + 1, hB => by
    have h := (carry_step B _ _ k _ (by omega) (sS_step B r a n k hB)).2
    rw [h, ← cyS_eq B r a n k hB]
    subst hB
    show (cyS r a n k + a / 256 ^ k % 256 * n + dR r k) / 256 = _
    congr 1
    omega
theorem dn_le (a n k : Nat) (hn : n < 256) : a / 256 ^ k % 256 * n ≤ 255 * 255 := Nat.mul_le_mul (by have := Nat.mod_lt (a / 256 ^ k) (show 256 > 0 by decide); omega) (by omega)
theorem cyS_lt (r a n : Nat) (hn : n < 256) : ∀ k, cyS r a n k < 65536
  | 0 => Nat.zero_lt_succ 65535
  | k + 1 => by
    have h1 := cyS_lt r a n hn k
    have h2 := dn_le a n k hn
    have h3 := dR_lt r k
    show (cyS r a n k + a / 256 ^ k % 256 * n + dR r k) / 256 < 65536
    omega
theorem sS_push (r a n k : Nat) (hk : k < 36) : (rl (sS r a n k % 256 ^ k)).setIfInBounds k (.int .i64 (((cyS r a n k + a / 256 ^ k % 256 * n + dR r k) % 256 : Nat) : Int)) = rl (sS r a n (k + 1) % 256 ^ (k + 1)) := by
  rw [rl_put _ k _ (Nat.mod_lt _ (Nat.pow_pos (by decide))) hk (Nat.mod_lt _ (by decide))]
  have h := (carry_step 256 _ _ k _ (by decide) (sS_step 256 r a n k rfl)).1
  have e : (cyS r a n k + a / 256 ^ k % 256 * n + dR r k) % 256 = (a / 256 ^ k % 256 * n + dR r k + (r * 256 % 256 ^ k + a % 256 ^ k * n) / 256 ^ k) % 256 := by
    rw [← cyS_eq 256 r a n k rfl]
    congr 1
    omega
  rw [e]
  unfold sS
  rw [h]
theorem step_small (M r a n : Nat) (hr : r < M) (ha : a < M) (hn : n < 256) : r * 256 + a * n < 2 ^ 10 * M := by
  have h1 : a * n ≤ M * 255 := Nat.mul_le_mul (by omega) (by omega)
  omega
theorem sS_end (r a n : Nat) (hr : r < Lq) (ha : a < Lq) (hn : n < 256) : sS r a n 36 % 256 ^ 36 = r * 256 + a * n ∧ r * 256 + a * n < 2 ^ 10 * Lq := by
  have h2 := step_small Lq r a n hr ha hn
  have h3 := pow_Lq_lt Lq 10 rfl (Nat.le_refl _)
  have h4 : r * 256 < 256 ^ 36 := Nat.lt_of_le_of_lt (Nat.le_add_right _ _) (Nat.lt_trans h2 h3)
  have h5 : a < 256 ^ 36 := Nat.lt_trans ha (by decide)
  refine ⟨?_, h2⟩
  unfold sS
  rw [Nat.mod_eq_of_lt h4, Nat.mod_eq_of_lt h5, Nat.mod_eq_of_lt (Nat.lt_trans h2 h3)]
theorem run_gtr {ρ : Operand → Value} {x y : Operand} {w : World} {dst : Option Tmp} {T T2 ty : TypeId} {pos : String} {aft : Array Edge} {gd : Option (Nat × Bool)} {k : IntKind} {a b : Nat} {P : Program} (hx : ρ x = iN k a) (hy : ρ y = iN k b) (t : Bool) (ht : decide (b < a) = t) : (execOp ρ ⟨dst, .binOp .gtr T x y T2, ty, pos, aft, gd⟩).run P w = .ok (.value (.bool t)) w := by
  subst ht
  simp only [execOp, hx, hy, iN]
  simp [binOp, go_sem]

set_option linter.unusedVariables false in
set_option maxRecDepth 100000 in
set_option maxHeartbeats 2000000 in
theorem rstep_any (r a n : Nat) (hr : r < Lq) (ha : a < Lq) (hn : n < 256) (w : World) :
    Calls Tryd.prog 32 #[rarr r, rarr a, iN .i64 n] w fun e w' => e = .returned (rarr ((r * 256 + a * n) % Lq)) ∧ Below w.heap.size w w' := by
  have hS := sS_end r a n hr ha hn
  have H0 := HA.start w
  go_enter Tryd.func32, Tryd.ntmps32
  refine wp_seq ?_
  -- region 0
  refine wl_region ?_
  refine wl_make H0 37 (by kernel_rfl) (run_box37 (c := rl r) (by kernel_rfl)) ?_
  intro q1 w2 h3
  refine wl_make h3 37 (by kernel_rfl) (run_box37 (c := rl a) (by kernel_rfl)) ?_
  intro q4 w5 h6
  refine wl_make h6 37 (by kernel_rfl) run_alloc37 ?_
  intro q7 w8 h9
  refine wl_nil ?_
  refine then_at (F := ⟨(rarr r :: rarr a :: iN .i64 n :: pt q1 :: pt q4 :: un :: pt q7 :: List.replicate 31 un).toArray, []⟩) (by kernel_rfl) ?_
  refine wp_seq ?_
  -- region 1
  refine wl_region ?_
  refine wl_make h9 37 (by kernel_rfl) run_alloc37 ?_
  intro q10 w11 h12
  refine wl_nil ?_
  refine then_at (F := ⟨(rarr r :: rarr a :: iN .i64 n :: pt q1 :: pt q4 :: un :: pt q7 :: pt q10 :: List.replicate 30 un).toArray, []⟩) (by kernel_rfl) ?_
  refine wp_seq ?_
  -- region 2
  refine wl_region ?_
  refine wl_val (iN .i64 0) (by kernel_rfl) (by kernel_rfl) ?_
  refine wl_nil ?_
  refine then_at (F := ⟨(rarr r :: rarr a :: iN .i64 n :: pt q1 :: pt q4 :: un :: pt q7 :: pt q10 :: iN .i64 0 :: List.replicate 29 un).toArray, []⟩) (by kernel_rfl) ?_
  refine wp_seq ?_
  refine wp_seq ?_
  -- region 3
  refine wl_region ?_
  refine wl_val (iN .i64 0) (by kernel_rfl) (by kernel_rfl) ?_
  refine wl_nil ?_
  refine then_at (F := ⟨(rarr r :: rarr a :: iN .i64 n :: pt q1 :: pt q4 :: un :: pt q7 :: pt q10 :: iN .i64 0 :: iN .i64 0 :: List.replicate 28 un).toArray, []⟩) (by kernel_rfl) ?_
  refine wp_block ?_
  refine wp_count (fun k A w' => ∃ u13 : Nat → Value, A = ⟨(rarr r :: rarr a :: iN .i64 n :: pt q1 :: pt q4 :: un :: pt q7 :: pt q10 :: iN .i64 (cyS r a n k) :: iN .i64 k :: u13 10 :: u13 11 :: u13 12 :: u13 13 :: u13 14 :: u13 15 :: u13 16 :: u13 17 :: u13 18 :: u13 19 :: u13 20 :: u13 21 :: u13 22 :: u13 23 :: u13 24 :: u13 25 :: u13 26 :: u13 27 :: u13 28 :: u13 29 :: u13 30 :: u13 31 :: u13 32 :: u13 33 :: u13 34 :: u13 35 :: List.replicate 2 un).toArray, []⟩ ∧ HA w [(q10, 37, rl (sS r a n k % 256 ^ k)), (q7, 37, rl 0), (q4, 37, rl a), (q1, 37, rl r)] w') 36 ?_ ?_ ?_
  · exact ⟨fun ii => (([(10, undef), (11, undef), (12, undef), (13, undef), (14, undef), (15, undef), (16, undef), (17, undef), (18, undef), (19, undef), (20, undef), (21, undef), (22, undef), (23, undef), (24, undef), (25, undef), (26, undef), (27, undef), (28, undef), (29, undef), (30, undef), (31, undef), (32, undef), (33, undef), (34, undef), (35, undef)] : List (Nat × Value)).find? (·.1 == ii)).elim undef (·.2), by kernel_rfl, (by rw [Nat.pow_zero, Nat.mod_one]; exact h12)⟩
  · rintro k hk _ w14 ⟨u13, rfl, h15⟩
    refine wp_seq ?_
    refine wp_seq ?_
    -- region 4
    refine wl_region ?_
    refine wl_val (iN .i64 k) (by kernel_rfl) (by kernel_rfl) ?_
    refine wl_val (.bool true) (by kernel_rfl) (run_lss (k := .i64) (a := k) (b := 36) (by kernel_rfl) (by kernel_rfl) true (decide_eq_true hk)) ?_
    refine wl_nil ?_
    refine then_at (F := ⟨(rarr r :: rarr a :: iN .i64 n :: pt q1 :: pt q4 :: un :: pt q7 :: pt q10 :: iN .i64 (cyS r a n k) :: iN .i64 k :: u13 10 :: iN .i64 k :: .bool true :: u13 13 :: u13 14 :: u13 15 :: u13 16 :: u13 17 :: u13 18 :: u13 19 :: u13 20 :: u13 21 :: u13 22 :: u13 23 :: u13 24 :: u13 25 :: u13 26 :: u13 27 :: u13 28 :: u13 29 :: u13 30 :: u13 31 :: u13 32 :: u13 33 :: u13 34 :: u13 35 :: List.replicate 2 un).toArray, []⟩) (by kernel_rfl) ?_
    refine wp_cond_true (by kernel_rfl) ?_
    refine wp_skip ?_
    refine then_at (F := ⟨(rarr r :: rarr a :: iN .i64 n :: pt q1 :: pt q4 :: un :: pt q7 :: pt q10 :: iN .i64 (cyS r a n k) :: iN .i64 k :: u13 10 :: iN .i64 k :: .bool true :: u13 13 :: u13 14 :: u13 15 :: u13 16 :: u13 17 :: u13 18 :: u13 19 :: u13 20 :: u13 21 :: u13 22 :: u13 23 :: u13 24 :: u13 25 :: u13 26 :: u13 27 :: u13 28 :: u13 29 :: u13 30 :: u13 31 :: u13 32 :: u13 33 :: u13 34 :: u13 35 :: List.replicate 2 un).toArray, []⟩) (by kernel_rfl) ?_
    refine wp_seq ?_
    refine wp_block ?_
    refine wp_seq ?_
    rcases k with _ | j
    · have h2 := dn_le a n 0 hn
      have h3 := dR_lt r 0
      have hcs := cyS_lt r a n hn 0
      -- region 6
      refine wl_region ?_
      refine wl_val (iN .i64 (cyS r a n 0)) (by kernel_rfl) (by kernel_rfl) ?_
      refine wl_val (iN .i64 0) (by kernel_rfl) (by kernel_rfl) ?_
      refine wl_val (.pointer (some ⟨q4, 0, none⟩)) (by kernel_rfl) (run_addr_arr (q := q4) (a := 0) Tryd.underlying37 (fun w => Tryd.sizeOf3 w) (by kernel_rfl) (by kernel_rfl) (by decide)) ?_
      refine wl_val (iN .i64 (a / 256 ^ 0 % 256)) (by kernel_rfl) (run_load1 (fun w => Tryd.isAgg3 w) (by kernel_rfl) (((h15.get 2 rfl).cell 0).trans (rl_get a 0 (by decide)))) ?_
      refine wl_val (iN .i64 n) (by kernel_rfl) (by kernel_rfl) ?_
      refine wl_val (iN .i64 ((a / 256 ^ 0 % 256) * n)) (by kernel_rfl) (run_mul (k := .i64) (a := a / 256 ^ 0 % 256) (b := n) (by kernel_rfl) (by kernel_rfl) (by simp only [top]; omega)) ?_
      refine wl_val (iN .i64 ((cyS r a n 0) + ((a / 256 ^ 0 % 256) * n))) (by kernel_rfl) (run_add (k := .i64) (a := cyS r a n 0) (b := (a / 256 ^ 0 % 256) * n) (by kernel_rfl) (by kernel_rfl) (by simp only [top]; omega)) ?_
      refine wl_val (iN .i64 ((cyS r a n 0) + ((a / 256 ^ 0 % 256) * n))) (by kernel_rfl) (by kernel_rfl) ?_
      refine wl_nil ?_
      refine then_at (F := ⟨(rarr r :: rarr a :: iN .i64 n :: pt q1 :: pt q4 :: un :: pt q7 :: pt q10 :: iN .i64 (cyS r a n 0) :: iN .i64 0 :: iN .i64 ((cyS r a n 0) + ((a / 256 ^ 0 % 256) * n)) :: iN .i64 0 :: .bool true :: u13 13 :: u13 14 :: iN .i64 (cyS r a n 0) :: iN .i64 0 :: pt q4 :: iN .i64 (a / 256 ^ 0 % 256) :: iN .i64 n :: iN .i64 ((a / 256 ^ 0 % 256) * n) :: iN .i64 ((cyS r a n 0) + ((a / 256 ^ 0 % 256) * n)) :: u13 22 :: u13 23 :: u13 24 :: u13 25 :: u13 26 :: u13 27 :: u13 28 :: u13 29 :: u13 30 :: u13 31 :: u13 32 :: u13 33 :: u13 34 :: u13 35 :: List.replicate 2 un).toArray, []⟩) (by kernel_rfl) ?_
      refine wp_seq ?_
      refine wp_seq ?_
      -- region 7
      refine wl_region ?_
      refine wl_val (iN .i64 0) (by kernel_rfl) (by kernel_rfl) ?_
      refine wl_val (.bool false) (by kernel_rfl) (run_gtr (k := .i64) (a := 0) (b := 0) (by kernel_rfl) (by kernel_rfl) false (by decide)) ?_
      refine wl_nil ?_
      refine then_at (F := ⟨(rarr r :: rarr a :: iN .i64 n :: pt q1 :: pt q4 :: un :: pt q7 :: pt q10 :: iN .i64 (cyS r a n 0) :: iN .i64 0 :: iN .i64 ((cyS r a n 0) + ((a / 256 ^ 0 % 256) * n)) :: iN .i64 0 :: .bool true :: u13 13 :: u13 14 :: iN .i64 (cyS r a n 0) :: iN .i64 0 :: pt q4 :: iN .i64 (a / 256 ^ 0 % 256) :: iN .i64 n :: iN .i64 ((a / 256 ^ 0 % 256) * n) :: iN .i64 ((cyS r a n 0) + ((a / 256 ^ 0 % 256) * n)) :: iN .i64 0 :: .bool false :: u13 24 :: u13 25 :: u13 26 :: u13 27 :: u13 28 :: u13 29 :: u13 30 :: u13 31 :: u13 32 :: u13 33 :: u13 34 :: u13 35 :: List.replicate 2 un).toArray, []⟩) (by kernel_rfl) ?_
      refine wp_cond_false (by kernel_rfl) ?_
      refine wp_skip ?_
      refine then_at (F := ⟨(rarr r :: rarr a :: iN .i64 n :: pt q1 :: pt q4 :: un :: pt q7 :: pt q10 :: iN .i64 (cyS r a n 0) :: iN .i64 0 :: iN .i64 ((cyS r a n 0) + ((a / 256 ^ 0 % 256) * n)) :: iN .i64 0 :: .bool true :: u13 13 :: u13 14 :: iN .i64 (cyS r a n 0) :: iN .i64 0 :: pt q4 :: iN .i64 (a / 256 ^ 0 % 256) :: iN .i64 n :: iN .i64 ((a / 256 ^ 0 % 256) * n) :: iN .i64 ((cyS r a n 0) + ((a / 256 ^ 0 % 256) * n)) :: iN .i64 0 :: .bool false :: u13 24 :: u13 25 :: u13 26 :: u13 27 :: u13 28 :: u13 29 :: u13 30 :: u13 31 :: u13 32 :: u13 33 :: u13 34 :: u13 35 :: List.replicate 2 un).toArray, []⟩) (by kernel_rfl) ?_
      refine wp_seq ?_
      -- region 9
      refine wl_region ?_
      refine wl_val (iN .i64 0) (by kernel_rfl) (by kernel_rfl) ?_
      refine wl_val (iN .i64 ((cyS r a n 0) + ((a / 256 ^ 0 % 256) * n))) (by kernel_rfl) (by kernel_rfl) ?_
      refine wl_val (iN .i64 (((cyS r a n 0) + ((a / 256 ^ 0 % 256) * n)) % 256)) (by kernel_rfl) (run_rem (k := .i64) (a := (cyS r a n 0) + ((a / 256 ^ 0 % 256) * n)) (b := 256) (by kernel_rfl) (by kernel_rfl) (by omega)) ?_
      refine wl_val (.pointer (some ⟨q10, 0, none⟩)) (by kernel_rfl) (run_addr_arr (q := q10) (a := 0) Tryd.underlying37 (fun w => Tryd.sizeOf3 w) (by kernel_rfl) (by kernel_rfl) (by decide)) ?_
      refine wl_put (k := .i64) (z := ((((cyS r a n 0) + ((a / 256 ^ 0 % 256) * n)) % 256 : Nat) : Int)) h15 0 rfl 0 (by rw [rl_size]; decide) (by kernel_rfl) (fun w => Tryd.sizeOf3 w) (by kernel_rfl) (by kernel_rfl) ?_
      intro w16 h17
      have h18 : HA w [(q10, 37, rl (sS r a n (0 + 1) % 256 ^ (0 + 1))), (q7, 37, rl 0), (q4, 37, rl a), (q1, 37, rl r)] w16 := (by rw [← sS_push r a n 0 hk]; exact h17)
      clear h17
      refine wl_nil ?_
      refine then_at (F := ⟨(rarr r :: rarr a :: iN .i64 n :: pt q1 :: pt q4 :: un :: pt q7 :: pt q10 :: iN .i64 (cyS r a n 0) :: iN .i64 0 :: iN .i64 ((cyS r a n 0) + ((a / 256 ^ 0 % 256) * n)) :: iN .i64 0 :: .bool true :: u13 13 :: u13 14 :: iN .i64 (cyS r a n 0) :: iN .i64 0 :: pt q4 :: iN .i64 (a / 256 ^ 0 % 256) :: iN .i64 n :: iN .i64 ((a / 256 ^ 0 % 256) * n) :: iN .i64 ((cyS r a n 0) + ((a / 256 ^ 0 % 256) * n)) :: iN .i64 0 :: .bool false :: u13 24 :: u13 25 :: u13 26 :: u13 27 :: u13 28 :: u13 29 :: iN .i64 0 :: iN .i64 ((cyS r a n 0) + ((a / 256 ^ 0 % 256) * n)) :: iN .i64 (((cyS r a n 0) + ((a / 256 ^ 0 % 256) * n)) % 256) :: pt q10 :: u13 34 :: u13 35 :: List.replicate 2 un).toArray, []⟩) (by kernel_rfl) ?_
      -- region 10
      refine wl_region ?_
      refine wl_val (iN .i64 ((cyS r a n 0) + ((a / 256 ^ 0 % 256) * n))) (by kernel_rfl) (by kernel_rfl) ?_
      refine wl_val (iN .i64 (((cyS r a n 0) + ((a / 256 ^ 0 % 256) * n)) / 256)) (by kernel_rfl) (run_quo (k := .i64) (a := (cyS r a n 0) + ((a / 256 ^ 0 % 256) * n)) (b := 256) (by kernel_rfl) (by kernel_rfl) (by omega) (by simp only [top]; omega)) ?_
      refine wl_val (iN .i64 (((cyS r a n 0) + ((a / 256 ^ 0 % 256) * n)) / 256)) (by kernel_rfl) (by kernel_rfl) ?_
      refine wl_nil ?_
      refine block_normal ?_
      refine then_at (F := ⟨(rarr r :: rarr a :: iN .i64 n :: pt q1 :: pt q4 :: un :: pt q7 :: pt q10 :: iN .i64 (((cyS r a n 0) + ((a / 256 ^ 0 % 256) * n)) / 256) :: iN .i64 0 :: iN .i64 ((cyS r a n 0) + ((a / 256 ^ 0 % 256) * n)) :: iN .i64 0 :: .bool true :: u13 13 :: u13 14 :: iN .i64 (cyS r a n 0) :: iN .i64 0 :: pt q4 :: iN .i64 (a / 256 ^ 0 % 256) :: iN .i64 n :: iN .i64 ((a / 256 ^ 0 % 256) * n) :: iN .i64 ((cyS r a n 0) + ((a / 256 ^ 0 % 256) * n)) :: iN .i64 0 :: .bool false :: u13 24 :: u13 25 :: u13 26 :: u13 27 :: u13 28 :: u13 29 :: iN .i64 0 :: iN .i64 ((cyS r a n 0) + ((a / 256 ^ 0 % 256) * n)) :: iN .i64 (((cyS r a n 0) + ((a / 256 ^ 0 % 256) * n)) % 256) :: pt q10 :: iN .i64 ((cyS r a n 0) + ((a / 256 ^ 0 % 256) * n)) :: iN .i64 (((cyS r a n 0) + ((a / 256 ^ 0 % 256) * n)) / 256) :: List.replicate 2 un).toArray, []⟩) (by kernel_rfl) ?_
      -- region 5
      refine wl_region ?_
      refine wl_val (iN .i64 0) (by kernel_rfl) (by kernel_rfl) ?_
      refine wl_val (iN .i64 (0 + 1)) (by kernel_rfl) (run_add (k := .i64) (a := 0) (b := 1) (by kernel_rfl) (by kernel_rfl) (by simp only [top]; omega)) ?_
      refine wl_val (iN .i64 (0 + 1)) (by kernel_rfl) (by kernel_rfl) ?_
      refine wl_nil ?_
      exact then_I ⟨fun ii => (([(10, iN .i64 ((cyS r a n 0) + ((a / 256 ^ 0 % 256) * n))), (11, iN .i64 0), (12, .bool true), (13, iN .i64 0), (14, iN .i64 (0 + 1)), (15, iN .i64 (cyS r a n 0)), (16, iN .i64 0), (17, .pointer (some ⟨q4, 0, none⟩)), (18, iN .i64 (a / 256 ^ 0 % 256)), (19, iN .i64 n), (20, iN .i64 ((a / 256 ^ 0 % 256) * n)), (21, iN .i64 ((cyS r a n 0) + ((a / 256 ^ 0 % 256) * n))), (22, iN .i64 0), (23, .bool false), (24, u13 24), (25, u13 25), (26, u13 26), (27, u13 27), (28, u13 28), (29, u13 29), (30, iN .i64 0), (31, iN .i64 ((cyS r a n 0) + ((a / 256 ^ 0 % 256) * n))), (32, iN .i64 (((cyS r a n 0) + ((a / 256 ^ 0 % 256) * n)) % 256)), (33, .pointer (some ⟨q10, 0, none⟩)), (34, iN .i64 ((cyS r a n 0) + ((a / 256 ^ 0 % 256) * n))), (35, iN .i64 (((cyS r a n 0) + ((a / 256 ^ 0 % 256) * n)) / 256))] : List (Nat × Value)).find? (·.1 == ii)).elim undef (·.2), by kernel_rfl, h18⟩
    · have h2 := dn_le a n (j + 1) hn
      have h3 := dR_lt r (j + 1)
      have hcs := cyS_lt r a n hn (j + 1)
      have h4 := Nat.mod_lt (r / 256 ^ j) (show 256 > 0 by decide)
      -- region 6
      refine wl_region ?_
      refine wl_val (iN .i64 (cyS r a n (j + 1))) (by kernel_rfl) (by kernel_rfl) ?_
      refine wl_val (iN .i64 (j + 1)) (by kernel_rfl) (by kernel_rfl) ?_
      refine wl_val (.pointer (some ⟨q4, (j + 1), none⟩)) (by kernel_rfl) (run_addr_arr (q := q4) (a := (j + 1)) Tryd.underlying37 (fun w => Tryd.sizeOf3 w) (by kernel_rfl) (by kernel_rfl) (by omega)) ?_
      refine wl_val (iN .i64 (a / 256 ^ ((j + 1)) % 256)) (by kernel_rfl) (run_load1 (fun w => Tryd.isAgg3 w) (by kernel_rfl) (((h15.get 2 rfl).cell ((j + 1))).trans (rl_get a ((j + 1)) (by omega)))) ?_
      refine wl_val (iN .i64 n) (by kernel_rfl) (by kernel_rfl) ?_
      refine wl_val (iN .i64 ((a / 256 ^ ((j + 1)) % 256) * n)) (by kernel_rfl) (run_mul (k := .i64) (a := a / 256 ^ ((j + 1)) % 256) (b := n) (by kernel_rfl) (by kernel_rfl) (by simp only [top]; omega)) ?_
      refine wl_val (iN .i64 ((cyS r a n (j + 1)) + ((a / 256 ^ ((j + 1)) % 256) * n))) (by kernel_rfl) (run_add (k := .i64) (a := cyS r a n (j + 1)) (b := (a / 256 ^ ((j + 1)) % 256) * n) (by kernel_rfl) (by kernel_rfl) (by simp only [top]; omega)) ?_
      refine wl_val (iN .i64 ((cyS r a n (j + 1)) + ((a / 256 ^ ((j + 1)) % 256) * n))) (by kernel_rfl) (by kernel_rfl) ?_
      refine wl_nil ?_
      refine then_at (F := ⟨(rarr r :: rarr a :: iN .i64 n :: pt q1 :: pt q4 :: un :: pt q7 :: pt q10 :: iN .i64 (cyS r a n (j + 1)) :: iN .i64 (j + 1) :: iN .i64 ((cyS r a n (j + 1)) + ((a / 256 ^ ((j + 1)) % 256) * n)) :: iN .i64 (j + 1) :: .bool true :: u13 13 :: u13 14 :: iN .i64 (cyS r a n (j + 1)) :: iN .i64 (j + 1) :: .pointer (some ⟨q4, (j + 1), none⟩) :: iN .i64 (a / 256 ^ ((j + 1)) % 256) :: iN .i64 n :: iN .i64 ((a / 256 ^ ((j + 1)) % 256) * n) :: iN .i64 ((cyS r a n (j + 1)) + ((a / 256 ^ ((j + 1)) % 256) * n)) :: u13 22 :: u13 23 :: u13 24 :: u13 25 :: u13 26 :: u13 27 :: u13 28 :: u13 29 :: u13 30 :: u13 31 :: u13 32 :: u13 33 :: u13 34 :: u13 35 :: List.replicate 2 un).toArray, []⟩) (by kernel_rfl) ?_
      refine wp_seq ?_
      refine wp_seq ?_
      -- region 7
      refine wl_region ?_
      refine wl_val (iN .i64 (j + 1)) (by kernel_rfl) (by kernel_rfl) ?_
      refine wl_val (.bool true) (by kernel_rfl) (run_gtr (k := .i64) (a := j + 1) (b := 0) (by kernel_rfl) (by kernel_rfl) true (decide_eq_true (by omega))) ?_
      refine wl_nil ?_
      refine then_at (F := ⟨(rarr r :: rarr a :: iN .i64 n :: pt q1 :: pt q4 :: un :: pt q7 :: pt q10 :: iN .i64 (cyS r a n (j + 1)) :: iN .i64 (j + 1) :: iN .i64 ((cyS r a n (j + 1)) + ((a / 256 ^ ((j + 1)) % 256) * n)) :: iN .i64 (j + 1) :: .bool true :: u13 13 :: u13 14 :: iN .i64 (cyS r a n (j + 1)) :: iN .i64 (j + 1) :: .pointer (some ⟨q4, (j + 1), none⟩) :: iN .i64 (a / 256 ^ ((j + 1)) % 256) :: iN .i64 n :: iN .i64 ((a / 256 ^ ((j + 1)) % 256) * n) :: iN .i64 ((cyS r a n (j + 1)) + ((a / 256 ^ ((j + 1)) % 256) * n)) :: iN .i64 (j + 1) :: .bool true :: u13 24 :: u13 25 :: u13 26 :: u13 27 :: u13 28 :: u13 29 :: u13 30 :: u13 31 :: u13 32 :: u13 33 :: u13 34 :: u13 35 :: List.replicate 2 un).toArray, []⟩) (by kernel_rfl) ?_
      refine wp_cond_true (by kernel_rfl) ?_
      -- region 8
      refine wl_region ?_
      refine wl_val (iN .i64 ((cyS r a n (j + 1)) + ((a / 256 ^ ((j + 1)) % 256) * n))) (by kernel_rfl) (by kernel_rfl) ?_
      refine wl_val (iN .i64 (j + 1)) (by kernel_rfl) (by kernel_rfl) ?_
      refine wl_val (iN .i64 j) (by kernel_rfl) (run_sub (k := .i64) (a := j + 1) (b := 1) (by kernel_rfl) (by kernel_rfl) (by omega) (by simp only [top]; omega)) ?_
      refine wl_val (.pointer (some ⟨q1, j, none⟩)) (by kernel_rfl) (run_addr_arr (q := q1) (a := j) Tryd.underlying37 (fun w => Tryd.sizeOf3 w) (by kernel_rfl) (by kernel_rfl) (by omega)) ?_
      refine wl_val (iN .i64 (r / 256 ^ j % 256)) (by kernel_rfl) (run_load1 (fun w => Tryd.isAgg3 w) (by kernel_rfl) (((h15.get 3 rfl).cell j).trans (rl_get r j (by omega)))) ?_
      refine wl_val (iN .i64 (((cyS r a n (j + 1)) + ((a / 256 ^ ((j + 1)) % 256) * n)) + (r / 256 ^ j % 256))) (by kernel_rfl) (run_add (k := .i64) (a := (cyS r a n (j + 1)) + ((a / 256 ^ ((j + 1)) % 256) * n)) (b := r / 256 ^ j % 256) (by kernel_rfl) (by kernel_rfl) (by simp only [top]; omega)) ?_
      refine wl_val (iN .i64 (((cyS r a n (j + 1)) + ((a / 256 ^ ((j + 1)) % 256) * n)) + (r / 256 ^ j % 256))) (by kernel_rfl) (by kernel_rfl) ?_
      refine wl_nil ?_
      refine then_at (F := ⟨(rarr r :: rarr a :: iN .i64 n :: pt q1 :: pt q4 :: un :: pt q7 :: pt q10 :: iN .i64 (cyS r a n (j + 1)) :: iN .i64 (j + 1) :: iN .i64 (((cyS r a n (j + 1)) + ((a / 256 ^ ((j + 1)) % 256) * n)) + (r / 256 ^ j % 256)) :: iN .i64 (j + 1) :: .bool true :: u13 13 :: u13 14 :: iN .i64 (cyS r a n (j + 1)) :: iN .i64 (j + 1) :: .pointer (some ⟨q4, (j + 1), none⟩) :: iN .i64 (a / 256 ^ ((j + 1)) % 256) :: iN .i64 n :: iN .i64 ((a / 256 ^ ((j + 1)) % 256) * n) :: iN .i64 ((cyS r a n (j + 1)) + ((a / 256 ^ ((j + 1)) % 256) * n)) :: iN .i64 (j + 1) :: .bool true :: iN .i64 ((cyS r a n (j + 1)) + ((a / 256 ^ ((j + 1)) % 256) * n)) :: iN .i64 (j + 1) :: iN .i64 j :: .pointer (some ⟨q1, j, none⟩) :: iN .i64 (r / 256 ^ j % 256) :: iN .i64 (((cyS r a n (j + 1)) + ((a / 256 ^ ((j + 1)) % 256) * n)) + (r / 256 ^ j % 256)) :: u13 30 :: u13 31 :: u13 32 :: u13 33 :: u13 34 :: u13 35 :: List.replicate 2 un).toArray, []⟩) (by kernel_rfl) ?_
      refine wp_seq ?_
      -- region 9
      refine wl_region ?_
      refine wl_val (iN .i64 (j + 1)) (by kernel_rfl) (by kernel_rfl) ?_
      refine wl_val (iN .i64 (((cyS r a n (j + 1)) + ((a / 256 ^ ((j + 1)) % 256) * n)) + (r / 256 ^ j % 256))) (by kernel_rfl) (by kernel_rfl) ?_
      refine wl_val (iN .i64 ((((cyS r a n (j + 1)) + ((a / 256 ^ ((j + 1)) % 256) * n)) + (r / 256 ^ j % 256)) % 256)) (by kernel_rfl) (run_rem (k := .i64) (a := ((cyS r a n (j + 1)) + ((a / 256 ^ ((j + 1)) % 256) * n)) + (r / 256 ^ j % 256)) (b := 256) (by kernel_rfl) (by kernel_rfl) (by omega)) ?_
      refine wl_val (.pointer (some ⟨q10, (j + 1), none⟩)) (by kernel_rfl) (run_addr_arr (q := q10) (a := (j + 1)) Tryd.underlying37 (fun w => Tryd.sizeOf3 w) (by kernel_rfl) (by kernel_rfl) (by omega)) ?_
      refine wl_put (k := .i64) (z := (((((cyS r a n (j + 1)) + ((a / 256 ^ ((j + 1)) % 256) * n)) + (r / 256 ^ j % 256)) % 256 : Nat) : Int)) h15 0 rfl ((j + 1)) (by rw [rl_size]; omega) (by kernel_rfl) (fun w => Tryd.sizeOf3 w) (by kernel_rfl) (by kernel_rfl) ?_
      intro w19 h20
      have h21 : HA w [(q10, 37, rl (sS r a n (j + 1 + 1) % 256 ^ (j + 1 + 1))), (q7, 37, rl 0), (q4, 37, rl a), (q1, 37, rl r)] w19 := (by rw [← sS_push r a n (j + 1) hk]; exact h20)
      clear h20
      refine wl_nil ?_
      refine then_at (F := ⟨(rarr r :: rarr a :: iN .i64 n :: pt q1 :: pt q4 :: un :: pt q7 :: pt q10 :: iN .i64 (cyS r a n (j + 1)) :: iN .i64 (j + 1) :: iN .i64 (((cyS r a n (j + 1)) + ((a / 256 ^ ((j + 1)) % 256) * n)) + (r / 256 ^ j % 256)) :: iN .i64 (j + 1) :: .bool true :: u13 13 :: u13 14 :: iN .i64 (cyS r a n (j + 1)) :: iN .i64 (j + 1) :: .pointer (some ⟨q4, (j + 1), none⟩) :: iN .i64 (a / 256 ^ ((j + 1)) % 256) :: iN .i64 n :: iN .i64 ((a / 256 ^ ((j + 1)) % 256) * n) :: iN .i64 ((cyS r a n (j + 1)) + ((a / 256 ^ ((j + 1)) % 256) * n)) :: iN .i64 (j + 1) :: .bool true :: iN .i64 ((cyS r a n (j + 1)) + ((a / 256 ^ ((j + 1)) % 256) * n)) :: iN .i64 (j + 1) :: iN .i64 j :: .pointer (some ⟨q1, j, none⟩) :: iN .i64 (r / 256 ^ j % 256) :: iN .i64 (((cyS r a n (j + 1)) + ((a / 256 ^ ((j + 1)) % 256) * n)) + (r / 256 ^ j % 256)) :: iN .i64 (j + 1) :: iN .i64 (((cyS r a n (j + 1)) + ((a / 256 ^ ((j + 1)) % 256) * n)) + (r / 256 ^ j % 256)) :: iN .i64 ((((cyS r a n (j + 1)) + ((a / 256 ^ ((j + 1)) % 256) * n)) + (r / 256 ^ j % 256)) % 256) :: .pointer (some ⟨q10, (j + 1), none⟩) :: u13 34 :: u13 35 :: List.replicate 2 un).toArray, []⟩) (by kernel_rfl) ?_
      -- region 10
      refine wl_region ?_
      refine wl_val (iN .i64 (((cyS r a n (j + 1)) + ((a / 256 ^ ((j + 1)) % 256) * n)) + (r / 256 ^ j % 256))) (by kernel_rfl) (by kernel_rfl) ?_
      refine wl_val (iN .i64 ((((cyS r a n (j + 1)) + ((a / 256 ^ ((j + 1)) % 256) * n)) + (r / 256 ^ j % 256)) / 256)) (by kernel_rfl) (run_quo (k := .i64) (a := ((cyS r a n (j + 1)) + ((a / 256 ^ ((j + 1)) % 256) * n)) + (r / 256 ^ j % 256)) (b := 256) (by kernel_rfl) (by kernel_rfl) (by omega) (by simp only [top]; omega)) ?_
      refine wl_val (iN .i64 ((((cyS r a n (j + 1)) + ((a / 256 ^ ((j + 1)) % 256) * n)) + (r / 256 ^ j % 256)) / 256)) (by kernel_rfl) (by kernel_rfl) ?_
      refine wl_nil ?_
      refine block_normal ?_
      refine then_at (F := ⟨(rarr r :: rarr a :: iN .i64 n :: pt q1 :: pt q4 :: un :: pt q7 :: pt q10 :: iN .i64 ((((cyS r a n (j + 1)) + ((a / 256 ^ ((j + 1)) % 256) * n)) + (r / 256 ^ j % 256)) / 256) :: iN .i64 (j + 1) :: iN .i64 (((cyS r a n (j + 1)) + ((a / 256 ^ ((j + 1)) % 256) * n)) + (r / 256 ^ j % 256)) :: iN .i64 (j + 1) :: .bool true :: u13 13 :: u13 14 :: iN .i64 (cyS r a n (j + 1)) :: iN .i64 (j + 1) :: .pointer (some ⟨q4, (j + 1), none⟩) :: iN .i64 (a / 256 ^ ((j + 1)) % 256) :: iN .i64 n :: iN .i64 ((a / 256 ^ ((j + 1)) % 256) * n) :: iN .i64 ((cyS r a n (j + 1)) + ((a / 256 ^ ((j + 1)) % 256) * n)) :: iN .i64 (j + 1) :: .bool true :: iN .i64 ((cyS r a n (j + 1)) + ((a / 256 ^ ((j + 1)) % 256) * n)) :: iN .i64 (j + 1) :: iN .i64 j :: .pointer (some ⟨q1, j, none⟩) :: iN .i64 (r / 256 ^ j % 256) :: iN .i64 (((cyS r a n (j + 1)) + ((a / 256 ^ ((j + 1)) % 256) * n)) + (r / 256 ^ j % 256)) :: iN .i64 (j + 1) :: iN .i64 (((cyS r a n (j + 1)) + ((a / 256 ^ ((j + 1)) % 256) * n)) + (r / 256 ^ j % 256)) :: iN .i64 ((((cyS r a n (j + 1)) + ((a / 256 ^ ((j + 1)) % 256) * n)) + (r / 256 ^ j % 256)) % 256) :: .pointer (some ⟨q10, (j + 1), none⟩) :: iN .i64 (((cyS r a n (j + 1)) + ((a / 256 ^ ((j + 1)) % 256) * n)) + (r / 256 ^ j % 256)) :: iN .i64 ((((cyS r a n (j + 1)) + ((a / 256 ^ ((j + 1)) % 256) * n)) + (r / 256 ^ j % 256)) / 256) :: List.replicate 2 un).toArray, []⟩) (by kernel_rfl) ?_
      -- region 5
      refine wl_region ?_
      refine wl_val (iN .i64 (j + 1)) (by kernel_rfl) (by kernel_rfl) ?_
      refine wl_val (iN .i64 (((j + 1)) + 1)) (by kernel_rfl) (run_add (k := .i64) (a := (j + 1)) (b := 1) (by kernel_rfl) (by kernel_rfl) (by simp only [top]; omega)) ?_
      refine wl_val (iN .i64 (((j + 1)) + 1)) (by kernel_rfl) (by kernel_rfl) ?_
      refine wl_nil ?_
      exact then_I ⟨fun ii => (([(10, iN .i64 (((cyS r a n (j + 1)) + ((a / 256 ^ ((j + 1)) % 256) * n)) + (r / 256 ^ j % 256))), (11, iN .i64 (j + 1)), (12, .bool true), (13, iN .i64 (j + 1)), (14, iN .i64 (((j + 1)) + 1)), (15, iN .i64 (cyS r a n (j + 1))), (16, iN .i64 (j + 1)), (17, .pointer (some ⟨q4, (j + 1), none⟩)), (18, iN .i64 (a / 256 ^ ((j + 1)) % 256)), (19, iN .i64 n), (20, iN .i64 ((a / 256 ^ ((j + 1)) % 256) * n)), (21, iN .i64 ((cyS r a n (j + 1)) + ((a / 256 ^ ((j + 1)) % 256) * n))), (22, iN .i64 (j + 1)), (23, .bool true), (24, iN .i64 ((cyS r a n (j + 1)) + ((a / 256 ^ ((j + 1)) % 256) * n))), (25, iN .i64 (j + 1)), (26, iN .i64 j), (27, .pointer (some ⟨q1, j, none⟩)), (28, iN .i64 (r / 256 ^ j % 256)), (29, iN .i64 (((cyS r a n (j + 1)) + ((a / 256 ^ ((j + 1)) % 256) * n)) + (r / 256 ^ j % 256))), (30, iN .i64 (j + 1)), (31, iN .i64 (((cyS r a n (j + 1)) + ((a / 256 ^ ((j + 1)) % 256) * n)) + (r / 256 ^ j % 256))), (32, iN .i64 ((((cyS r a n (j + 1)) + ((a / 256 ^ ((j + 1)) % 256) * n)) + (r / 256 ^ j % 256)) % 256)), (33, .pointer (some ⟨q10, (j + 1), none⟩)), (34, iN .i64 (((cyS r a n (j + 1)) + ((a / 256 ^ ((j + 1)) % 256) * n)) + (r / 256 ^ j % 256))), (35, iN .i64 ((((cyS r a n (j + 1)) + ((a / 256 ^ ((j + 1)) % 256) * n)) + (r / 256 ^ j % 256)) / 256))] : List (Nat × Value)).find? (·.1 == ii)).elim undef (·.2), by kernel_rfl, h21⟩
  · rintro _ w22 ⟨u13, rfl, h23⟩
    refine wp_seq ?_
    refine wp_seq ?_
    -- region 4
    refine wl_region ?_
    refine wl_val (iN .i64 36) (by kernel_rfl) (by kernel_rfl) ?_
    refine wl_val (.bool false) (by kernel_rfl) (run_lss (k := .i64) (a := 36) (b := 36) (by kernel_rfl) (by kernel_rfl) false (by decide)) ?_
    refine wl_nil ?_
    refine then_at (F := ⟨(rarr r :: rarr a :: iN .i64 n :: pt q1 :: pt q4 :: un :: pt q7 :: pt q10 :: iN .i64 (cyS r a n 36) :: iN .i64 36 :: u13 10 :: iN .i64 36 :: .bool false :: u13 13 :: u13 14 :: u13 15 :: u13 16 :: u13 17 :: u13 18 :: u13 19 :: u13 20 :: u13 21 :: u13 22 :: u13 23 :: u13 24 :: u13 25 :: u13 26 :: u13 27 :: u13 28 :: u13 29 :: u13 30 :: u13 31 :: u13 32 :: u13 33 :: u13 34 :: u13 35 :: List.replicate 2 un).toArray, []⟩) (by kernel_rfl) ?_
    refine wp_cond_false (by kernel_rfl) ?_
    refine wp_exit ?_
    repeat first | refine then_exit ?_ | refine block_exit ?_ | refine block_exit_ne (by decide) ?_
    have h24 : HA w [(q10, 37, rl (r * 256 + a * n)), (q7, 37, rl 0), (q4, 37, rl a), (q1, 37, rl r)] w22 := by have e := h23; rw [hS.1] at e; exact e
    refine then_at (F := ⟨(rarr r :: rarr a :: iN .i64 n :: pt q1 :: pt q4 :: un :: pt q7 :: pt q10 :: iN .i64 (cyS r a n 36) :: iN .i64 36 :: u13 10 :: iN .i64 36 :: .bool false :: u13 13 :: u13 14 :: u13 15 :: u13 16 :: u13 17 :: u13 18 :: u13 19 :: u13 20 :: u13 21 :: u13 22 :: u13 23 :: u13 24 :: u13 25 :: u13 26 :: u13 27 :: u13 28 :: u13 29 :: u13 30 :: u13 31 :: u13 32 :: u13 33 :: u13 34 :: u13 35 :: List.replicate 2 un).toArray, []⟩) (by kernel_rfl) ?_
    refine wp_seq ?_
    -- region 11
    refine wl_region ?_
    refine wl_load h24 0 rfl (by kernel_rfl) (by kernel_rfl) Tryd.underlying37 rfl (info_rl _) ?_
    refine wl_call (v := rarr ((r * 256 + a * n) % Lq)) h24 (by kernel_rfl) enter30 #[rarr (r * 256 + a * n)] (by kernel_rfl) (rmodulo_any (r * 256 + a * n) hS.2 w22) ?_
    intro w25 h26
    refine wl_fill (c' := rl ((r * 256 + a * n) % Lq)) h26 1 rfl (by kernel_rfl) (by kernel_rfl) (by kernel_rfl) (rl_sz _ _) (info_rl _) (one_rl _) ?_
    intro w27 (h28 : HA w [(q10, 37, rl (r * 256 + a * n)), (q7, 37, rl ((r * 256 + a * n) % Lq)), (q4, 37, rl a), (q1, 37, rl r)] w27)
    refine wl_nil ?_
    refine then_at (F := ⟨(rarr r :: rarr a :: iN .i64 n :: pt q1 :: pt q4 :: un :: pt q7 :: pt q10 :: iN .i64 (cyS r a n 36) :: iN .i64 36 :: u13 10 :: iN .i64 36 :: .bool false :: u13 13 :: u13 14 :: u13 15 :: u13 16 :: u13 17 :: u13 18 :: u13 19 :: u13 20 :: u13 21 :: u13 22 :: u13 23 :: u13 24 :: u13 25 :: u13 26 :: u13 27 :: u13 28 :: u13 29 :: u13 30 :: u13 31 :: u13 32 :: u13 33 :: u13 34 :: u13 35 :: rarr (r * 256 + a * n) :: rarr ((r * 256 + a * n) % Lq) :: List.replicate 0 un).toArray, []⟩) (by kernel_rfl) ?_
    refine wp_ret ?_
    repeat first | refine then_ret ?_ | refine block_ret ?_
    exact bodyPost_ret (v := rarr ((r * 256 + a * n) % Lq)) (res_cell (p := 6) (by kernel_rfl) (by kernel_rfl) (h28.get 1 rfl) Tryd.underlying37 rfl (info_rl _)) rfl ⟨rfl, h28.old⟩
end Go.Proofs.YtdblnbcclfenkaaDoor
