/-
  moved: v times 2^32 and the bits, modulo the order.
-/
import Derived.Test.YtdblnbcclfenkaaDoorProd
import Derived.Test.YtdblnbcclfenkaaDoorNumS
namespace Go.Proofs.YtdblnbcclfenkaaDoor
open Go.RowKit Num

theorem sum_of (a b : Nat) (ha : a < K ^ 4) (hb : b < K ^ 4) (w : World) :
    Calls Tryd.prog 29 #[arr a, arr b] w fun e w' => e = .returned (.tuple #[arr ((a + b) % K ^ 4), iN .u64 ((a + b) / K ^ 4)]) ∧ Below w.heap.size w w' := by
  have h := sum_any a b w
  rwa [Nat.mod_eq_of_lt ha, Nat.mod_eq_of_lt hb] at h
theorem difference_yes (a b : Nat) (ha : a < K ^ 4) (hb : b < K ^ 4) (h : a < b) (w : World) :
    Calls Tryd.prog 42 #[arr a, arr b] w fun e w' => e = .returned (.tuple #[arr ((a + K ^ 4 - b) % K ^ 4), iN .u64 1]) ∧ Below w.heap.size w w' := by
  have h1 := difference_any a b w
  unfold bor at h1
  rwa [Nat.mod_eq_of_lt ha, Nat.mod_eq_of_lt hb, if_pos h] at h1
theorem difference_no (a b : Nat) (ha : a < K ^ 4) (hb : b < K ^ 4) (h : ¬ a < b) (w : World) :
    Calls Tryd.prog 42 #[arr a, arr b] w fun e w' => e = .returned (.tuple #[arr ((a + K ^ 4 - b) % K ^ 4), iN .u64 0]) ∧ Below w.heap.size w w' := by
  have h1 := difference_any a b w
  unfold bor at h1
  rwa [Nat.mod_eq_of_lt ha, Nat.mod_eq_of_lt hb, if_neg h] at h1
/-- a variable holds a number's four words -/
def At (w : World) (g n : Nat) : Prop := ∀ i : Nat, i < 4 → w.cell? ⟨g, i, none⟩ = some (.int .u64 (n / K ^ i % K : Nat))
/-- the package's variables -/
structure Vars (w : World) : Prop where
  big : 2 ≤ w.heap.size
  x : At w 0 Ext
  l : At w 1 Lq
theorem At.below {w w' : World} {B g n : Nat} (h : At w g n) (hb : Below B w w') (hg : g < B) : At w' g n := fun i hi => by
  rw [hb.cell (p := ⟨g, i, none⟩) hg]
  exact h i hi
theorem Vars.below {w w' : World} {B : Nat} (h : Vars w) (hb : Below B w w') (hB : 2 ≤ B) : Vars w' :=
  ⟨Nat.le_trans h.big hb.size, h.x.below hb (by omega), h.l.below hb (by omega)⟩
theorem run_load_at {ρ : Operand → Value} {x : Operand} {g n : Nat} {w : World} {dst : Option Tmp} {ty : TypeId} {pos : String} {aft : Array Edge} {gd : Option (Nat × Bool)} (hx : ρ x = .pointer (some ⟨g, 0, none⟩)) (h : At w g n) :
    (execOp ρ ⟨dst, .load 34 x, ty, pos, aft, gd⟩).run Tryd.prog w = .ok (.value (arr n)) w := by
  have hr : w.rangeAt g 0 (el n).toList := fun j v hv => by
    have hj : j < 4 := by have := (List.getElem?_eq_some_iff.1 hv).1; simpa [el_size] using this
    rw [Nat.zero_add, h j hj]
    have h2 := el_get n j hj
    rw [Array.getElem?_toList] at hv
    rw [h2] at hv
    exact hv
  simp only [execOp, hx, Instr.loadAt, Instr.sureAddr, Sem.run_bind, Sem.run_pure, Result.andThen_ok, run_loadVar_mid w g 0 34 (el n).toList _ hr Tryd.underlying34 rfl (by rw [Array.length_toList]; exact info34)]
  rfl
theorem run_build1 {ρ : Operand → Value} {x : Operand} {a : Nat} {w : World} {dst : Option Tmp} {ty : TypeId} {pos : String} {aft : Array Edge} {gd : Option (Nat × Bool)} (hx : ρ x = iN .u64 a) (ha : a < K) :
    (execOp ρ ⟨dst, .build 34 #[(0, x)], ty, pos, aft, gd⟩).run Tryd.prog w = .ok (.value (arr a)) w := by
  have e : arr a = .agg #[iN .u64 a, iN .u64 0, iN .u64 0, iN .u64 0] := by
    have h : digs K 4 a = [a, 0, 0, 0] := by
      have : a = num K [a, 0, 0, 0] := by simp [num]
      conv => lhs; rw [this]
      refine digs_num K _ (fun x hx => ?_) 4 rfl
      simp at hx
      rcases hx with rfl | rfl
      · exact ha
      · decide
    unfold arr
    rw [h]
    rfl
  rw [e]
  simp only [execOp, iN] at hx ⊢
  simp only [Array.map]
  go_simp
theorem run_index_arr {ρ : Operand → Value} {x y : Operand} {n a : Nat} {w : World} {dst : Option Tmp} {ty : TypeId} {pos : String} {aft : Array Edge} {gd : Option (Nat × Bool)} (hx : ρ x = arr n) (hy : ρ y = iN .i64 a) (ha : a < 4) :
    (execOp ρ ⟨dst, .index 34 x y, ty, pos, aft, gd⟩).run Tryd.prog w = .ok (.value (iN .u64 (n / K ^ a % K))) w := by
  have e := el_get n a ha
  obtain ⟨a0, a1, a2, a3, _, e2⟩ := arr_open n
  have e3 : el n = #[.int .u64 a0, .int .u64 a1, .int .u64 a2, .int .u64 a3] := Value.agg.inj e2
  rw [e2] at hx
  rw [e3] at e
  generalize n / K ^ a % K = z at *
  simp only [execOp, iN] at hx hy e ⊢
  have h4 : a = 0 ∨ a = 1 ∨ a = 2 ∨ a = 3 := by omega
  rcases h4 with rfl | rfl | rfl | rfl <;> (simp at e; rw [← e]; simp only [hx, hy, Instr.index]; go_simp)
set_option linter.unusedSimpArgs false in
theorem run_shlw {ρ : Operand → Value} {x y : Operand} {w : World} {dst : Option Tmp} {T T2 ty : TypeId} {pos : String} {aft : Array Edge} {gd : Option (Nat × Bool)} {a b : Nat} {P : Program} {k2 : IntKind} (hx : ρ x = iN .u64 a) (hy : ρ y = iN k2 b) (hb : b ≤ 64) :
    (execOp ρ ⟨dst, .binOp .shl T x y T2, ty, pos, aft, gd⟩).run P w = .ok (.value (iN .u64 (a * 2 ^ b % 18446744073709551616))) w := by
  have e : min b 64 = b := Nat.min_eq_left hb
  have h : IntKind.u64.wrap ((a : Int) * 2 ^ b) = ((a * 2 ^ b % 18446744073709551616 : Nat) : Int) := by
    rw [show (a : Int) * 2 ^ b = ((a * 2 ^ b : Nat) : Int) by push_cast; rfl, M64.wrapM]
  simp only [execOp, hx, hy, iN]
  simpa [binOp, go_sem, IntKind.bits, e] using h
theorem rs_push (v low k : Nat) (hl : low < 2 ^ 32) (hk : k < 4) : (digs K 4 (rs v low k)).set k (v / K ^ k % K * 2 ^ 32 % 18446744073709551616 ||| nx v low k) = digs K 4 (rs v low (k + 1)) :=
  digs_push K 4 _ k _ (rs_eq v low hl k).2 hk (or_lt _ _ (nx_lt v low k hl))

theorem wrap_less (R O M B : Nat) (ho : O < M) (hM : M < B) (h : R < O) : ((R + B - O) % B + M) % B = R + M - O := by
  rw [Nat.mod_eq_of_lt (show R + B - O < B by omega), show R + B - O + M = (R + M - O) + B by omega, Nat.add_mod_right, Nat.mod_eq_of_lt (by omega)]
set_option linter.unusedVariables false in
set_option maxRecDepth 100000 in
set_option maxHeartbeats 2000000 in
theorem moved_any (v low : Nat) (hv : v < Lq) (hl : low < 2 ^ 32) (w : World) (VV : Vars w) :
    Calls Tryd.prog 34 #[arr v, iN .u32 low] w fun e w' => e = .returned (arr ((v * 2 ^ 32 + low) % Lq)) ∧ Below w.heap.size w w' := by
  have hv4 : v < K ^ 4 := Nat.lt_trans hv Lq_lt
  have hab1 : v / K ^ 3 % K / 2 ^ 28 < K := Nat.lt_of_le_of_lt (Nat.div_le_self _ _) (Nat.mod_lt _ (by decide))
  have hab : v / K ^ 3 % K / 2 ^ 28 < K ^ 4 := Nat.lt_trans hab1 (by decide)
  obtain ⟨R, hRe⟩ : ∃ R, R = (v * 2 ^ 32 + low) % K ^ 4 % 2 ^ 252 := ⟨_, rfl⟩
  obtain ⟨O, hOe⟩ : ∃ O, O = Ext * (v / K ^ 3 % K / 2 ^ 28) := ⟨_, rfl⟩
  have hM := moved_eq v low R O hl hv (by rw [hRe, Nat.mod_mod_of_dvd _ (by decide)]) (by rw [hOe, (above_eq v hv).1])
  have hR : R < K ^ 4 := Nat.lt_trans hM.1 Lq_lt
  have hO : O < K ^ 4 := Nat.lt_trans hM.2.1 Lq_lt
  have hyes : R < O → (((R + K ^ 4 - O) % K ^ 4) + Lq) % K ^ 4 = (v * 2 ^ 32 + low) % Lq := fun h => by
    rw [← hM.2.2.1 h]
    exact wrap_less R O Lq (K ^ 4) hM.2.1 Lq_lt h
  have hno : ¬ R < O → (R + K ^ 4 - O) % K ^ 4 = (v * 2 ^ 32 + low) % Lq := fun h => by
    rw [← hM.2.2.2 h, show R + K ^ 4 - O = (R - O) + K ^ 4 by omega, Nat.add_mod_right, Nat.mod_eq_of_lt (by omega)]
  have H0 := HA.start w
  go_enter Tryd.func34, Tryd.ntmps34
  refine wp_seq ?_
  -- region 0
  refine wl_region ?_
  refine wl_make H0 34 (by kernel_rfl) (run_box34 (c := el v) (by kernel_rfl)) ?_
  intro q1 w2 h3
  refine wl_make h3 34 (by kernel_rfl) run_alloc34 ?_
  intro q4 w5 h6
  refine wl_nil ?_
  refine then_at (F := ⟨(arr v :: iN .u32 low :: pt q1 :: un :: pt q4 :: List.replicate 54 un).toArray, []⟩) (by kernel_rfl) ?_
  refine wp_seq ?_
  -- region 1
  refine wl_region ?_
  refine wl_val (.pointer (some ⟨q1, 3, none⟩)) (by kernel_rfl) (run_addr_arr (q := q1) (a := 3) Tryd.underlying34 (fun w => Tryd.sizeOf32 w) (by kernel_rfl) (by kernel_rfl) (by decide)) ?_
  refine wl_val (iN .u64 (v / K ^ 3 % K)) (by kernel_rfl) (run_load1 (fun w => Tryd.isAgg32 w) (by kernel_rfl) (((h6.get 1 rfl).cell 3).trans (el_get v 3 (by decide)))) ?_
  refine wl_val (iN .u64 ((v / K ^ 3 % K) / 2 ^ 28)) (by kernel_rfl) (run_shr (k2 := .u64) (k := .u64) (a := v / K ^ 3 % K) (b := 28) (by kernel_rfl) (by kernel_rfl) (by decide)) ?_
  refine wl_val (iN .u64 ((v / K ^ 3 % K) / 2 ^ 28)) (by kernel_rfl) (by kernel_rfl) ?_
  refine wl_nil ?_
  refine then_at (F := ⟨(arr v :: iN .u32 low :: pt q1 :: un :: pt q4 :: iN .u64 ((v / K ^ 3 % K) / 2 ^ 28) :: un :: un :: un :: un :: un :: un :: un :: un :: .pointer (some ⟨q1, 3, none⟩) :: iN .u64 (v / K ^ 3 % K) :: iN .u64 ((v / K ^ 3 % K) / 2 ^ 28) :: List.replicate 42 un).toArray, []⟩) (by kernel_rfl) ?_
  refine wp_seq ?_
  -- region 2
  refine wl_region ?_
  refine wl_make h6 34 (by kernel_rfl) run_alloc34 ?_
  intro q7 w8 h9
  refine wl_nil ?_
  refine then_at (F := ⟨(arr v :: iN .u32 low :: pt q1 :: un :: pt q4 :: iN .u64 ((v / K ^ 3 % K) / 2 ^ 28) :: pt q7 :: un :: un :: un :: un :: un :: un :: un :: .pointer (some ⟨q1, 3, none⟩) :: iN .u64 (v / K ^ 3 % K) :: iN .u64 ((v / K ^ 3 % K) / 2 ^ 28) :: List.replicate 42 un).toArray, []⟩) (by kernel_rfl) ?_
  refine wp_seq ?_
  -- region 3
  refine wl_region ?_
  refine wl_val (iN .u32 low) (by kernel_rfl) (by kernel_rfl) ?_
  refine wl_val (iN .u64 low) (by kernel_rfl) (run_conv .u64 Tryd.underlying49 Tryd.underlying32 (by kernel_rfl) (by simp only [top]; omega)) ?_
  refine wl_val (iN .u64 low) (by kernel_rfl) (by kernel_rfl) ?_
  refine wl_nil ?_
  refine then_at (F := ⟨(arr v :: iN .u32 low :: pt q1 :: un :: pt q4 :: iN .u64 ((v / K ^ 3 % K) / 2 ^ 28) :: pt q7 :: iN .u64 low :: un :: un :: un :: un :: un :: un :: .pointer (some ⟨q1, 3, none⟩) :: iN .u64 (v / K ^ 3 % K) :: iN .u64 ((v / K ^ 3 % K) / 2 ^ 28) :: iN .u32 low :: iN .u64 low :: List.replicate 40 un).toArray, []⟩) (by kernel_rfl) ?_
  refine wp_seq ?_
  refine wp_seq ?_
  -- region 4
  refine wl_region ?_
  refine wl_load h9 2 rfl (by kernel_rfl) (by kernel_rfl) Tryd.underlying34 rfl info34 ?_
  refine wl_val (iN .i64 0) (by kernel_rfl) (by kernel_rfl) ?_
  refine wl_nil ?_
  refine then_at (F := ⟨(arr v :: iN .u32 low :: pt q1 :: un :: pt q4 :: iN .u64 ((v / K ^ 3 % K) / 2 ^ 28) :: pt q7 :: iN .u64 low :: un :: un :: un :: un :: un :: un :: .pointer (some ⟨q1, 3, none⟩) :: iN .u64 (v / K ^ 3 % K) :: iN .u64 ((v / K ^ 3 % K) / 2 ^ 28) :: iN .u32 low :: iN .u64 low :: arr v :: iN .i64 0 :: List.replicate 38 un).toArray, []⟩) (by kernel_rfl) ?_
  refine wp_block ?_
  refine wp_count (fun k A w' => ∃ u10 : Nat → Value, A = ⟨(arr v :: iN .u32 low :: pt q1 :: un :: pt q4 :: iN .u64 ((v / K ^ 3 % K) / 2 ^ 28) :: pt q7 :: iN .u64 (nx v low k) :: u10 8 :: u10 9 :: un :: un :: un :: un :: .pointer (some ⟨q1, 3, none⟩) :: iN .u64 (v / K ^ 3 % K) :: iN .u64 ((v / K ^ 3 % K) / 2 ^ 28) :: iN .u32 low :: iN .u64 low :: arr v :: iN .i64 k :: u10 21 :: u10 22 :: u10 23 :: u10 24 :: u10 25 :: u10 26 :: u10 27 :: u10 28 :: u10 29 :: u10 30 :: u10 31 :: u10 32 :: List.replicate 26 un).toArray, []⟩ ∧ HA w [(q7, 34, el (rs v low k)), (q4, 34, el 0), (q1, 34, el v)] w') 4 ?_ ?_ ?_
  · exact ⟨fun ii => (([(8, undef), (9, undef), (21, undef), (22, undef), (23, undef), (24, undef), (25, undef), (26, undef), (27, undef), (28, undef), (29, undef), (30, undef), (31, undef), (32, undef)] : List (Nat × Value)).find? (·.1 == ii)).elim undef (·.2), by kernel_rfl, h9⟩
  · rintro k hk _ w11 ⟨u10, rfl, h12⟩
    refine wp_seq ?_
    -- region 5
    refine wl_region ?_
    refine wl_val (.bool true) (by kernel_rfl) (run_lss (k := .i64) (a := k) (b := 4) (by kernel_rfl) (by kernel_rfl) true (decide_eq_true hk)) ?_
    refine wl_nil ?_
    refine then_at (F := ⟨(arr v :: iN .u32 low :: pt q1 :: un :: pt q4 :: iN .u64 ((v / K ^ 3 % K) / 2 ^ 28) :: pt q7 :: iN .u64 (nx v low k) :: u10 8 :: u10 9 :: un :: un :: un :: un :: .pointer (some ⟨q1, 3, none⟩) :: iN .u64 (v / K ^ 3 % K) :: iN .u64 ((v / K ^ 3 % K) / 2 ^ 28) :: iN .u32 low :: iN .u64 low :: arr v :: iN .i64 k :: .bool true :: u10 22 :: u10 23 :: u10 24 :: u10 25 :: u10 26 :: u10 27 :: u10 28 :: u10 29 :: u10 30 :: u10 31 :: u10 32 :: List.replicate 26 un).toArray, []⟩) (by kernel_rfl) ?_
    refine wp_seq ?_
    refine wp_cond_true (by kernel_rfl) ?_
    refine wp_skip ?_
    refine then_at (F := ⟨(arr v :: iN .u32 low :: pt q1 :: un :: pt q4 :: iN .u64 ((v / K ^ 3 % K) / 2 ^ 28) :: pt q7 :: iN .u64 (nx v low k) :: u10 8 :: u10 9 :: un :: un :: un :: un :: .pointer (some ⟨q1, 3, none⟩) :: iN .u64 (v / K ^ 3 % K) :: iN .u64 ((v / K ^ 3 % K) / 2 ^ 28) :: iN .u32 low :: iN .u64 low :: arr v :: iN .i64 k :: .bool true :: u10 22 :: u10 23 :: u10 24 :: u10 25 :: u10 26 :: u10 27 :: u10 28 :: u10 29 :: u10 30 :: u10 31 :: u10 32 :: List.replicate 26 un).toArray, []⟩) (by kernel_rfl) ?_
    refine wp_seq ?_
    refine wp_block ?_
    refine wp_seq ?_
    -- region 6
    refine wl_region ?_
    refine wl_val (iN .i64 k) (by kernel_rfl) (by kernel_rfl) ?_
    refine wl_val (iN .u64 (v / K ^ k % K)) (by kernel_rfl) (run_index_arr (n := v) (a := k) (by kernel_rfl) (by kernel_rfl) (by omega)) ?_
    refine wl_val (iN .i64 k) (by kernel_rfl) (by kernel_rfl) ?_
    refine wl_val (iN .u64 (v / K ^ k % K)) (by kernel_rfl) (by kernel_rfl) ?_
    refine wl_nil ?_
    refine then_at (F := ⟨(arr v :: iN .u32 low :: pt q1 :: un :: pt q4 :: iN .u64 ((v / K ^ 3 % K) / 2 ^ 28) :: pt q7 :: iN .u64 (nx v low k) :: iN .i64 k :: iN .u64 (v / K ^ k % K) :: un :: un :: un :: un :: .pointer (some ⟨q1, 3, none⟩) :: iN .u64 (v / K ^ 3 % K) :: iN .u64 ((v / K ^ 3 % K) / 2 ^ 28) :: iN .u32 low :: iN .u64 low :: arr v :: iN .i64 k :: .bool true :: iN .i64 k :: iN .u64 (v / K ^ k % K) :: u10 24 :: u10 25 :: u10 26 :: u10 27 :: u10 28 :: u10 29 :: u10 30 :: u10 31 :: u10 32 :: List.replicate 26 un).toArray, []⟩) (by kernel_rfl) ?_
    refine wp_seq ?_
    -- region 7
    refine wl_region ?_
    refine wl_val (iN .i64 k) (by kernel_rfl) (by kernel_rfl) ?_
    refine wl_val (iN .u64 (v / K ^ k % K)) (by kernel_rfl) (by kernel_rfl) ?_
    refine wl_val (iN .u64 ((v / K ^ k % K) * 2 ^ 32 % 18446744073709551616)) (by kernel_rfl) (run_shlw (a := v / K ^ k % K) (b := 32) (k2 := .u64) (by kernel_rfl) (by kernel_rfl) (by decide)) ?_
    refine wl_val (iN .u64 (nx v low k)) (by kernel_rfl) (by kernel_rfl) ?_
    refine wl_val (iN .u64 (((v / K ^ k % K) * 2 ^ 32 % 18446744073709551616) ||| (nx v low k))) (by kernel_rfl) (run_or64 (a := (v / K ^ k % K) * 2 ^ 32 % 18446744073709551616) (b := nx v low k) (by kernel_rfl) (by kernel_rfl) (Nat.mod_lt _ (by decide)) (Nat.lt_trans (nx_lt v low k hl) (by decide))) ?_
    refine wl_val (.pointer (some ⟨q7, k, none⟩)) (by kernel_rfl) (run_addr_arr (q := q7) (a := k) Tryd.underlying34 (fun w => Tryd.sizeOf32 w) (by kernel_rfl) (by kernel_rfl) (by omega)) ?_
    refine wl_put (k := .u64) (z := ((((v / K ^ k % K) * 2 ^ 32 % 18446744073709551616) ||| (nx v low k) : Nat) : Int)) h12 0 rfl k (by rw [el_size]; omega) (by kernel_rfl) (fun w => Tryd.sizeOf32 w) (by kernel_rfl) (by kernel_rfl) ?_
    intro w13 h14
    have h15 : HA w [(q7, 34, el (rs v low (k + 1))), (q4, 34, el 0), (q1, 34, el v)] w13 := (by rw [← el_put _ _ _ _ (rs_push v low k hl hk)]; exact h14)
    clear h14
    refine wl_nil ?_
    refine then_at (F := ⟨(arr v :: iN .u32 low :: pt q1 :: un :: pt q4 :: iN .u64 ((v / K ^ 3 % K) / 2 ^ 28) :: pt q7 :: iN .u64 (nx v low k) :: iN .i64 k :: iN .u64 (v / K ^ k % K) :: un :: un :: un :: un :: .pointer (some ⟨q1, 3, none⟩) :: iN .u64 (v / K ^ 3 % K) :: iN .u64 ((v / K ^ 3 % K) / 2 ^ 28) :: iN .u32 low :: iN .u64 low :: arr v :: iN .i64 k :: .bool true :: iN .i64 k :: iN .u64 (v / K ^ k % K) :: iN .i64 k :: iN .u64 (v / K ^ k % K) :: iN .u64 ((v / K ^ k % K) * 2 ^ 32 % 18446744073709551616) :: iN .u64 (nx v low k) :: iN .u64 (((v / K ^ k % K) * 2 ^ 32 % 18446744073709551616) ||| (nx v low k)) :: .pointer (some ⟨q7, k, none⟩) :: u10 30 :: u10 31 :: u10 32 :: List.replicate 26 un).toArray, []⟩) (by kernel_rfl) ?_
    -- region 8
    refine wl_region ?_
    refine wl_val (iN .u64 (v / K ^ k % K)) (by kernel_rfl) (by kernel_rfl) ?_
    refine wl_val (iN .u64 ((v / K ^ k % K) / 2 ^ 32)) (by kernel_rfl) (run_shr (k2 := .u64) (k := .u64) (a := v / K ^ k % K) (b := 32) (by kernel_rfl) (by kernel_rfl) (by decide)) ?_
    refine wl_val (iN .u64 ((v / K ^ k % K) / 2 ^ 32)) (by kernel_rfl) (by kernel_rfl) ?_
    refine wl_nil ?_
    refine block_normal ?_
    refine then_at (F := ⟨(arr v :: iN .u32 low :: pt q1 :: un :: pt q4 :: iN .u64 ((v / K ^ 3 % K) / 2 ^ 28) :: pt q7 :: iN .u64 ((v / K ^ k % K) / 2 ^ 32) :: iN .i64 k :: iN .u64 (v / K ^ k % K) :: un :: un :: un :: un :: .pointer (some ⟨q1, 3, none⟩) :: iN .u64 (v / K ^ 3 % K) :: iN .u64 ((v / K ^ 3 % K) / 2 ^ 28) :: iN .u32 low :: iN .u64 low :: arr v :: iN .i64 k :: .bool true :: iN .i64 k :: iN .u64 (v / K ^ k % K) :: iN .i64 k :: iN .u64 (v / K ^ k % K) :: iN .u64 ((v / K ^ k % K) * 2 ^ 32 % 18446744073709551616) :: iN .u64 (nx v low k) :: iN .u64 (((v / K ^ k % K) * 2 ^ 32 % 18446744073709551616) ||| (nx v low k)) :: .pointer (some ⟨q7, k, none⟩) :: iN .u64 (v / K ^ k % K) :: iN .u64 ((v / K ^ k % K) / 2 ^ 32) :: u10 32 :: List.replicate 26 un).toArray, []⟩) (by kernel_rfl) ?_
    -- region 9
    refine wl_region ?_
    refine wl_val (iN .i64 (k + 1)) (by kernel_rfl) (run_add (k := .i64) (a := k) (b := 1) (by kernel_rfl) (by kernel_rfl) (by simp only [top]; omega)) ?_
    refine wl_val (iN .i64 (k + 1)) (by kernel_rfl) (by kernel_rfl) ?_
    refine wl_nil ?_
    exact then_I ⟨fun ii => (([(8, iN .i64 k), (9, iN .u64 (v / K ^ k % K)), (21, .bool true), (22, iN .i64 k), (23, iN .u64 (v / K ^ k % K)), (24, iN .i64 k), (25, iN .u64 (v / K ^ k % K)), (26, iN .u64 ((v / K ^ k % K) * 2 ^ 32 % 18446744073709551616)), (27, iN .u64 (nx v low k)), (28, iN .u64 (((v / K ^ k % K) * 2 ^ 32 % 18446744073709551616) ||| (nx v low k))), (29, .pointer (some ⟨q7, k, none⟩)), (30, iN .u64 (v / K ^ k % K)), (31, iN .u64 ((v / K ^ k % K) / 2 ^ 32)), (32, iN .i64 (k + 1))] : List (Nat × Value)).find? (·.1 == ii)).elim undef (·.2), by kernel_rfl, h15⟩
  · rintro _ w16 ⟨u10, rfl, h17⟩
    refine wp_seq ?_
    -- region 5
    refine wl_region ?_
    refine wl_val (.bool false) (by kernel_rfl) (run_lss (k := .i64) (a := 4) (b := 4) (by kernel_rfl) (by kernel_rfl) false (by decide)) ?_
    refine wl_nil ?_
    refine then_at (F := ⟨(arr v :: iN .u32 low :: pt q1 :: un :: pt q4 :: iN .u64 ((v / K ^ 3 % K) / 2 ^ 28) :: pt q7 :: iN .u64 (nx v low 4) :: u10 8 :: u10 9 :: un :: un :: un :: un :: .pointer (some ⟨q1, 3, none⟩) :: iN .u64 (v / K ^ 3 % K) :: iN .u64 ((v / K ^ 3 % K) / 2 ^ 28) :: iN .u32 low :: iN .u64 low :: arr v :: iN .i64 4 :: .bool false :: u10 22 :: u10 23 :: u10 24 :: u10 25 :: u10 26 :: u10 27 :: u10 28 :: u10 29 :: u10 30 :: u10 31 :: u10 32 :: List.replicate 26 un).toArray, []⟩) (by kernel_rfl) ?_
    refine wp_seq ?_
    refine wp_cond_false (by kernel_rfl) ?_
    refine wp_exit ?_
    repeat first | refine then_exit ?_ | refine block_exit ?_ | refine block_exit_ne (by decide) ?_
    have h18 : HA w [(q7, 34, el ((v * 2 ^ 32 + low) % K ^ 4)), (q4, 34, el 0), (q1, 34, el v)] w16 := by rw [← rs_four v low hl hv4]; exact h17
    refine then_at (F := ⟨(arr v :: iN .u32 low :: pt q1 :: un :: pt q4 :: iN .u64 ((v / K ^ 3 % K) / 2 ^ 28) :: pt q7 :: iN .u64 (nx v low 4) :: u10 8 :: u10 9 :: un :: un :: un :: un :: .pointer (some ⟨q1, 3, none⟩) :: iN .u64 (v / K ^ 3 % K) :: iN .u64 ((v / K ^ 3 % K) / 2 ^ 28) :: iN .u32 low :: iN .u64 low :: arr v :: iN .i64 4 :: .bool false :: u10 22 :: u10 23 :: u10 24 :: u10 25 :: u10 26 :: u10 27 :: u10 28 :: u10 29 :: u10 30 :: u10 31 :: u10 32 :: List.replicate 26 un).toArray, []⟩) (by kernel_rfl) ?_
    refine wp_seq ?_
    -- region 10
    refine wl_region ?_
    refine wl_val (.pointer (some ⟨q7, 3, none⟩)) (by kernel_rfl) (run_addr_arr (q := q7) (a := 3) Tryd.underlying34 (fun w => Tryd.sizeOf32 w) (by kernel_rfl) (by kernel_rfl) (by decide)) ?_
    refine wl_val (iN .u64 (((v * 2 ^ 32 + low) % K ^ 4) / K ^ 3 % K)) (by kernel_rfl) (run_load1 (fun w => Tryd.isAgg32 w) (by kernel_rfl) (((h18.get 0 rfl).cell 3).trans (el_get ((v * 2 ^ 32 + low) % K ^ 4) 3 (by decide)))) ?_
    refine wl_val (iN .u64 ((((v * 2 ^ 32 + low) % K ^ 4) / K ^ 3 % K) &&& 1152921504606846975)) (by kernel_rfl) (run_and64 (a := ((v * 2 ^ 32 + low) % K ^ 4) / K ^ 3 % K) (b := 1152921504606846975) (by kernel_rfl) (by kernel_rfl) (Nat.mod_lt _ (by decide)) (by decide)) ?_
    refine wl_val (.pointer (some ⟨q7, 3, none⟩)) (by kernel_rfl) (run_addr_arr (q := q7) (a := 3) Tryd.underlying34 (fun w => Tryd.sizeOf32 w) (by kernel_rfl) (by kernel_rfl) (by decide)) ?_
    refine wl_put (k := .u64) (z := (((((v * 2 ^ 32 + low) % K ^ 4) / K ^ 3 % K) &&& 1152921504606846975 : Nat) : Int)) h18 0 rfl 3 (by rw [el_size]; decide) (by kernel_rfl) (fun w => Tryd.sizeOf32 w) (by kernel_rfl) (by kernel_rfl) ?_
    intro w19 h20
    have h21 : HA w [(q7, 34, el ((v * 2 ^ 32 + low) % K ^ 4 % 2 ^ 252)), (q4, 34, el 0), (q1, 34, el v)] w19 := (by rw [← el_put _ _ _ _ (top_word _ (Nat.mod_lt _ (by decide)))]; exact h20)
    clear h20
    refine wl_nil ?_
    refine then_at (F := ⟨(arr v :: iN .u32 low :: pt q1 :: un :: pt q4 :: iN .u64 ((v / K ^ 3 % K) / 2 ^ 28) :: pt q7 :: iN .u64 (nx v low 4) :: u10 8 :: u10 9 :: un :: un :: un :: un :: .pointer (some ⟨q1, 3, none⟩) :: iN .u64 (v / K ^ 3 % K) :: iN .u64 ((v / K ^ 3 % K) / 2 ^ 28) :: iN .u32 low :: iN .u64 low :: arr v :: iN .i64 4 :: .bool false :: u10 22 :: u10 23 :: u10 24 :: u10 25 :: u10 26 :: u10 27 :: u10 28 :: u10 29 :: u10 30 :: u10 31 :: u10 32 :: .pointer (some ⟨q7, 3, none⟩) :: iN .u64 (((v * 2 ^ 32 + low) % K ^ 4) / K ^ 3 % K) :: iN .u64 ((((v * 2 ^ 32 + low) % K ^ 4) / K ^ 3 % K) &&& 1152921504606846975) :: .pointer (some ⟨q7, 3, none⟩) :: List.replicate 22 un).toArray, []⟩) (by kernel_rfl) ?_
    refine wp_seq ?_
    -- region 11
    refine wl_region ?_
    refine wl_val (arr Ext) (by kernel_rfl) (run_load_at (by kernel_rfl) (VV.below h21.old VV.big).x) ?_
    refine wl_val (iN .u64 ((v / K ^ 3 % K) / 2 ^ 28)) (by kernel_rfl) (by kernel_rfl) ?_
    refine wl_val (arr ((v / K ^ 3 % K) / 2 ^ 28)) (by kernel_rfl) (run_build1 (a := (v / K ^ 3 % K) / 2 ^ 28) (by kernel_rfl) hab1) ?_
    refine wl_call (v := .tuple #[arr (Ext * (v / K ^ 3 % K / 2 ^ 28) / K ^ 4), arr (Ext * (v / K ^ 3 % K / 2 ^ 28))]) h21 (by kernel_rfl) enter31 #[arr Ext, arr ((v / K ^ 3 % K) / 2 ^ 28)] (by kernel_rfl) (product_any Ext (v / K ^ 3 % K / 2 ^ 28) Ext_lt hab w19) ?_
    intro w22 h23
    refine wl_val (.tuple #[arr (Ext * (v / K ^ 3 % K / 2 ^ 28) / K ^ 4), arr (Ext * (v / K ^ 3 % K / 2 ^ 28))]) (by kernel_rfl) (by kernel_rfl) ?_
    refine wl_val (arr (Ext * (v / K ^ 3 % K / 2 ^ 28) / K ^ 4)) (by kernel_rfl) (by kernel_rfl) ?_
    refine wl_val (arr (Ext * (v / K ^ 3 % K / 2 ^ 28))) (by kernel_rfl) (by kernel_rfl) ?_
    refine wl_make h23 34 (by kernel_rfl) run_alloc34 ?_
    intro q24 w25 h26
    refine wl_make h26 34 (by kernel_rfl) run_alloc34 ?_
    intro q27 w28 h29
    refine wl_fill (c' := el (Ext * (v / K ^ 3 % K / 2 ^ 28) / K ^ 4)) h29 1 rfl (by kernel_rfl) (by kernel_rfl) (by kernel_rfl) (el_sz _ _) info34 (one_cl _ _) ?_
    intro w30 (h31 : HA w [(q27, 34, el 0), (q24, 34, el (Ext * (v / K ^ 3 % K / 2 ^ 28) / K ^ 4)), (q7, 34, el ((v * 2 ^ 32 + low) % K ^ 4 % 2 ^ 252)), (q4, 34, el 0), (q1, 34, el v)] w30)
    refine wl_fill (c' := el (Ext * (v / K ^ 3 % K / 2 ^ 28))) h31 0 rfl (by kernel_rfl) (by kernel_rfl) (by kernel_rfl) (el_sz _ _) info34 (one_cl _ _) ?_
    intro w32 (h33 : HA w [(q27, 34, el (Ext * (v / K ^ 3 % K / 2 ^ 28))), (q24, 34, el (Ext * (v / K ^ 3 % K / 2 ^ 28) / K ^ 4)), (q7, 34, el ((v * 2 ^ 32 + low) % K ^ 4 % 2 ^ 252)), (q4, 34, el 0), (q1, 34, el v)] w32)
    refine wl_nil ?_
    have h34 : HA w [(q27, 34, el O), (q24, 34, el (Ext * (v / K ^ 3 % K / 2 ^ 28) / K ^ 4)), (q7, 34, el R), (q4, 34, el 0), (q1, 34, el v)] w32 := by rw [hRe, hOe]; exact h33
    refine then_at (F := ⟨(arr v :: iN .u32 low :: pt q1 :: un :: pt q4 :: iN .u64 ((v / K ^ 3 % K) / 2 ^ 28) :: pt q7 :: iN .u64 (nx v low 4) :: u10 8 :: u10 9 :: pt q24 :: pt q27 :: un :: un :: .pointer (some ⟨q1, 3, none⟩) :: iN .u64 (v / K ^ 3 % K) :: iN .u64 ((v / K ^ 3 % K) / 2 ^ 28) :: iN .u32 low :: iN .u64 low :: arr v :: iN .i64 4 :: .bool false :: u10 22 :: u10 23 :: u10 24 :: u10 25 :: u10 26 :: u10 27 :: u10 28 :: u10 29 :: u10 30 :: u10 31 :: u10 32 :: .pointer (some ⟨q7, 3, none⟩) :: iN .u64 (((v * 2 ^ 32 + low) % K ^ 4) / K ^ 3 % K) :: iN .u64 ((((v * 2 ^ 32 + low) % K ^ 4) / K ^ 3 % K) &&& 1152921504606846975) :: .pointer (some ⟨q7, 3, none⟩) :: .tuple #[arr (Ext * (v / K ^ 3 % K / 2 ^ 28) / K ^ 4), arr (Ext * (v / K ^ 3 % K / 2 ^ 28))] :: arr Ext :: iN .u64 ((v / K ^ 3 % K) / 2 ^ 28) :: arr ((v / K ^ 3 % K) / 2 ^ 28) :: .tuple #[arr (Ext * (v / K ^ 3 % K / 2 ^ 28) / K ^ 4), arr (Ext * (v / K ^ 3 % K / 2 ^ 28))] :: arr (Ext * (v / K ^ 3 % K / 2 ^ 28) / K ^ 4) :: arr (Ext * (v / K ^ 3 % K / 2 ^ 28)) :: List.replicate 15 un).toArray, []⟩) (by kernel_rfl) ?_
    refine wp_seq ?_
    by_cases hlt : R < O
    · -- region 12
      refine wl_region ?_
      refine wl_load h34 2 rfl (by kernel_rfl) (by kernel_rfl) Tryd.underlying34 rfl info34 ?_
      refine wl_load h34 0 rfl (by kernel_rfl) (by kernel_rfl) Tryd.underlying34 rfl info34 ?_
      refine wl_call (v := .tuple #[arr ((R + K ^ 4 - O) % K ^ 4), iN .u64 1]) h34 (by kernel_rfl) enter42 #[arr R, arr O] (by kernel_rfl) (difference_yes R O hR hO hlt w32) ?_
      intro w35 h36
      refine wl_val (.tuple #[arr ((R + K ^ 4 - O) % K ^ 4), iN .u64 1]) (by kernel_rfl) (by kernel_rfl) ?_
      refine wl_val (arr ((R + K ^ 4 - O) % K ^ 4)) (by kernel_rfl) (by kernel_rfl) ?_
      refine wl_val (iN .u64 1) (by kernel_rfl) (by kernel_rfl) ?_
      refine wl_make h36 34 (by kernel_rfl) run_alloc34 ?_
      intro q37 w38 h39
      refine wl_fill (c' := el ((R + K ^ 4 - O) % K ^ 4)) h39 0 rfl (by kernel_rfl) (by kernel_rfl) (by kernel_rfl) (el_sz _ _) info34 (one_cl _ _) ?_
      intro w40 (h41 : HA w [(q37, 34, el ((R + K ^ 4 - O) % K ^ 4)), (q27, 34, el O), (q24, 34, el (Ext * (v / K ^ 3 % K / 2 ^ 28) / K ^ 4)), (q7, 34, el R), (q4, 34, el 0), (q1, 34, el v)] w40)
      refine wl_val (iN .u64 1) (by kernel_rfl) (by kernel_rfl) ?_
      refine wl_nil ?_
      refine then_at (F := ⟨(arr v :: iN .u32 low :: pt q1 :: un :: pt q4 :: iN .u64 ((v / K ^ 3 % K) / 2 ^ 28) :: pt q7 :: iN .u64 (nx v low 4) :: u10 8 :: u10 9 :: pt q24 :: pt q27 :: pt q37 :: iN .u64 1 :: .pointer (some ⟨q1, 3, none⟩) :: iN .u64 (v / K ^ 3 % K) :: iN .u64 ((v / K ^ 3 % K) / 2 ^ 28) :: iN .u32 low :: iN .u64 low :: arr v :: iN .i64 4 :: .bool false :: u10 22 :: u10 23 :: u10 24 :: u10 25 :: u10 26 :: u10 27 :: u10 28 :: u10 29 :: u10 30 :: u10 31 :: u10 32 :: .pointer (some ⟨q7, 3, none⟩) :: iN .u64 (((v * 2 ^ 32 + low) % K ^ 4) / K ^ 3 % K) :: iN .u64 ((((v * 2 ^ 32 + low) % K ^ 4) / K ^ 3 % K) &&& 1152921504606846975) :: .pointer (some ⟨q7, 3, none⟩) :: .tuple #[arr (Ext * (v / K ^ 3 % K / 2 ^ 28) / K ^ 4), arr (Ext * (v / K ^ 3 % K / 2 ^ 28))] :: arr Ext :: iN .u64 ((v / K ^ 3 % K) / 2 ^ 28) :: arr ((v / K ^ 3 % K) / 2 ^ 28) :: .tuple #[arr (Ext * (v / K ^ 3 % K / 2 ^ 28) / K ^ 4), arr (Ext * (v / K ^ 3 % K / 2 ^ 28))] :: arr (Ext * (v / K ^ 3 % K / 2 ^ 28) / K ^ 4) :: arr (Ext * (v / K ^ 3 % K / 2 ^ 28)) :: .tuple #[arr ((R + K ^ 4 - O) % K ^ 4), iN .u64 1] :: arr R :: arr O :: .tuple #[arr ((R + K ^ 4 - O) % K ^ 4), iN .u64 1] :: arr ((R + K ^ 4 - O) % K ^ 4) :: iN .u64 1 :: List.replicate 9 un).toArray, []⟩) (by kernel_rfl) ?_
      refine wp_seq ?_
      refine wp_seq ?_
      -- region 13
      refine wl_region ?_
      refine wl_val (iN .u64 1) (by kernel_rfl) (by kernel_rfl) ?_
      refine wl_val (.bool true) (by kernel_rfl) (run_nei (k := .u64) (a := 1) (b := 0) (by kernel_rfl) (by kernel_rfl) true (by decide)) ?_
      refine wl_nil ?_
      refine then_at (F := ⟨(arr v :: iN .u32 low :: pt q1 :: un :: pt q4 :: iN .u64 ((v / K ^ 3 % K) / 2 ^ 28) :: pt q7 :: iN .u64 (nx v low 4) :: u10 8 :: u10 9 :: pt q24 :: pt q27 :: pt q37 :: iN .u64 1 :: .pointer (some ⟨q1, 3, none⟩) :: iN .u64 (v / K ^ 3 % K) :: iN .u64 ((v / K ^ 3 % K) / 2 ^ 28) :: iN .u32 low :: iN .u64 low :: arr v :: iN .i64 4 :: .bool false :: u10 22 :: u10 23 :: u10 24 :: u10 25 :: u10 26 :: u10 27 :: u10 28 :: u10 29 :: u10 30 :: u10 31 :: u10 32 :: .pointer (some ⟨q7, 3, none⟩) :: iN .u64 (((v * 2 ^ 32 + low) % K ^ 4) / K ^ 3 % K) :: iN .u64 ((((v * 2 ^ 32 + low) % K ^ 4) / K ^ 3 % K) &&& 1152921504606846975) :: .pointer (some ⟨q7, 3, none⟩) :: .tuple #[arr (Ext * (v / K ^ 3 % K / 2 ^ 28) / K ^ 4), arr (Ext * (v / K ^ 3 % K / 2 ^ 28))] :: arr Ext :: iN .u64 ((v / K ^ 3 % K) / 2 ^ 28) :: arr ((v / K ^ 3 % K) / 2 ^ 28) :: .tuple #[arr (Ext * (v / K ^ 3 % K / 2 ^ 28) / K ^ 4), arr (Ext * (v / K ^ 3 % K / 2 ^ 28))] :: arr (Ext * (v / K ^ 3 % K / 2 ^ 28) / K ^ 4) :: arr (Ext * (v / K ^ 3 % K / 2 ^ 28)) :: .tuple #[arr ((R + K ^ 4 - O) % K ^ 4), iN .u64 1] :: arr R :: arr O :: .tuple #[arr ((R + K ^ 4 - O) % K ^ 4), iN .u64 1] :: arr ((R + K ^ 4 - O) % K ^ 4) :: iN .u64 1 :: iN .u64 1 :: .bool true :: List.replicate 7 un).toArray, []⟩) (by kernel_rfl) ?_
      refine wp_cond_true (by kernel_rfl) ?_
      -- region 14
      refine wl_region ?_
      refine wl_load h41 0 rfl (by kernel_rfl) (by kernel_rfl) Tryd.underlying34 rfl info34 ?_
      refine wl_val (arr Lq) (by kernel_rfl) (run_load_at (by kernel_rfl) (VV.below h41.old VV.big).l) ?_
      refine wl_call (v := .tuple #[arr ((((R + K ^ 4 - O) % K ^ 4) + Lq) % K ^ 4), iN .u64 ((((R + K ^ 4 - O) % K ^ 4) + Lq) / K ^ 4)]) h41 (by kernel_rfl) enter29 #[arr ((R + K ^ 4 - O) % K ^ 4), arr Lq] (by kernel_rfl) (sum_of _ Lq (Nat.mod_lt _ (by decide)) Lq_lt w40) ?_
      intro w42 h43
      refine wl_val (.tuple #[arr ((((R + K ^ 4 - O) % K ^ 4) + Lq) % K ^ 4), iN .u64 ((((R + K ^ 4 - O) % K ^ 4) + Lq) / K ^ 4)]) (by kernel_rfl) (by kernel_rfl) ?_
      refine wl_val (arr ((((R + K ^ 4 - O) % K ^ 4) + Lq) % K ^ 4)) (by kernel_rfl) (by kernel_rfl) ?_
      refine wl_val (iN .u64 ((((R + K ^ 4 - O) % K ^ 4) + Lq) / K ^ 4)) (by kernel_rfl) (by kernel_rfl) ?_
      refine wl_fill (c' := el ((((R + K ^ 4 - O) % K ^ 4) + Lq) % K ^ 4)) h43 0 rfl (by kernel_rfl) (by kernel_rfl) (by kernel_rfl) (el_sz _ _) info34 (one_cl _ _) ?_
      intro w44 (h45 : HA w [(q37, 34, el ((((R + K ^ 4 - O) % K ^ 4) + Lq) % K ^ 4)), (q27, 34, el O), (q24, 34, el (Ext * (v / K ^ 3 % K / 2 ^ 28) / K ^ 4)), (q7, 34, el R), (q4, 34, el 0), (q1, 34, el v)] w44)
      refine wl_nil ?_
      refine then_at (F := ⟨(arr v :: iN .u32 low :: pt q1 :: un :: pt q4 :: iN .u64 ((v / K ^ 3 % K) / 2 ^ 28) :: pt q7 :: iN .u64 (nx v low 4) :: u10 8 :: u10 9 :: pt q24 :: pt q27 :: pt q37 :: iN .u64 1 :: .pointer (some ⟨q1, 3, none⟩) :: iN .u64 (v / K ^ 3 % K) :: iN .u64 ((v / K ^ 3 % K) / 2 ^ 28) :: iN .u32 low :: iN .u64 low :: arr v :: iN .i64 4 :: .bool false :: u10 22 :: u10 23 :: u10 24 :: u10 25 :: u10 26 :: u10 27 :: u10 28 :: u10 29 :: u10 30 :: u10 31 :: u10 32 :: .pointer (some ⟨q7, 3, none⟩) :: iN .u64 (((v * 2 ^ 32 + low) % K ^ 4) / K ^ 3 % K) :: iN .u64 ((((v * 2 ^ 32 + low) % K ^ 4) / K ^ 3 % K) &&& 1152921504606846975) :: .pointer (some ⟨q7, 3, none⟩) :: .tuple #[arr (Ext * (v / K ^ 3 % K / 2 ^ 28) / K ^ 4), arr (Ext * (v / K ^ 3 % K / 2 ^ 28))] :: arr Ext :: iN .u64 ((v / K ^ 3 % K) / 2 ^ 28) :: arr ((v / K ^ 3 % K) / 2 ^ 28) :: .tuple #[arr (Ext * (v / K ^ 3 % K / 2 ^ 28) / K ^ 4), arr (Ext * (v / K ^ 3 % K / 2 ^ 28))] :: arr (Ext * (v / K ^ 3 % K / 2 ^ 28) / K ^ 4) :: arr (Ext * (v / K ^ 3 % K / 2 ^ 28)) :: .tuple #[arr ((R + K ^ 4 - O) % K ^ 4), iN .u64 1] :: arr R :: arr O :: .tuple #[arr ((R + K ^ 4 - O) % K ^ 4), iN .u64 1] :: arr ((R + K ^ 4 - O) % K ^ 4) :: iN .u64 1 :: iN .u64 1 :: .bool true :: .tuple #[arr ((((R + K ^ 4 - O) % K ^ 4) + Lq) % K ^ 4), iN .u64 ((((R + K ^ 4 - O) % K ^ 4) + Lq) / K ^ 4)] :: arr ((R + K ^ 4 - O) % K ^ 4) :: arr Lq :: .tuple #[arr ((((R + K ^ 4 - O) % K ^ 4) + Lq) % K ^ 4), iN .u64 ((((R + K ^ 4 - O) % K ^ 4) + Lq) / K ^ 4)] :: arr ((((R + K ^ 4 - O) % K ^ 4) + Lq) % K ^ 4) :: iN .u64 ((((R + K ^ 4 - O) % K ^ 4) + Lq) / K ^ 4) :: List.replicate 1 un).toArray, []⟩) (by kernel_rfl) ?_
      refine wp_seq ?_
      -- region 15
      refine wl_region ?_
      refine wl_load h45 0 rfl (by kernel_rfl) (by kernel_rfl) Tryd.underlying34 rfl info34 ?_
      refine wl_fill (c' := el ((((R + K ^ 4 - O) % K ^ 4) + Lq) % K ^ 4)) h45 4 rfl (by kernel_rfl) (by kernel_rfl) (by kernel_rfl) (el_sz _ _) info34 (one_cl _ _) ?_
      intro w46 (h47 : HA w [(q37, 34, el ((((R + K ^ 4 - O) % K ^ 4) + Lq) % K ^ 4)), (q27, 34, el O), (q24, 34, el (Ext * (v / K ^ 3 % K / 2 ^ 28) / K ^ 4)), (q7, 34, el R), (q4, 34, el ((((R + K ^ 4 - O) % K ^ 4) + Lq) % K ^ 4)), (q1, 34, el v)] w46)
      refine wl_nil ?_
      refine then_at (F := ⟨(arr v :: iN .u32 low :: pt q1 :: un :: pt q4 :: iN .u64 ((v / K ^ 3 % K) / 2 ^ 28) :: pt q7 :: iN .u64 (nx v low 4) :: u10 8 :: u10 9 :: pt q24 :: pt q27 :: pt q37 :: iN .u64 1 :: .pointer (some ⟨q1, 3, none⟩) :: iN .u64 (v / K ^ 3 % K) :: iN .u64 ((v / K ^ 3 % K) / 2 ^ 28) :: iN .u32 low :: iN .u64 low :: arr v :: iN .i64 4 :: .bool false :: u10 22 :: u10 23 :: u10 24 :: u10 25 :: u10 26 :: u10 27 :: u10 28 :: u10 29 :: u10 30 :: u10 31 :: u10 32 :: .pointer (some ⟨q7, 3, none⟩) :: iN .u64 (((v * 2 ^ 32 + low) % K ^ 4) / K ^ 3 % K) :: iN .u64 ((((v * 2 ^ 32 + low) % K ^ 4) / K ^ 3 % K) &&& 1152921504606846975) :: .pointer (some ⟨q7, 3, none⟩) :: .tuple #[arr (Ext * (v / K ^ 3 % K / 2 ^ 28) / K ^ 4), arr (Ext * (v / K ^ 3 % K / 2 ^ 28))] :: arr Ext :: iN .u64 ((v / K ^ 3 % K) / 2 ^ 28) :: arr ((v / K ^ 3 % K) / 2 ^ 28) :: .tuple #[arr (Ext * (v / K ^ 3 % K / 2 ^ 28) / K ^ 4), arr (Ext * (v / K ^ 3 % K / 2 ^ 28))] :: arr (Ext * (v / K ^ 3 % K / 2 ^ 28) / K ^ 4) :: arr (Ext * (v / K ^ 3 % K / 2 ^ 28)) :: .tuple #[arr ((R + K ^ 4 - O) % K ^ 4), iN .u64 1] :: arr R :: arr O :: .tuple #[arr ((R + K ^ 4 - O) % K ^ 4), iN .u64 1] :: arr ((R + K ^ 4 - O) % K ^ 4) :: iN .u64 1 :: iN .u64 1 :: .bool true :: .tuple #[arr ((((R + K ^ 4 - O) % K ^ 4) + Lq) % K ^ 4), iN .u64 ((((R + K ^ 4 - O) % K ^ 4) + Lq) / K ^ 4)] :: arr ((R + K ^ 4 - O) % K ^ 4) :: arr Lq :: .tuple #[arr ((((R + K ^ 4 - O) % K ^ 4) + Lq) % K ^ 4), iN .u64 ((((R + K ^ 4 - O) % K ^ 4) + Lq) / K ^ 4)] :: arr ((((R + K ^ 4 - O) % K ^ 4) + Lq) % K ^ 4) :: iN .u64 ((((R + K ^ 4 - O) % K ^ 4) + Lq) / K ^ 4) :: arr ((((R + K ^ 4 - O) % K ^ 4) + Lq) % K ^ 4) :: List.replicate 0 un).toArray, []⟩) (by kernel_rfl) ?_
      refine wp_ret ?_
      repeat first | refine then_ret ?_ | refine block_ret ?_
      exact bodyPost_ret (v := arr ((((R + K ^ 4 - O) % K ^ 4) + Lq) % K ^ 4) ) (res_cell (p := 4) (by kernel_rfl) (by kernel_rfl) (h47.get 4 rfl) Tryd.underlying34 rfl info34) rfl ⟨by rw [hyes hlt], h47.old⟩
    · -- region 12
      refine wl_region ?_
      refine wl_load h34 2 rfl (by kernel_rfl) (by kernel_rfl) Tryd.underlying34 rfl info34 ?_
      refine wl_load h34 0 rfl (by kernel_rfl) (by kernel_rfl) Tryd.underlying34 rfl info34 ?_
      refine wl_call (v := .tuple #[arr ((R + K ^ 4 - O) % K ^ 4), iN .u64 0]) h34 (by kernel_rfl) enter42 #[arr R, arr O] (by kernel_rfl) (difference_no R O hR hO hlt w32) ?_
      intro w48 h49
      refine wl_val (.tuple #[arr ((R + K ^ 4 - O) % K ^ 4), iN .u64 0]) (by kernel_rfl) (by kernel_rfl) ?_
      refine wl_val (arr ((R + K ^ 4 - O) % K ^ 4)) (by kernel_rfl) (by kernel_rfl) ?_
      refine wl_val (iN .u64 0) (by kernel_rfl) (by kernel_rfl) ?_
      refine wl_make h49 34 (by kernel_rfl) run_alloc34 ?_
      intro q50 w51 h52
      refine wl_fill (c' := el ((R + K ^ 4 - O) % K ^ 4)) h52 0 rfl (by kernel_rfl) (by kernel_rfl) (by kernel_rfl) (el_sz _ _) info34 (one_cl _ _) ?_
      intro w53 (h54 : HA w [(q50, 34, el ((R + K ^ 4 - O) % K ^ 4)), (q27, 34, el O), (q24, 34, el (Ext * (v / K ^ 3 % K / 2 ^ 28) / K ^ 4)), (q7, 34, el R), (q4, 34, el 0), (q1, 34, el v)] w53)
      refine wl_val (iN .u64 0) (by kernel_rfl) (by kernel_rfl) ?_
      refine wl_nil ?_
      refine then_at (F := ⟨(arr v :: iN .u32 low :: pt q1 :: un :: pt q4 :: iN .u64 ((v / K ^ 3 % K) / 2 ^ 28) :: pt q7 :: iN .u64 (nx v low 4) :: u10 8 :: u10 9 :: pt q24 :: pt q27 :: pt q50 :: iN .u64 0 :: .pointer (some ⟨q1, 3, none⟩) :: iN .u64 (v / K ^ 3 % K) :: iN .u64 ((v / K ^ 3 % K) / 2 ^ 28) :: iN .u32 low :: iN .u64 low :: arr v :: iN .i64 4 :: .bool false :: u10 22 :: u10 23 :: u10 24 :: u10 25 :: u10 26 :: u10 27 :: u10 28 :: u10 29 :: u10 30 :: u10 31 :: u10 32 :: .pointer (some ⟨q7, 3, none⟩) :: iN .u64 (((v * 2 ^ 32 + low) % K ^ 4) / K ^ 3 % K) :: iN .u64 ((((v * 2 ^ 32 + low) % K ^ 4) / K ^ 3 % K) &&& 1152921504606846975) :: .pointer (some ⟨q7, 3, none⟩) :: .tuple #[arr (Ext * (v / K ^ 3 % K / 2 ^ 28) / K ^ 4), arr (Ext * (v / K ^ 3 % K / 2 ^ 28))] :: arr Ext :: iN .u64 ((v / K ^ 3 % K) / 2 ^ 28) :: arr ((v / K ^ 3 % K) / 2 ^ 28) :: .tuple #[arr (Ext * (v / K ^ 3 % K / 2 ^ 28) / K ^ 4), arr (Ext * (v / K ^ 3 % K / 2 ^ 28))] :: arr (Ext * (v / K ^ 3 % K / 2 ^ 28) / K ^ 4) :: arr (Ext * (v / K ^ 3 % K / 2 ^ 28)) :: .tuple #[arr ((R + K ^ 4 - O) % K ^ 4), iN .u64 0] :: arr R :: arr O :: .tuple #[arr ((R + K ^ 4 - O) % K ^ 4), iN .u64 0] :: arr ((R + K ^ 4 - O) % K ^ 4) :: iN .u64 0 :: List.replicate 9 un).toArray, []⟩) (by kernel_rfl) ?_
      refine wp_seq ?_
      refine wp_seq ?_
      -- region 13
      refine wl_region ?_
      refine wl_val (iN .u64 0) (by kernel_rfl) (by kernel_rfl) ?_
      refine wl_val (.bool false) (by kernel_rfl) (run_nei (k := .u64) (a := 0) (b := 0) (by kernel_rfl) (by kernel_rfl) false (by decide)) ?_
      refine wl_nil ?_
      refine then_at (F := ⟨(arr v :: iN .u32 low :: pt q1 :: un :: pt q4 :: iN .u64 ((v / K ^ 3 % K) / 2 ^ 28) :: pt q7 :: iN .u64 (nx v low 4) :: u10 8 :: u10 9 :: pt q24 :: pt q27 :: pt q50 :: iN .u64 0 :: .pointer (some ⟨q1, 3, none⟩) :: iN .u64 (v / K ^ 3 % K) :: iN .u64 ((v / K ^ 3 % K) / 2 ^ 28) :: iN .u32 low :: iN .u64 low :: arr v :: iN .i64 4 :: .bool false :: u10 22 :: u10 23 :: u10 24 :: u10 25 :: u10 26 :: u10 27 :: u10 28 :: u10 29 :: u10 30 :: u10 31 :: u10 32 :: .pointer (some ⟨q7, 3, none⟩) :: iN .u64 (((v * 2 ^ 32 + low) % K ^ 4) / K ^ 3 % K) :: iN .u64 ((((v * 2 ^ 32 + low) % K ^ 4) / K ^ 3 % K) &&& 1152921504606846975) :: .pointer (some ⟨q7, 3, none⟩) :: .tuple #[arr (Ext * (v / K ^ 3 % K / 2 ^ 28) / K ^ 4), arr (Ext * (v / K ^ 3 % K / 2 ^ 28))] :: arr Ext :: iN .u64 ((v / K ^ 3 % K) / 2 ^ 28) :: arr ((v / K ^ 3 % K) / 2 ^ 28) :: .tuple #[arr (Ext * (v / K ^ 3 % K / 2 ^ 28) / K ^ 4), arr (Ext * (v / K ^ 3 % K / 2 ^ 28))] :: arr (Ext * (v / K ^ 3 % K / 2 ^ 28) / K ^ 4) :: arr (Ext * (v / K ^ 3 % K / 2 ^ 28)) :: .tuple #[arr ((R + K ^ 4 - O) % K ^ 4), iN .u64 0] :: arr R :: arr O :: .tuple #[arr ((R + K ^ 4 - O) % K ^ 4), iN .u64 0] :: arr ((R + K ^ 4 - O) % K ^ 4) :: iN .u64 0 :: iN .u64 0 :: .bool false :: List.replicate 7 un).toArray, []⟩) (by kernel_rfl) ?_
      refine wp_cond_false (by kernel_rfl) ?_
      refine wp_skip ?_
      refine then_at (F := ⟨(arr v :: iN .u32 low :: pt q1 :: un :: pt q4 :: iN .u64 ((v / K ^ 3 % K) / 2 ^ 28) :: pt q7 :: iN .u64 (nx v low 4) :: u10 8 :: u10 9 :: pt q24 :: pt q27 :: pt q50 :: iN .u64 0 :: .pointer (some ⟨q1, 3, none⟩) :: iN .u64 (v / K ^ 3 % K) :: iN .u64 ((v / K ^ 3 % K) / 2 ^ 28) :: iN .u32 low :: iN .u64 low :: arr v :: iN .i64 4 :: .bool false :: u10 22 :: u10 23 :: u10 24 :: u10 25 :: u10 26 :: u10 27 :: u10 28 :: u10 29 :: u10 30 :: u10 31 :: u10 32 :: .pointer (some ⟨q7, 3, none⟩) :: iN .u64 (((v * 2 ^ 32 + low) % K ^ 4) / K ^ 3 % K) :: iN .u64 ((((v * 2 ^ 32 + low) % K ^ 4) / K ^ 3 % K) &&& 1152921504606846975) :: .pointer (some ⟨q7, 3, none⟩) :: .tuple #[arr (Ext * (v / K ^ 3 % K / 2 ^ 28) / K ^ 4), arr (Ext * (v / K ^ 3 % K / 2 ^ 28))] :: arr Ext :: iN .u64 ((v / K ^ 3 % K) / 2 ^ 28) :: arr ((v / K ^ 3 % K) / 2 ^ 28) :: .tuple #[arr (Ext * (v / K ^ 3 % K / 2 ^ 28) / K ^ 4), arr (Ext * (v / K ^ 3 % K / 2 ^ 28))] :: arr (Ext * (v / K ^ 3 % K / 2 ^ 28) / K ^ 4) :: arr (Ext * (v / K ^ 3 % K / 2 ^ 28)) :: .tuple #[arr ((R + K ^ 4 - O) % K ^ 4), iN .u64 0] :: arr R :: arr O :: .tuple #[arr ((R + K ^ 4 - O) % K ^ 4), iN .u64 0] :: arr ((R + K ^ 4 - O) % K ^ 4) :: iN .u64 0 :: iN .u64 0 :: .bool false :: List.replicate 7 un).toArray, []⟩) (by kernel_rfl) ?_
      refine wp_seq ?_
      -- region 15
      refine wl_region ?_
      refine wl_load h54 0 rfl (by kernel_rfl) (by kernel_rfl) Tryd.underlying34 rfl info34 ?_
      refine wl_fill (c' := el ((R + K ^ 4 - O) % K ^ 4)) h54 4 rfl (by kernel_rfl) (by kernel_rfl) (by kernel_rfl) (el_sz _ _) info34 (one_cl _ _) ?_
      intro w55 (h56 : HA w [(q50, 34, el ((R + K ^ 4 - O) % K ^ 4)), (q27, 34, el O), (q24, 34, el (Ext * (v / K ^ 3 % K / 2 ^ 28) / K ^ 4)), (q7, 34, el R), (q4, 34, el ((R + K ^ 4 - O) % K ^ 4)), (q1, 34, el v)] w55)
      refine wl_nil ?_
      refine then_at (F := ⟨(arr v :: iN .u32 low :: pt q1 :: un :: pt q4 :: iN .u64 ((v / K ^ 3 % K) / 2 ^ 28) :: pt q7 :: iN .u64 (nx v low 4) :: u10 8 :: u10 9 :: pt q24 :: pt q27 :: pt q50 :: iN .u64 0 :: .pointer (some ⟨q1, 3, none⟩) :: iN .u64 (v / K ^ 3 % K) :: iN .u64 ((v / K ^ 3 % K) / 2 ^ 28) :: iN .u32 low :: iN .u64 low :: arr v :: iN .i64 4 :: .bool false :: u10 22 :: u10 23 :: u10 24 :: u10 25 :: u10 26 :: u10 27 :: u10 28 :: u10 29 :: u10 30 :: u10 31 :: u10 32 :: .pointer (some ⟨q7, 3, none⟩) :: iN .u64 (((v * 2 ^ 32 + low) % K ^ 4) / K ^ 3 % K) :: iN .u64 ((((v * 2 ^ 32 + low) % K ^ 4) / K ^ 3 % K) &&& 1152921504606846975) :: .pointer (some ⟨q7, 3, none⟩) :: .tuple #[arr (Ext * (v / K ^ 3 % K / 2 ^ 28) / K ^ 4), arr (Ext * (v / K ^ 3 % K / 2 ^ 28))] :: arr Ext :: iN .u64 ((v / K ^ 3 % K) / 2 ^ 28) :: arr ((v / K ^ 3 % K) / 2 ^ 28) :: .tuple #[arr (Ext * (v / K ^ 3 % K / 2 ^ 28) / K ^ 4), arr (Ext * (v / K ^ 3 % K / 2 ^ 28))] :: arr (Ext * (v / K ^ 3 % K / 2 ^ 28) / K ^ 4) :: arr (Ext * (v / K ^ 3 % K / 2 ^ 28)) :: .tuple #[arr ((R + K ^ 4 - O) % K ^ 4), iN .u64 0] :: arr R :: arr O :: .tuple #[arr ((R + K ^ 4 - O) % K ^ 4), iN .u64 0] :: arr ((R + K ^ 4 - O) % K ^ 4) :: iN .u64 0 :: iN .u64 0 :: .bool false :: un :: un :: un :: un :: un :: un :: arr ((R + K ^ 4 - O) % K ^ 4) :: List.replicate 0 un).toArray, []⟩) (by kernel_rfl) ?_
      refine wp_ret ?_
      repeat first | refine then_ret ?_ | refine block_ret ?_
      exact bodyPost_ret (v := arr ((R + K ^ 4 - O) % K ^ 4) ) (res_cell (p := 4) (by kernel_rfl) (by kernel_rfl) (h56.get 4 rfl) Tryd.underlying34 rfl info34) rfl ⟨by rw [hno hlt], h56.old⟩
end Go.Proofs.YtdblnbcclfenkaaDoor
