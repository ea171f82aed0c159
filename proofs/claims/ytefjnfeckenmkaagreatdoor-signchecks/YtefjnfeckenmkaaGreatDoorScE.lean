/-
 scalar, in the curve's seat: NumS Moved.
-/
import Derived.Test.YtefjnfeckenmkaaGreatDoorS1
namespace Go.Proofs.YtefjnfeckenmkaaGreatDoor.Sc
set_option linter.unusedVariables false
set_option maxRecDepth 100000
set_option maxHeartbeats 2000000
open Go.RowKit Num
def Lq : Nat := 7237005577332262213973186563042994240857116359379907606001950938285454250989
def Ext : Nat := 27742317777372353535851937790883648493
theorem Lq_eq : Lq = 2 ^ 252 + Ext := by decide
theorem Lq_pos : 0 < Lq := by decide
theorem Lq_lt : Lq < K ^ 4 := by decide
theorem Ext_lt : Ext < K ^ 4 := by decide
def nx (v low : Nat) : Nat → Nat
 | 0 => low
 | k + 1 => v / K ^ k % K / 2 ^ 32
def rs (v low : Nat) : Nat → Nat
 | 0 => 0
 | k + 1 => rs v low k + (v / K ^ k % K * 2 ^ 32 % 18446744073709551616 ||| nx v low k) * K ^ k
theorem nx_lt (v low k : Nat) (hl : low < 2 ^ 32) : nx v low k < 2 ^ 32 := by
 cases k with
 | zero => exact hl
 | succ k =>
  show v / K ^ k % K / 2 ^ 32 < 2 ^ 32
  have : v / K ^ k % K < 18446744073709551616 := Nat.mod_lt _ (by decide)
  omega
theorem shl_or (x y : Nat) (hy : y < 2 ^ 32) : x * 2 ^ 32 % 18446744073709551616 ||| y = x * 2 ^ 32 % 18446744073709551616 + y := by
 have e : x * 2 ^ 32 % 18446744073709551616 = 2 ^ 32 * (x % 2 ^ 32) := by omega
 rw [e, Nat.two_pow_add_eq_or_of_lt hy]
theorem or_lt (x y : Nat) (hy : y < 2 ^ 32) : (x * 2 ^ 32 % 18446744073709551616 ||| y) < K := by
 rw [shl_or x y hy]
 show _ < 18446744073709551616
 omega
theorem rs_eq (v low : Nat) (hl : low < 2 ^ 32) : ∀ k, rs v low k + nx v low k * K ^ k = v % K ^ k * 2 ^ 32 + low ∧ rs v low k < K ^ k
 | 0 => by simp [rs, nx, Nat.mod_one]
 | k + 1 => by
  obtain ⟨h1, h2⟩ := rs_eq v low hl k
  have h3 := mod_step K v k
  have hp : 0 < K ^ k := Nat.pow_pos (by decide)
  have hn := nx_lt v low k hl
  rw [h3, rs, shl_or _ _ hn]
  show _ + v / K ^ k % K / 2 ^ 32 * K ^ (k + 1) = _ ∧ _
  have hK : K ^ (k + 1) = K * K ^ k := pow_split K k
  rw [hK]
  generalize v / K ^ k % K = x at *
  generalize v % K ^ k = m at *
  generalize rs v low k = r at *
  generalize nx v low k = y at *
  have e : x * 2 ^ 32 = x * 2 ^ 32 % 18446744073709551616 + x / 2 ^ 32 * K := by show _ = _ + x / 2 ^ 32 * 18446744073709551616; omega
  have h4 : x * 2 ^ 32 % 18446744073709551616 + y + 1 ≤ K := by show _ ≤ 18446744073709551616; omega
  generalize K ^ k = p at *
  generalize x * 2 ^ 32 % 18446744073709551616 = d at *
  generalize x / 2 ^ 32 = q at *
  have e2 : x * p * 2 ^ 32 = d * p + q * (K * p) := by rw [Nat.mul_right_comm, e, Nat.add_mul, Nat.mul_assoc]
  refine ⟨?_, ?_⟩
  ·rw [Nat.add_mul m, e2, Nat.add_mul]
   omega
  ·skip
   have h5 := Nat.mul_le_mul_right p h4
   rw [Nat.add_mul _ 1, Nat.one_mul] at h5
   omega
theorem rs_four (v low : Nat) (hl : low < 2 ^ 32) (hv : v < K ^ 4) : rs v low 4 = (v * 2 ^ 32 + low) % K ^ 4 := by
 obtain ⟨h1, h2⟩ := rs_eq v low hl 4
 rw [Nat.mod_eq_of_lt hv] at h1
 rw [← h1, Nat.add_mul_mod_self_right, Nat.mod_eq_of_lt h2]
theorem top_word (n : Nat) (hn : n < K ^ 4) : (digs K 4 n).set 3 (n / K ^ 3 % K &&& 1152921504606846975) = digs K 4 (n % 2 ^ 252) := by
 have e : n / K ^ 3 % K &&& 1152921504606846975 = n / K ^ 3 % K % 2 ^ 60 := Nat.and_two_pow_sub_one_eq_mod _ 60
 have h3 : n / K ^ 3 < K := by rw [Nat.div_lt_iff_lt_mul (Nat.pow_pos (by decide))]; exact hn
 refine digs_set K 4 n _ 3 _ hn (by decide) ?_ ?_
 ·rw [e]
  exact Nat.lt_of_lt_of_le (Nat.mod_lt _ (by decide)) (by decide)
 ·rw [e, Nat.mod_eq_of_lt h3]
  have h4 := Nat.mod_add_div n (K ^ 3)
  have h5 : n % 2 ^ 252 = n % K ^ 3 + n / K ^ 3 % 2 ^ 60 * K ^ 3 := by
   have : (2 : Nat) ^ 252 = K ^ 3 * 2 ^ 60 := by decide
   rw [this, Nat.mod_mul, Nat.mul_comm (K ^ 3)]
  rw [h5]
  have h6 : n / K ^ 3 * K ^ 3 = K ^ 3 * (n / K ^ 3) := Nat.mul_comm _ _
  omega
theorem above_eq (v : Nat) (hv : v < Lq) : v / K ^ 3 % K / 2 ^ 28 = v / 2 ^ 220 ∧ v / 2 ^ 220 < 2 ^ 33 := by
 have h3 : v / K ^ 3 < K := by rw [Nat.div_lt_iff_lt_mul (Nat.pow_pos (by decide))]; exact Nat.lt_trans hv (by decide)
 refine ⟨?_, ?_⟩
 ·rw [Nat.mod_eq_of_lt h3, Nat.div_div_eq_div_mul]
  have : K ^ 3 * 2 ^ 28 = 2 ^ 220 := by decide
  rw [this]
 ·rw [Nat.div_lt_iff_lt_mul (by decide)]
  exact Nat.lt_trans hv (by decide)
theorem moved_parts (v low : Nat) (hl : low < 2 ^ 32) : v * 2 ^ 32 + low = v / 2 ^ 220 * 2 ^ 252 + (v * 2 ^ 32 + low) % 2 ^ 252 := by
 have h := Nat.mod_add_div (v * 2 ^ 32 + low) (2 ^ 252)
 have e : (v * 2 ^ 32 + low) / 2 ^ 252 = v / 2 ^ 220 := by
  have : (2 : Nat) ^ 252 = 2 ^ 32 * 2 ^ 220 := by decide
  rw [this, ← Nat.div_div_eq_div_mul]
  congr 1
  omega
 rw [e] at h
 omega
theorem mod_parts (n r o c a M : Nat) (h1 : n = c + r) (e2 : M * a = c + o) (hr : r < M) (ho : o < M) : (r < o → r + M - o = n % M) ∧ (¬ r < o → r - o = n % M) := by
 refine ⟨fun h => ?_, fun h => ?_⟩
 ·have e : n + M = (r + M - o) + M * a := by omega
  rw [← Nat.add_mod_right, e, Nat.add_mul_mod_self_left, Nat.mod_eq_of_lt (by omega)]
 ·have e : n = (r - o) + M * a := by omega
  rw [e, Nat.add_mul_mod_self_left, Nat.mod_eq_of_lt (by omega)]
theorem moved_eq (v low r o : Nat) (hl : low < 2 ^ 32) (hv : v < Lq) (hr : r = (v * 2 ^ 32 + low) % 2 ^ 252) (ho : o = Ext * (v / 2 ^ 220)) :
  r < Lq ∧ o < Lq ∧ (r < o → r + Lq - o = (v * 2 ^ 32 + low) % Lq) ∧ (¬ r < o → r - o = (v * 2 ^ 32 + low) % Lq) := by
 have h1 := moved_parts v low hl
 rw [← hr] at h1
 have h2 := (above_eq v hv).2
 generalize v / 2 ^ 220 = a at *
 have hr1 : r < 2 ^ 252 := by rw [hr]; exact Nat.mod_lt _ (by decide)
 have e2 : Lq * a = a * 2 ^ 252 + o := by rw [Lq_eq, ho, Nat.add_mul, Nat.mul_comm (2 ^ 252)]
 have ho1 : o < Lq := by
  have h3 := Nat.mul_le_mul_left Ext (show a ≤ 2 ^ 33 by omega)
  rw [← ho] at h3
  exact Nat.lt_of_le_of_lt h3 (by decide)
 have hr2 : r < Lq := Nat.lt_trans hr1 (by decide)
 exact ⟨hr2, ho1, mod_parts _ r o _ a Lq h1 e2 hr2 ho1⟩
theorem sum_of (a b : Nat) (ha : a < K ^ 4) (hb : b < K ^ 4) (w : World) :
  Calls Tryz.prog 55 #[arr a, arr b] w fun e w' => e = .returned (.tuple #[arr ((a + b) % K ^ 4), iN .u64 ((a + b) / K ^ 4)]) ∧ Below w.heap.size w w' := by
 have h := sum_any a b w
 rwa [Nat.mod_eq_of_lt ha, Nat.mod_eq_of_lt hb] at h
theorem difference_yes (a b : Nat) (ha : a < K ^ 4) (hb : b < K ^ 4) (h : a < b) (w : World) :
  Calls Tryz.prog 127 #[arr a, arr b] w fun e w' => e = .returned (.tuple #[arr ((a + K ^ 4 - b) % K ^ 4), iN .u64 1]) ∧ Below w.heap.size w w' := by
 have h1 := difference_any a b w
 unfold bor at h1
 rwa [Nat.mod_eq_of_lt ha, Nat.mod_eq_of_lt hb, if_pos h] at h1
theorem difference_no (a b : Nat) (ha : a < K ^ 4) (hb : b < K ^ 4) (h : ¬ a < b) (w : World) :
  Calls Tryz.prog 127 #[arr a, arr b] w fun e w' => e = .returned (.tuple #[arr ((a + K ^ 4 - b) % K ^ 4), iN .u64 0]) ∧ Below w.heap.size w w' := by
 have h1 := difference_any a b w
 unfold bor at h1
 rwa [Nat.mod_eq_of_lt ha, Nat.mod_eq_of_lt hb, if_neg h] at h1
structure Vars (w : World) : Prop where
 big : 9 ≤ w.heap.size
 x : At w 3 Ext
 l : At w 4 Lq
theorem Vars.below {w w' : World} {B : Nat} (h : Vars w) (hb : Below B w w') (hB : 9 ≤ B) : Vars w' :=
 ⟨Nat.le_trans h.big hb.size, h.x.below hb (by omega), h.l.below hb (by omega)⟩
theorem run_load_at {ρ : Operand → Value} {x : Operand} {g n : Nat} {w : World} {dst : Option Tmp} {ty : TypeId} {pos : String} {aft : Array Edge} {gd : Option (Nat × Bool)} (hx : ρ x = .pointer (some ⟨g, 0, none⟩)) (h : At w g n) :
  (execOp ρ ⟨dst, .load 73 x, ty, pos, aft, gd⟩).run Tryz.prog w = .ok (.value (arr n)) w := by
 have hr : w.rangeAt g 0 (el n).toList := fun j v hv => by
  have hj : j < 4 := by have := (List.getElem?_eq_some_iff.1 hv).1; simpa [el_size] using this
  rw [Nat.zero_add, h j hj]
  have h2 := el_get n j hj
  rw [Array.getElem?_toList] at hv
  rw [h2] at hv
  exact hv
 simp only [execOp, hx, Instr.loadAt, Instr.sureAddr, Sem.run_bind, Sem.run_pure, Result.andThen_ok, run_loadVar_mid w g 0 73 (el n).toList _ hr Tryz.underlying73 rfl (by rw [Array.length_toList]; exact info34)]
 rfl
theorem run_build1 {ρ : Operand → Value} {x : Operand} {a : Nat} {w : World} {dst : Option Tmp} {ty : TypeId} {pos : String} {aft : Array Edge} {gd : Option (Nat × Bool)} (hx : ρ x = iN .u64 a) (ha : a < K) :
  (execOp ρ ⟨dst, .build 73 #[(0, x)], ty, pos, aft, gd⟩).run Tryz.prog w = .ok (.value (arr a)) w := by
 have e : arr a = .agg #[iN .u64 a, iN .u64 0, iN .u64 0, iN .u64 0] := by
  have h : digs K 4 a = [a, 0, 0, 0] := by
   have : a = num K [a, 0, 0, 0] := by simp [num]
   conv => lhs; rw [this]
   refine digs_num K _ (fun x hx => ?_) 4 rfl
   simp at hx
   rcases hx with rfl | rfl
   ·exact ha
   ·decide
  unfold arr
  rw [h]
  rfl
 rw [e]
 simp only [execOp, iN] at hx ⊢
 simp only [Array.map]
 go_simp
theorem run_index_arr {ρ : Operand → Value} {x y : Operand} {n a : Nat} {w : World} {dst : Option Tmp} {ty : TypeId} {pos : String} {aft : Array Edge} {gd : Option (Nat × Bool)} (hx : ρ x = arr n) (hy : ρ y = iN .i64 a) (ha : a < 4) :
  (execOp ρ ⟨dst, .index 73 x y, ty, pos, aft, gd⟩).run Tryz.prog w = .ok (.value (iN .u64 (n / K ^ a % K))) w := by
 have e := el_get n a ha
 obtain ⟨a0, a1, a2, a3, _, e2⟩ := arr_open n
 have e3 : el n = #[.int .u64 a0, .int .u64 a1, .int .u64 a2, .int .u64 a3] := Value.agg.inj e2
 rw [e2] at hx
 rw [e3] at e
 generalize n / K ^ a % K = z at *
 simp only [execOp, iN] at hx hy e ⊢
 have h4 : a = 0 ∨ a = 1 ∨ a = 2 ∨ a = 3 := by omega
 rcases h4 with rfl | rfl | rfl | rfl <;> (simp at e; rw [← e]; simp only [hx, hy, Instr.index]; go_simp)
set_option linter.unusedSimpArgs false in
theorem run_shlw {ρ : Operand → Value} {x y : Operand} {w : World} {dst : Option Tmp} {T T2 ty : TypeId} {pos : String} {aft : Array Edge} {gd : Option (Nat × Bool)} {a b : Nat} {P : Program} {k2 : IntKind} (hx : ρ x = iN .u64 a) (hy : ρ y = iN k2 b) (hb : b ≤ 64) :
  (execOp ρ ⟨dst, .binOp .shl T x y T2, ty, pos, aft, gd⟩).run P w = .ok (.value (iN .u64 (a * 2 ^ b % 18446744073709551616))) w := by
 have e : min b 64 = b := Nat.min_eq_left hb
 have h : IntKind.u64.wrap ((a : Int) * 2 ^ b) = ((a * 2 ^ b % 18446744073709551616 : Nat) : Int) := by
  rw [show (a : Int) * 2 ^ b = ((a * 2 ^ b : Nat) : Int) by push_cast; rfl, M64.wrapM]
 simp only [execOp, hx, hy, iN]
 simpa [binOp, go_sem, IntKind.bits, e] using h
theorem rs_push (v low k : Nat) (hl : low < 2 ^ 32) (hk : k < 4) : (digs K 4 (rs v low k)).set k (v / K ^ k % K * 2 ^ 32 % 18446744073709551616 ||| nx v low k) = digs K 4 (rs v low (k + 1)) :=
 digs_push K 4 _ k _ (rs_eq v low hl k).2 hk (or_lt _ _ (nx_lt v low k hl))
theorem wrap_less (R O M B : Nat) (ho : O < M) (hM : M < B) (h : R < O) : ((R + B - O) % B + M) % B = R + M - O := by
 rw [Nat.mod_eq_of_lt (show R + B - O < B by omega), show R + B - O + M = (R + M - O) + B by omega, Nat.add_mod_right, Nat.mod_eq_of_lt (by omega)]
theorem moved_any (v low : Nat) (hv : v < Lq) (hl : low < 2 ^ 32) (w : World) (VV : Vars w) :
  Calls Tryz.prog 97 #[arr v, iN .u32 low] w fun e w' => e = .returned (arr ((v * 2 ^ 32 + low) % Lq)) ∧ Below w.heap.size w w' := by
 have hv4 : v < K ^ 4 := Nat.lt_trans hv Lq_lt
 have hab1 : v / K ^ 3 % K / 2 ^ 28 < K := Nat.lt_of_le_of_lt (Nat.div_le_self _ _) (Nat.mod_lt _ (by decide))
 have hab : v / K ^ 3 % K / 2 ^ 28 < K ^ 4 := Nat.lt_trans hab1 (by decide)
 obtain ⟨R, hRe⟩ : ∃ R, R = (v * 2 ^ 32 + low) % K ^ 4 % 2 ^ 252 := ⟨_, rfl⟩
 obtain ⟨O, hOe⟩ : ∃ O, O = Ext * (v / K ^ 3 % K / 2 ^ 28) := ⟨_, rfl⟩
 have hM := moved_eq v low R O hl hv (by rw [hRe, Nat.mod_mod_of_dvd _ (by decide)]) (by rw [hOe, (above_eq v hv).1])
 have hR : R < K ^ 4 := Nat.lt_trans hM.1 Lq_lt
 have hO : O < K ^ 4 := Nat.lt_trans hM.2.1 Lq_lt
 have hyes : R < O → (((R + K ^ 4 - O) % K ^ 4) + Lq) % K ^ 4 = (v * 2 ^ 32 + low) % Lq := fun h => by
  rw [← hM.2.2.1 h]
  exact wrap_less R O Lq (K ^ 4) hM.2.1 Lq_lt h
 have hno : ¬ R < O → (R + K ^ 4 - O) % K ^ 4 = (v * 2 ^ 32 + low) % Lq := fun h => by
  rw [← hM.2.2.2 h, show R + K ^ 4 - O = (R - O) + K ^ 4 by omega, Nat.add_mod_right, Nat.mod_eq_of_lt (by omega)]
 have H0 := HA.start w
 go_enter Tryz.func97, Tryz.ntmps97
 refine zsr ?_
 refine wl_make H0 73 (run_box34 (c := el v) (by kernel_rfl)) ?_
 intro q1 w2 h3
 refine wl_make h3 73 run_alloc34 ?_
 intro q4 w5 h6
 refine znt ?_
 refine zsr ?_
 refine zwu (run_addr_arr (q := q1) (a := 3) Tryz.underlying73 Tryz.sizeOf34 (by decide)) ?_
 refine zwu (run_load1 Tryz.isAgg34 (((h6.get 1 rfl).cell 3).trans (el_get v 3 (by decide)))) ?_
 refine zwu (run_shr (k2 := .u64) (k := .u64) (a := v / K ^ 3 % K) (b := 28) (by decide)) ?_
 refine zwv (iN .u64 ((v / K ^ 3 % K) / 2 ^ 28)) ?_
 refine znt ?_
 refine zsr ?_
 refine wl_make h6 73 run_alloc34 ?_
 intro q7 w8 h9
 refine znt ?_
 refine zsr ?_
 refine zwv (iN .u32 low) ?_
 refine zwu (v := iN .u64 low) (run_conv .u64 Tryz.underlying49 Tryz.underlying34 (by simp only [top]; omega)) ?_
 refine zwv (iN .u64 low) ?_
 refine znt ?_
 refine wp_seq ?_
 refine zsr ?_
 refine wl_load h9 2 rfl Tryz.underlying73 rfl info34 ?_
 refine zwv (iN .i64 0) ?_
 refine znt ?_
 refine wp_block ?_
 refine wp_count (fun k A w' => ∃ u10 : Nat → Value, A = ⟨(arr v :: iN .u32 low :: pt q1 :: un :: pt q4 :: iN .u64 ((v / K ^ 3 % K) / 2 ^ 28) :: pt q7 :: iN .u64 (nx v low k) :: u10 8 :: u10 9 :: un :: un :: un :: un :: .pointer (some ⟨q1, 3, none⟩) :: iN .u64 (v / K ^ 3 % K) :: iN .u64 ((v / K ^ 3 % K) / 2 ^ 28) :: iN .u32 low :: iN .u64 low :: arr v :: iN .i64 k :: u10 21 :: u10 22 :: u10 23 :: u10 24 :: u10 25 :: u10 26 :: u10 27 :: u10 28 :: u10 29 :: u10 30 :: u10 31 :: u10 32 :: List.replicate 26 un).toArray, []⟩ ∧ HA w [(q7, 73, el (rs v low k)), (q4, 73, el 0), (q1, 73, el v)] w') 4 ?_ ?_ ?_
 ·exact zex h9
 ·rintro k hk _ w11 ⟨u10, rfl, h12⟩
  refine zsr ?_
  refine zwu (run_lss (k := .i64) (a := k) (b := 4) true (decide_eq_true hk)) ?_
  refine znt ?_
  refine zit ?_
  refine wp_seq ?_
  refine wp_block ?_
  refine zsr ?_
  refine zwv (iN .i64 k) ?_
  refine zwu (run_index_arr (n := v) (a := k) (by kernel_rfl) (by kernel_rfl) (by omega)) ?_
  refine zwv (iN .i64 k) ?_
  refine zwv (iN .u64 (v / K ^ k % K)) ?_
  refine znt ?_
  refine zsr ?_
  refine zwv (iN .i64 k) ?_
  refine zwv (iN .u64 (v / K ^ k % K)) ?_
  refine zwu (run_shlw (a := v / K ^ k % K) (b := 32) (k2 := .u64) (by kernel_rfl) (by kernel_rfl) (by decide)) ?_
  refine zwv (iN .u64 (nx v low k)) ?_
  refine zwu (run_or64 (a := (v / K ^ k % K) * 2 ^ 32 % 18446744073709551616) (b := nx v low k) (by kernel_rfl) (by kernel_rfl) (Nat.mod_lt _ (by decide)) (Nat.lt_trans (nx_lt v low k hl) (by decide))) ?_
  refine zwu (run_addr_arr (q := q7) (a := k) Tryz.underlying73 Tryz.sizeOf34 (by omega)) ?_
  refine wl_put (k := .u64) (z := ((((v / K ^ k % K) * 2 ^ 32 % 18446744073709551616) ||| (nx v low k) : Nat) : Int)) h12 0 rfl k (by rw [el_size]; omega) Tryz.sizeOf34 ?_
  intro w13 h14
  have h15 : HA w [(q7, 73, el (rs v low (k + 1))), (q4, 73, el 0), (q1, 73, el v)] w13 := (by rw [← el_put _ _ _ _ (rs_push v low k hl hk)]; exact h14)
  clear h14
  refine znt ?_
  refine wl_region ?_
  refine zwv (iN .u64 (v / K ^ k % K)) ?_
  refine zwu (run_shr (k2 := .u64) (k := .u64) (a := v / K ^ k % K) (b := 32) (by decide)) ?_
  refine zwv (iN .u64 ((v / K ^ k % K) / 2 ^ 32)) ?_
  refine wl_nil ?_
  refine block_normal ?_
  refine then_at rfl ?_
  refine wl_region ?_
  refine zwu (run_add (k := .i64) (a := k) (b := 1) (by simp only [top]; omega)) ?_
  refine zwv (iN .i64 (k + 1)) ?_
  refine wl_nil ?_
  exact then_I (zex h15)
 ·rintro _ w16 ⟨u10, rfl, h17⟩
  refine zsr ?_
  refine zwu (run_lss (k := .i64) (a := 4) (b := 4) false (by decide)) ?_
  refine znt ?_
  refine wp_seq ?_
  refine zcf ?_
  refine wp_exit ?_
  repeat first | refine then_exit ?_ | refine block_exit ?_ | refine block_exit_ne (by decide) ?_
  have h18 : HA w [(q7, 73, el ((v * 2 ^ 32 + low) % K ^ 4)), (q4, 73, el 0), (q1, 73, el v)] w16 := by rw [← rs_four v low hl hv4]; exact h17
  refine then_at rfl ?_
  refine zsr ?_
  refine zwu (run_addr_arr (q := q7) (a := 3) Tryz.underlying73 Tryz.sizeOf34 (by decide)) ?_
  refine zwu (run_load1 Tryz.isAgg34 (((h18.get 0 rfl).cell 3).trans (el_get ((v * 2 ^ 32 + low) % K ^ 4) 3 (by decide)))) ?_
  refine zwu (run_and64 (a := ((v * 2 ^ 32 + low) % K ^ 4) / K ^ 3 % K) (b := 1152921504606846975) (by kernel_rfl) (by kernel_rfl) (Nat.mod_lt _ (by decide)) (by decide)) ?_
  refine zwu (run_addr_arr (q := q7) (a := 3) Tryz.underlying73 Tryz.sizeOf34 (by decide)) ?_
  refine wl_put (k := .u64) (z := (((((v * 2 ^ 32 + low) % K ^ 4) / K ^ 3 % K) &&& 1152921504606846975 : Nat) : Int)) h18 0 rfl 3 (by rw [el_size]; decide) Tryz.sizeOf34 ?_
  intro w19 h20
  have h21 : HA w [(q7, 73, el ((v * 2 ^ 32 + low) % K ^ 4 % 2 ^ 252)), (q4, 73, el 0), (q1, 73, el v)] w19 := (by rw [← el_put _ _ _ _ (top_word _ (Nat.mod_lt _ (by decide)))]; exact h20)
  clear h20
  refine znt ?_
  refine zsr ?_
  refine zwu (v := arr Ext) (run_load_at (by kernel_rfl) (VV.below h21.old VV.big).x) ?_
  refine zwv (iN .u64 ((v / K ^ 3 % K) / 2 ^ 28)) ?_
  refine zwu (run_build1 (a := (v / K ^ 3 % K) / 2 ^ 28) (by kernel_rfl) hab1) ?_
  refine zwc h21 enter76 (product_any Ext (v / K ^ 3 % K / 2 ^ 28) Ext_lt hab w19) ?_
  intro w22 h23
  refine zwv (.tuple #[arr (Ext * (v / K ^ 3 % K / 2 ^ 28) / K ^ 4), arr (Ext * (v / K ^ 3 % K / 2 ^ 28))]) ?_
  refine zwv (arr (Ext * (v / K ^ 3 % K / 2 ^ 28) / K ^ 4)) ?_
  refine zwv (arr (Ext * (v / K ^ 3 % K / 2 ^ 28))) ?_
  refine wl_make h23 73 run_alloc34 ?_
  intro q24 w25 h26
  refine wl_make h26 73 run_alloc34 ?_
  intro q27 w28 h29
  refine wl_fill (c' := el (Ext * (v / K ^ 3 % K / 2 ^ 28) / K ^ 4)) h29 1 rfl (el_sz _ _) info34 (one_cl _ _) ?_
  intro w30 (h31 : HA w [(q27, 73, el 0), (q24, 73, el (Ext * (v / K ^ 3 % K / 2 ^ 28) / K ^ 4)), (q7, 73, el ((v * 2 ^ 32 + low) % K ^ 4 % 2 ^ 252)), (q4, 73, el 0), (q1, 73, el v)] w30)
  refine wl_fill (c' := el (Ext * (v / K ^ 3 % K / 2 ^ 28))) h31 0 rfl (el_sz _ _) info34 (one_cl _ _) ?_
  intro w32 (h33 : HA w [(q27, 73, el (Ext * (v / K ^ 3 % K / 2 ^ 28))), (q24, 73, el (Ext * (v / K ^ 3 % K / 2 ^ 28) / K ^ 4)), (q7, 73, el ((v * 2 ^ 32 + low) % K ^ 4 % 2 ^ 252)), (q4, 73, el 0), (q1, 73, el v)] w32)
  refine wl_nil ?_
  have h34 : HA w [(q27, 73, el O), (q24, 73, el (Ext * (v / K ^ 3 % K / 2 ^ 28) / K ^ 4)), (q7, 73, el R), (q4, 73, el 0), (q1, 73, el v)] w32 := by rw [hRe, hOe]; exact h33
  refine then_at rfl ?_
  refine wp_seq ?_
  by_cases hlt : R < O
  · -- region 12
   refine wl_region ?_
   refine wl_load h34 2 rfl Tryz.underlying73 rfl info34 ?_
   refine wl_load h34 0 rfl Tryz.underlying73 rfl info34 ?_
   refine zwc h34 enter112 (difference_yes R O hR hO hlt w32) ?_
   intro w35 h36
   refine zwv (.tuple #[arr ((R + K ^ 4 - O) % K ^ 4), iN .u64 1]) ?_
   refine zwv (arr ((R + K ^ 4 - O) % K ^ 4)) ?_
   refine zwv (iN .u64 1) ?_
   refine wl_make h36 73 run_alloc34 ?_
   intro q37 w38 h39
   refine wl_fill (c' := el ((R + K ^ 4 - O) % K ^ 4)) h39 0 rfl (el_sz _ _) info34 (one_cl _ _) ?_
   intro w40 (h41 : HA w [(q37, 73, el ((R + K ^ 4 - O) % K ^ 4)), (q27, 73, el O), (q24, 73, el (Ext * (v / K ^ 3 % K / 2 ^ 28) / K ^ 4)), (q7, 73, el R), (q4, 73, el 0), (q1, 73, el v)] w40)
   refine zwv (iN .u64 1) ?_
   refine zna ⟨(arr v :: iN .u32 low :: pt q1 :: un :: pt q4 :: iN .u64 ((v / K ^ 3 % K) / 2 ^ 28) :: pt q7 :: iN .u64 (nx v low 4) :: u10 8 :: u10 9 :: pt q24 :: pt q27 :: pt q37 :: iN .u64 1 :: .pointer (some ⟨q1, 3, none⟩) :: iN .u64 (v / K ^ 3 % K) :: iN .u64 ((v / K ^ 3 % K) / 2 ^ 28) :: iN .u32 low :: iN .u64 low :: arr v :: iN .i64 4 :: .bool false :: u10 22 :: u10 23 :: u10 24 :: u10 25 :: u10 26 :: u10 27 :: u10 28 :: u10 29 :: u10 30 :: u10 31 :: u10 32 :: .pointer (some ⟨q7, 3, none⟩) :: iN .u64 (((v * 2 ^ 32 + low) % K ^ 4) / K ^ 3 % K) :: iN .u64 ((((v * 2 ^ 32 + low) % K ^ 4) / K ^ 3 % K) &&& 1152921504606846975) :: .pointer (some ⟨q7, 3, none⟩) :: .tuple #[arr (Ext * (v / K ^ 3 % K / 2 ^ 28) / K ^ 4), arr (Ext * (v / K ^ 3 % K / 2 ^ 28))] :: arr Ext :: iN .u64 ((v / K ^ 3 % K) / 2 ^ 28) :: arr ((v / K ^ 3 % K) / 2 ^ 28) :: .tuple #[arr (Ext * (v / K ^ 3 % K / 2 ^ 28) / K ^ 4), arr (Ext * (v / K ^ 3 % K / 2 ^ 28))] :: arr (Ext * (v / K ^ 3 % K / 2 ^ 28) / K ^ 4) :: arr (Ext * (v / K ^ 3 % K / 2 ^ 28)) :: .tuple #[arr ((R + K ^ 4 - O) % K ^ 4), iN .u64 1] :: arr R :: arr O :: .tuple #[arr ((R + K ^ 4 - O) % K ^ 4), iN .u64 1] :: arr ((R + K ^ 4 - O) % K ^ 4) :: iN .u64 1 :: List.replicate 9 un).toArray, []⟩ ?_
   refine wp_seq ?_
   refine zsr ?_
   refine zwv (iN .u64 1) ?_
   refine zwu (run_nei (k := .u64) (a := 1) (b := 0) true (by decide)) ?_
   refine znt ?_
   refine zct ?_
   refine wl_region ?_
   refine wl_load h41 0 rfl Tryz.underlying73 rfl info34 ?_
   refine zwu (v := arr Lq) (run_load_at (by kernel_rfl) (VV.below h41.old VV.big).l) ?_
   refine zwc (v := .tuple #[arr ((((R + K ^ 4 - O) % K ^ 4) + Lq) % K ^ 4), iN .u64 ((((R + K ^ 4 - O) % K ^ 4) + Lq) / K ^ 4)]) (args := #[arr ((R + K ^ 4 - O) % K ^ 4), arr Lq]) h41 enter74 (sum_of _ Lq (Nat.mod_lt _ (by decide)) Lq_lt w40) ?_
   intro w42 h43
   refine zwv (.tuple #[arr ((((R + K ^ 4 - O) % K ^ 4) + Lq) % K ^ 4), iN .u64 ((((R + K ^ 4 - O) % K ^ 4) + Lq) / K ^ 4)]) ?_
   refine zwv (arr ((((R + K ^ 4 - O) % K ^ 4) + Lq) % K ^ 4)) ?_
   refine zwv (iN .u64 ((((R + K ^ 4 - O) % K ^ 4) + Lq) / K ^ 4)) ?_
   refine wl_fill (c' := el ((((R + K ^ 4 - O) % K ^ 4) + Lq) % K ^ 4)) h43 0 rfl (el_sz _ _) info34 (one_cl _ _) ?_
   intro w44 (h45 : HA w [(q37, 73, el ((((R + K ^ 4 - O) % K ^ 4) + Lq) % K ^ 4)), (q27, 73, el O), (q24, 73, el (Ext * (v / K ^ 3 % K / 2 ^ 28) / K ^ 4)), (q7, 73, el R), (q4, 73, el 0), (q1, 73, el v)] w44)
   refine znt ?_
   refine zsr ?_
   refine wl_load h45 0 rfl Tryz.underlying73 rfl info34 ?_
   refine wl_fill (c' := el ((((R + K ^ 4 - O) % K ^ 4) + Lq) % K ^ 4)) h45 4 rfl (el_sz _ _) info34 (one_cl _ _) ?_
   intro w46 (h47 : HA w [(q37, 73, el ((((R + K ^ 4 - O) % K ^ 4) + Lq) % K ^ 4)), (q27, 73, el O), (q24, 73, el (Ext * (v / K ^ 3 % K / 2 ^ 28) / K ^ 4)), (q7, 73, el R), (q4, 73, el ((((R + K ^ 4 - O) % K ^ 4) + Lq) % K ^ 4)), (q1, 73, el v)] w46)
   refine znt ?_
   refine wp_ret ?_
   repeat first | refine then_ret ?_ | refine block_ret ?_
   exact bodyPost_ret (v := arr ((((R + K ^ 4 - O) % K ^ 4) + Lq) % K ^ 4) ) (res_cell (p := 4) (by kernel_rfl) (by kernel_rfl) (h47.get 4 rfl) Tryz.underlying73 rfl info34) rfl ⟨by rw [hyes hlt], h47.old⟩
  · -- region 12
   refine wl_region ?_
   refine wl_load h34 2 rfl Tryz.underlying73 rfl info34 ?_
   refine wl_load h34 0 rfl Tryz.underlying73 rfl info34 ?_
   refine zwc h34 enter112 (difference_no R O hR hO hlt w32) ?_
   intro w48 h49
   refine zwv (.tuple #[arr ((R + K ^ 4 - O) % K ^ 4), iN .u64 0]) ?_
   refine zwv (arr ((R + K ^ 4 - O) % K ^ 4)) ?_
   refine zwv (iN .u64 0) ?_
   refine wl_make h49 73 run_alloc34 ?_
   intro q50 w51 h52
   refine wl_fill (c' := el ((R + K ^ 4 - O) % K ^ 4)) h52 0 rfl (el_sz _ _) info34 (one_cl _ _) ?_
   intro w53 (h54 : HA w [(q50, 73, el ((R + K ^ 4 - O) % K ^ 4)), (q27, 73, el O), (q24, 73, el (Ext * (v / K ^ 3 % K / 2 ^ 28) / K ^ 4)), (q7, 73, el R), (q4, 73, el 0), (q1, 73, el v)] w53)
   refine zwv (iN .u64 0) ?_
   refine znt ?_
   refine wp_seq ?_
   refine zsr ?_
   refine zwv (iN .u64 0) ?_
   refine zwu (run_nei (k := .u64) (a := 0) (b := 0) false (by decide)) ?_
   refine znt ?_
   refine zcf ?_
   refine wp_skip ?_
   refine then_at rfl ?_
   refine zsr ?_
   refine wl_load h54 0 rfl Tryz.underlying73 rfl info34 ?_
   refine wl_fill (c' := el ((R + K ^ 4 - O) % K ^ 4)) h54 4 rfl (el_sz _ _) info34 (one_cl _ _) ?_
   intro w55 (h56 : HA w [(q50, 73, el ((R + K ^ 4 - O) % K ^ 4)), (q27, 73, el O), (q24, 73, el (Ext * (v / K ^ 3 % K / 2 ^ 28) / K ^ 4)), (q7, 73, el R), (q4, 73, el ((R + K ^ 4 - O) % K ^ 4)), (q1, 73, el v)] w55)
   refine znt ?_
   refine wp_ret ?_
   repeat first | refine then_ret ?_ | refine block_ret ?_
   exact bodyPost_ret (v := arr ((R + K ^ 4 - O) % K ^ 4) ) (res_cell (p := 4) (by kernel_rfl) (by kernel_rfl) (h56.get 4 rfl) Tryz.underlying73 rfl info34) rfl ⟨by rw [hno hlt], h56.old⟩
end Go.Proofs.YtefjnfeckenmkaaGreatDoor.Sc
