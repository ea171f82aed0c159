/-
  of, Reduce, Add, Mul: what they answer.
-/
import Derived.Test.YtdblnbcclfenkaaDoorTxt2
namespace Go.Proofs.YtdblnbcclfenkaaDoor
open Go.RowKit Num

theorem words_lt (s : ByteArray) (h : s.size ≤ 32) : numS s < K ^ 4 := by
  refine Nat.lt_of_lt_of_le (numS_lt s) ?_
  rw [show K ^ 4 = 256 ^ 32 by decide]
  exact Nat.pow_le_pow_right (by decide) h
theorem val_lt4 (s : ByteArray) : val s < K ^ 4 := Nat.lt_trans (val_lt s) Lq_lt
theorem run_len_low {ρ : Operand → Value} {x : Operand} {s : ByteArray} {w : World} {dst : Option Tmp} {ty : TypeId} {pos : String} {aft : Array Edge} {gd : Option (Nat × Bool)} (hx : ρ x = .string (s.extract 0 (min s.size 32))) :
    (execOp ρ ⟨dst, .call { callee := .builtin .len, args := #[x], argTypes := #[9] }, ty, pos, aft, gd⟩).run Tryd.prog w = .ok (.value (iN .i64 (min s.size 32))) w := by
  have h := run_len (dst := dst) (ty := ty) (pos := pos) (aft := aft) (gd := gd) (w := w) hx
  rwa [size_extract s 0 _ (by omega), Nat.sub_zero] at h

set_option linter.unusedVariables false in
set_option maxRecDepth 100000 in
set_option maxHeartbeats 2000000 in
theorem of_any (s : ByteArray) (w : World) (VV : Vars w) :
    Calls Tryd.prog 23 #[.string s] w fun e w' => e = .returned (arr (val s)) ∧ Below w.heap.size w w' := by
  have H0 := HA.start w
  go_enter Tryd.func23, Tryd.ntmps23
  refine wp_seq ?_
  -- region 0
  refine wl_region ?_
  refine wl_make H0 34 (by kernel_rfl) run_alloc34 ?_
  intro q1 w2 h3
  refine wl_nil ?_
  refine then_at (F := ⟨(.string s :: un :: pt q1 :: List.replicate 20 un).toArray, []⟩) (by kernel_rfl) ?_
  refine wp_seq ?_
  -- region 1
  refine wl_region ?_
  refine wl_val (.string s) (by kernel_rfl) (by kernel_rfl) ?_
  refine wl_val (.string s) (by kernel_rfl) (by kernel_rfl) ?_
  refine wl_val (iN .i64 s.size) (by kernel_rfl) (run_len (s := s) (by kernel_rfl)) ?_
  refine wl_val (iN .i64 (min s.size 32)) (by kernel_rfl) (run_min (a := s.size) (b := 32) (by kernel_rfl) (by kernel_rfl)) ?_
  refine wl_val (.string (s.extract 0 (min s.size 32))) (by kernel_rfl) (run_cut_hi (s := s) (b := min s.size 32) (by kernel_rfl) (by kernel_rfl) (by omega)) ?_
  refine wl_val (.string (s.extract 0 (min s.size 32))) (by kernel_rfl) (by kernel_rfl) ?_
  refine wl_nil ?_
  refine then_at (F := ⟨(.string s :: un :: pt q1 :: .string (s.extract 0 (min s.size 32)) :: un :: .string s :: .string s :: iN .i64 s.size :: iN .i64 (min s.size 32) :: .string (s.extract 0 (min s.size 32)) :: List.replicate 13 un).toArray, []⟩) (by kernel_rfl) ?_
  refine wp_seq ?_
  -- region 2
  refine wl_region ?_
  refine wl_val (.string s) (by kernel_rfl) (by kernel_rfl) ?_
  refine wl_val (.string (s.extract 0 (min s.size 32))) (by kernel_rfl) (by kernel_rfl) ?_
  refine wl_val (iN .i64 (min s.size 32)) (by kernel_rfl) (run_len_low (s := s) (by kernel_rfl)) ?_
  refine wl_val (.string s) (by kernel_rfl) (by kernel_rfl) ?_
  refine wl_val (iN .i64 s.size) (by kernel_rfl) (run_len (s := s) (by kernel_rfl)) ?_
  refine wl_val (iN .i64 (min s.size 64)) (by kernel_rfl) (run_min (a := s.size) (b := 64) (by kernel_rfl) (by kernel_rfl)) ?_
  refine wl_val (.string (s.extract (min s.size 32) (min s.size 64))) (by kernel_rfl) (run_cut_mid (s := s) (a := min s.size 32) (b := min s.size 64) (by kernel_rfl) (by kernel_rfl) (by kernel_rfl) (by omega) (by omega)) ?_
  refine wl_val (.string (s.extract (min s.size 32) (min s.size 64))) (by kernel_rfl) (by kernel_rfl) ?_
  refine wl_nil ?_
  refine then_at (F := ⟨(.string s :: un :: pt q1 :: .string (s.extract 0 (min s.size 32)) :: .string (s.extract (min s.size 32) (min s.size 64)) :: .string s :: .string s :: iN .i64 s.size :: iN .i64 (min s.size 32) :: .string (s.extract 0 (min s.size 32)) :: .string s :: .string (s.extract 0 (min s.size 32)) :: iN .i64 (min s.size 32) :: .string s :: iN .i64 s.size :: iN .i64 (min s.size 64) :: .string (s.extract (min s.size 32) (min s.size 64)) :: List.replicate 6 un).toArray, []⟩) (by kernel_rfl) ?_
  refine wp_seq ?_
  -- region 3
  refine wl_region ?_
  refine wl_val (.string (s.extract (min s.size 32) (min s.size 64))) (by kernel_rfl) (by kernel_rfl) ?_
  refine wl_call (v := arr (numS (s.extract (min s.size 32) (min s.size 64)))) h3 (by kernel_rfl) enter27 #[.string (s.extract (min s.size 32) (min s.size 64))] (by kernel_rfl) (words_any (s.extract (min s.size 32) (min s.size 64)) (by rw [size_extract s _ _ (by omega)]; omega) w2) ?_
  intro w4 h5
  refine wl_val (.string (s.extract 0 (min s.size 32))) (by kernel_rfl) (by kernel_rfl) ?_
  refine wl_call (v := arr (numS (s.extract 0 (min s.size 32)))) h5 (by kernel_rfl) enter27 #[.string (s.extract 0 (min s.size 32))] (by kernel_rfl) (words_any (s.extract 0 (min s.size 32)) (by rw [size_extract s _ _ (by omega)]; omega) w4) ?_
  intro w6 h7
  refine wl_mkslice (n := 2) h7 34 (by kernel_rfl) (run_parts2 (n := numS (s.extract (min s.size 32) (min s.size 64))) (m := numS (s.extract 0 (min s.size 32))) (by kernel_rfl) (by kernel_rfl)) ?_
  intro q8 w9 h10
  refine wl_call (v := arr (((numS (s.extract (min s.size 32) (min s.size 64))) * K ^ 4 + (numS (s.extract 0 (min s.size 32)))) % Lq)) h10 (by kernel_rfl) enter28 #[.slice (some ⟨q8, 0, none⟩) 2 2] (by kernel_rfl) (modulo_two (numS (s.extract (min s.size 32) (min s.size 64))) (numS (s.extract 0 (min s.size 32))) q8 (words_lt _ (by rw [size_extract s _ _ (by omega)]; omega)) (words_lt _ (by rw [size_extract s _ _ (by omega)]; omega)) 34 w9 (VV.below h10.old VV.big) (h10.get 0 rfl)) ?_
  intro w11 h12
  refine wl_fill (c' := el (((numS (s.extract (min s.size 32) (min s.size 64))) * K ^ 4 + (numS (s.extract 0 (min s.size 32)))) % Lq)) h12 1 rfl (by kernel_rfl) (by kernel_rfl) (by kernel_rfl) (el_sz _ _) info34 (one_cl _ _) ?_
  intro w13 (h14 : HA w [(q8, 34, el (numS (s.extract (min s.size 32) (min s.size 64))) ++ el (numS (s.extract 0 (min s.size 32)))), (q1, 34, el (((numS (s.extract (min s.size 32) (min s.size 64))) * K ^ 4 + (numS (s.extract 0 (min s.size 32)))) % Lq))] w13)
  refine wl_nil ?_
  refine then_at (F := ⟨(.string s :: un :: pt q1 :: .string (s.extract 0 (min s.size 32)) :: .string (s.extract (min s.size 32) (min s.size 64)) :: .string s :: .string s :: iN .i64 s.size :: iN .i64 (min s.size 32) :: .string (s.extract 0 (min s.size 32)) :: .string s :: .string (s.extract 0 (min s.size 32)) :: iN .i64 (min s.size 32) :: .string s :: iN .i64 s.size :: iN .i64 (min s.size 64) :: .string (s.extract (min s.size 32) (min s.size 64)) :: .string (s.extract (min s.size 32) (min s.size 64)) :: arr (numS (s.extract (min s.size 32) (min s.size 64))) :: .string (s.extract 0 (min s.size 32)) :: arr (numS (s.extract 0 (min s.size 32))) :: .slice (some ⟨q8, 0, none⟩) 2 2 :: arr (((numS (s.extract (min s.size 32) (min s.size 64))) * K ^ 4 + (numS (s.extract 0 (min s.size 32)))) % Lq) :: List.replicate 0 un).toArray, []⟩) (by kernel_rfl) ?_
  refine wp_ret ?_
  repeat first | refine then_ret ?_ | refine block_ret ?_
  exact bodyPost_ret (v := arr ((numS (s.extract (min s.size 32) (min s.size 64)) * K ^ 4 + numS (s.extract 0 (min s.size 32))) % Lq)) (res_cell (p := 2) (by kernel_rfl) (by kernel_rfl) (h14.get 1 rfl) Tryd.underlying34 rfl info34) rfl ⟨by rw [of_parts], h14.old⟩

theorem prod_hi_lt (a b : Nat) (ha : a < K ^ 4) (hb : b < K ^ 4) : a * b / K ^ 4 < K ^ 4 := by
  rw [Nat.div_lt_iff_lt_mul (by decide)]
  exact Nat.mul_lt_mul'' ha hb
theorem product_of (a b : Nat) (ha : a < K ^ 4) (hb : b < K ^ 4) (w : World) :
    Calls Tryd.prog 31 #[arr a, arr b] w fun e w' => e = .returned (.tuple #[arr (a * b / K ^ 4), arr ((a * b) % K ^ 4)]) ∧ Below w.heap.size w w' := by
  have h := product_any a b ha hb w
  have e : arr ((a * b) % K ^ 4) = arr (a * b) := congrArg Value.agg (el_mod (a * b))
  rw [← e] at h
  exact h
def addL (a b : Nat) : Nat := (a + b) % Lq
def mulL (a b : Nat) : Nat := a * b % Lq
theorem addL_lt (a b : Nat) : addL a b < Lq := Nat.mod_lt _ Lq_pos
theorem mulL_lt (a b : Nat) : mulL a b < Lq := Nat.mod_lt _ Lq_pos
/-- what the three answer -/
def rS (a : ByteArray) : ByteArray := bytesOf (val a)
def aS (a b : ByteArray) : ByteArray := bytesOf (addL (val a) (val b))
def mS (a b : ByteArray) : ByteArray := bytesOf (mulL (val a) (val b))
theorem add_mod4 (a b : ByteArray) : (val a + val b) % K ^ 4 % Lq = addL (val a) (val b) := by
  have h1 := val_lt a
  have h2 := val_lt b
  have h3 : val a + val b < K ^ 4 := Nat.lt_of_lt_of_le (Nat.add_lt_add h1 h2) (by decide)
  rw [Nat.mod_eq_of_lt h3]
  rfl
theorem mul_mod4 (a b : ByteArray) : (val a * val b / K ^ 4 * K ^ 4 + val a * val b % K ^ 4) % Lq = mulL (val a) (val b) := by
  rw [Nat.mul_comm (_ / _), Nat.add_comm, Nat.mod_add_div]
  rfl

set_option linter.unusedVariables false in
set_option maxRecDepth 100000 in
set_option maxHeartbeats 2000000 in
theorem Reduce_any (s : ByteArray) (w : World) (VV : Vars w) :
    Calls Tryd.prog 10 #[.string s] w fun e w' => e = .returned (.string (rS s)) ∧ Below w.heap.size w w' := by
  have H0 := HA.start w
  go_enter Tryd.func10, Tryd.ntmps10
  refine wp_seq ?_
  -- region 0
  refine wl_region ?_
  refine wl_val (.string { data := #[] }) (by kernel_rfl) (by kernel_rfl) ?_
  refine wl_nil ?_
  refine then_at (F := ⟨(.string s :: un :: .string { data := #[] } :: List.replicate 3 un).toArray, []⟩) (by kernel_rfl) ?_
  refine wp_seq ?_
  -- region 1
  refine wl_region ?_
  refine wl_val (.string s) (by kernel_rfl) (by kernel_rfl) ?_
  refine wl_call (v := arr (val s)) H0 (by kernel_rfl) enter23 #[.string s] (by kernel_rfl) (of_any s w (VV.below H0.old VV.big)) ?_
  intro w1 h2
  refine wl_call (v := .string (bytesOf (val s))) h2 (by kernel_rfl) enter24 #[arr (val s)] (by kernel_rfl) (Bytes_any (val s) w1) ?_
  intro w3 h4
  refine wl_val (.string (bytesOf (val s))) (by kernel_rfl) (by kernel_rfl) ?_
  refine wl_nil ?_
  refine then_at (F := ⟨(.string s :: un :: .string (bytesOf (val s)) :: .string s :: arr (val s) :: .string (bytesOf (val s)) :: List.replicate 0 un).toArray, []⟩) (by kernel_rfl) ?_
  refine wp_ret ?_
  repeat first | refine then_ret ?_ | refine block_ret ?_
  exact bodyPost_ret (v := .string (bytesOf (val s))) (by kernel_rfl) rfl ⟨rfl, h4.old⟩

set_option linter.unusedVariables false in
set_option maxRecDepth 100000 in
set_option maxHeartbeats 2000000 in
theorem Add_any (a b : ByteArray) (w : World) (VV : Vars w) :
    Calls Tryd.prog 17 #[.string a, .string b] w fun e w' => e = .returned (.string (aS a b)) ∧ Below w.heap.size w w' := by
  have H0 := HA.start w
  go_enter Tryd.func17, Tryd.ntmps17
  refine wp_seq ?_
  -- region 0
  refine wl_region ?_
  refine wl_val (.string { data := #[] }) (by kernel_rfl) (by kernel_rfl) ?_
  refine wl_nil ?_
  refine then_at (F := ⟨(.string a :: .string b :: un :: un :: .string { data := #[] } :: List.replicate 14 un).toArray, []⟩) (by kernel_rfl) ?_
  refine wp_seq ?_
  -- region 1
  refine wl_region ?_
  refine wl_val (.string a) (by kernel_rfl) (by kernel_rfl) ?_
  refine wl_call (v := arr (val a)) H0 (by kernel_rfl) enter23 #[.string a] (by kernel_rfl) (of_any a w (VV.below H0.old VV.big)) ?_
  intro w1 h2
  refine wl_val (.string b) (by kernel_rfl) (by kernel_rfl) ?_
  refine wl_call (v := arr (val b)) h2 (by kernel_rfl) enter23 #[.string b] (by kernel_rfl) (of_any b w1 (VV.below h2.old VV.big)) ?_
  intro w3 h4
  refine wl_call (v := .tuple #[arr ((val a + val b) % K ^ 4), iN .u64 ((val a + val b) / K ^ 4)]) h4 (by kernel_rfl) enter29 #[arr (val a), arr (val b)] (by kernel_rfl) (sum_of (val a) (val b) (val_lt4 _) (val_lt4 _) w3) ?_
  intro w5 h6
  refine wl_val (.tuple #[arr ((val a + val b) % K ^ 4), iN .u64 ((val a + val b) / K ^ 4)]) (by kernel_rfl) (by kernel_rfl) ?_
  refine wl_val (arr ((val a + val b) % K ^ 4)) (by kernel_rfl) (by kernel_rfl) ?_
  refine wl_val (iN .u64 ((val a + val b) / K ^ 4)) (by kernel_rfl) (by kernel_rfl) ?_
  refine wl_make h6 34 (by kernel_rfl) run_alloc34 ?_
  intro q7 w8 h9
  refine wl_fill (c' := el ((val a + val b) % K ^ 4)) h9 0 rfl (by kernel_rfl) (by kernel_rfl) (by kernel_rfl) (el_sz _ _) info34 (one_cl _ _) ?_
  intro w10 (h11 : HA w [(q7, 34, el ((val a + val b) % K ^ 4))] w10)
  refine wl_val (iN .u64 ((val a + val b) / K ^ 4)) (by kernel_rfl) (by kernel_rfl) ?_
  refine wl_nil ?_
  refine then_at (F := ⟨(.string a :: .string b :: un :: un :: .string { data := #[] } :: pt q7 :: iN .u64 ((val a + val b) / K ^ 4) :: .tuple #[arr ((val a + val b) % K ^ 4), iN .u64 ((val a + val b) / K ^ 4)] :: .string a :: arr (val a) :: .string b :: arr (val b) :: .tuple #[arr ((val a + val b) % K ^ 4), iN .u64 ((val a + val b) / K ^ 4)] :: arr ((val a + val b) % K ^ 4) :: iN .u64 ((val a + val b) / K ^ 4) :: List.replicate 4 un).toArray, []⟩) (by kernel_rfl) ?_
  refine wp_seq ?_
  -- region 2
  refine wl_region ?_
  refine wl_load h11 0 rfl (by kernel_rfl) (by kernel_rfl) Tryd.underlying34 rfl info34 ?_
  refine wl_mkslice (n := 1) h11 34 (by kernel_rfl) (run_parts1 (n := (val a + val b) % K ^ 4) (by kernel_rfl)) ?_
  intro q12 w13 h14
  refine wl_call (v := arr (((val a + val b) % K ^ 4) % Lq)) h14 (by kernel_rfl) enter28 #[.slice (some ⟨q12, 0, none⟩) 1 1] (by kernel_rfl) (modulo_one ((val a + val b) % K ^ 4) q12 (Nat.mod_lt _ (by decide)) 34 w13 (VV.below h14.old VV.big) (h14.get 0 rfl)) ?_
  intro w15 h16
  refine wl_call (v := .string (bytesOf (((val a + val b) % K ^ 4) % Lq))) h16 (by kernel_rfl) enter24 #[arr (((val a + val b) % K ^ 4) % Lq)] (by kernel_rfl) (Bytes_any (((val a + val b) % K ^ 4) % Lq) w15) ?_
  intro w17 h18
  refine wl_val (.string (bytesOf (((val a + val b) % K ^ 4) % Lq))) (by kernel_rfl) (by kernel_rfl) ?_
  refine wl_nil ?_
  refine then_at (F := ⟨(.string a :: .string b :: un :: un :: .string (bytesOf (((val a + val b) % K ^ 4) % Lq)) :: pt q7 :: iN .u64 ((val a + val b) / K ^ 4) :: .tuple #[arr ((val a + val b) % K ^ 4), iN .u64 ((val a + val b) / K ^ 4)] :: .string a :: arr (val a) :: .string b :: arr (val b) :: .tuple #[arr ((val a + val b) % K ^ 4), iN .u64 ((val a + val b) / K ^ 4)] :: arr ((val a + val b) % K ^ 4) :: iN .u64 ((val a + val b) / K ^ 4) :: arr ((val a + val b) % K ^ 4) :: .slice (some ⟨q12, 0, none⟩) 1 1 :: arr (((val a + val b) % K ^ 4) % Lq) :: .string (bytesOf (((val a + val b) % K ^ 4) % Lq)) :: List.replicate 0 un).toArray, []⟩) (by kernel_rfl) ?_
  refine wp_ret ?_
  repeat first | refine then_ret ?_ | refine block_ret ?_
  exact bodyPost_ret (v := .string (bytesOf ((val a + val b) % K ^ 4 % Lq))) (by kernel_rfl) rfl ⟨by rw [add_mod4]; rfl, h18.old⟩

set_option linter.unusedVariables false in
set_option maxRecDepth 100000 in
set_option maxHeartbeats 2000000 in
theorem Mul_any (a b : ByteArray) (w : World) (VV : Vars w) :
    Calls Tryd.prog 19 #[.string a, .string b] w fun e w' => e = .returned (.string (mS a b)) ∧ Below w.heap.size w w' := by
  have H0 := HA.start w
  go_enter Tryd.func19, Tryd.ntmps19
  refine wp_seq ?_
  -- region 0
  refine wl_region ?_
  refine wl_val (.string { data := #[] }) (by kernel_rfl) (by kernel_rfl) ?_
  refine wl_nil ?_
  refine then_at (F := ⟨(.string a :: .string b :: un :: un :: .string { data := #[] } :: List.replicate 10 un).toArray, []⟩) (by kernel_rfl) ?_
  refine wp_seq ?_
  -- region 1
  refine wl_region ?_
  refine wl_val (.string a) (by kernel_rfl) (by kernel_rfl) ?_
  refine wl_call (v := arr (val a)) H0 (by kernel_rfl) enter23 #[.string a] (by kernel_rfl) (of_any a w (VV.below H0.old VV.big)) ?_
  intro w1 h2
  refine wl_val (.string b) (by kernel_rfl) (by kernel_rfl) ?_
  refine wl_call (v := arr (val b)) h2 (by kernel_rfl) enter23 #[.string b] (by kernel_rfl) (of_any b w1 (VV.below h2.old VV.big)) ?_
  intro w3 h4
  refine wl_call (v := .tuple #[arr ((val a) * (val b) / K ^ 4), arr (((val a) * (val b)) % K ^ 4)]) h4 (by kernel_rfl) enter31 #[arr (val a), arr (val b)] (by kernel_rfl) (product_of (val a) (val b) (val_lt4 _) (val_lt4 _) w3) ?_
  intro w5 h6
  refine wl_val (arr ((val a) * (val b) / K ^ 4)) (by kernel_rfl) (by kernel_rfl) ?_
  refine wl_val (arr (((val a) * (val b)) % K ^ 4)) (by kernel_rfl) (by kernel_rfl) ?_
  refine wl_mkslice (n := 2) h6 34 (by kernel_rfl) (run_parts2 (n := (val a) * (val b) / K ^ 4) (m := ((val a) * (val b)) % K ^ 4) (by kernel_rfl) (by kernel_rfl)) ?_
  intro q7 w8 h9
  refine wl_call (v := arr ((((val a) * (val b) / K ^ 4) * K ^ 4 + (((val a) * (val b)) % K ^ 4)) % Lq)) h9 (by kernel_rfl) enter28 #[.slice (some ⟨q7, 0, none⟩) 2 2] (by kernel_rfl) (modulo_two ((val a) * (val b) / K ^ 4) (((val a) * (val b)) % K ^ 4) q7 (prod_hi_lt _ _ (val_lt4 _) (val_lt4 _)) (Nat.mod_lt _ (by decide)) 34 w8 (VV.below h9.old VV.big) (h9.get 0 rfl)) ?_
  intro w10 h11
  refine wl_call (v := .string (bytesOf ((((val a) * (val b) / K ^ 4) * K ^ 4 + (((val a) * (val b)) % K ^ 4)) % Lq))) h11 (by kernel_rfl) enter24 #[arr ((((val a) * (val b) / K ^ 4) * K ^ 4 + (((val a) * (val b)) % K ^ 4)) % Lq)] (by kernel_rfl) (Bytes_any ((((val a) * (val b) / K ^ 4) * K ^ 4 + (((val a) * (val b)) % K ^ 4)) % Lq) w10) ?_
  intro w12 h13
  refine wl_val (.string (bytesOf ((((val a) * (val b) / K ^ 4) * K ^ 4 + (((val a) * (val b)) % K ^ 4)) % Lq))) (by kernel_rfl) (by kernel_rfl) ?_
  refine wl_nil ?_
  refine then_at (F := ⟨(.string a :: .string b :: un :: un :: .string (bytesOf ((((val a) * (val b) / K ^ 4) * K ^ 4 + (((val a) * (val b)) % K ^ 4)) % Lq)) :: .string a :: arr (val a) :: .string b :: arr (val b) :: .tuple #[arr ((val a) * (val b) / K ^ 4), arr (((val a) * (val b)) % K ^ 4)] :: arr ((val a) * (val b) / K ^ 4) :: arr (((val a) * (val b)) % K ^ 4) :: .slice (some ⟨q7, 0, none⟩) 2 2 :: arr ((((val a) * (val b) / K ^ 4) * K ^ 4 + (((val a) * (val b)) % K ^ 4)) % Lq) :: .string (bytesOf ((((val a) * (val b) / K ^ 4) * K ^ 4 + (((val a) * (val b)) % K ^ 4)) % Lq)) :: List.replicate 0 un).toArray, []⟩) (by kernel_rfl) ?_
  refine wp_ret ?_
  repeat first | refine then_ret ?_ | refine block_ret ?_
  exact bodyPost_ret (v := .string (bytesOf ((val a * val b / K ^ 4 * K ^ 4 + val a * val b % K ^ 4) % Lq))) (by kernel_rfl) rfl ⟨by rw [mul_mod4]; rfl, h13.old⟩
end Go.Proofs.YtdblnbcclfenkaaDoor
