/-
 scalar, in the curve's seat: Txt2 Ofs.
-/
import Derived.Test.YtefjnfeckenmkaaGreatDoorS1
import Derived.Test.YtefjnfeckenmkaaGreatDoorScF
import Derived.Test.YtefjnfeckenmkaaGreatDoorV1
import Derived.Lib.ConvBytes
namespace Go.Proofs.YtefjnfeckenmkaaGreatDoor.Sc
set_option linter.unusedVariables false
set_option maxRecDepth 100000
set_option maxHeartbeats 2000000
open Go.RowKit Num
section
variable {ρ : Operand → Value} {x y z : Operand} {w : World} {dst : Option Tmp} {ty : TypeId} {pos : String} {aft : Array Edge} {gd : Option (Nat × Bool)} {s : ByteArray} {a b : Nat}
theorem run_min (hx : ρ x = iN .i64 a) (hy : ρ y = iN .i64 b) : (execOp ρ ⟨dst, .call { callee := .builtin .min, args := #[x, y], argTypes := #[3, 3] }, ty, pos, aft, gd⟩).run Tryz.prog w = .ok (.value (iN .i64 (min a b))) w := by
 simp only [execOp, iN] at hx hy ⊢
 go_simp
 split <;> omega
theorem run_cut_hi   (hb : b ≤ s.size) (hx : ρ x = .string s := by kernel_rfl) (hy : ρ y = iN .i64 b := by kernel_rfl) : (execOp ρ ⟨dst, .slice 9 x none (some y) none, ty, pos, aft, gd⟩).run Tryz.prog w = .ok (.value (.string (s.extract 0 b))) w := by
 simp only [execOp, hx, Option.map, hy, iN]
 go_simp
theorem run_cut_mid (hx : ρ x = .string s) (hz : ρ z = iN .i64 a) (hy : ρ y = iN .i64 b) (hb : b ≤ s.size) (ha : a ≤ b) : (execOp ρ ⟨dst, .slice 9 x (some z) (some y) none, ty, pos, aft, gd⟩).run Tryz.prog w = .ok (.value (.string (s.extract a b))) w := by
 simp only [execOp, hx, Option.map, hy, hz, iN]
 go_simp
theorem run_cut_lo   (ha : a ≤ s.size) (hx : ρ x = .string s := by kernel_rfl) (hz : ρ z = iN .i64 a := by kernel_rfl) : (execOp ρ ⟨dst, .slice 9 x (some z) none none, ty, pos, aft, gd⟩).run Tryz.prog w = .ok (.value (.string (s.extract a s.size))) w := by
 simp only [execOp, hx, Option.map, hz, iN]
 go_simp
theorem run_parts2 {n m : Nat} (hx : ρ x = arr n) (hy : ρ y = arr m) : (execOp ρ ⟨dst, .buildSlice 118 2 #[(0, x), (1, y)], ty, pos, aft, gd⟩).run Tryz.prog w = .ok (.value (.slice (some ⟨w.heap.size, 0, none⟩) 2 2)) (w.alloc (.cells (el n ++ el m) 73)) := by
 obtain ⟨a0, a1, a2, a3, _, e2⟩ := arr_open n
 obtain ⟨b0, b1, b2, b3, _, f2⟩ := arr_open m
 have e3 : el n = #[.int .u64 a0, .int .u64 a1, .int .u64 a2, .int .u64 a3] := Value.agg.inj e2
 have f3 : el m = #[.int .u64 b0, .int .u64 b1, .int .u64 b2, .int .u64 b3] := Value.agg.inj f2
 rw [e3, f3]
 rw [e2] at hx
 rw [f2] at hy
 simp only [execOp, Array.map]
 go_simp
theorem run_parts1 {n : Nat} (hx : ρ x = arr n) : (execOp ρ ⟨dst, .buildSlice 118 1 #[(0, x)], ty, pos, aft, gd⟩).run Tryz.prog w = .ok (.value (.slice (some ⟨w.heap.size, 0, none⟩) 1 1)) (w.alloc (.cells (el n) 73)) := by
 obtain ⟨a0, a1, a2, a3, _, e2⟩ := arr_open n
 have e3 : el n = #[.int .u64 a0, .int .u64 a1, .int .u64 a2, .int .u64 a3] := Value.agg.inj e2
 rw [e3]
 rw [e2] at hx
 simp only [execOp, Array.map]
 go_simp
end
theorem parts_one {w : World} {q n : Nat} {t : TypeId} (h : Blk w q t (el n)) : Parts w q [n] := ⟨h.lt, fun k m hk => by
 match k, hk with
 | 0, hk =>
  obtain rfl : n = m := by simpa using hk
  exact h.range⟩
theorem parts_two {w : World} {q n m : Nat} {t : TypeId} (h : Blk w q t (el n ++ el m)) : Parts w q [n, m] := ⟨h.lt, fun k r hk j v hv => by
 have hj : j < 4 := by have := (List.getElem?_eq_some_iff.1 hv).1; simpa [el_size] using this
 rw [h.cell (4 * k + j)]
 rw [Array.getElem?_toList] at hv
 match k, hk with
 | 0, hk =>
  obtain rfl : n = r := by simpa using hk
  rw [Nat.mul_zero, Nat.zero_add, Array.getElem?_append_left (by rw [el_size]; exact hj)]
  exact hv
 | 1, hk =>
  obtain rfl : m = r := by simpa using hk
  rw [Array.getElem?_append_right (by rw [el_size]; omega), el_size, show 4 * 1 + j - 4 = j by omega]
  exact hv⟩
theorem mval_one (n : Nat) : mval [n] = n % Lq := by
 unfold mval
 rw [List.foldl_cons, List.foldl_nil, Nat.zero_mul, Nat.zero_add]
theorem mval_two (n m : Nat) : mval [n, m] = (n * K ^ 4 + m) % Lq := by
 unfold mval
 rw [List.foldl_cons, List.foldl_cons, List.foldl_nil, Nat.zero_mul, Nat.zero_add, mod_in]
theorem modulo_one (n q : Nat) (hn : n < K ^ 4) (t : TypeId) (w : World) (VV : Vars w) (h : Blk w q t (el n)) : Calls Tryz.prog 57 #[.slice (some ⟨q, 0, none⟩) 1 1] w fun e w' => e = .returned (arr (n % Lq)) ∧ Below w.heap.size w w' := by
 have := modulo_any [n] (fun p hp => by simp at hp; subst hp; exact hn) (by simp) q w VV (parts_one h)
 rw [mval_one] at this
 exact this
theorem modulo_two (n m q : Nat) (hn : n < K ^ 4) (hm : m < K ^ 4) (t : TypeId) (w : World) (VV : Vars w) (h : Blk w q t (el n ++ el m)) : Calls Tryz.prog 57 #[.slice (some ⟨q, 0, none⟩) 2 2] w fun e w' => e = .returned (arr ((n * K ^ 4 + m) % Lq)) ∧ Below w.heap.size w w' := by
 have := modulo_any [n, m] (fun p hp => by
  simp at hp
  rcases hp with rfl | rfl
  ·exact hn
  ·exact hm) (by simp) q w VV (parts_two h)
 rw [mval_two] at this
 exact this
def cut (s : ByteArray) : ByteArray := s.extract 0 (min s.size 64)
def val (s : ByteArray) : Nat := numS (cut s) % Lq
theorem bts_extract (s : ByteArray) (a b : Nat) : bts (s.extract a b) = ((bts s).drop a).take (b - a) := by
 unfold bts
 rw [ByteArray.data_extract, Array.toList_extract, List.extract_eq_take_drop, List.map_take, List.map_drop]
theorem size_extract (s : ByteArray) (a b : Nat) (hb : b ≤ s.size) : (s.extract a b).size = b - a := by
 rw [ByteArray.size_extract]
 omega
theorem val_lt (s : ByteArray) : val s < Lq := Nat.mod_lt _ Lq_pos
theorem of_parts (s : ByteArray) : (numS (s.extract (min s.size 32) (min s.size 64)) * K ^ 4 + numS (s.extract 0 (min s.size 32))) % Lq = val s := by
 unfold val cut
 refine congrArg (fun n : Nat => n % Lq) ?_
 unfold numS
 rw [bts_extract, bts_extract, bts_extract, Nat.sub_zero, Nat.sub_zero, List.drop_zero]
 have hl := bts_length s
 generalize bts s = l at *
 rw [← hl]
 by_cases h : l.length ≤ 32
 ·rw [Nat.min_eq_left h, Nat.min_eq_left (show l.length ≤ 64 by omega), Nat.sub_self, List.take_zero, num_nil, Nat.zero_mul, Nat.zero_add]
 ·rw [Nat.min_eq_right (show 32 ≤ l.length by omega)]
  have e : (l.take (min l.length 64)) = l.take 32 ++ (l.drop 32).take (min l.length 64 - 32) := by
   rw [show min l.length 64 = 32 + (min l.length 64 - 32) by omega, List.take_add]
   congr 2
   omega
  rw [e, num_append, List.length_take, Nat.min_eq_left (show 32 ≤ l.length by omega), show K ^ 4 = 256 ^ 32 by decide, Nat.mul_comm, Nat.add_comm]
theorem cut_short (s : ByteArray) (h : s.size ≤ 64) : numS (cut s) = numS s := by
 unfold cut numS
 rw [bts_extract, Nat.sub_zero, List.drop_zero, List.take_of_length_le (by rw [bts_length]; omega)]
theorem words_lt (s : ByteArray) (h : s.size ≤ 32) : numS s < K ^ 4 := by
 refine Nat.lt_of_lt_of_le (numS_lt s) ?_
 rw [show K ^ 4 = 256 ^ 32 by decide]
 exact Nat.pow_le_pow_right (by decide) h
theorem val_lt4 (s : ByteArray) : val s < K ^ 4 := Nat.lt_trans (val_lt s) Lq_lt
theorem run_len_low {ρ : Operand → Value} {x : Operand} {s : ByteArray} {w : World} {dst : Option Tmp} {ty : TypeId} {pos : String} {aft : Array Edge} {gd : Option (Nat × Bool)} (hx : ρ x = .string (s.extract 0 (min s.size 32))) :
  (execOp ρ ⟨dst, .call { callee := .builtin .len, args := #[x], argTypes := #[9] }, ty, pos, aft, gd⟩).run Tryz.prog w = .ok (.value (iN .i64 (min s.size 32))) w := by
 have h := run_len (dst := dst) (ty := ty) (pos := pos) (aft := aft) (gd := gd) (w := w) (hx := hx)
 rwa [size_extract s 0 _ (by omega), Nat.sub_zero] at h
theorem of_any (s : ByteArray) (w : World) (VV : Vars w) :
  Calls Tryz.prog 56 #[.string s] w fun e w' => e = .returned (arr (val s)) ∧ Below w.heap.size w w' := by
 have H0 := HA.start w
 go_enter Tryz.func56, Tryz.ntmps56
 refine zsr ?_
 refine wl_make H0 73 run_alloc34 ?_
 intro q1 w2 h3
 refine znt ?_
 refine zsr ?_
 refine zwv (.string s) ?_
 refine zwv (.string s) ?_
 refine zwu (run_len (s := s)) ?_
 refine zwu (run_min (a := s.size) (b := 32) (by kernel_rfl) (by kernel_rfl)) ?_
 refine zwu (run_cut_hi (s := s) (b := min s.size 32) (by omega)) ?_
 refine zwv (.string (s.extract 0 (min s.size 32))) ?_
 refine znt ?_
 refine zsr ?_
 refine zwv (.string s) ?_
 refine zwv (.string (s.extract 0 (min s.size 32))) ?_
 refine zwu (run_len_low (s := s) (by kernel_rfl)) ?_
 refine zwv (.string s) ?_
 refine zwu (run_len (s := s)) ?_
 refine zwu (run_min (a := s.size) (b := 64) (by kernel_rfl) (by kernel_rfl)) ?_
 refine zwu (run_cut_mid (s := s) (a := min s.size 32) (b := min s.size 64) (by kernel_rfl) (by kernel_rfl) (by kernel_rfl) (by omega) (by omega)) ?_
 refine zwv (.string (s.extract (min s.size 32) (min s.size 64))) ?_
 refine znt ?_
 refine zsr ?_
 refine zwv (.string (s.extract (min s.size 32) (min s.size 64))) ?_
 refine zwc (v := arr (numS (s.extract (min s.size 32) (min s.size 64)))) (args := #[.string (s.extract (min s.size 32) (min s.size 64))]) h3 enter100 (words_any (s.extract (min s.size 32) (min s.size 64)) (by rw [size_extract s _ _ (by omega)]; omega) w2) ?_
 intro w4 h5
 refine zwv (.string (s.extract 0 (min s.size 32))) ?_
 refine zwc (v := arr (numS (s.extract 0 (min s.size 32)))) (args := #[.string (s.extract 0 (min s.size 32))]) h5 enter100 (words_any (s.extract 0 (min s.size 32)) (by rw [size_extract s _ _ (by omega)]; omega) w4) ?_
 intro w6 h7
 refine wl_mkslice (n := 2) h7 73 (by kernel_rfl) (run_parts2 (n := numS (s.extract (min s.size 32) (min s.size 64))) (m := numS (s.extract 0 (min s.size 32))) (by kernel_rfl) (by kernel_rfl)) ?_
 intro q8 w9 h10
 refine zwc (v := arr (((numS (s.extract (min s.size 32) (min s.size 64))) * K ^ 4 + (numS (s.extract 0 (min s.size 32)))) % Lq)) (args := #[.slice (some ⟨q8, 0, none⟩) 2 2]) h10 enter75 (modulo_two (numS (s.extract (min s.size 32) (min s.size 64))) (numS (s.extract 0 (min s.size 32))) q8 (words_lt _ (by rw [size_extract s _ _ (by omega)]; omega)) (words_lt _ (by rw [size_extract s _ _ (by omega)]; omega)) 73 w9 (VV.below h10.old VV.big) (h10.get 0 rfl)) ?_
 intro w11 h12
 refine wl_fill (c' := el (((numS (s.extract (min s.size 32) (min s.size 64))) * K ^ 4 + (numS (s.extract 0 (min s.size 32)))) % Lq)) h12 1 rfl (el_sz _ _) info34 (one_cl _ _) ?_
 intro w13 (h14 : HA w [(q8, 73, el (numS (s.extract (min s.size 32) (min s.size 64))) ++ el (numS (s.extract 0 (min s.size 32)))), (q1, 73, el (((numS (s.extract (min s.size 32) (min s.size 64))) * K ^ 4 + (numS (s.extract 0 (min s.size 32)))) % Lq))] w13)
 refine znt ?_
 refine wp_ret ?_
 repeat first | refine then_ret ?_ | refine block_ret ?_
 exact bodyPost_ret (v := arr ((numS (s.extract (min s.size 32) (min s.size 64)) * K ^ 4 + numS (s.extract 0 (min s.size 32))) % Lq)) (res_cell (p := 2) (by kernel_rfl) (by kernel_rfl) (h14.get 1 rfl) Tryz.underlying73 rfl info34) rfl ⟨by rw [of_parts], h14.old⟩
theorem prod_hi_lt (a b : Nat) (ha : a < K ^ 4) (hb : b < K ^ 4) : a * b / K ^ 4 < K ^ 4 := by
 rw [Nat.div_lt_iff_lt_mul (by decide)]
 exact Nat.mul_lt_mul'' ha hb
theorem product_of (a b : Nat) (ha : a < K ^ 4) (hb : b < K ^ 4) (w : World) :
  Calls Tryz.prog 59 #[arr a, arr b] w fun e w' => e = .returned (.tuple #[arr (a * b / K ^ 4), arr ((a * b) % K ^ 4)]) ∧ Below w.heap.size w w' := by
 have h := product_any a b ha hb w
 have e : arr ((a * b) % K ^ 4) = arr (a * b) := congrArg Value.agg (el_mod (a * b))
 rw [← e] at h
 exact h
def addL (a b : Nat) : Nat := (a + b) % Lq
def mulL (a b : Nat) : Nat := a * b % Lq
def rS (a : ByteArray) : ByteArray := bytesOf (val a)
def aS (a b : ByteArray) : ByteArray := bytesOf (addL (val a) (val b))
def mS (a b : ByteArray) : ByteArray := bytesOf (mulL (val a) (val b))
theorem add_mod4 (a b : ByteArray) : (val a + val b) % K ^ 4 % Lq = addL (val a) (val b) := by
 have h1 := val_lt a
 have h2 := val_lt b
 have h3 : val a + val b < K ^ 4 := Nat.lt_of_lt_of_le (Nat.add_lt_add h1 h2) (by decide)
 rw [Nat.mod_eq_of_lt h3]
 rfl
theorem mul_mod4 (a b : ByteArray) : (val a * val b / K ^ 4 * K ^ 4 + val a * val b % K ^ 4) % Lq = mulL (val a) (val b) := by
 rw [Nat.mul_comm (_ / _), Nat.add_comm, Nat.mod_add_div]
 rfl
theorem Reduce_any (s : ByteArray) (w : World) (VV : Vars w) :
  Calls Tryz.prog 43 #[.string s] w fun e w' => e = .returned (.string (rS s)) ∧ Below w.heap.size w w' := by
 have H0 := HA.start w
 go_enter Tryz.func43, Tryz.ntmps43
 refine zsr ?_
 refine zwv (.string { data := #[] }) ?_
 refine znt ?_
 refine zsr ?_
 refine zwv (.string s) ?_
 refine zwc H0 enter72 (of_any s w (VV.below H0.old VV.big)) ?_
 intro w1 h2
 refine zwc h2 enter73 (Bytes_any (val s) w1) ?_
 intro w3 h4
 refine zwv (.string (bytesOf (val s))) ?_
 refine znt ?_
 exact wp_ret (zb h4.old)
theorem Add_any (a b : ByteArray) (w : World) (VV : Vars w) :
  Calls Tryz.prog 19 #[.string a, .string b] w fun e w' => e = .returned (.string (aS a b)) ∧ Below w.heap.size w w' := by
 have H0 := HA.start w
 go_enter Tryz.func19, Tryz.ntmps19
 refine zsr ?_
 refine zwv (.string { data := #[] }) ?_
 refine znt ?_
 refine zsr ?_
 refine zwv (.string a) ?_
 refine zwc H0 enter72 (of_any a w (VV.below H0.old VV.big)) ?_
 intro w1 h2
 refine zwv (.string b) ?_
 refine zwc h2 enter72 (of_any b w1 (VV.below h2.old VV.big)) ?_
 intro w3 h4
 refine zwc (v := .tuple #[arr ((val a + val b) % K ^ 4), iN .u64 ((val a + val b) / K ^ 4)]) (args := #[arr (val a), arr (val b)]) h4 enter74 (sum_of (val a) (val b) (val_lt4 _) (val_lt4 _) w3) ?_
 intro w5 h6
 refine zwv (.tuple #[arr ((val a + val b) % K ^ 4), iN .u64 ((val a + val b) / K ^ 4)]) ?_
 refine zwv (arr ((val a + val b) % K ^ 4)) ?_
 refine zwv (iN .u64 ((val a + val b) / K ^ 4)) ?_
 refine wl_make h6 73 run_alloc34 ?_
 intro q7 w8 h9
 refine wl_fill (c' := el ((val a + val b) % K ^ 4)) h9 0 rfl (el_sz _ _) info34 (one_cl _ _) ?_
 intro w10 (h11 : HA w [(q7, 73, el ((val a + val b) % K ^ 4))] w10)
 refine zwv (iN .u64 ((val a + val b) / K ^ 4)) ?_
 refine znt ?_
 refine zsr ?_
 refine wl_load h11 0 rfl Tryz.underlying73 rfl info34 ?_
 refine wl_mkslice (n := 1) h11 73 (by kernel_rfl) (run_parts1 (n := (val a + val b) % K ^ 4) (by kernel_rfl)) ?_
 intro q12 w13 h14
 refine zwc (v := arr (((val a + val b) % K ^ 4) % Lq)) (args := #[.slice (some ⟨q12, 0, none⟩) 1 1]) h14 enter75 (modulo_one ((val a + val b) % K ^ 4) q12 (Nat.mod_lt _ (by decide)) 73 w13 (VV.below h14.old VV.big) (h14.get 0 rfl)) ?_
 intro w15 h16
 refine zwc h16 enter73 (Bytes_any (((val a + val b) % K ^ 4) % Lq) w15) ?_
 intro w17 h18
 refine zwv (.string (bytesOf (((val a + val b) % K ^ 4) % Lq))) ?_
 refine znt ?_
 refine wp_ret ?_
 repeat first | refine then_ret ?_ | refine block_ret ?_
 exact bodyPost_ret (v := .string (bytesOf ((val a + val b) % K ^ 4 % Lq))) (by kernel_rfl) rfl ⟨by rw [add_mod4]; rfl, h18.old⟩
theorem Mul_any (a b : ByteArray) (w : World) (VV : Vars w) :
  Calls Tryz.prog 20 #[.string a, .string b] w fun e w' => e = .returned (.string (mS a b)) ∧ Below w.heap.size w w' := by
 have H0 := HA.start w
 go_enter Tryz.func20, Tryz.ntmps20
 refine zsr ?_
 refine zwv (.string { data := #[] }) ?_
 refine znt ?_
 refine zsr ?_
 refine zwv (.string a) ?_
 refine zwc H0 enter72 (of_any a w (VV.below H0.old VV.big)) ?_
 intro w1 h2
 refine zwv (.string b) ?_
 refine zwc h2 enter72 (of_any b w1 (VV.below h2.old VV.big)) ?_
 intro w3 h4
 refine zwc (v := .tuple #[arr ((val a) * (val b) / K ^ 4), arr (((val a) * (val b)) % K ^ 4)]) (args := #[arr (val a), arr (val b)]) h4 enter76 (product_of (val a) (val b) (val_lt4 _) (val_lt4 _) w3) ?_
 intro w5 h6
 refine zwv (arr ((val a) * (val b) / K ^ 4)) ?_
 refine zwv (arr (((val a) * (val b)) % K ^ 4)) ?_
 refine wl_mkslice (n := 2) h6 73 (by kernel_rfl) (run_parts2 (n := (val a) * (val b) / K ^ 4) (m := ((val a) * (val b)) % K ^ 4) (by kernel_rfl) (by kernel_rfl)) ?_
 intro q7 w8 h9
 refine zwc (v := arr ((((val a) * (val b) / K ^ 4) * K ^ 4 + (((val a) * (val b)) % K ^ 4)) % Lq)) (args := #[.slice (some ⟨q7, 0, none⟩) 2 2]) h9 enter75 (modulo_two ((val a) * (val b) / K ^ 4) (((val a) * (val b)) % K ^ 4) q7 (prod_hi_lt _ _ (val_lt4 _) (val_lt4 _)) (Nat.mod_lt _ (by decide)) 73 w8 (VV.below h9.old VV.big) (h9.get 0 rfl)) ?_
 intro w10 h11
 refine zwc h11 enter73 (Bytes_any ((((val a) * (val b) / K ^ 4) * K ^ 4 + (((val a) * (val b)) % K ^ 4)) % Lq) w10) ?_
 intro w12 h13
 refine zwv (.string (bytesOf ((((val a) * (val b) / K ^ 4) * K ^ 4 + (((val a) * (val b)) % K ^ 4)) % Lq))) ?_
 refine znt ?_
 refine wp_ret ?_
 repeat first | refine then_ret ?_ | refine block_ret ?_
 exact bodyPost_ret (v := .string (bytesOf ((val a * val b / K ^ 4 * K ^ 4 + val a * val b % K ^ 4) % Lq))) (by kernel_rfl) rfl ⟨by rw [mul_mod4]; rfl, h13.old⟩
end Go.Proofs.YtefjnfeckenmkaaGreatDoor.Sc

namespace Go.Proofs.YtefjnfeckenmkaaGreatDoor
open Go.RowKit Num
theorem Lq_ord : Sc.Lq = ordL := by decide
theorem cut32 (s : ByteArray) (h : s.size = 32) : Sc.cut s = s := by
 unfold Sc.cut
 rw [h]
 show s.extract 0 32 = s
 rw [← h]
 apply ByteArray.ext
 simp
theorem ordL_pos : 0 < ordL := by decide
theorem ordL_256 : ordL < 2 ^ 256 := by decide
theorem mod_256 (n : Nat) : n % ordL < 2 ^ 256 := Nat.lt_trans (Nat.mod_lt _ ordL_pos) ordL_256
theorem val32 (s : ByteArray) (h : s.size = 32) : Sc.val s = numS s % ordL := by
 unfold Sc.val
 rw [cut32 s h, Lq_ord]
theorem aS_num (a b : ByteArray) (ha : a.size = 32) (hb : b.size = 32) : numS (Sc.aS a b) = (numS a + numS b) % ordL := by
 unfold Sc.aS Sc.addL
 rw [val32 a ha, val32 b hb, Lq_ord, num_bytesOf _ (mod_256 _), ← Nat.add_mod]
theorem mS_num (a b : ByteArray) (ha : a.size = 32) (hb : b.size = 32) : numS (Sc.mS a b) = numS a * numS b % ordL := by
 unfold Sc.mS Sc.mulL
 rw [val32 a ha, val32 b hb, Lq_ord, num_bytesOf _ (mod_256 _), ← Nat.mul_mod]
end Go.Proofs.YtefjnfeckenmkaaGreatDoor

namespace Go.Proofs.YtefjnfeckenmkaaGreatDoor.Sc
open Go.RowKit Num
theorem enS57 (args : Array Value) (w : World) : (callFunc 57 args).run Tryz.prog w = .ok (.enter 57 args) w := by go_simp
theorem enS60 (args : Array Value) (w : World) : (callFunc 60 args).run Tryz.prog w = .ok (.enter 60 args) w := by go_simp
theorem enS61 (args : Array Value) (w : World) : (callFunc 61 args).run Tryz.prog w = .ok (.enter 61 args) w := by go_simp
theorem enS62 (args : Array Value) (w : World) : (callFunc 62 args).run Tryz.prog w = .ok (.enter 62 args) w := by go_simp
theorem enS63 (args : Array Value) (w : World) : (callFunc 63 args).run Tryz.prog w = .ok (.enter 63 args) w := by go_simp
theorem enS64 (args : Array Value) (w : World) : (callFunc 64 args).run Tryz.prog w = .ok (.enter 64 args) w := by go_simp
theorem enS66 (args : Array Value) (w : World) : (callFunc 66 args).run Tryz.prog w = .ok (.enter 66 args) w := by go_simp
theorem enS100 (args : Array Value) (w : World) : (callFunc 100 args).run Tryz.prog w = .ok (.enter 100 args) w := by go_simp
theorem enS101 (args : Array Value) (w : World) : (callFunc 101 args).run Tryz.prog w = .ok (.enter 101 args) w := by go_simp
theorem enS102 (args : Array Value) (w : World) : (callFunc 102 args).run Tryz.prog w = .ok (.enter 102 args) w := by go_simp
theorem enS103 (args : Array Value) (w : World) : (callFunc 103 args).run Tryz.prog w = .ok (.enter 103 args) w := by go_simp
theorem eq34 (w : World) (l m : List Nat) (hl : l.length = 4) (hm : m.length = 4) : (Op.equalIn 10000 73 (.agg (cl .u64 l)) (.agg (cl .u64 m))).run Tryz.prog w = .ok (decide (l = m)) w :=
 run_eq_array w 9998 73 34 4 .u64 .u64 l m hl hm (by kernel_rfl) (by kernel_rfl) (fun _ => by simp [go_sem]) (fun c i v w h => by simp [go_sem, part, h])
theorem run_eqarr {ρ : Operand → Value} {x y : Operand} {a b : Nat} {w : World} {dst : Option Tmp} {ty : TypeId} {pos : String} {aft : Array Edge} {gd : Option (Nat × Bool)} (hx : ρ x = arr a) (hy : ρ y = arr b) (r : Bool) (hr : decide (a % K ^ 4 = b % K ^ 4) = r) :
  (execOp ρ ⟨dst, .binOp .eql 73 x y 73, ty, pos, aft, gd⟩).run Tryz.prog w = .ok (.value (.bool r)) w := by
 subst hr
 have e := eq34 w (digs K 4 a) (digs K 4 b) (digs_length ..) (digs_length ..)
 have h : decide (digs K 4 a = digs K 4 b) = decide (a % K ^ 4 = b % K ^ 4) := by
  refine decide_eq_decide.2 ⟨fun h => ?_, fun h => digs_mod K 4 a b (by decide) h⟩
  rw [← num_digs, ← num_digs, h]
 rw [h] at e
 simp only [execOp, hx, hy, arr]
 have hm : Op.maxDepth = 10000 := rfl
 simp [binOp, Op.equal, go_sem, hm, e]
section
variable {ops : Array Oper} {Q : Exit → Act → World → Prop} {F : (Nat → Nat) → Act} {md : Region.Mode} {i : Nat} {dst : Option Tmp} {ty ty' : TypeId} {pos : String} {aft : Array Edge} {gd : Option (Nat × Bool)}
 {w0 : World} {L M : List (Nat × TypeId × Array Value)}
theorem gm_callr {f : FuncId} {xs : Array Operand} {ats : Array TypeId} {v : Value} (j : Nat) {e : Nat × TypeId × Array Value} (hj : M[j]? = some e) 
  
  
  (hr : ∀ args w, (callFunc f args).run Tryz.prog w = .ok (.enter f args) w) (args : (Nat → Nat) → Array Value) 
  (hc : ∀ g w, HA w0 L w → Blk w (g e.1) e.2.1 e.2.2 → Calls Tryz.prog f (args g) w fun e w' => e = .returned v ∧ Below w.heap.size w w') (hi : M.all (fun x => x.1 != i) = true := by kernel_rfl) (hw : ∀ g, Region.wanted ⟨dst, .call { callee := .value (.func f), args := xs, argTypes := ats }, ty, pos, aft, gd⟩ (yielded ops (F g).tmps) = true := by intro _; kernel_rfl) (hp : ∀ g, (F g).put dst v = F g := by intro _; kernel_rfl) (he : (aft.any fun x => Region.binds md x && x.on == e.1) = true := by kernel_rfl) (ha : ∀ g, #[] ++ xs.map (F g).eval ++ #[] = args g := by intro _; kernel_rfl) :
  OpGhost Tryz.prog md ops Q (GM w0 L M) F i ⟨dst, .call { callee := .value (.func f), args := xs, argTypes := ats }, ty, pos, aft, gd⟩ :=
 OpGhost.call (v := fun _ => v) (args := args) hw hp (fun g w => by rw [execOp_call_go, ha g]; exact hr _ w) (fun g d w hS haft => by
  obtain ⟨m, hm, h3⟩ := Array.any_eq_true.1 he
  rw [Bool.and_eq_true, beq_iff_eq] at h3
  have hd : d e.1 = true := by rw [← h3.2]; exact haft _ (Array.getElem_mem hm) h3.1
  exact (hc g w hS.held (hS.get j hj hd)).mono fun _ _ h => ⟨h.1, hS.call hi h.2⟩)
end
end Go.Proofs.YtefjnfeckenmkaaGreatDoor.Sc

namespace Go.Proofs.YtefjnfeckenmkaaGreatDoor.Sc
set_option linter.unusedVariables false
set_option maxRecDepth 100000
set_option maxHeartbeats 2000000
open Go.RowKit Num
theorem check_yes (s : ByteArray) (hl : s.size = 32) (hb : decide (numS s % K ^ 4 = numS s % Lq % K ^ 4) = true) (w : World) (VV : Vars w) :
  Calls Tryz.prog 27 #[.string s] w fun e w' => e = .returned (.bool true) ∧ Below w.heap.size w w' := by
 have H0 := HA.start w
 go_enter Tryz.func27, Tryz.ntmps27
 refine zsr ?_
 refine zwv (.bool false) ?_
 refine znt ?_
 refine wp_seq ?_
 refine zsr ?_
 refine zwv (.string s) ?_
 refine zwu (run_len (s := s)) ?_
 refine zwu (run_nei (k := .i64) (a := s.size) (b := 32) false (decide_eq_false (fun h => h hl))) ?_
 refine znt ?_
 refine zcf ?_
 refine wp_skip ?_
 refine then_at rfl ?_
 refine zsr ?_
 refine zwv (.string s) ?_
 refine zwc H0 enS66 (words_any s (by omega) w) ?_
 intro w1 h2
 refine wl_make h2 73 run_alloc34 ?_
 intro q3 w4 h5
 refine wl_fill (c' := el (numS s)) h5 0 rfl (el_sz _ _) info34 (one_cl _ _) ?_
 intro w6 (h7 : HA w [(q3, 73, el (numS s))] w6)
 refine znt ?_
 refine wp_seq ?_
 refine zrg (fun g : Nat → Nat => (⟨(.string s :: un :: .bool true :: pt q3 :: .string s :: iN .i64 s.size :: .bool false :: .string s :: arr (numS s) :: arr (numS s) :: arr (numS s) :: .slice (some ⟨g 2, 0, none⟩) 1 1 :: arr (numS s % Lq) :: .bool true :: List.replicate 0 un).toArray, []⟩ : Act)) (GM w [(q3, 73, el (numS s))] [(2, 73, el (numS s))]) (fun d hd => GM.start h7.drew 6 (by kernel_rfl) hd) ?_ ?_
 ·refine zg (gm_load 0 rfl Tryz.underlying73 rfl info34) ?_
  refine zg (gm_load 0 rfl Tryz.underlying73 rfl info34) ?_
  refine zg (gm_make (fun m => .slice (some ⟨m, 0, none⟩) 1 1) (by simp) (fun _ _ => (run_parts1 (n := numS s) (by kernel_rfl)))) ?_
  refine zg (gm_callr (v := arr (numS s % Lq)) 0 rfl enS57 (fun g => #[.slice (some ⟨g 2, 0, none⟩) 1 1]) (fun g w' h' hb => modulo_one (numS s) (g 2) (words_lt s (by omega)) 73 w' (VV.below h'.old VV.big) hb)) ?_
  refine zg (gm_plain (v := fun _ => .bool true) (fun _ _ => (run_eqarr (a := numS s) (b := numS s % Lq) (by kernel_rfl) (by kernel_rfl) true hb))) ?_
  refine zg (gm_plain (v := fun _ => .bool true) (fun _ _ => (by kernel_rfl))) ?_
  exact AllGhost.nil
 intro g w8 g9
 have h10 := g9.held
 clear g9
 generalize g 2 = u11
 clear g
 refine then_at rfl ?_
 exact wp_ret (zb h10.old)
theorem check_no (s : ByteArray) (hl : s.size = 32) (hb : decide (numS s % K ^ 4 = numS s % Lq % K ^ 4) = false) (w : World) (VV : Vars w) :
  Calls Tryz.prog 27 #[.string s] w fun e w' => e = .returned (.bool false) ∧ Below w.heap.size w w' := by
 have H0 := HA.start w
 go_enter Tryz.func27, Tryz.ntmps27
 refine zsr ?_
 refine zwv (.bool false) ?_
 refine znt ?_
 refine wp_seq ?_
 refine zsr ?_
 refine zwv (.string s) ?_
 refine zwu (run_len (s := s)) ?_
 refine zwu (run_nei (k := .i64) (a := s.size) (b := 32) false (decide_eq_false (fun h => h hl))) ?_
 refine znt ?_
 refine zcf ?_
 refine wp_skip ?_
 refine then_at rfl ?_
 refine zsr ?_
 refine zwv (.string s) ?_
 refine zwc H0 enS66 (words_any s (by omega) w) ?_
 intro w1 h2
 refine wl_make h2 73 run_alloc34 ?_
 intro q3 w4 h5
 refine wl_fill (c' := el (numS s)) h5 0 rfl (el_sz _ _) info34 (one_cl _ _) ?_
 intro w6 (h7 : HA w [(q3, 73, el (numS s))] w6)
 refine znt ?_
 refine wp_seq ?_
 refine zrg (fun g : Nat → Nat => (⟨(.string s :: un :: .bool false :: pt q3 :: .string s :: iN .i64 s.size :: .bool false :: .string s :: arr (numS s) :: arr (numS s) :: arr (numS s) :: .slice (some ⟨g 2, 0, none⟩) 1 1 :: arr (numS s % Lq) :: .bool false :: List.replicate 0 un).toArray, []⟩ : Act)) (GM w [(q3, 73, el (numS s))] [(2, 73, el (numS s))]) (fun d hd => GM.start h7.drew 6 (by kernel_rfl) hd) ?_ ?_
 ·refine zg (gm_load 0 rfl Tryz.underlying73 rfl info34) ?_
  refine zg (gm_load 0 rfl Tryz.underlying73 rfl info34) ?_
  refine zg (gm_make (fun m => .slice (some ⟨m, 0, none⟩) 1 1) (by simp) (fun _ _ => (run_parts1 (n := numS s) (by kernel_rfl)))) ?_
  refine zg (gm_callr (v := arr (numS s % Lq)) 0 rfl enS57 (fun g => #[.slice (some ⟨g 2, 0, none⟩) 1 1]) (fun g w' h' hb => modulo_one (numS s) (g 2) (words_lt s (by omega)) 73 w' (VV.below h'.old VV.big) hb)) ?_
  refine zg (gm_plain (v := fun _ => .bool false) (fun _ _ => (run_eqarr (a := numS s) (b := numS s % Lq) (by kernel_rfl) (by kernel_rfl) false hb))) ?_
  refine zg (gm_plain (v := fun _ => .bool false) (fun _ _ => (by kernel_rfl))) ?_
  exact AllGhost.nil
 intro g w8 g9
 have h10 := g9.held
 clear g9
 generalize g 2 = u11
 clear g
 refine then_at rfl ?_
 exact wp_ret (zb h10.old)
theorem check_len (s : ByteArray) (hl : s.size ≠ 32) (w : World) (VV : Vars w) :
  Calls Tryz.prog 27 #[.string s] w fun e w' => e = .returned (.bool false) ∧ Below w.heap.size w w' := by
 have H0 := HA.start w
 go_enter Tryz.func27, Tryz.ntmps27
 refine zsr ?_
 refine zwv (.bool false) ?_
 refine znt ?_
 refine wp_seq ?_
 refine zsr ?_
 refine zwv (.string s) ?_
 refine zwu (run_len (s := s)) ?_
 refine zwu (run_nei (k := .i64) (a := s.size) (b := 32) true (decide_eq_true hl)) ?_
 refine znt ?_
 refine zct ?_
 refine zsr ?_
 refine zwv (.bool false) ?_
 refine znt ?_
 refine wp_ret ?_
 repeat first | refine then_ret ?_ | refine block_ret ?_
 exact bodyPost_ret (by kernel_rfl) rfl ⟨rfl, H0.old⟩
def isS (s : ByteArray) : Prop := s.size = 32 ∧ numS s < Lq
theorem Check_yes (s : ByteArray) (h : isS s) (w : World) (VV : Vars w) : Calls Tryz.prog 27 #[.string s] w fun e w' => e = .returned (.bool true) ∧ Below w.heap.size w w' :=
 check_yes s h.1 (decide_eq_true (by rw [Nat.mod_eq_of_lt h.2])) w VV
theorem Check_no (s : ByteArray) (h : ¬ isS s) (w : World) (VV : Vars w) : Calls Tryz.prog 27 #[.string s] w fun e w' => e = .returned (.bool false) ∧ Below w.heap.size w w' := by
 by_cases hl : s.size = 32
 ·refine check_no s hl (decide_eq_false fun e => h ⟨hl, ?_⟩) w VV
  have h4 := words_lt s (by omega)
  rw [Nat.mod_eq_of_lt h4, Nat.mod_eq_of_lt (Nat.lt_trans (Nat.mod_lt _ Lq_pos) Lq_lt)] at e
  rw [e]
  exact Nat.mod_lt _ Lq_pos
 ·exact check_len s hl w VV
end Go.Proofs.YtefjnfeckenmkaaGreatDoor.Sc

namespace Go.Proofs.YtefjnfeckenmkaaGreatDoor.Sc
set_option linter.unusedVariables false
set_option maxRecDepth 100000
set_option maxHeartbeats 2000000
open Go.RowKit Num
def cla (x : Nat) : Nat := x &&& 248
def clb (x : Nat) : Nat := x &&& 127 ||| 64
def clampL (s : ByteArray) : List UInt8 := ((bl s).set 0 (UInt8.ofNat (cla ((bl s).getD 0 0).toNat))).set 31 (UInt8.ofNat (clb ((bl s).getD 31 0).toNat))
def clampS (s : ByteArray) : ByteArray := ⟨(clampL s).toArray⟩
theorem cla_lt (x : Nat) (h : x < 256) : cla x < 256 := Nat.lt_of_le_of_lt Nat.and_le_left h
theorem clb_lt (x : Nat) (h : x < 256) : clb x < 256 := Nat.or_lt_two_pow (n := 8) (Nat.lt_of_le_of_lt Nat.and_le_left h) (by decide)
theorem clampL_len (s : ByteArray) : (clampL s).length = s.size := by unfold clampL; rw [List.length_set, List.length_set, bl_len]
structure Bts (w0 : World) (q : Nat) (l : List UInt8) (w : World) : Prop where
 old : Below w0.heap.size w0 w
 own : w0.heap.size ≤ q
 cell : ∀ j, j < l.length → w.cell? ⟨q, j, none⟩ = some (.int .u8 ((l.getD j 0).toNat : Int))
 free : ∀ j, j < l.length → w.frozen? ⟨q, j, none⟩ = false
theorem bts_conv {ρ : Operand → Value} {x : Operand} {s : ByteArray} {w : World} {dst : Option Tmp} {ty : TypeId} {pos : String} {aft : Array Edge} {gd : Option (Nat × Bool)} (hx : ρ x = .string s) :
  (execOp ρ ⟨dst, .convert 9 71 x, ty, pos, aft, gd⟩).run Tryz.prog w = .ok (.value (.slice (some ⟨w.heap.size, 0, none⟩) s.size (grownCap w s.size 0 5))) (Lib.bytesWorld w 5 s) := by
 simp only [execOp, hx, Sem.run_bind, Lib.run_convert_string_bytes w 9 71 5 s Tryz.underlying9 Tryz.underlying71 Tryz.underlying5, Result.andThen_ok, Sem.run_pure]
theorem bts_new (w : World) (s : ByteArray) : Bts w w.heap.size (bl s) (Lib.bytesWorld w 5 s) := by
 have hsz : (Lib.bytesCells w 5 s).size = s.size + (grownCap w s.size 0 5 - s.size) := by
  unfold Lib.bytesCells
  rw [Array.size_append, Array.size_map, Array.size_replicate]
  rfl
 refine ⟨⟨rfl, rfl, rfl, by rw [Lib.bytesWorld_size]; omega, fun k hk => Lib.bytesWorld_at_old w 5 s k hk⟩, Nat.le_refl _, fun j hj => Lib.bytesWorld_cell w 5 s j (by rw [← bl_len]; exact hj), fun j hj => ?_⟩
 rw [bl_len] at hj
 simp only [World.frozen?, Lib.bytesWorld_at_new]
 simp only [Bool.and_eq_false_iff, decide_eq_false_iff_not]
 left
 omega
theorem Bts.set {w0 w : World} {q : Nat} {l : List UInt8} (h : Bts w0 q l w) (i : Nat) (hi : i < l.length) (x : Nat) (hx : x < 256) : Bts w0 q (l.set i (UInt8.ofNat x)) (w.setCell ⟨q, i, none⟩ (.int .u8 (x : Int))) := by
 refine ⟨h.old.setCell (p := ⟨q, i, none⟩) h.own _, h.own, fun j hj => ?_, fun j hj => ?_⟩
 ·rw [List.length_set] at hj
  by_cases hij : i = j
  ·subst hij
   rw [World.cell?_setCell_same' _ _ _ (by rw [h.cell i hi]; rfl), List.getD_eq_getElem?_getD, List.getElem?_set_self hi, Option.getD_some, UInt8.toNat_ofNat', Nat.mod_eq_of_lt hx]
  ·rw [World.cell?_setCell_other _ _ _ _ (by simp <;> omega), h.cell j hj, List.getD_eq_getElem?_getD, List.getD_eq_getElem?_getD, List.getElem?_set_ne hij]
 ·rw [List.length_set] at hj
  rw [World.frozen?_setCell]
  exact h.free j hj
theorem bts_text {ρ : Operand → Value} {x : Operand} {q n m : Nat} {l : List UInt8} {w0 w : World} {dst : Option Tmp} {ty : TypeId} {pos : String} {aft : Array Edge} {gd : Option (Nat × Bool)} (h : Bts w0 q l w) (hn : n = l.length) (hx : ρ x = .slice (some ⟨q, 0, none⟩) n m) :
  (execOp ρ ⟨dst, .convert 71 9 x, ty, pos, aft, gd⟩).run Tryz.prog w = .ok (.value (.string ⟨l.toArray⟩)) w := by
 subst hn
 have e := run_convert_bytes_back (P := Tryz.prog) w 71 9 5 ⟨q, 0, none⟩ m l Tryz.underlying71 Tryz.underlying5 Tryz.underlying9 (fun j hj => by
  have hadd : (⟨q, 0, none⟩ : Addr).add j = ⟨q, j, none⟩ := by unfold Addr.add; split <;> simp_all
  rw [hadd, h.cell j hj, List.getD_eq_getElem?_getD, List.getElem?_eq_getElem hj]
  rfl)
 simp only [execOp, hx, Sem.run_bind, e, Result.andThen_ok, Sem.run_pure]
theorem clamp_eq (s : ByteArray) : clampL s = ((bl s).set 0 (UInt8.ofNat (cla ((bl s).getD 0 0).toNat))).set 31 (UInt8.ofNat (clb ((((bl s).set 0 (UInt8.ofNat (cla ((bl s).getD 0 0).toNat)))).getD 31 0).toNat)) := by
 unfold clampL
 rw [List.getD_eq_getElem?_getD (i := 31), List.getD_eq_getElem?_getD (i := 31), List.getElem?_set_ne (by decide)]
theorem Clamp_yes (s : ByteArray) (hl : s.size = 32) (w : World) :
  Calls Tryz.prog 39 #[.string s] w fun e w' => e = .returned (.string (clampS s)) ∧ Below w.heap.size w w' := by
 have H0 := HA.start w
 go_enter Tryz.func39, Tryz.ntmps39
 refine zsr ?_
 refine zwv (.string { data := #[] }) ?_
 refine znt ?_
 refine wp_seq ?_
 refine zsr ?_
 refine zwv (.string s) ?_
 refine zwu (run_len (s := s)) ?_
 refine zwu (run_nei (k := .i64) (a := s.size) (b := 32) false (decide_eq_false (fun h => h hl))) ?_
 refine znt ?_
 refine zcf ?_
 refine wp_skip ?_
 refine then_at rfl ?_
 refine zsr ?_
 refine zwv (.string s) ?_
 refine wl_world (.slice (some ⟨w.heap.size, 0, none⟩) s.size (grownCap w s.size 0 5)) (by kernel_rfl) (bts_conv (s := s) (by kernel_rfl)) ?_
 have b0 := bts_new w s
 generalize grownCap w s.size 0 5 = cp at *
 generalize Lib.bytesWorld w 5 s = w1 at *
 obtain ⟨qb, hq⟩ : ∃ qb, qb = w.heap.size := ⟨_, rfl⟩
 rw [← hq] at b0 ⊢
 refine zwv (.slice (some ⟨qb, 0, none⟩) s.size cp) ?_
 refine znt ?_
 refine zsr ?_
 refine zwv (.slice (some ⟨qb, 0, none⟩) s.size cp) ?_
 refine zwu (run_addr_slice (q := qb) (n := s.size) (m := cp) (a := 0) Tryz.underlying71 Tryz.sizeOf5 (by omega)) ?_
 refine zwu (run_load1 Tryz.isAgg5 (b0.cell 0 (by rw [bl_len]; omega))) ?_
 refine zwu (run_and8 (a := ((bl s).getD 0 0).toNat) (b := 248) (u8_lt _)) ?_
 refine zwu (run_addr_slice (q := qb) (n := s.size) (m := cp) (a := 0) Tryz.underlying71 Tryz.sizeOf5 (by omega)) ?_
 refine wl_skips (by kernel_rfl) (run_store1 (k := .u8) (z := ((cla ((bl s).getD 0 0).toNat : Nat) : Int)) Tryz.sizeOf5 (by kernel_rfl) (by kernel_rfl) (by rw [b0.cell 0 (by rw [bl_len]; omega)]; rfl) (b0.free 0 (by rw [bl_len]; omega))) ?_
 have b2 := b0.set 0 (by rw [bl_len]; omega) (cla ((bl s).getD 0 0).toNat) (cla_lt _ (u8_lt _))
 generalize w1.setCell ⟨qb, 0, none⟩ (.int .u8 ((cla ((bl s).getD 0 0).toNat : Nat) : Int)) = w1 at *
 refine znt ?_
 refine zsr ?_
 refine zwv (.slice (some ⟨qb, 0, none⟩) s.size cp) ?_
 refine zwv (.slice (some ⟨qb, 0, none⟩) s.size cp) ?_
 refine zwu (run_addr_slice (q := qb) (n := s.size) (m := cp) (a := 31) Tryz.underlying71 Tryz.sizeOf5 (by omega)) ?_
 refine zwu (run_load1 Tryz.isAgg5 (b2.cell 31 (by rw [List.length_set, bl_len]; omega))) ?_
 refine zwu (run_and8 (a := (((bl s).set 0 (UInt8.ofNat (cla ((bl s).getD 0 0).toNat))).getD 31 0).toNat) (b := 127) (u8_lt _)) ?_
 refine zwu (run_or8 (a := ((((bl s).set 0 (UInt8.ofNat (cla ((bl s).getD 0 0).toNat))).getD 31 0).toNat) &&& 127) (b := 64) (Nat.lt_of_le_of_lt Nat.and_le_left (u8_lt _))) ?_
 refine zwu (run_addr_slice (q := qb) (n := s.size) (m := cp) (a := 31) Tryz.underlying71 Tryz.sizeOf5 (by omega)) ?_
 refine wl_skips (by kernel_rfl) (run_store1 (k := .u8) (z := ((clb (((bl s).set 0 (UInt8.ofNat (cla ((bl s).getD 0 0).toNat))).getD 31 0).toNat : Nat) : Int)) Tryz.sizeOf5 (by kernel_rfl) (by kernel_rfl) (by rw [b2.cell 31 (by rw [List.length_set, bl_len]; omega)]; rfl) (b2.free 31 (by rw [List.length_set, bl_len]; omega))) ?_
 have b4 := b2.set 31 (by rw [List.length_set, bl_len]; omega) (clb (((bl s).set 0 (UInt8.ofNat (cla ((bl s).getD 0 0).toNat))).getD 31 0).toNat) (clb_lt _ (u8_lt _))
 generalize w1.setCell ⟨qb, 31, none⟩ (.int .u8 ((clb (((bl s).set 0 (UInt8.ofNat (cla ((bl s).getD 0 0).toNat))).getD 31 0).toNat : Nat) : Int)) = w3 at *
 refine znt ?_
 refine wp_seq ?_
 have c9 : Bts w qb (clampL s) w3 := by rw [clamp_eq s]; exact b4
 refine wl_region ?_
 refine zwv (.slice (some ⟨qb, 0, none⟩) s.size cp) ?_
 refine zwu (bts_text (n := s.size) (m := cp) c9 (by rw [clampL_len]) (by kernel_rfl)) ?_
 refine zwv (.string (clampS s)) ?_
 refine znt ?_
 refine wp_ret ?_
 repeat first | refine then_ret ?_ | refine block_ret ?_
 exact bodyPost_ret (by kernel_rfl) rfl ⟨rfl, by rw [hq]; exact c9.old⟩
end Go.Proofs.YtefjnfeckenmkaaGreatDoor.Sc
