/-
  ScalarParts: the walk.
-/
import Derived.Test.YtdblnbcclfenkaaDoorLess
namespace Go.Proofs.YtdblnbcclfenkaaDoor
open Go.RowKit Num

theorem run_gtr {ρ : Operand → Value} {x y : Operand} {w : World} {dst : Option Tmp} {T T2 ty : TypeId} {pos : String} {aft : Array Edge} {gd : Option (Nat × Bool)} {k : IntKind} {a b : Nat} {P : Program} (hx : ρ x = iN k a) (hy : ρ y = iN k b) (t : Bool) (ht : decide (b < a) = t) : (execOp ρ ⟨dst, .binOp .gtr T x y T2, ty, pos, aft, gd⟩).run P w = .ok (.value (.bool t)) w := by
  subst ht
  simp only [execOp, hx, hy, iN]
  simp [binOp, go_sem]
/-- 2^8 so many times -/
def upS : Nat → ByteArray
  | 0 => { data := #[1] }
  | k + 1 => mS (upS k) { data := #[0, 1] }
theorem val_up1 : val { data := #[0, 1] } = 256 := by decide +kernel
theorem val_upS : ∀ k, val (upS k) = 256 ^ k % Lq
  | 0 => by
    show val { data := #[1] } = _
    rw [val_one, Nat.pow_zero, Nat.mod_eq_of_lt (by decide)]
  | k + 1 => by
    show val (mS (upS k) { data := #[0, 1] }) = _
    rw [val_mS, val_up1, val_upS k]
    unfold mulL
    rw [Nat.mod_mul_mod, Nat.pow_succ]
theorem cut_size (s : ByteArray) : (cut s).size ≤ 64 := by
  unfold cut
  rw [size_extract s 0 _ (by omega)]
  omega
theorem val_short (s : ByteArray) (h : s.size ≤ 64) : val s = numS s % Lq := by unfold val; rw [cut_short s h]
theorem parts_in (M l p h : Nat) : (l % M + (p % M) * (h % M) % M) % M = (l + p * h) % M := by rw [Nat.mod_add_mod, ← Nat.mul_mod, Nat.add_mod_mod]
theorem parts_eq (s : ByteArray) (k : Nat) (hk : k ≤ (cut s).size) : aS ((cut s).extract 0 k) (mS (upS k) ((cut s).extract k (cut s).size)) = rS (cut s) := by
  have h64 := cut_size s
  generalize cut s = t at *
  show bytesOf (addL (val (t.extract 0 k)) (val (mS (upS k) (t.extract k t.size)))) = bytesOf (val t)
  rw [val_mS, val_upS, val_short t h64, val_short (t.extract 0 k) (by rw [size_extract t 0 k hk]; omega), val_short (t.extract k t.size) (by rw [size_extract t k _ (Nat.le_refl _)]; omega)]
  unfold addL mulL
  rw [parts_in]
  have e : numS t = numS (t.extract 0 k) + 256 ^ k * numS (t.extract k t.size) := by
    unfold numS
    have hl := bts_length t
    have e2 : ((bts t).drop k).take (t.size - k) = (bts t).drop k := List.take_of_length_le (by rw [List.length_drop]; omega)
    rw [bts_extract, bts_extract, Nat.sub_zero, List.drop_zero, e2]
    exact num_cut 256 (bts t) k (by rw [bts_length]; exact hk)
  rw [e]

set_option linter.unusedVariables false in
set_option maxRecDepth 100000 in
set_option maxHeartbeats 4000000 in
theorem parts_pos (s : ByteArray) (t : Nat) (ht : t < 256) (hn : 0 < (cut s).size) (hkl : t % ((cut s).size + 1) ≤ (cut s).size) (w : World) (VV : Vars w) :
    Calls Tryd.prog 8 #[.string s, iN .u8 t] w fun e w' => e = .returned (.bool true) ∧ Below w.heap.size w w' := by
  have h64 := cut_size s
  have H0 := HA.start w
  go_enter Tryd.func8, Tryd.ntmps8
  refine wp_seq ?_
  -- region 0
  refine wl_region ?_
  refine wl_val (.bool false) (by kernel_rfl) (by kernel_rfl) ?_
  refine wl_nil ?_
  refine then_at (F := ⟨(.string s :: iN .u8 t :: un :: un :: .bool false :: List.replicate 39 un).toArray, []⟩) (by kernel_rfl) ?_
  refine wp_seq ?_
  -- region 1
  refine wl_region ?_
  refine wl_val (.string s) (by kernel_rfl) (by kernel_rfl) ?_
  refine wl_val (.string s) (by kernel_rfl) (by kernel_rfl) ?_
  refine wl_val (iN .i64 s.size) (by kernel_rfl) (run_len (s := s) (by kernel_rfl)) ?_
  refine wl_val (iN .i64 (min s.size 64)) (by kernel_rfl) (run_min (a := s.size) (b := 64) (by kernel_rfl) (by kernel_rfl)) ?_
  refine wl_val (.string (s.extract 0 (min s.size 64))) (by kernel_rfl) (run_cut_hi (s := s) (b := min s.size 64) (by kernel_rfl) (by kernel_rfl) (by omega)) ?_
  refine wl_val (.string (s.extract 0 (min s.size 64))) (by kernel_rfl) (by kernel_rfl) ?_
  refine wl_nil ?_
  refine then_at (F := ⟨(.string (cut s) :: iN .u8 t :: un :: un :: .bool false :: un :: un :: un :: .string s :: .string s :: iN .i64 s.size :: iN .i64 (min s.size 64) :: .string (s.extract 0 (min s.size 64)) :: List.replicate 31 un).toArray, []⟩) (by kernel_rfl) ?_
  refine wp_seq ?_
  -- region 2
  refine wl_region ?_
  refine wl_val (iN .i64 0) (by kernel_rfl) (by kernel_rfl) ?_
  refine wl_nil ?_
  refine then_at (F := ⟨(.string (cut s) :: iN .u8 t :: un :: un :: .bool false :: iN .i64 0 :: un :: un :: .string s :: .string s :: iN .i64 s.size :: iN .i64 (min s.size 64) :: .string (s.extract 0 (min s.size 64)) :: List.replicate 31 un).toArray, []⟩) (by kernel_rfl) ?_
  refine wp_seq ?_
  refine wp_seq ?_
  -- region 3
  refine wl_region ?_
  refine wl_val (.string (cut s)) (by kernel_rfl) (by kernel_rfl) ?_
  refine wl_val (iN .i64 ((cut s).size)) (by kernel_rfl) (run_len (s := cut s) (by kernel_rfl)) ?_
  refine wl_val (.bool true) (by kernel_rfl) (run_gtr (k := .i64) (a := (cut s).size) (b := 0) (by kernel_rfl) (by kernel_rfl) true (decide_eq_true hn)) ?_
  refine wl_nil ?_
  refine then_at (F := ⟨(.string (cut s) :: iN .u8 t :: un :: un :: .bool false :: iN .i64 0 :: un :: un :: .string s :: .string s :: iN .i64 s.size :: iN .i64 (min s.size 64) :: .string (s.extract 0 (min s.size 64)) :: .string (cut s) :: iN .i64 ((cut s).size) :: .bool true :: List.replicate 28 un).toArray, []⟩) (by kernel_rfl) ?_
  refine wp_cond_true (by kernel_rfl) ?_
  -- region 4
  refine wl_region ?_
  refine wl_val (iN .u8 t) (by kernel_rfl) (by kernel_rfl) ?_
  refine wl_val (iN .i64 t) (by kernel_rfl) (run_conv .i64 Tryd.underlying5 Tryd.underlying3 (by kernel_rfl) (by simp only [top]; omega)) ?_
  refine wl_val (.string (cut s)) (by kernel_rfl) (by kernel_rfl) ?_
  refine wl_val (iN .i64 ((cut s).size)) (by kernel_rfl) (run_len (s := cut s) (by kernel_rfl)) ?_
  refine wl_val (iN .i64 (((cut s).size) + 1)) (by kernel_rfl) (run_add (k := .i64) (a := (cut s).size) (b := 1) (by kernel_rfl) (by kernel_rfl) (by simp only [top]; omega)) ?_
  refine wl_val (iN .i64 (t % (((cut s).size) + 1))) (by kernel_rfl) (run_rem (k := .i64) (a := t) (b := ((cut s).size) + 1) (by kernel_rfl) (by kernel_rfl) (by omega)) ?_
  refine wl_val (iN .i64 (t % (((cut s).size) + 1))) (by kernel_rfl) (by kernel_rfl) ?_
  refine wl_nil ?_
  refine then_at (F := ⟨(.string (cut s) :: iN .u8 t :: un :: un :: .bool false :: iN .i64 (t % (((cut s).size) + 1)) :: un :: un :: .string s :: .string s :: iN .i64 s.size :: iN .i64 (min s.size 64) :: .string (s.extract 0 (min s.size 64)) :: .string (cut s) :: iN .i64 ((cut s).size) :: .bool true :: iN .u8 t :: iN .i64 t :: .string (cut s) :: iN .i64 ((cut s).size) :: iN .i64 (((cut s).size) + 1) :: iN .i64 (t % (((cut s).size) + 1)) :: List.replicate 22 un).toArray, []⟩) (by kernel_rfl) ?_
  refine wp_seq ?_
  -- region 5
  refine wl_region ?_
  refine wl_val (.string { data := #[1] }) (by kernel_rfl) (by kernel_rfl) ?_
  refine wl_nil ?_
  refine then_at (F := ⟨(.string (cut s) :: iN .u8 t :: un :: un :: .bool false :: iN .i64 (t % (((cut s).size) + 1)) :: .string { data := #[1] } :: un :: .string s :: .string s :: iN .i64 s.size :: iN .i64 (min s.size 64) :: .string (s.extract 0 (min s.size 64)) :: .string (cut s) :: iN .i64 ((cut s).size) :: .bool true :: iN .u8 t :: iN .i64 t :: .string (cut s) :: iN .i64 ((cut s).size) :: iN .i64 (((cut s).size) + 1) :: iN .i64 (t % (((cut s).size) + 1)) :: List.replicate 22 un).toArray, []⟩) (by kernel_rfl) ?_
  refine wp_seq ?_
  refine wp_seq ?_
  -- region 6
  refine wl_region ?_
  refine wl_val (iN .i64 0) (by kernel_rfl) (by kernel_rfl) ?_
  refine wl_nil ?_
  refine then_at (F := ⟨(.string (cut s) :: iN .u8 t :: un :: un :: .bool false :: iN .i64 (t % (((cut s).size) + 1)) :: .string { data := #[1] } :: iN .i64 0 :: .string s :: .string s :: iN .i64 s.size :: iN .i64 (min s.size 64) :: .string (s.extract 0 (min s.size 64)) :: .string (cut s) :: iN .i64 ((cut s).size) :: .bool true :: iN .u8 t :: iN .i64 t :: .string (cut s) :: iN .i64 ((cut s).size) :: iN .i64 (((cut s).size) + 1) :: iN .i64 (t % (((cut s).size) + 1)) :: List.replicate 22 un).toArray, []⟩) (by kernel_rfl) ?_
  refine wp_block ?_
  refine wp_count (fun k A w' => ∃ u1 : Nat → Value, A = ⟨(.string (cut s) :: iN .u8 t :: un :: un :: .bool false :: iN .i64 (t % (((cut s).size) + 1)) :: .string (upS k) :: iN .i64 k :: .string s :: .string s :: iN .i64 s.size :: iN .i64 (min s.size 64) :: .string (s.extract 0 (min s.size 64)) :: .string (cut s) :: iN .i64 ((cut s).size) :: .bool true :: iN .u8 t :: iN .i64 t :: .string (cut s) :: iN .i64 ((cut s).size) :: iN .i64 (((cut s).size) + 1) :: iN .i64 (t % (((cut s).size) + 1)) :: u1 22 :: u1 23 :: u1 24 :: u1 25 :: u1 26 :: u1 27 :: u1 28 :: List.replicate 15 un).toArray, []⟩ ∧ HA w [] w') (t % ((cut s).size + 1)) ?_ ?_ ?_
  · exact ⟨fun ii => (([(22, undef), (23, undef), (24, undef), (25, undef), (26, undef), (27, undef), (28, undef)] : List (Nat × Value)).find? (·.1 == ii)).elim undef (·.2), by kernel_rfl, H0⟩
  · rintro k hk _ w2 ⟨u1, rfl, h3⟩
    refine wp_seq ?_
    refine wp_seq ?_
    -- region 7
    refine wl_region ?_
    refine wl_val (iN .i64 k) (by kernel_rfl) (by kernel_rfl) ?_
    refine wl_val (iN .i64 (t % (((cut s).size) + 1))) (by kernel_rfl) (by kernel_rfl) ?_
    refine wl_val (.bool true) (by kernel_rfl) (run_lss (k := .i64) (a := k) (b := t % (((cut s).size) + 1)) (by kernel_rfl) (by kernel_rfl) true (decide_eq_true hk)) ?_
    refine wl_nil ?_
    refine then_at (F := ⟨(.string (cut s) :: iN .u8 t :: un :: un :: .bool false :: iN .i64 (t % (((cut s).size) + 1)) :: .string (upS k) :: iN .i64 k :: .string s :: .string s :: iN .i64 s.size :: iN .i64 (min s.size 64) :: .string (s.extract 0 (min s.size 64)) :: .string (cut s) :: iN .i64 ((cut s).size) :: .bool true :: iN .u8 t :: iN .i64 t :: .string (cut s) :: iN .i64 ((cut s).size) :: iN .i64 (((cut s).size) + 1) :: iN .i64 (t % (((cut s).size) + 1)) :: iN .i64 k :: iN .i64 (t % (((cut s).size) + 1)) :: .bool true :: u1 25 :: u1 26 :: u1 27 :: u1 28 :: List.replicate 15 un).toArray, []⟩) (by kernel_rfl) ?_
    refine wp_cond_true (by kernel_rfl) ?_
    refine wp_skip ?_
    refine then_at (F := ⟨(.string (cut s) :: iN .u8 t :: un :: un :: .bool false :: iN .i64 (t % (((cut s).size) + 1)) :: .string (upS k) :: iN .i64 k :: .string s :: .string s :: iN .i64 s.size :: iN .i64 (min s.size 64) :: .string (s.extract 0 (min s.size 64)) :: .string (cut s) :: iN .i64 ((cut s).size) :: .bool true :: iN .u8 t :: iN .i64 t :: .string (cut s) :: iN .i64 ((cut s).size) :: iN .i64 (((cut s).size) + 1) :: iN .i64 (t % (((cut s).size) + 1)) :: iN .i64 k :: iN .i64 (t % (((cut s).size) + 1)) :: .bool true :: u1 25 :: u1 26 :: u1 27 :: u1 28 :: List.replicate 15 un).toArray, []⟩) (by kernel_rfl) ?_
    refine wp_seq ?_
    refine wp_block ?_
    -- region 9
    refine wl_region ?_
    refine wl_val (.string (upS k)) (by kernel_rfl) (by kernel_rfl) ?_
    refine wl_call (v := .string (mS (upS k) ({ data := #[0, 1] }))) h3 (by kernel_rfl) enter19 #[.string (upS k), .string { data := #[0, 1] }] (by kernel_rfl) (Mul_any (upS k) ({ data := #[0, 1] }) w2 (VV.below h3.old VV.big)) ?_
    intro w4 h5
    refine wl_val (.string (mS (upS k) ({ data := #[0, 1] }))) (by kernel_rfl) (by kernel_rfl) ?_
    refine wl_nil ?_
    refine block_normal ?_
    refine then_at (F := ⟨(.string (cut s) :: iN .u8 t :: un :: un :: .bool false :: iN .i64 (t % (((cut s).size) + 1)) :: .string (mS (upS k) ({ data := #[0, 1] })) :: iN .i64 k :: .string s :: .string s :: iN .i64 s.size :: iN .i64 (min s.size 64) :: .string (s.extract 0 (min s.size 64)) :: .string (cut s) :: iN .i64 ((cut s).size) :: .bool true :: iN .u8 t :: iN .i64 t :: .string (cut s) :: iN .i64 ((cut s).size) :: iN .i64 (((cut s).size) + 1) :: iN .i64 (t % (((cut s).size) + 1)) :: iN .i64 k :: iN .i64 (t % (((cut s).size) + 1)) :: .bool true :: u1 25 :: u1 26 :: .string (upS k) :: .string (mS (upS k) ({ data := #[0, 1] })) :: List.replicate 15 un).toArray, []⟩) (by kernel_rfl) ?_
    -- region 8
    refine wl_region ?_
    refine wl_val (iN .i64 k) (by kernel_rfl) (by kernel_rfl) ?_
    refine wl_val (iN .i64 (k + 1)) (by kernel_rfl) (run_add (k := .i64) (a := k) (b := 1) (by kernel_rfl) (by kernel_rfl) (by simp only [top]; omega)) ?_
    refine wl_val (iN .i64 (k + 1)) (by kernel_rfl) (by kernel_rfl) ?_
    refine wl_nil ?_
    exact then_I ⟨fun ii => (([(22, iN .i64 k), (23, iN .i64 (t % (((cut s).size) + 1))), (24, .bool true), (25, iN .i64 k), (26, iN .i64 (k + 1)), (27, .string (upS k)), (28, .string (mS (upS k) ({ data := #[0, 1] })))] : List (Nat × Value)).find? (·.1 == ii)).elim undef (·.2), by kernel_rfl, h5⟩
  · rintro _ w6 ⟨u1, rfl, h7⟩
    refine wp_seq ?_
    refine wp_seq ?_
    -- region 7
    refine wl_region ?_
    refine wl_val (iN .i64 (t % ((cut s).size + 1))) (by kernel_rfl) (by kernel_rfl) ?_
    refine wl_val (iN .i64 (t % (((cut s).size) + 1))) (by kernel_rfl) (by kernel_rfl) ?_
    refine wl_val (.bool false) (by kernel_rfl) (run_lss (k := .i64) (a := t % ((cut s).size + 1)) (b := t % (((cut s).size) + 1)) (by kernel_rfl) (by kernel_rfl) false (decide_eq_false (Nat.lt_irrefl _))) ?_
    refine wl_nil ?_
    refine then_at (F := ⟨(.string (cut s) :: iN .u8 t :: un :: un :: .bool false :: iN .i64 (t % (((cut s).size) + 1)) :: .string (upS (t % ((cut s).size + 1))) :: iN .i64 (t % ((cut s).size + 1)) :: .string s :: .string s :: iN .i64 s.size :: iN .i64 (min s.size 64) :: .string (s.extract 0 (min s.size 64)) :: .string (cut s) :: iN .i64 ((cut s).size) :: .bool true :: iN .u8 t :: iN .i64 t :: .string (cut s) :: iN .i64 ((cut s).size) :: iN .i64 (((cut s).size) + 1) :: iN .i64 (t % (((cut s).size) + 1)) :: iN .i64 (t % ((cut s).size + 1)) :: iN .i64 (t % (((cut s).size) + 1)) :: .bool false :: u1 25 :: u1 26 :: u1 27 :: u1 28 :: List.replicate 15 un).toArray, []⟩) (by kernel_rfl) ?_
    refine wp_cond_false (by kernel_rfl) ?_
    refine wp_exit ?_
    repeat first | refine then_exit ?_ | refine block_exit ?_ | refine block_exit_ne (by decide) ?_
    refine then_at (F := ⟨(.string (cut s) :: iN .u8 t :: un :: un :: .bool false :: iN .i64 (t % (((cut s).size) + 1)) :: .string (upS (t % ((cut s).size + 1))) :: iN .i64 (t % ((cut s).size + 1)) :: .string s :: .string s :: iN .i64 s.size :: iN .i64 (min s.size 64) :: .string (s.extract 0 (min s.size 64)) :: .string (cut s) :: iN .i64 ((cut s).size) :: .bool true :: iN .u8 t :: iN .i64 t :: .string (cut s) :: iN .i64 ((cut s).size) :: iN .i64 (((cut s).size) + 1) :: iN .i64 (t % (((cut s).size) + 1)) :: iN .i64 (t % ((cut s).size + 1)) :: iN .i64 (t % (((cut s).size) + 1)) :: .bool false :: u1 25 :: u1 26 :: u1 27 :: u1 28 :: List.replicate 15 un).toArray, []⟩) (by kernel_rfl) ?_
    refine wp_seq ?_
    -- region 10
    refine wp_region_sure ⟨(.string (cut s) :: iN .u8 t :: un :: un :: .bool true :: iN .i64 (t % (((cut s).size) + 1)) :: .string (upS (t % ((cut s).size + 1))) :: iN .i64 (t % ((cut s).size + 1)) :: .string s :: .string s :: iN .i64 s.size :: iN .i64 (min s.size 64) :: .string (s.extract 0 (min s.size 64)) :: .string (cut s) :: iN .i64 ((cut s).size) :: .bool true :: iN .u8 t :: iN .i64 t :: .string (cut s) :: iN .i64 ((cut s).size) :: iN .i64 (((cut s).size) + 1) :: iN .i64 (t % (((cut s).size) + 1)) :: iN .i64 (t % ((cut s).size + 1)) :: iN .i64 (t % (((cut s).size) + 1)) :: .bool false :: u1 25 :: u1 26 :: u1 27 :: u1 28 :: .string (cut s) :: iN .i64 (t % (((cut s).size) + 1)) :: .string ((cut s).extract 0 (t % (((cut s).size) + 1))) :: .string (upS (t % ((cut s).size + 1))) :: .string (cut s) :: iN .i64 (t % (((cut s).size) + 1)) :: .string ((cut s).extract (t % (((cut s).size) + 1)) (cut s).size) :: .string (mS (upS (t % ((cut s).size + 1))) ((cut s).extract (t % (((cut s).size) + 1)) (cut s).size)) :: .string (aS ((cut s).extract 0 (t % (((cut s).size) + 1))) (mS (upS (t % ((cut s).size + 1))) ((cut s).extract (t % (((cut s).size) + 1)) (cut s).size))) :: .string (cut s) :: .string (rS (cut s)) :: .bool true :: .bool true :: .bool true :: .bool true :: List.replicate 0 un).toArray, []⟩ (HA w []) [.string (cut s), iN .i64 (t % (((cut s).size) + 1)), .string ((cut s).extract 0 (t % (((cut s).size) + 1))), .string (upS (t % ((cut s).size + 1))), .string (cut s), iN .i64 (t % (((cut s).size) + 1)), .string ((cut s).extract (t % (((cut s).size) + 1)) (cut s).size), .string (mS (upS (t % ((cut s).size + 1))) ((cut s).extract (t % (((cut s).size) + 1)) (cut s).size)), .string (aS ((cut s).extract 0 (t % (((cut s).size) + 1))) (mS (upS (t % ((cut s).size + 1))) ((cut s).extract (t % (((cut s).size) + 1)) (cut s).size))), .string (cut s), .string (rS (cut s)), .bool true, .bool true, .bool true, .bool true, .bool true] (by kernel_rfl) (by kernel_rfl) (by kernel_rfl) (by kernel_rfl) (fun _ _ _ h => h) h7.drew ?_ ?_
    · refine AllSure.cons (OpSure.take (v := .string (cut s)) (by kernel_rfl) (by kernel_rfl) (fun _ _ => (by kernel_rfl))) ?_
      refine AllSure.cons (OpSure.take (v := iN .i64 (t % (((cut s).size) + 1))) (by kernel_rfl) (by kernel_rfl) (fun _ _ => (by kernel_rfl))) ?_
      refine AllSure.cons (OpSure.take (v := .string ((cut s).extract 0 (t % (((cut s).size) + 1)))) (by kernel_rfl) (by kernel_rfl) (fun _ _ => (run_cut_hi (s := cut s) (b := t % (((cut s).size) + 1)) (by kernel_rfl) (by kernel_rfl) hkl))) ?_
      refine AllSure.cons (OpSure.take (v := .string (upS (t % ((cut s).size + 1)))) (by kernel_rfl) (by kernel_rfl) (fun _ _ => (by kernel_rfl))) ?_
      refine AllSure.cons (OpSure.take (v := .string (cut s)) (by kernel_rfl) (by kernel_rfl) (fun _ _ => (by kernel_rfl))) ?_
      refine AllSure.cons (OpSure.take (v := iN .i64 (t % (((cut s).size) + 1))) (by kernel_rfl) (by kernel_rfl) (fun _ _ => (by kernel_rfl))) ?_
      refine AllSure.cons (OpSure.take (v := .string ((cut s).extract (t % (((cut s).size) + 1)) (cut s).size)) (by kernel_rfl) (by kernel_rfl) (fun _ _ => (run_cut_lo (s := cut s) (a := t % (((cut s).size) + 1)) (by kernel_rfl) (by kernel_rfl) hkl))) ?_
      refine AllSure.cons (sure_call (v := .string (mS (upS (t % ((cut s).size + 1))) ((cut s).extract (t % (((cut s).size) + 1)) (cut s).size))) (by kernel_rfl) (by kernel_rfl) enter19 HA.keep #[.string (upS (t % ((cut s).size + 1))), .string ((cut s).extract (t % (((cut s).size) + 1)) (cut s).size)] (by kernel_rfl) (fun w' h' => Mul_any (upS (t % ((cut s).size + 1))) ((cut s).extract (t % (((cut s).size) + 1)) (cut s).size) w' (VV.below h'.old VV.big))) ?_
      refine AllSure.cons (sure_call (v := .string (aS ((cut s).extract 0 (t % (((cut s).size) + 1))) (mS (upS (t % ((cut s).size + 1))) ((cut s).extract (t % (((cut s).size) + 1)) (cut s).size)))) (by kernel_rfl) (by kernel_rfl) enter17 HA.keep #[.string ((cut s).extract 0 (t % (((cut s).size) + 1))), .string (mS (upS (t % ((cut s).size + 1))) ((cut s).extract (t % (((cut s).size) + 1)) (cut s).size))] (by kernel_rfl) (fun w' h' => Add_any ((cut s).extract 0 (t % (((cut s).size) + 1))) (mS (upS (t % ((cut s).size + 1))) ((cut s).extract (t % (((cut s).size) + 1)) (cut s).size)) w' (VV.below h'.old VV.big))) ?_
      refine AllSure.cons (OpSure.take (v := .string (cut s)) (by kernel_rfl) (by kernel_rfl) (fun _ _ => (by kernel_rfl))) ?_
      refine AllSure.cons (sure_call (v := .string (rS (cut s))) (by kernel_rfl) (by kernel_rfl) enter10 HA.keep #[.string (cut s)] (by kernel_rfl) (fun w' h' => Reduce_any (cut s) w' (VV.below h'.old VV.big))) ?_
      refine AllSure.cons (OpSure.take (v := .bool true) (by kernel_rfl) (by kernel_rfl) (fun _ _ => (run_eqs (s := aS ((cut s).extract 0 (t % (((cut s).size) + 1))) (mS (upS (t % ((cut s).size + 1))) ((cut s).extract (t % (((cut s).size) + 1)) (cut s).size))) (t := rS (cut s)) (by kernel_rfl) (by kernel_rfl) true (decide_eq_true (parts_eq s (t % ((cut s).size + 1)) hkl))))) ?_
      refine AllSure.cons (OpSure.take (v := .bool true) (by kernel_rfl) (by kernel_rfl) (fun _ _ => (by kernel_rfl))) ?_
      refine AllSure.cons (sure_call (v := .bool true) (by kernel_rfl) (by kernel_rfl) enter16 HA.keep #[] (by kernel_rfl) (fun w' h' => works_any w' (VV.below h'.old VV.big))) ?_
      refine AllSure.cons (OpSure.take (v := .bool true) (by kernel_rfl) (by kernel_rfl) (fun _ _ => (by kernel_rfl))) ?_
      refine AllSure.cons (OpSure.take (v := .bool true) (by kernel_rfl) (by kernel_rfl) (fun _ _ => (by kernel_rfl))) ?_
      exact AllSure.nil
    intro w8 h9
    refine then_at (F := ⟨(.string (cut s) :: iN .u8 t :: un :: un :: .bool true :: iN .i64 (t % (((cut s).size) + 1)) :: .string (upS (t % ((cut s).size + 1))) :: iN .i64 (t % ((cut s).size + 1)) :: .string s :: .string s :: iN .i64 s.size :: iN .i64 (min s.size 64) :: .string (s.extract 0 (min s.size 64)) :: .string (cut s) :: iN .i64 ((cut s).size) :: .bool true :: iN .u8 t :: iN .i64 t :: .string (cut s) :: iN .i64 ((cut s).size) :: iN .i64 (((cut s).size) + 1) :: iN .i64 (t % (((cut s).size) + 1)) :: iN .i64 (t % ((cut s).size + 1)) :: iN .i64 (t % (((cut s).size) + 1)) :: .bool false :: u1 25 :: u1 26 :: u1 27 :: u1 28 :: .string (cut s) :: iN .i64 (t % (((cut s).size) + 1)) :: .string ((cut s).extract 0 (t % (((cut s).size) + 1))) :: .string (upS (t % ((cut s).size + 1))) :: .string (cut s) :: iN .i64 (t % (((cut s).size) + 1)) :: .string ((cut s).extract (t % (((cut s).size) + 1)) (cut s).size) :: .string (mS (upS (t % ((cut s).size + 1))) ((cut s).extract (t % (((cut s).size) + 1)) (cut s).size)) :: .string (aS ((cut s).extract 0 (t % (((cut s).size) + 1))) (mS (upS (t % ((cut s).size + 1))) ((cut s).extract (t % (((cut s).size) + 1)) (cut s).size))) :: .string (cut s) :: .string (rS (cut s)) :: .bool true :: .bool true :: .bool true :: .bool true :: List.replicate 0 un).toArray, []⟩) (by kernel_rfl) ?_
    refine wp_ret ?_
    repeat first | refine then_ret ?_ | refine block_ret ?_
    exact bodyPost_ret (v := .bool true) (by kernel_rfl) rfl ⟨rfl, h9.old⟩

set_option linter.unusedVariables false in
set_option maxRecDepth 100000 in
set_option maxHeartbeats 4000000 in
theorem parts_neg (s : ByteArray) (t : Nat) (ht : t < 256) (hn : ¬ 0 < (cut s).size) (hkl : 0 ≤ (cut s).size) (w : World) (VV : Vars w) :
    Calls Tryd.prog 8 #[.string s, iN .u8 t] w fun e w' => e = .returned (.bool true) ∧ Below w.heap.size w w' := by
  have h64 := cut_size s
  have H0 := HA.start w
  go_enter Tryd.func8, Tryd.ntmps8
  refine wp_seq ?_
  -- region 0
  refine wl_region ?_
  refine wl_val (.bool false) (by kernel_rfl) (by kernel_rfl) ?_
  refine wl_nil ?_
  refine then_at (F := ⟨(.string s :: iN .u8 t :: un :: un :: .bool false :: List.replicate 39 un).toArray, []⟩) (by kernel_rfl) ?_
  refine wp_seq ?_
  -- region 1
  refine wl_region ?_
  refine wl_val (.string s) (by kernel_rfl) (by kernel_rfl) ?_
  refine wl_val (.string s) (by kernel_rfl) (by kernel_rfl) ?_
  refine wl_val (iN .i64 s.size) (by kernel_rfl) (run_len (s := s) (by kernel_rfl)) ?_
  refine wl_val (iN .i64 (min s.size 64)) (by kernel_rfl) (run_min (a := s.size) (b := 64) (by kernel_rfl) (by kernel_rfl)) ?_
  refine wl_val (.string (s.extract 0 (min s.size 64))) (by kernel_rfl) (run_cut_hi (s := s) (b := min s.size 64) (by kernel_rfl) (by kernel_rfl) (by omega)) ?_
  refine wl_val (.string (s.extract 0 (min s.size 64))) (by kernel_rfl) (by kernel_rfl) ?_
  refine wl_nil ?_
  refine then_at (F := ⟨(.string (cut s) :: iN .u8 t :: un :: un :: .bool false :: un :: un :: un :: .string s :: .string s :: iN .i64 s.size :: iN .i64 (min s.size 64) :: .string (s.extract 0 (min s.size 64)) :: List.replicate 31 un).toArray, []⟩) (by kernel_rfl) ?_
  refine wp_seq ?_
  -- region 2
  refine wl_region ?_
  refine wl_val (iN .i64 0) (by kernel_rfl) (by kernel_rfl) ?_
  refine wl_nil ?_
  refine then_at (F := ⟨(.string (cut s) :: iN .u8 t :: un :: un :: .bool false :: iN .i64 0 :: un :: un :: .string s :: .string s :: iN .i64 s.size :: iN .i64 (min s.size 64) :: .string (s.extract 0 (min s.size 64)) :: List.replicate 31 un).toArray, []⟩) (by kernel_rfl) ?_
  refine wp_seq ?_
  refine wp_seq ?_
  -- region 3
  refine wl_region ?_
  refine wl_val (.string (cut s)) (by kernel_rfl) (by kernel_rfl) ?_
  refine wl_val (iN .i64 ((cut s).size)) (by kernel_rfl) (run_len (s := cut s) (by kernel_rfl)) ?_
  refine wl_val (.bool false) (by kernel_rfl) (run_gtr (k := .i64) (a := (cut s).size) (b := 0) (by kernel_rfl) (by kernel_rfl) false (decide_eq_false hn)) ?_
  refine wl_nil ?_
  refine then_at (F := ⟨(.string (cut s) :: iN .u8 t :: un :: un :: .bool false :: iN .i64 0 :: un :: un :: .string s :: .string s :: iN .i64 s.size :: iN .i64 (min s.size 64) :: .string (s.extract 0 (min s.size 64)) :: .string (cut s) :: iN .i64 ((cut s).size) :: .bool false :: List.replicate 28 un).toArray, []⟩) (by kernel_rfl) ?_
  refine wp_cond_false (by kernel_rfl) ?_
  refine wp_skip ?_
  refine then_at (F := ⟨(.string (cut s) :: iN .u8 t :: un :: un :: .bool false :: iN .i64 0 :: un :: un :: .string s :: .string s :: iN .i64 s.size :: iN .i64 (min s.size 64) :: .string (s.extract 0 (min s.size 64)) :: .string (cut s) :: iN .i64 ((cut s).size) :: .bool false :: List.replicate 28 un).toArray, []⟩) (by kernel_rfl) ?_
  refine wp_seq ?_
  -- region 5
  refine wl_region ?_
  refine wl_val (.string { data := #[1] }) (by kernel_rfl) (by kernel_rfl) ?_
  refine wl_nil ?_
  refine then_at (F := ⟨(.string (cut s) :: iN .u8 t :: un :: un :: .bool false :: iN .i64 0 :: .string { data := #[1] } :: un :: .string s :: .string s :: iN .i64 s.size :: iN .i64 (min s.size 64) :: .string (s.extract 0 (min s.size 64)) :: .string (cut s) :: iN .i64 ((cut s).size) :: .bool false :: List.replicate 28 un).toArray, []⟩) (by kernel_rfl) ?_
  refine wp_seq ?_
  refine wp_seq ?_
  -- region 6
  refine wl_region ?_
  refine wl_val (iN .i64 0) (by kernel_rfl) (by kernel_rfl) ?_
  refine wl_nil ?_
  refine then_at (F := ⟨(.string (cut s) :: iN .u8 t :: un :: un :: .bool false :: iN .i64 0 :: .string { data := #[1] } :: iN .i64 0 :: .string s :: .string s :: iN .i64 s.size :: iN .i64 (min s.size 64) :: .string (s.extract 0 (min s.size 64)) :: .string (cut s) :: iN .i64 ((cut s).size) :: .bool false :: List.replicate 28 un).toArray, []⟩) (by kernel_rfl) ?_
  refine wp_block ?_
  refine wp_count (fun k A w' => ∃ u1 : Nat → Value, A = ⟨(.string (cut s) :: iN .u8 t :: un :: un :: .bool false :: iN .i64 0 :: .string (upS k) :: iN .i64 k :: .string s :: .string s :: iN .i64 s.size :: iN .i64 (min s.size 64) :: .string (s.extract 0 (min s.size 64)) :: .string (cut s) :: iN .i64 ((cut s).size) :: .bool false :: un :: un :: un :: un :: un :: un :: u1 22 :: u1 23 :: u1 24 :: u1 25 :: u1 26 :: u1 27 :: u1 28 :: List.replicate 15 un).toArray, []⟩ ∧ HA w [] w') 0 ?_ ?_ ?_
  · exact ⟨fun ii => (([(22, undef), (23, undef), (24, undef), (25, undef), (26, undef), (27, undef), (28, undef)] : List (Nat × Value)).find? (·.1 == ii)).elim undef (·.2), by kernel_rfl, H0⟩
  · rintro k hk _ w2 ⟨u1, rfl, h3⟩
    refine wp_seq ?_
    refine wp_seq ?_
    -- region 7
    refine wl_region ?_
    refine wl_val (iN .i64 k) (by kernel_rfl) (by kernel_rfl) ?_
    refine wl_val (iN .i64 0) (by kernel_rfl) (by kernel_rfl) ?_
    refine wl_val (.bool true) (by kernel_rfl) (run_lss (k := .i64) (a := k) (b := 0) (by kernel_rfl) (by kernel_rfl) true (decide_eq_true hk)) ?_
    refine wl_nil ?_
    refine then_at (F := ⟨(.string (cut s) :: iN .u8 t :: un :: un :: .bool false :: iN .i64 0 :: .string (upS k) :: iN .i64 k :: .string s :: .string s :: iN .i64 s.size :: iN .i64 (min s.size 64) :: .string (s.extract 0 (min s.size 64)) :: .string (cut s) :: iN .i64 ((cut s).size) :: .bool false :: un :: un :: un :: un :: un :: un :: iN .i64 k :: iN .i64 0 :: .bool true :: u1 25 :: u1 26 :: u1 27 :: u1 28 :: List.replicate 15 un).toArray, []⟩) (by kernel_rfl) ?_
    refine wp_cond_true (by kernel_rfl) ?_
    refine wp_skip ?_
    refine then_at (F := ⟨(.string (cut s) :: iN .u8 t :: un :: un :: .bool false :: iN .i64 0 :: .string (upS k) :: iN .i64 k :: .string s :: .string s :: iN .i64 s.size :: iN .i64 (min s.size 64) :: .string (s.extract 0 (min s.size 64)) :: .string (cut s) :: iN .i64 ((cut s).size) :: .bool false :: un :: un :: un :: un :: un :: un :: iN .i64 k :: iN .i64 0 :: .bool true :: u1 25 :: u1 26 :: u1 27 :: u1 28 :: List.replicate 15 un).toArray, []⟩) (by kernel_rfl) ?_
    refine wp_seq ?_
    refine wp_block ?_
    -- region 9
    refine wl_region ?_
    refine wl_val (.string (upS k)) (by kernel_rfl) (by kernel_rfl) ?_
    refine wl_call (v := .string (mS (upS k) ({ data := #[0, 1] }))) h3 (by kernel_rfl) enter19 #[.string (upS k), .string { data := #[0, 1] }] (by kernel_rfl) (Mul_any (upS k) ({ data := #[0, 1] }) w2 (VV.below h3.old VV.big)) ?_
    intro w4 h5
    refine wl_val (.string (mS (upS k) ({ data := #[0, 1] }))) (by kernel_rfl) (by kernel_rfl) ?_
    refine wl_nil ?_
    refine block_normal ?_
    refine then_at (F := ⟨(.string (cut s) :: iN .u8 t :: un :: un :: .bool false :: iN .i64 0 :: .string (mS (upS k) ({ data := #[0, 1] })) :: iN .i64 k :: .string s :: .string s :: iN .i64 s.size :: iN .i64 (min s.size 64) :: .string (s.extract 0 (min s.size 64)) :: .string (cut s) :: iN .i64 ((cut s).size) :: .bool false :: un :: un :: un :: un :: un :: un :: iN .i64 k :: iN .i64 0 :: .bool true :: u1 25 :: u1 26 :: .string (upS k) :: .string (mS (upS k) ({ data := #[0, 1] })) :: List.replicate 15 un).toArray, []⟩) (by kernel_rfl) ?_
    -- region 8
    refine wl_region ?_
    refine wl_val (iN .i64 k) (by kernel_rfl) (by kernel_rfl) ?_
    refine wl_val (iN .i64 (k + 1)) (by kernel_rfl) (run_add (k := .i64) (a := k) (b := 1) (by kernel_rfl) (by kernel_rfl) (by simp only [top]; omega)) ?_
    refine wl_val (iN .i64 (k + 1)) (by kernel_rfl) (by kernel_rfl) ?_
    refine wl_nil ?_
    exact then_I ⟨fun ii => (([(22, iN .i64 k), (23, iN .i64 0), (24, .bool true), (25, iN .i64 k), (26, iN .i64 (k + 1)), (27, .string (upS k)), (28, .string (mS (upS k) ({ data := #[0, 1] })))] : List (Nat × Value)).find? (·.1 == ii)).elim undef (·.2), by kernel_rfl, h5⟩
  · rintro _ w6 ⟨u1, rfl, h7⟩
    refine wp_seq ?_
    refine wp_seq ?_
    -- region 7
    refine wl_region ?_
    refine wl_val (iN .i64 0) (by kernel_rfl) (by kernel_rfl) ?_
    refine wl_val (iN .i64 0) (by kernel_rfl) (by kernel_rfl) ?_
    refine wl_val (.bool false) (by kernel_rfl) (run_lss (k := .i64) (a := 0) (b := 0) (by kernel_rfl) (by kernel_rfl) false (by decide)) ?_
    refine wl_nil ?_
    refine then_at (F := ⟨(.string (cut s) :: iN .u8 t :: un :: un :: .bool false :: iN .i64 0 :: .string (upS 0) :: iN .i64 0 :: .string s :: .string s :: iN .i64 s.size :: iN .i64 (min s.size 64) :: .string (s.extract 0 (min s.size 64)) :: .string (cut s) :: iN .i64 ((cut s).size) :: .bool false :: un :: un :: un :: un :: un :: un :: iN .i64 0 :: iN .i64 0 :: .bool false :: u1 25 :: u1 26 :: u1 27 :: u1 28 :: List.replicate 15 un).toArray, []⟩) (by kernel_rfl) ?_
    refine wp_cond_false (by kernel_rfl) ?_
    refine wp_exit ?_
    repeat first | refine then_exit ?_ | refine block_exit ?_ | refine block_exit_ne (by decide) ?_
    refine then_at (F := ⟨(.string (cut s) :: iN .u8 t :: un :: un :: .bool false :: iN .i64 0 :: .string (upS 0) :: iN .i64 0 :: .string s :: .string s :: iN .i64 s.size :: iN .i64 (min s.size 64) :: .string (s.extract 0 (min s.size 64)) :: .string (cut s) :: iN .i64 ((cut s).size) :: .bool false :: un :: un :: un :: un :: un :: un :: iN .i64 0 :: iN .i64 0 :: .bool false :: u1 25 :: u1 26 :: u1 27 :: u1 28 :: List.replicate 15 un).toArray, []⟩) (by kernel_rfl) ?_
    refine wp_seq ?_
    -- region 10
    refine wp_region_sure ⟨(.string (cut s) :: iN .u8 t :: un :: un :: .bool true :: iN .i64 0 :: .string (upS 0) :: iN .i64 0 :: .string s :: .string s :: iN .i64 s.size :: iN .i64 (min s.size 64) :: .string (s.extract 0 (min s.size 64)) :: .string (cut s) :: iN .i64 ((cut s).size) :: .bool false :: un :: un :: un :: un :: un :: un :: iN .i64 0 :: iN .i64 0 :: .bool false :: u1 25 :: u1 26 :: u1 27 :: u1 28 :: .string (cut s) :: iN .i64 0 :: .string ((cut s).extract 0 0) :: .string (upS 0) :: .string (cut s) :: iN .i64 0 :: .string ((cut s).extract 0 (cut s).size) :: .string (mS (upS 0) ((cut s).extract 0 (cut s).size)) :: .string (aS ((cut s).extract 0 0) (mS (upS 0) ((cut s).extract 0 (cut s).size))) :: .string (cut s) :: .string (rS (cut s)) :: .bool true :: .bool true :: .bool true :: .bool true :: List.replicate 0 un).toArray, []⟩ (HA w []) [.string (cut s), iN .i64 0, .string ((cut s).extract 0 0), .string (upS 0), .string (cut s), iN .i64 0, .string ((cut s).extract 0 (cut s).size), .string (mS (upS 0) ((cut s).extract 0 (cut s).size)), .string (aS ((cut s).extract 0 0) (mS (upS 0) ((cut s).extract 0 (cut s).size))), .string (cut s), .string (rS (cut s)), .bool true, .bool true, .bool true, .bool true, .bool true] (by kernel_rfl) (by kernel_rfl) (by kernel_rfl) (by kernel_rfl) (fun _ _ _ h => h) h7.drew ?_ ?_
    · refine AllSure.cons (OpSure.take (v := .string (cut s)) (by kernel_rfl) (by kernel_rfl) (fun _ _ => (by kernel_rfl))) ?_
      refine AllSure.cons (OpSure.take (v := iN .i64 0) (by kernel_rfl) (by kernel_rfl) (fun _ _ => (by kernel_rfl))) ?_
      refine AllSure.cons (OpSure.take (v := .string ((cut s).extract 0 0)) (by kernel_rfl) (by kernel_rfl) (fun _ _ => (run_cut_hi (s := cut s) (b := 0) (by kernel_rfl) (by kernel_rfl) hkl))) ?_
      refine AllSure.cons (OpSure.take (v := .string (upS 0)) (by kernel_rfl) (by kernel_rfl) (fun _ _ => (by kernel_rfl))) ?_
      refine AllSure.cons (OpSure.take (v := .string (cut s)) (by kernel_rfl) (by kernel_rfl) (fun _ _ => (by kernel_rfl))) ?_
      refine AllSure.cons (OpSure.take (v := iN .i64 0) (by kernel_rfl) (by kernel_rfl) (fun _ _ => (by kernel_rfl))) ?_
      refine AllSure.cons (OpSure.take (v := .string ((cut s).extract 0 (cut s).size)) (by kernel_rfl) (by kernel_rfl) (fun _ _ => (run_cut_lo (s := cut s) (a := 0) (by kernel_rfl) (by kernel_rfl) hkl))) ?_
      refine AllSure.cons (sure_call (v := .string (mS (upS 0) ((cut s).extract 0 (cut s).size))) (by kernel_rfl) (by kernel_rfl) enter19 HA.keep #[.string (upS 0), .string ((cut s).extract 0 (cut s).size)] (by kernel_rfl) (fun w' h' => Mul_any (upS 0) ((cut s).extract 0 (cut s).size) w' (VV.below h'.old VV.big))) ?_
      refine AllSure.cons (sure_call (v := .string (aS ((cut s).extract 0 0) (mS (upS 0) ((cut s).extract 0 (cut s).size)))) (by kernel_rfl) (by kernel_rfl) enter17 HA.keep #[.string ((cut s).extract 0 0), .string (mS (upS 0) ((cut s).extract 0 (cut s).size))] (by kernel_rfl) (fun w' h' => Add_any ((cut s).extract 0 0) (mS (upS 0) ((cut s).extract 0 (cut s).size)) w' (VV.below h'.old VV.big))) ?_
      refine AllSure.cons (OpSure.take (v := .string (cut s)) (by kernel_rfl) (by kernel_rfl) (fun _ _ => (by kernel_rfl))) ?_
      refine AllSure.cons (sure_call (v := .string (rS (cut s))) (by kernel_rfl) (by kernel_rfl) enter10 HA.keep #[.string (cut s)] (by kernel_rfl) (fun w' h' => Reduce_any (cut s) w' (VV.below h'.old VV.big))) ?_
      refine AllSure.cons (OpSure.take (v := .bool true) (by kernel_rfl) (by kernel_rfl) (fun _ _ => (run_eqs (s := aS ((cut s).extract 0 0) (mS (upS 0) ((cut s).extract 0 (cut s).size))) (t := rS (cut s)) (by kernel_rfl) (by kernel_rfl) true (decide_eq_true (parts_eq s 0 hkl))))) ?_
      refine AllSure.cons (OpSure.take (v := .bool true) (by kernel_rfl) (by kernel_rfl) (fun _ _ => (by kernel_rfl))) ?_
      refine AllSure.cons (sure_call (v := .bool true) (by kernel_rfl) (by kernel_rfl) enter16 HA.keep #[] (by kernel_rfl) (fun w' h' => works_any w' (VV.below h'.old VV.big))) ?_
      refine AllSure.cons (OpSure.take (v := .bool true) (by kernel_rfl) (by kernel_rfl) (fun _ _ => (by kernel_rfl))) ?_
      refine AllSure.cons (OpSure.take (v := .bool true) (by kernel_rfl) (by kernel_rfl) (fun _ _ => (by kernel_rfl))) ?_
      exact AllSure.nil
    intro w8 h9
    refine then_at (F := ⟨(.string (cut s) :: iN .u8 t :: un :: un :: .bool true :: iN .i64 0 :: .string (upS 0) :: iN .i64 0 :: .string s :: .string s :: iN .i64 s.size :: iN .i64 (min s.size 64) :: .string (s.extract 0 (min s.size 64)) :: .string (cut s) :: iN .i64 ((cut s).size) :: .bool false :: un :: un :: un :: un :: un :: un :: iN .i64 0 :: iN .i64 0 :: .bool false :: u1 25 :: u1 26 :: u1 27 :: u1 28 :: .string (cut s) :: iN .i64 0 :: .string ((cut s).extract 0 0) :: .string (upS 0) :: .string (cut s) :: iN .i64 0 :: .string ((cut s).extract 0 (cut s).size) :: .string (mS (upS 0) ((cut s).extract 0 (cut s).size)) :: .string (aS ((cut s).extract 0 0) (mS (upS 0) ((cut s).extract 0 (cut s).size))) :: .string (cut s) :: .string (rS (cut s)) :: .bool true :: .bool true :: .bool true :: .bool true :: List.replicate 0 un).toArray, []⟩) (by kernel_rfl) ?_
    refine wp_ret ?_
    repeat first | refine then_ret ?_ | refine block_ret ?_
    exact bodyPost_ret (v := .bool true) (by kernel_rfl) rfl ⟨rfl, h9.old⟩

theorem ScalarParts_any (s : ByteArray) (t : Nat) (ht : t < 256) (w : World) (VV : Vars w) :
    Calls Tryd.prog 8 #[.string s, iN .u8 t] w fun e w' => e = .returned (.bool true) ∧ Below w.heap.size w w' := by
  by_cases hn : 0 < (cut s).size
  · exact parts_pos s t ht hn (Nat.le_of_lt_succ (Nat.mod_lt _ (by omega))) w VV
  · exact parts_neg s t ht hn (by omega) w VV
end Go.Proofs.YtdblnbcclfenkaaDoor
