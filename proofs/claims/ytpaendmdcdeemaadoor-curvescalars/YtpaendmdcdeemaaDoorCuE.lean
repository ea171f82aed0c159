/-
  modulo.
-/
import Derived.Test.YtpaendmdcdeemaaDoorCuD
namespace Go.Proofs.YtpaendmdcdeemaaDoor
open Go.RowKit Num


/-- the highest k bytes of a text, as an element -/
def hiM (s : ByteArray) (k : Nat) : Nat := numS s / 256 ^ (32 - k) % P
theorem hiM_lt (s : ByteArray) (k : Nat) : hiM s k < P := Nat.mod_lt _ (by decide)
theorem numS_lt32 (s : ByteArray) (hs : s.size = 32) : numS s < 256 ^ 32 := by
  have h := numS_lt s hs
  rw [← h]
  exact Nat.lt_of_lt_of_le (Nat.mod_lt _ (by decide)) (by decide)
theorem hiM_zero (s : ByteArray) (hs : s.size = 32) : hiM s 0 = 0 := by
  unfold hiM
  rw [Nat.div_eq_of_lt (numS_lt32 s hs)]
  rfl
theorem hiM_end (s : ByteArray) : hiM s 32 = numS s % P := by
  unfold hiM
  rw [show 32 - 32 = 0 from rfl, Nat.pow_zero, Nat.div_one]
theorem hi_gen (p n b : Nat) : (n % p * 256 % p + b) % p = (n * 256 + b) % p := by
  rw [Nat.mod_add_mod, Nat.add_mod, Nat.mod_mul_mod, ← Nat.add_mod]
theorem hiM_step (s : ByteArray) (k : Nat) (hk : k < 32) : addP (mulP (hiM s k) 256) (sb s (31 - k)) = hiM s (k + 1) := by
  unfold addP mulP hiM sb
  have e : numS s / 256 ^ (31 - k) = numS s / 256 ^ (32 - k) * 256 + numS s / 256 ^ (31 - k) % 256 := by
    have h : 256 ^ (32 - k) = 256 ^ (31 - k) * 256 := by rw [← Nat.pow_succ]; congr 1; omega
    rw [h, ← Nat.div_div_eq_div_mul]
    generalize numS s / 256 ^ (31 - k) = M
    omega
  rw [hi_gen, show 32 - (k + 1) = 31 - k by omega]
  conv => rhs; rw [e]
theorem sb_P (s : ByteArray) (i : Nat) : sb s i < P := Nat.lt_trans (sb_lt s i) (by decide)

set_option linter.unusedVariables false in
set_option maxRecDepth 100000 in
set_option maxHeartbeats 2000000 in
theorem modulo_any (s : ByteArray) (hs : s.size = 32) (w : World) (VV : Vars w) :
    Calls Tryd.prog 65 #[.string s] w fun e w' => e = .returned (arr (numS s % P)) ∧ Below w.heap.size w w' := by
  have H0 := HA.start w
  go_enter Tryd.func65, Tryd.ntmps65
  refine wp_seq ?_
  -- region 0
  refine wl_region ?_
  refine wl_make H0 25 (by kernel_rfl) run_alloc25 ?_
  intro q1 w2 h3
  refine wl_nil ?_
  refine then_at (F := ⟨(.string s :: un :: pt q1 :: List.replicate 17 un).toArray, []⟩) (by kernel_rfl) ?_
  refine wp_seq ?_
  -- region 1
  refine wl_region ?_
  refine wl_make h3 25 (by kernel_rfl) run_alloc25 ?_
  intro q4 w5 h6
  refine wl_nil ?_
  refine then_at (F := ⟨(.string s :: un :: pt q1 :: pt q4 :: List.replicate 16 un).toArray, []⟩) (by kernel_rfl) ?_
  refine wp_seq ?_
  refine wp_seq ?_
  -- region 2
  refine wl_region ?_
  refine wl_val (iN .i64 0) (by kernel_rfl) (by kernel_rfl) ?_
  refine wl_nil ?_
  refine then_at (F := ⟨(.string s :: un :: pt q1 :: pt q4 :: un :: iN .i64 0 :: List.replicate 14 un).toArray, []⟩) (by kernel_rfl) ?_
  refine wp_block ?_
  refine wp_count (fun k A w' => ∃ u7 : Nat → Value, A = ⟨(.string s :: un :: pt q1 :: pt q4 :: u7 4 :: iN .i64 k :: u7 6 :: u7 7 :: u7 8 :: u7 9 :: u7 10 :: u7 11 :: u7 12 :: u7 13 :: u7 14 :: u7 15 :: u7 16 :: u7 17 :: u7 18 :: List.replicate 1 un).toArray, []⟩ ∧ HA w [(q4, 25, el (hiM s k)), (q1, 25, el 0)] w') 32 ?_ ?_ ?_
  · exact ⟨fun ii => (([(4, undef), (6, undef), (7, undef), (8, undef), (9, undef), (10, undef), (11, undef), (12, undef), (13, undef), (14, undef), (15, undef), (16, undef), (17, undef), (18, undef)] : List (Nat × Value)).find? (·.1 == ii)).elim undef (·.2), by kernel_rfl, (by rw [hiM_zero s hs]; exact h6)⟩
  · rintro k hk _ w8 ⟨u7, rfl, h9⟩
    refine wp_seq ?_
    -- region 3
    refine wl_region ?_
    refine wl_val (.bool true) (by kernel_rfl) (run_lss (k := .i64) (a := k) (b := 32) (by kernel_rfl) (by kernel_rfl) true (decide_eq_true hk)) ?_
    refine wl_nil ?_
    refine then_at (F := ⟨(.string s :: un :: pt q1 :: pt q4 :: u7 4 :: iN .i64 k :: .bool true :: u7 7 :: u7 8 :: u7 9 :: u7 10 :: u7 11 :: u7 12 :: u7 13 :: u7 14 :: u7 15 :: u7 16 :: u7 17 :: u7 18 :: List.replicate 1 un).toArray, []⟩) (by kernel_rfl) ?_
    refine wp_seq ?_
    refine wp_cond_true (by kernel_rfl) ?_
    refine wp_skip ?_
    refine then_at (F := ⟨(.string s :: un :: pt q1 :: pt q4 :: u7 4 :: iN .i64 k :: .bool true :: u7 7 :: u7 8 :: u7 9 :: u7 10 :: u7 11 :: u7 12 :: u7 13 :: u7 14 :: u7 15 :: u7 16 :: u7 17 :: u7 18 :: List.replicate 1 un).toArray, []⟩) (by kernel_rfl) ?_
    refine wp_seq ?_
    refine wp_block ?_
    refine wp_seq ?_
    -- region 4
    refine wl_region ?_
    refine wl_val (iN .i64 k) (by kernel_rfl) (by kernel_rfl) ?_
    refine wl_val (iN .i64 k) (by kernel_rfl) (by kernel_rfl) ?_
    refine wl_nil ?_
    refine then_at (F := ⟨(.string s :: un :: pt q1 :: pt q4 :: iN .i64 k :: iN .i64 k :: .bool true :: iN .i64 k :: u7 8 :: u7 9 :: u7 10 :: u7 11 :: u7 12 :: u7 13 :: u7 14 :: u7 15 :: u7 16 :: u7 17 :: u7 18 :: List.replicate 1 un).toArray, []⟩) (by kernel_rfl) ?_
    -- region 5
    refine wp_region_ghost (fun _ : Nat → Nat => (⟨(.string s :: un :: pt q1 :: pt q4 :: iN .i64 k :: iN .i64 k :: .bool true :: iN .i64 k :: arr (hiM s k) :: arr 256 :: arr (mulP (hiM s k) 256) :: .string s :: iN .i64 k :: iN .i64 (31 - k) :: iN .u8 (sb s (31 - k)) :: iN .u32 (sb s (31 - k)) :: arr (sb s (31 - k)) :: arr (addP (mulP (hiM s k) 256) (sb s (31 - k))) :: u7 18 :: List.replicate 1 un).toArray, []⟩ : Act)) (GF w [(q4, 25, el (hiM s k)), (q1, 25, el 0)] 10 0 0 q4 25 (el (addP (mulP (hiM s k) 256) (sb s (31 - k))))) [arr (hiM s k), arr 256, arr (mulP (hiM s k) 256), .string s, iN .i64 k, iN .i64 (31 - k), iN .u8 (sb s (31 - k)), iN .u32 (sb s (31 - k)), arr (sb s (31 - k)), arr (addP (mulP (hiM s k) 256) (sb s (31 - k))), undef] (by kernel_rfl) (by kernel_rfl) (by kernel_rfl) (by kernel_rfl) (fun _ _ _ _ h => h) (fun d hd => GF.start h9.drew (hd 10 (by decide))) ?_ ?_
    · refine AllGhost.cons (gf_load 0 rfl (by decide) (fun _ => by kernel_rfl) (fun _ => by kernel_rfl) (fun _ => by kernel_rfl) Tryd.underlying25 rfl (info_el _)) ?_
      refine AllGhost.cons (gf_callh (v := arr 256) (by decide) (fun _ => by kernel_rfl) (fun _ => by kernel_rfl) enter41 #[iN .u32 256] (fun _ => by kernel_rfl) (fun w' ho => Small_any 256 (by decide) w')) ?_
      refine AllGhost.cons (gf_callh (v := arr (mulP (hiM s k) 256)) (by decide) (fun _ => by kernel_rfl) (fun _ => by kernel_rfl) enter80 #[arr (hiM s k), arr 256] (fun _ => by kernel_rfl) (fun w' ho => Mul_any (hiM s k) 256 (hiM_lt _ _) (by decide) w' (VV.below ho VV.big))) ?_
      refine AllGhost.cons (gf_plain (v := .string s) (by decide) (fun _ => by kernel_rfl) (fun _ => by kernel_rfl) (fun _ _ => (by kernel_rfl))) ?_
      refine AllGhost.cons (gf_plain (v := iN .i64 k) (by decide) (fun _ => by kernel_rfl) (fun _ => by kernel_rfl) (fun _ _ => (by kernel_rfl))) ?_
      refine AllGhost.cons (gf_plain (v := iN .i64 (31 - k)) (by decide) (fun _ => by kernel_rfl) (fun _ => by kernel_rfl) (fun _ _ => (run_sub (k := .i64) (a := 31) (b := k) (by kernel_rfl) (by kernel_rfl) (by omega) (by simp only [top]; omega)))) ?_
      refine AllGhost.cons (gf_plain (v := iN .u8 (sb s (31 - k))) (by decide) (fun _ => by kernel_rfl) (fun _ => by kernel_rfl) (fun _ _ => (run_sidx (s := s) (a := 31 - k) (by kernel_rfl) (by kernel_rfl) (by omega)))) ?_
      refine AllGhost.cons (gf_plain (v := iN .u32 (sb s (31 - k))) (by decide) (fun _ => by kernel_rfl) (fun _ => by kernel_rfl) (fun _ _ => (run_conv .u32 Tryd.underlying5 Tryd.underlying30 (by kernel_rfl) (Nat.lt_trans (sb_lt s _) (by decide))))) ?_
      refine AllGhost.cons (gf_callh (v := arr (sb s (31 - k))) (by decide) (fun _ => by kernel_rfl) (fun _ => by kernel_rfl) enter41 #[iN .u32 (sb s (31 - k))] (fun _ => by kernel_rfl) (fun w' ho => Small_any (sb s (31 - k)) (Nat.lt_trans (sb_lt s _) (by decide)) w')) ?_
      refine AllGhost.cons (gf_callh (v := arr (addP (mulP (hiM s k) 256) (sb s (31 - k)))) (by decide) (fun _ => by kernel_rfl) (fun _ => by kernel_rfl) enter87 #[arr (mulP (hiM s k) 256), arr (sb s (31 - k))] (fun _ => by kernel_rfl) (fun w' ho => Add_any (mulP (hiM s k) 256) (sb s (31 - k)) (mulP_lt _ _) (sb_P _ _) w' (VV.below ho VV.big))) ?_
      refine AllGhost.cons (gf_fill rfl (el_sz _ _) (fun _ => by kernel_rfl) (fun _ => by kernel_rfl) (fun _ => by kernel_rfl) (fun _ => by kernel_rfl) (info_el _) (one_el _) (by decide) (by kernel_rfl)) ?_
      exact AllGhost.nil
    intro _ w10 g11
    have h12 : HA w [(q4, 25, el (addP (mulP (hiM s k) 256) (sb s (31 - k)))), (q1, 25, el 0)] w10 := g11.held
    clear g11
    refine block_normal ?_
    refine then_at (F := ⟨(.string s :: un :: pt q1 :: pt q4 :: iN .i64 k :: iN .i64 k :: .bool true :: iN .i64 k :: arr (hiM s k) :: arr 256 :: arr (mulP (hiM s k) 256) :: .string s :: iN .i64 k :: iN .i64 (31 - k) :: iN .u8 (sb s (31 - k)) :: iN .u32 (sb s (31 - k)) :: arr (sb s (31 - k)) :: arr (addP (mulP (hiM s k) 256) (sb s (31 - k))) :: u7 18 :: List.replicate 1 un).toArray, []⟩) (by kernel_rfl) ?_
    -- region 6
    refine wl_region ?_
    refine wl_val (iN .i64 (k + 1)) (by kernel_rfl) (run_add (k := .i64) (a := k) (b := 1) (by kernel_rfl) (by kernel_rfl) (by simp only [top]; omega)) ?_
    refine wl_val (iN .i64 (k + 1)) (by kernel_rfl) (by kernel_rfl) ?_
    refine wl_nil ?_
    exact then_I ⟨fun ii => (([(4, iN .i64 k), (6, .bool true), (7, iN .i64 k), (8, arr (hiM s k)), (9, arr 256), (10, arr (mulP (hiM s k) 256)), (11, .string s), (12, iN .i64 k), (13, iN .i64 (31 - k)), (14, iN .u8 (sb s (31 - k))), (15, iN .u32 (sb s (31 - k))), (16, arr (sb s (31 - k))), (17, arr (addP (mulP (hiM s k) 256) (sb s (31 - k)))), (18, iN .i64 (k + 1))] : List (Nat × Value)).find? (·.1 == ii)).elim undef (·.2), by kernel_rfl, (by rw [← hiM_step s k hk]; exact h12)⟩
  · rintro _ w13 ⟨u7, rfl, h14⟩
    refine wp_seq ?_
    -- region 3
    refine wl_region ?_
    refine wl_val (.bool false) (by kernel_rfl) (run_lss (k := .i64) (a := 32) (b := 32) (by kernel_rfl) (by kernel_rfl) false (by decide)) ?_
    refine wl_nil ?_
    refine then_at (F := ⟨(.string s :: un :: pt q1 :: pt q4 :: u7 4 :: iN .i64 32 :: .bool false :: u7 7 :: u7 8 :: u7 9 :: u7 10 :: u7 11 :: u7 12 :: u7 13 :: u7 14 :: u7 15 :: u7 16 :: u7 17 :: u7 18 :: List.replicate 1 un).toArray, []⟩) (by kernel_rfl) ?_
    refine wp_seq ?_
    refine wp_cond_false (by kernel_rfl) ?_
    refine wp_exit ?_
    repeat first | refine then_exit ?_ | refine block_exit ?_ | refine block_exit_ne (by decide) ?_
    refine then_at (F := ⟨(.string s :: un :: pt q1 :: pt q4 :: u7 4 :: iN .i64 32 :: .bool false :: u7 7 :: u7 8 :: u7 9 :: u7 10 :: u7 11 :: u7 12 :: u7 13 :: u7 14 :: u7 15 :: u7 16 :: u7 17 :: u7 18 :: List.replicate 1 un).toArray, []⟩) (by kernel_rfl) ?_
    refine wp_seq ?_
    -- region 7
    refine wl_region ?_
    refine wl_load h14 0 rfl (by kernel_rfl) (by kernel_rfl) Tryd.underlying25 rfl (info_el _) ?_
    refine wl_fill (c' := el (hiM s 32)) h14 1 rfl (by kernel_rfl) (by kernel_rfl) (by kernel_rfl) (el_sz _ _) (info_el _) (one_el _) ?_
    intro w15 (h16 : HA w [(q4, 25, el (hiM s 32)), (q1, 25, el (hiM s 32))] w15)
    refine wl_nil ?_
    refine then_at (F := ⟨(.string s :: un :: pt q1 :: pt q4 :: u7 4 :: iN .i64 32 :: .bool false :: u7 7 :: u7 8 :: u7 9 :: u7 10 :: u7 11 :: u7 12 :: u7 13 :: u7 14 :: u7 15 :: u7 16 :: u7 17 :: u7 18 :: arr (hiM s 32) :: List.replicate 0 un).toArray, []⟩) (by kernel_rfl) ?_
    refine wp_ret ?_
    repeat first | refine then_ret ?_ | refine block_ret ?_
    exact bodyPost_ret (v := arr (hiM s 32)) (res_cell (p := 2) (by kernel_rfl) (by kernel_rfl) (h16.get 1 rfl) Tryd.underlying25 rfl (info_el _)) rfl ⟨by rw [hiM_end], h16.old⟩
end Go.Proofs.YtpaendmdcdeemaaDoor
