/-
  FieldReads: the walk.
-/
import Derived.Test.YtbmfmamhidccbaaDoorRefB
import Derived.Test.YtbmfmamhidccbaaDoorKnown
namespace Go.Proofs.YtbmfmamhidccbaaDoor
open Go.RowKit Num

theorem rodd_yes (n : Nat) (h : n % 2 = 1) (w : World) : Calls Tryd.prog 16 #[rarr n] w fun e w' => e = .returned (.bool true) ∧ Below w.heap.size w w' := by
  have h1 := rodd_any n w
  rw [decide_eq_true h] at h1
  exact h1
theorem rodd_no (n : Nat) (h : n % 2 = 0) (w : World) : Calls Tryd.prog 16 #[rarr n] w fun e w' => e = .returned (.bool false) ∧ Below w.heap.size w w' := by
  have h1 := rodd_any n w
  rw [decide_eq_false (by omega)] at h1
  exact h1
theorem numS_lt (s : ByteArray) (h : s.size = 32) : numS s % 65536 ^ 16 = numS s := by
  have h1 := num_lt 256 (bts s) (bts_lt s)
  rw [bts_length, h] at h1
  exact Nat.mod_eq_of_lt (Nat.lt_of_lt_of_le h1 (by decide))
theorem rof_some (s : ByteArray) {n : Nat} (h : ofP s = some n) (w : World) : Calls Tryd.prog 12 #[.string s] w fun e w' => e = .returned (.tuple #[rarr n, .bool true]) ∧ Below w.heap.size w w' := by
  unfold ofP at h
  split at h
  · rename_i hc
    obtain rfl := Option.some.inj h
    have e := numS_lt s hc.1
    have h1 := rof_yes s hc.1 (by rw [e]; exact hc.2) w
    rw [e] at h1
    exact h1
  · cases h
theorem rof_none (s : ByteArray) (h : ofP s = none) (w : World) : Calls Tryd.prog 12 #[.string s] w fun e w' => e = .returned (.tuple #[rarr 0, .bool false]) ∧ Below w.heap.size w w' := by
  unfold ofP at h
  split at h
  · cases h
  · rename_i hc
    by_cases hl : s.size = 32
    · exact rof_no s hl (by rw [numS_lt s hl]; exact fun h => hc ⟨hl, h⟩) w
    · exact rof_len s hl w

set_option linter.unusedVariables false in
set_option maxRecDepth 100000 in
set_option maxHeartbeats 4000000 in
theorem reads_n0 (s : ByteArray) (z : Nat) (hz : z < 4294967296) (hzP : z < P) (ho : ofP s = none) (hzo : z % 2 = 0) (w : World) (V : Vars w) :
    Calls Tryd.prog 3 #[.string s, iN .u32 z] w fun e w' => e = .returned (.bool true) ∧ Below w.heap.size w w' := by
  have VV := hide V
  have H0 := HA.start w
  clear V
  go_enter Tryd.func3, Tryd.ntmps3
  refine wp_seq ?_
  -- region 0
  refine wl_region ?_
  refine wl_val (.bool false) (by kernel_rfl) (by kernel_rfl) ?_
  refine wl_nil ?_
  refine then_at (F := ⟨(.string s :: iN .u32 z :: un :: un :: .bool false :: List.replicate 52 un).toArray, []⟩) (by kernel_rfl) ?_
  refine wp_seq ?_
  -- region 1
  refine wl_region ?_
  refine wl_val (.string s) (by kernel_rfl) (by kernel_rfl) ?_
  refine wl_call (v := .tuple #[arr 0, .bool false]) H0 (by kernel_rfl) enter11 #[.string s] (by kernel_rfl) (Of_no s ho w (VV.out.below H0.old VV.out.big)) ?_
  intro w1 h2
  refine wl_val (.tuple #[arr 0, .bool false]) (by kernel_rfl) (by kernel_rfl) ?_
  refine wl_val (arr 0) (by kernel_rfl) (by kernel_rfl) ?_
  refine wl_val (.bool false) (by kernel_rfl) (by kernel_rfl) ?_
  refine wl_make h2 26 (by kernel_rfl) run_alloc26 ?_
  intro q3 w4 h5
  refine wl_fill (c' := el 0) h5 0 rfl (by kernel_rfl) (by kernel_rfl) (by kernel_rfl) rfl info26 (one_el _) ?_
  intro w6 (h7 : HA w [(q3, 26, el 0)] w6)
  refine wl_val (.bool false) (by kernel_rfl) (by kernel_rfl) ?_
  refine wl_nil ?_
  refine then_at (F := ⟨(.string s :: iN .u32 z :: un :: un :: .bool false :: pt q3 :: .bool false :: un :: un :: .tuple #[arr 0, .bool false] :: .string s :: .tuple #[arr 0, .bool false] :: arr 0 :: .bool false :: List.replicate 43 un).toArray, []⟩) (by kernel_rfl) ?_
  refine wp_seq ?_
  -- region 2
  refine wl_region ?_
  refine wl_val (.string s) (by kernel_rfl) (by kernel_rfl) ?_
  refine wl_call (v := .tuple #[rarr 0, .bool false]) h7 (by kernel_rfl) enter12 #[.string s] (by kernel_rfl) (rof_none s ho w6) ?_
  intro w8 h9
  refine wl_val (.tuple #[rarr 0, .bool false]) (by kernel_rfl) (by kernel_rfl) ?_
  refine wl_val (rarr 0) (by kernel_rfl) (by kernel_rfl) ?_
  refine wl_val (.bool false) (by kernel_rfl) (by kernel_rfl) ?_
  refine wl_make h9 30 (by kernel_rfl) run_alloc30 ?_
  intro q10 w11 h12
  refine wl_fill (c' := rl 0) h12 0 rfl (by kernel_rfl) (by kernel_rfl) (by kernel_rfl) (rl_sz _ _) (info_rl _) (one_rl _) ?_
  intro w13 (h14 : HA w [(q10, 30, rl 0), (q3, 26, el 0)] w13)
  refine wl_val (.bool false) (by kernel_rfl) (by kernel_rfl) ?_
  refine wl_nil ?_
  refine then_at (F := ⟨(.string s :: iN .u32 z :: un :: un :: .bool false :: pt q3 :: .bool false :: pt q10 :: .bool false :: .tuple #[arr 0, .bool false] :: .string s :: .tuple #[arr 0, .bool false] :: arr 0 :: .bool false :: .tuple #[rarr 0, .bool false] :: .string s :: .tuple #[rarr 0, .bool false] :: rarr 0 :: .bool false :: List.replicate 38 un).toArray, []⟩) (by kernel_rfl) ?_
  refine wp_seq ?_
  -- region 3
  refine wp_region_sure ⟨(.string s :: iN .u32 z :: un :: un :: .bool true :: pt q3 :: .bool false :: pt q10 :: .bool false :: .tuple #[arr 0, .bool false] :: .string s :: .tuple #[arr 0, .bool false] :: arr 0 :: .bool false :: .tuple #[rarr 0, .bool false] :: .string s :: .tuple #[rarr 0, .bool false] :: rarr 0 :: .bool false :: .bool false :: .bool false :: .bool true :: .bool true :: arr 0 :: .string (bytesOf 0) :: rarr 0 :: .string (bytesOf 0) :: .bool true :: .bool true :: .bool true :: arr 0 :: .bool false :: rarr 0 :: .bool false :: .bool true :: .bool true :: .bool true :: iN .u32 z :: arr z :: .string (bytesOf z) :: iN .u32 z :: rarr z :: .string (bytesOf z) :: .bool true :: .bool true :: .bool true :: iN .u32 z :: arr z :: .bool false :: iN .u32 z :: iN .u32 (z % 2) :: .bool false :: .bool true :: .bool true :: .bool true :: .bool true :: .bool true :: List.replicate 0 un).toArray, []⟩ (HA w [(q10, 30, rl 0), (q3, 26, el 0)]) [.bool false, .bool false, .bool true, .bool true, arr 0, .string (bytesOf 0), rarr 0, .string (bytesOf 0), .bool true, .bool true, .bool true, arr 0, .bool false, rarr 0, .bool false, .bool true, .bool true, .bool true, iN .u32 z, arr z, .string (bytesOf z), iN .u32 z, rarr z, .string (bytesOf z), .bool true, .bool true, .bool true, iN .u32 z, arr z, .bool false, iN .u32 z, iN .u32 (z % 2), .bool false, .bool true, .bool true, .bool true, .bool true, .bool true, .bool true] (by kernel_rfl) (by kernel_rfl) (by kernel_rfl) (by kernel_rfl) (fun _ _ _ h => h) h14.drew ?_ ?_
  · refine AllSure.cons (OpSure.take (v := .bool false) (by kernel_rfl) (by kernel_rfl) (fun _ _ => (by kernel_rfl))) ?_
    refine AllSure.cons (OpSure.take (v := .bool false) (by kernel_rfl) (by kernel_rfl) (fun _ _ => (by kernel_rfl))) ?_
    refine AllSure.cons (OpSure.take (v := .bool true) (by kernel_rfl) (by kernel_rfl) (fun _ _ => (run_eqb false false (by kernel_rfl) (by kernel_rfl)))) ?_
    refine AllSure.cons (OpSure.take (v := .bool true) (by kernel_rfl) (by kernel_rfl) (fun _ _ => (by kernel_rfl))) ?_
    refine AllSure.cons (OpSure.take (v := arr 0) (by kernel_rfl) (by kernel_rfl) (fun _ h => run_load_blk (by kernel_rfl) (h.get 1 rfl) Tryd.underlying26 rfl info26)) ?_
    refine AllSure.cons (sure_call (v := .string (bytesOf 0)) (by kernel_rfl) (by kernel_rfl) enter13 HA.keep #[arr 0] (by kernel_rfl) (fun w' h' => Bytes_any 0 w')) ?_
    refine AllSure.cons (OpSure.take (v := rarr 0) (by kernel_rfl) (by kernel_rfl) (fun _ h => run_load_blk (by kernel_rfl) (h.get 0 rfl) Tryd.underlying30 rfl (info_rl _))) ?_
    refine AllSure.cons (sure_call (v := .string (bytesOf 0)) (by kernel_rfl) (by kernel_rfl) enter14 HA.keep #[rarr 0] (by kernel_rfl) (fun w' h' => rbytes_any 0 w')) ?_
    refine AllSure.cons (OpSure.take (v := .bool true) (by kernel_rfl) (by kernel_rfl) (fun _ _ => (run_eqs (s := bytesOf 0) (t := bytesOf 0) (by kernel_rfl) (by kernel_rfl) true (decide_eq_true rfl)))) ?_
    refine AllSure.cons (OpSure.take (v := .bool true) (by kernel_rfl) (by kernel_rfl) (fun _ _ => (by kernel_rfl))) ?_
    refine AllSure.cons (OpSure.take (v := .bool true) (by kernel_rfl) (by kernel_rfl) (fun _ _ => (by kernel_rfl))) ?_
    refine AllSure.cons (OpSure.take (v := arr 0) (by kernel_rfl) (by kernel_rfl) (fun _ h => run_load_blk (by kernel_rfl) (h.get 1 rfl) Tryd.underlying26 rfl info26)) ?_
    refine AllSure.cons (sure_call (v := .bool false) (by kernel_rfl) (by kernel_rfl) enter15 HA.keep #[arr 0] (by kernel_rfl) (fun w' h' => Odd_no 0 rfl w')) ?_
    refine AllSure.cons (OpSure.take (v := rarr 0) (by kernel_rfl) (by kernel_rfl) (fun _ h => run_load_blk (by kernel_rfl) (h.get 0 rfl) Tryd.underlying30 rfl (info_rl _))) ?_
    refine AllSure.cons (sure_call (v := .bool false) (by kernel_rfl) (by kernel_rfl) enter16 HA.keep #[rarr 0] (by kernel_rfl) (fun w' h' => rodd_no 0 rfl w')) ?_
    refine AllSure.cons (OpSure.take (v := .bool true) (by kernel_rfl) (by kernel_rfl) (fun _ _ => (run_eqb false false (by kernel_rfl) (by kernel_rfl)))) ?_
    refine AllSure.cons (OpSure.take (v := .bool true) (by kernel_rfl) (by kernel_rfl) (fun _ _ => (by kernel_rfl))) ?_
    refine AllSure.cons (OpSure.take (v := .bool true) (by kernel_rfl) (by kernel_rfl) (fun _ _ => (by kernel_rfl))) ?_
    refine AllSure.cons (OpSure.take (v := iN .u32 z) (by kernel_rfl) (by kernel_rfl) (fun _ _ => (by kernel_rfl))) ?_
    refine AllSure.cons (sure_call (v := arr z) (by kernel_rfl) (by kernel_rfl) enter17 HA.keep #[iN .u32 z] (by kernel_rfl) (fun w' h' => Small_any z hz w')) ?_
    refine AllSure.cons (sure_call (v := .string (bytesOf z)) (by kernel_rfl) (by kernel_rfl) enter13 HA.keep #[arr z] (by kernel_rfl) (fun w' h' => Bytes_any z w')) ?_
    refine AllSure.cons (OpSure.take (v := iN .u32 z) (by kernel_rfl) (by kernel_rfl) (fun _ _ => (by kernel_rfl))) ?_
    refine AllSure.cons (sure_call (v := rarr z) (by kernel_rfl) (by kernel_rfl) enter18 HA.keep #[iN .u32 z] (by kernel_rfl) (fun w' h' => rsmall_any z hz w')) ?_
    refine AllSure.cons (sure_call (v := .string (bytesOf z)) (by kernel_rfl) (by kernel_rfl) enter14 HA.keep #[rarr z] (by kernel_rfl) (fun w' h' => rbytes_any z w')) ?_
    refine AllSure.cons (OpSure.take (v := .bool true) (by kernel_rfl) (by kernel_rfl) (fun _ _ => (run_eqs (s := bytesOf z) (t := bytesOf z) (by kernel_rfl) (by kernel_rfl) true (decide_eq_true rfl)))) ?_
    refine AllSure.cons (OpSure.take (v := .bool true) (by kernel_rfl) (by kernel_rfl) (fun _ _ => (by kernel_rfl))) ?_
    refine AllSure.cons (OpSure.take (v := .bool true) (by kernel_rfl) (by kernel_rfl) (fun _ _ => (by kernel_rfl))) ?_
    refine AllSure.cons (OpSure.take (v := iN .u32 z) (by kernel_rfl) (by kernel_rfl) (fun _ _ => (by kernel_rfl))) ?_
    refine AllSure.cons (sure_call (v := arr z) (by kernel_rfl) (by kernel_rfl) enter17 HA.keep #[iN .u32 z] (by kernel_rfl) (fun w' h' => Small_any z hz w')) ?_
    refine AllSure.cons (sure_call (v := .bool false) (by kernel_rfl) (by kernel_rfl) enter15 HA.keep #[arr z] (by kernel_rfl) (fun w' h' => Odd_no z hzo w')) ?_
    refine AllSure.cons (OpSure.take (v := iN .u32 z) (by kernel_rfl) (by kernel_rfl) (fun _ _ => (by kernel_rfl))) ?_
    refine AllSure.cons (OpSure.take (v := iN .u32 (z % 2)) (by kernel_rfl) (by kernel_rfl) (fun _ _ => (run_rem (k := .u32) (a := z) (b := 2) (by kernel_rfl) (by kernel_rfl) (by omega)))) ?_
    refine AllSure.cons (OpSure.take (v := .bool false) (by kernel_rfl) (by kernel_rfl) (fun _ _ => (run_eqi (k := .u32) (a := z % 2) (b := 1) (by kernel_rfl) (by kernel_rfl) false (by rw [decide_eq_false]; omega)))) ?_
    refine AllSure.cons (OpSure.take (v := .bool true) (by kernel_rfl) (by kernel_rfl) (fun _ _ => (run_eqb false false (by kernel_rfl) (by kernel_rfl)))) ?_
    refine AllSure.cons (OpSure.take (v := .bool true) (by kernel_rfl) (by kernel_rfl) (fun _ _ => (by kernel_rfl))) ?_
    refine AllSure.cons (OpSure.take (v := .bool true) (by kernel_rfl) (by kernel_rfl) (fun _ _ => (by kernel_rfl))) ?_
    refine AllSure.cons (sure_call (v := .bool true) (by kernel_rfl) (by kernel_rfl) enter19 HA.keep #[] (by kernel_rfl) (fun w' h' => works_any w' (VV.out.below h'.old VV.out.big))) ?_
    refine AllSure.cons (OpSure.take (v := .bool true) (by kernel_rfl) (by kernel_rfl) (fun _ _ => (by kernel_rfl))) ?_
    refine AllSure.cons (OpSure.take (v := .bool true) (by kernel_rfl) (by kernel_rfl) (fun _ _ => (by kernel_rfl))) ?_
    exact AllSure.nil
  intro w15 h16
  refine then_at (F := ⟨(.string s :: iN .u32 z :: un :: un :: .bool true :: pt q3 :: .bool false :: pt q10 :: .bool false :: .tuple #[arr 0, .bool false] :: .string s :: .tuple #[arr 0, .bool false] :: arr 0 :: .bool false :: .tuple #[rarr 0, .bool false] :: .string s :: .tuple #[rarr 0, .bool false] :: rarr 0 :: .bool false :: .bool false :: .bool false :: .bool true :: .bool true :: arr 0 :: .string (bytesOf 0) :: rarr 0 :: .string (bytesOf 0) :: .bool true :: .bool true :: .bool true :: arr 0 :: .bool false :: rarr 0 :: .bool false :: .bool true :: .bool true :: .bool true :: iN .u32 z :: arr z :: .string (bytesOf z) :: iN .u32 z :: rarr z :: .string (bytesOf z) :: .bool true :: .bool true :: .bool true :: iN .u32 z :: arr z :: .bool false :: iN .u32 z :: iN .u32 (z % 2) :: .bool false :: .bool true :: .bool true :: .bool true :: .bool true :: .bool true :: List.replicate 0 un).toArray, []⟩) (by kernel_rfl) ?_
  refine wp_ret ?_
  repeat first | refine then_ret ?_ | refine block_ret ?_
  exact bodyPost_ret (v := .bool true) (by kernel_rfl) rfl ⟨rfl, h16.old⟩
set_option linter.unusedVariables false in
set_option maxRecDepth 100000 in
set_option maxHeartbeats 4000000 in
theorem reads_n1 (s : ByteArray) (z : Nat) (hz : z < 4294967296) (hzP : z < P) (ho : ofP s = none) (hzo : z % 2 = 1) (w : World) (V : Vars w) :
    Calls Tryd.prog 3 #[.string s, iN .u32 z] w fun e w' => e = .returned (.bool true) ∧ Below w.heap.size w w' := by
  have VV := hide V
  have H0 := HA.start w
  clear V
  go_enter Tryd.func3, Tryd.ntmps3
  refine wp_seq ?_
  -- region 0
  refine wl_region ?_
  refine wl_val (.bool false) (by kernel_rfl) (by kernel_rfl) ?_
  refine wl_nil ?_
  refine then_at (F := ⟨(.string s :: iN .u32 z :: un :: un :: .bool false :: List.replicate 52 un).toArray, []⟩) (by kernel_rfl) ?_
  refine wp_seq ?_
  -- region 1
  refine wl_region ?_
  refine wl_val (.string s) (by kernel_rfl) (by kernel_rfl) ?_
  refine wl_call (v := .tuple #[arr 0, .bool false]) H0 (by kernel_rfl) enter11 #[.string s] (by kernel_rfl) (Of_no s ho w (VV.out.below H0.old VV.out.big)) ?_
  intro w1 h2
  refine wl_val (.tuple #[arr 0, .bool false]) (by kernel_rfl) (by kernel_rfl) ?_
  refine wl_val (arr 0) (by kernel_rfl) (by kernel_rfl) ?_
  refine wl_val (.bool false) (by kernel_rfl) (by kernel_rfl) ?_
  refine wl_make h2 26 (by kernel_rfl) run_alloc26 ?_
  intro q3 w4 h5
  refine wl_fill (c' := el 0) h5 0 rfl (by kernel_rfl) (by kernel_rfl) (by kernel_rfl) rfl info26 (one_el _) ?_
  intro w6 (h7 : HA w [(q3, 26, el 0)] w6)
  refine wl_val (.bool false) (by kernel_rfl) (by kernel_rfl) ?_
  refine wl_nil ?_
  refine then_at (F := ⟨(.string s :: iN .u32 z :: un :: un :: .bool false :: pt q3 :: .bool false :: un :: un :: .tuple #[arr 0, .bool false] :: .string s :: .tuple #[arr 0, .bool false] :: arr 0 :: .bool false :: List.replicate 43 un).toArray, []⟩) (by kernel_rfl) ?_
  refine wp_seq ?_
  -- region 2
  refine wl_region ?_
  refine wl_val (.string s) (by kernel_rfl) (by kernel_rfl) ?_
  refine wl_call (v := .tuple #[rarr 0, .bool false]) h7 (by kernel_rfl) enter12 #[.string s] (by kernel_rfl) (rof_none s ho w6) ?_
  intro w8 h9
  refine wl_val (.tuple #[rarr 0, .bool false]) (by kernel_rfl) (by kernel_rfl) ?_
  refine wl_val (rarr 0) (by kernel_rfl) (by kernel_rfl) ?_
  refine wl_val (.bool false) (by kernel_rfl) (by kernel_rfl) ?_
  refine wl_make h9 30 (by kernel_rfl) run_alloc30 ?_
  intro q10 w11 h12
  refine wl_fill (c' := rl 0) h12 0 rfl (by kernel_rfl) (by kernel_rfl) (by kernel_rfl) (rl_sz _ _) (info_rl _) (one_rl _) ?_
  intro w13 (h14 : HA w [(q10, 30, rl 0), (q3, 26, el 0)] w13)
  refine wl_val (.bool false) (by kernel_rfl) (by kernel_rfl) ?_
  refine wl_nil ?_
  refine then_at (F := ⟨(.string s :: iN .u32 z :: un :: un :: .bool false :: pt q3 :: .bool false :: pt q10 :: .bool false :: .tuple #[arr 0, .bool false] :: .string s :: .tuple #[arr 0, .bool false] :: arr 0 :: .bool false :: .tuple #[rarr 0, .bool false] :: .string s :: .tuple #[rarr 0, .bool false] :: rarr 0 :: .bool false :: List.replicate 38 un).toArray, []⟩) (by kernel_rfl) ?_
  refine wp_seq ?_
  -- region 3
  refine wp_region_sure ⟨(.string s :: iN .u32 z :: un :: un :: .bool true :: pt q3 :: .bool false :: pt q10 :: .bool false :: .tuple #[arr 0, .bool false] :: .string s :: .tuple #[arr 0, .bool false] :: arr 0 :: .bool false :: .tuple #[rarr 0, .bool false] :: .string s :: .tuple #[rarr 0, .bool false] :: rarr 0 :: .bool false :: .bool false :: .bool false :: .bool true :: .bool true :: arr 0 :: .string (bytesOf 0) :: rarr 0 :: .string (bytesOf 0) :: .bool true :: .bool true :: .bool true :: arr 0 :: .bool false :: rarr 0 :: .bool false :: .bool true :: .bool true :: .bool true :: iN .u32 z :: arr z :: .string (bytesOf z) :: iN .u32 z :: rarr z :: .string (bytesOf z) :: .bool true :: .bool true :: .bool true :: iN .u32 z :: arr z :: .bool true :: iN .u32 z :: iN .u32 (z % 2) :: .bool true :: .bool true :: .bool true :: .bool true :: .bool true :: .bool true :: List.replicate 0 un).toArray, []⟩ (HA w [(q10, 30, rl 0), (q3, 26, el 0)]) [.bool false, .bool false, .bool true, .bool true, arr 0, .string (bytesOf 0), rarr 0, .string (bytesOf 0), .bool true, .bool true, .bool true, arr 0, .bool false, rarr 0, .bool false, .bool true, .bool true, .bool true, iN .u32 z, arr z, .string (bytesOf z), iN .u32 z, rarr z, .string (bytesOf z), .bool true, .bool true, .bool true, iN .u32 z, arr z, .bool true, iN .u32 z, iN .u32 (z % 2), .bool true, .bool true, .bool true, .bool true, .bool true, .bool true, .bool true] (by kernel_rfl) (by kernel_rfl) (by kernel_rfl) (by kernel_rfl) (fun _ _ _ h => h) h14.drew ?_ ?_
  · refine AllSure.cons (OpSure.take (v := .bool false) (by kernel_rfl) (by kernel_rfl) (fun _ _ => (by kernel_rfl))) ?_
    refine AllSure.cons (OpSure.take (v := .bool false) (by kernel_rfl) (by kernel_rfl) (fun _ _ => (by kernel_rfl))) ?_
    refine AllSure.cons (OpSure.take (v := .bool true) (by kernel_rfl) (by kernel_rfl) (fun _ _ => (run_eqb false false (by kernel_rfl) (by kernel_rfl)))) ?_
    refine AllSure.cons (OpSure.take (v := .bool true) (by kernel_rfl) (by kernel_rfl) (fun _ _ => (by kernel_rfl))) ?_
    refine AllSure.cons (OpSure.take (v := arr 0) (by kernel_rfl) (by kernel_rfl) (fun _ h => run_load_blk (by kernel_rfl) (h.get 1 rfl) Tryd.underlying26 rfl info26)) ?_
    refine AllSure.cons (sure_call (v := .string (bytesOf 0)) (by kernel_rfl) (by kernel_rfl) enter13 HA.keep #[arr 0] (by kernel_rfl) (fun w' h' => Bytes_any 0 w')) ?_
    refine AllSure.cons (OpSure.take (v := rarr 0) (by kernel_rfl) (by kernel_rfl) (fun _ h => run_load_blk (by kernel_rfl) (h.get 0 rfl) Tryd.underlying30 rfl (info_rl _))) ?_
    refine AllSure.cons (sure_call (v := .string (bytesOf 0)) (by kernel_rfl) (by kernel_rfl) enter14 HA.keep #[rarr 0] (by kernel_rfl) (fun w' h' => rbytes_any 0 w')) ?_
    refine AllSure.cons (OpSure.take (v := .bool true) (by kernel_rfl) (by kernel_rfl) (fun _ _ => (run_eqs (s := bytesOf 0) (t := bytesOf 0) (by kernel_rfl) (by kernel_rfl) true (decide_eq_true rfl)))) ?_
    refine AllSure.cons (OpSure.take (v := .bool true) (by kernel_rfl) (by kernel_rfl) (fun _ _ => (by kernel_rfl))) ?_
    refine AllSure.cons (OpSure.take (v := .bool true) (by kernel_rfl) (by kernel_rfl) (fun _ _ => (by kernel_rfl))) ?_
    refine AllSure.cons (OpSure.take (v := arr 0) (by kernel_rfl) (by kernel_rfl) (fun _ h => run_load_blk (by kernel_rfl) (h.get 1 rfl) Tryd.underlying26 rfl info26)) ?_
    refine AllSure.cons (sure_call (v := .bool false) (by kernel_rfl) (by kernel_rfl) enter15 HA.keep #[arr 0] (by kernel_rfl) (fun w' h' => Odd_no 0 rfl w')) ?_
    refine AllSure.cons (OpSure.take (v := rarr 0) (by kernel_rfl) (by kernel_rfl) (fun _ h => run_load_blk (by kernel_rfl) (h.get 0 rfl) Tryd.underlying30 rfl (info_rl _))) ?_
    refine AllSure.cons (sure_call (v := .bool false) (by kernel_rfl) (by kernel_rfl) enter16 HA.keep #[rarr 0] (by kernel_rfl) (fun w' h' => rodd_no 0 rfl w')) ?_
    refine AllSure.cons (OpSure.take (v := .bool true) (by kernel_rfl) (by kernel_rfl) (fun _ _ => (run_eqb false false (by kernel_rfl) (by kernel_rfl)))) ?_
    refine AllSure.cons (OpSure.take (v := .bool true) (by kernel_rfl) (by kernel_rfl) (fun _ _ => (by kernel_rfl))) ?_
    refine AllSure.cons (OpSure.take (v := .bool true) (by kernel_rfl) (by kernel_rfl) (fun _ _ => (by kernel_rfl))) ?_
    refine AllSure.cons (OpSure.take (v := iN .u32 z) (by kernel_rfl) (by kernel_rfl) (fun _ _ => (by kernel_rfl))) ?_
    refine AllSure.cons (sure_call (v := arr z) (by kernel_rfl) (by kernel_rfl) enter17 HA.keep #[iN .u32 z] (by kernel_rfl) (fun w' h' => Small_any z hz w')) ?_
    refine AllSure.cons (sure_call (v := .string (bytesOf z)) (by kernel_rfl) (by kernel_rfl) enter13 HA.keep #[arr z] (by kernel_rfl) (fun w' h' => Bytes_any z w')) ?_
    refine AllSure.cons (OpSure.take (v := iN .u32 z) (by kernel_rfl) (by kernel_rfl) (fun _ _ => (by kernel_rfl))) ?_
    refine AllSure.cons (sure_call (v := rarr z) (by kernel_rfl) (by kernel_rfl) enter18 HA.keep #[iN .u32 z] (by kernel_rfl) (fun w' h' => rsmall_any z hz w')) ?_
    refine AllSure.cons (sure_call (v := .string (bytesOf z)) (by kernel_rfl) (by kernel_rfl) enter14 HA.keep #[rarr z] (by kernel_rfl) (fun w' h' => rbytes_any z w')) ?_
    refine AllSure.cons (OpSure.take (v := .bool true) (by kernel_rfl) (by kernel_rfl) (fun _ _ => (run_eqs (s := bytesOf z) (t := bytesOf z) (by kernel_rfl) (by kernel_rfl) true (decide_eq_true rfl)))) ?_
    refine AllSure.cons (OpSure.take (v := .bool true) (by kernel_rfl) (by kernel_rfl) (fun _ _ => (by kernel_rfl))) ?_
    refine AllSure.cons (OpSure.take (v := .bool true) (by kernel_rfl) (by kernel_rfl) (fun _ _ => (by kernel_rfl))) ?_
    refine AllSure.cons (OpSure.take (v := iN .u32 z) (by kernel_rfl) (by kernel_rfl) (fun _ _ => (by kernel_rfl))) ?_
    refine AllSure.cons (sure_call (v := arr z) (by kernel_rfl) (by kernel_rfl) enter17 HA.keep #[iN .u32 z] (by kernel_rfl) (fun w' h' => Small_any z hz w')) ?_
    refine AllSure.cons (sure_call (v := .bool true) (by kernel_rfl) (by kernel_rfl) enter15 HA.keep #[arr z] (by kernel_rfl) (fun w' h' => Odd_yes z hzo w')) ?_
    refine AllSure.cons (OpSure.take (v := iN .u32 z) (by kernel_rfl) (by kernel_rfl) (fun _ _ => (by kernel_rfl))) ?_
    refine AllSure.cons (OpSure.take (v := iN .u32 (z % 2)) (by kernel_rfl) (by kernel_rfl) (fun _ _ => (run_rem (k := .u32) (a := z) (b := 2) (by kernel_rfl) (by kernel_rfl) (by omega)))) ?_
    refine AllSure.cons (OpSure.take (v := .bool true) (by kernel_rfl) (by kernel_rfl) (fun _ _ => (run_eqi (k := .u32) (a := z % 2) (b := 1) (by kernel_rfl) (by kernel_rfl) true (decide_eq_true hzo)))) ?_
    refine AllSure.cons (OpSure.take (v := .bool true) (by kernel_rfl) (by kernel_rfl) (fun _ _ => (run_eqb true true (by kernel_rfl) (by kernel_rfl)))) ?_
    refine AllSure.cons (OpSure.take (v := .bool true) (by kernel_rfl) (by kernel_rfl) (fun _ _ => (by kernel_rfl))) ?_
    refine AllSure.cons (OpSure.take (v := .bool true) (by kernel_rfl) (by kernel_rfl) (fun _ _ => (by kernel_rfl))) ?_
    refine AllSure.cons (sure_call (v := .bool true) (by kernel_rfl) (by kernel_rfl) enter19 HA.keep #[] (by kernel_rfl) (fun w' h' => works_any w' (VV.out.below h'.old VV.out.big))) ?_
    refine AllSure.cons (OpSure.take (v := .bool true) (by kernel_rfl) (by kernel_rfl) (fun _ _ => (by kernel_rfl))) ?_
    refine AllSure.cons (OpSure.take (v := .bool true) (by kernel_rfl) (by kernel_rfl) (fun _ _ => (by kernel_rfl))) ?_
    exact AllSure.nil
  intro w15 h16
  refine then_at (F := ⟨(.string s :: iN .u32 z :: un :: un :: .bool true :: pt q3 :: .bool false :: pt q10 :: .bool false :: .tuple #[arr 0, .bool false] :: .string s :: .tuple #[arr 0, .bool false] :: arr 0 :: .bool false :: .tuple #[rarr 0, .bool false] :: .string s :: .tuple #[rarr 0, .bool false] :: rarr 0 :: .bool false :: .bool false :: .bool false :: .bool true :: .bool true :: arr 0 :: .string (bytesOf 0) :: rarr 0 :: .string (bytesOf 0) :: .bool true :: .bool true :: .bool true :: arr 0 :: .bool false :: rarr 0 :: .bool false :: .bool true :: .bool true :: .bool true :: iN .u32 z :: arr z :: .string (bytesOf z) :: iN .u32 z :: rarr z :: .string (bytesOf z) :: .bool true :: .bool true :: .bool true :: iN .u32 z :: arr z :: .bool true :: iN .u32 z :: iN .u32 (z % 2) :: .bool true :: .bool true :: .bool true :: .bool true :: .bool true :: .bool true :: List.replicate 0 un).toArray, []⟩) (by kernel_rfl) ?_
  refine wp_ret ?_
  repeat first | refine then_ret ?_ | refine block_ret ?_
  exact bodyPost_ret (v := .bool true) (by kernel_rfl) rfl ⟨rfl, h16.old⟩
set_option linter.unusedVariables false in
set_option maxRecDepth 100000 in
set_option maxHeartbeats 4000000 in
theorem reads_00 (s : ByteArray) (z : Nat) (hz : z < 4294967296) (hzP : z < P) (m : Nat) (ho : ofP s = some m) (hm : m < P) (hmo : m % 2 = 0) (hzo : z % 2 = 0) (w : World) (V : Vars w) :
    Calls Tryd.prog 3 #[.string s, iN .u32 z] w fun e w' => e = .returned (.bool true) ∧ Below w.heap.size w w' := by
  have VV := hide V
  have H0 := HA.start w
  clear V
  go_enter Tryd.func3, Tryd.ntmps3
  refine wp_seq ?_
  -- region 0
  refine wl_region ?_
  refine wl_val (.bool false) (by kernel_rfl) (by kernel_rfl) ?_
  refine wl_nil ?_
  refine then_at (F := ⟨(.string s :: iN .u32 z :: un :: un :: .bool false :: List.replicate 52 un).toArray, []⟩) (by kernel_rfl) ?_
  refine wp_seq ?_
  -- region 1
  refine wl_region ?_
  refine wl_val (.string s) (by kernel_rfl) (by kernel_rfl) ?_
  refine wl_call (v := .tuple #[arr m, .bool true]) H0 (by kernel_rfl) enter11 #[.string s] (by kernel_rfl) (Of_yes s ho w (VV.out.below H0.old VV.out.big)) ?_
  intro w1 h2
  refine wl_val (.tuple #[arr m, .bool true]) (by kernel_rfl) (by kernel_rfl) ?_
  refine wl_val (arr m) (by kernel_rfl) (by kernel_rfl) ?_
  refine wl_val (.bool true) (by kernel_rfl) (by kernel_rfl) ?_
  refine wl_make h2 26 (by kernel_rfl) run_alloc26 ?_
  intro q3 w4 h5
  refine wl_fill (c' := el m) h5 0 rfl (by kernel_rfl) (by kernel_rfl) (by kernel_rfl) rfl info26 (one_el _) ?_
  intro w6 (h7 : HA w [(q3, 26, el m)] w6)
  refine wl_val (.bool true) (by kernel_rfl) (by kernel_rfl) ?_
  refine wl_nil ?_
  refine then_at (F := ⟨(.string s :: iN .u32 z :: un :: un :: .bool false :: pt q3 :: .bool true :: un :: un :: .tuple #[arr m, .bool true] :: .string s :: .tuple #[arr m, .bool true] :: arr m :: .bool true :: List.replicate 43 un).toArray, []⟩) (by kernel_rfl) ?_
  refine wp_seq ?_
  -- region 2
  refine wl_region ?_
  refine wl_val (.string s) (by kernel_rfl) (by kernel_rfl) ?_
  refine wl_call (v := .tuple #[rarr m, .bool true]) h7 (by kernel_rfl) enter12 #[.string s] (by kernel_rfl) (rof_some s ho w6) ?_
  intro w8 h9
  refine wl_val (.tuple #[rarr m, .bool true]) (by kernel_rfl) (by kernel_rfl) ?_
  refine wl_val (rarr m) (by kernel_rfl) (by kernel_rfl) ?_
  refine wl_val (.bool true) (by kernel_rfl) (by kernel_rfl) ?_
  refine wl_make h9 30 (by kernel_rfl) run_alloc30 ?_
  intro q10 w11 h12
  refine wl_fill (c' := rl m) h12 0 rfl (by kernel_rfl) (by kernel_rfl) (by kernel_rfl) (rl_sz _ _) (info_rl _) (one_rl _) ?_
  intro w13 (h14 : HA w [(q10, 30, rl m), (q3, 26, el m)] w13)
  refine wl_val (.bool true) (by kernel_rfl) (by kernel_rfl) ?_
  refine wl_nil ?_
  refine then_at (F := ⟨(.string s :: iN .u32 z :: un :: un :: .bool false :: pt q3 :: .bool true :: pt q10 :: .bool true :: .tuple #[arr m, .bool true] :: .string s :: .tuple #[arr m, .bool true] :: arr m :: .bool true :: .tuple #[rarr m, .bool true] :: .string s :: .tuple #[rarr m, .bool true] :: rarr m :: .bool true :: List.replicate 38 un).toArray, []⟩) (by kernel_rfl) ?_
  refine wp_seq ?_
  -- region 3
  refine wp_region_sure ⟨(.string s :: iN .u32 z :: un :: un :: .bool true :: pt q3 :: .bool true :: pt q10 :: .bool true :: .tuple #[arr m, .bool true] :: .string s :: .tuple #[arr m, .bool true] :: arr m :: .bool true :: .tuple #[rarr m, .bool true] :: .string s :: .tuple #[rarr m, .bool true] :: rarr m :: .bool true :: .bool true :: .bool true :: .bool true :: .bool true :: arr m :: .string (bytesOf m) :: rarr m :: .string (bytesOf m) :: .bool true :: .bool true :: .bool true :: arr m :: .bool false :: rarr m :: .bool false :: .bool true :: .bool true :: .bool true :: iN .u32 z :: arr z :: .string (bytesOf z) :: iN .u32 z :: rarr z :: .string (bytesOf z) :: .bool true :: .bool true :: .bool true :: iN .u32 z :: arr z :: .bool false :: iN .u32 z :: iN .u32 (z % 2) :: .bool false :: .bool true :: .bool true :: .bool true :: .bool true :: .bool true :: List.replicate 0 un).toArray, []⟩ (HA w [(q10, 30, rl m), (q3, 26, el m)]) [.bool true, .bool true, .bool true, .bool true, arr m, .string (bytesOf m), rarr m, .string (bytesOf m), .bool true, .bool true, .bool true, arr m, .bool false, rarr m, .bool false, .bool true, .bool true, .bool true, iN .u32 z, arr z, .string (bytesOf z), iN .u32 z, rarr z, .string (bytesOf z), .bool true, .bool true, .bool true, iN .u32 z, arr z, .bool false, iN .u32 z, iN .u32 (z % 2), .bool false, .bool true, .bool true, .bool true, .bool true, .bool true, .bool true] (by kernel_rfl) (by kernel_rfl) (by kernel_rfl) (by kernel_rfl) (fun _ _ _ h => h) h14.drew ?_ ?_
  · refine AllSure.cons (OpSure.take (v := .bool true) (by kernel_rfl) (by kernel_rfl) (fun _ _ => (by kernel_rfl))) ?_
    refine AllSure.cons (OpSure.take (v := .bool true) (by kernel_rfl) (by kernel_rfl) (fun _ _ => (by kernel_rfl))) ?_
    refine AllSure.cons (OpSure.take (v := .bool true) (by kernel_rfl) (by kernel_rfl) (fun _ _ => (run_eqb true true (by kernel_rfl) (by kernel_rfl)))) ?_
    refine AllSure.cons (OpSure.take (v := .bool true) (by kernel_rfl) (by kernel_rfl) (fun _ _ => (by kernel_rfl))) ?_
    refine AllSure.cons (OpSure.take (v := arr m) (by kernel_rfl) (by kernel_rfl) (fun _ h => run_load_blk (by kernel_rfl) (h.get 1 rfl) Tryd.underlying26 rfl info26)) ?_
    refine AllSure.cons (sure_call (v := .string (bytesOf m)) (by kernel_rfl) (by kernel_rfl) enter13 HA.keep #[arr m] (by kernel_rfl) (fun w' h' => Bytes_any m w')) ?_
    refine AllSure.cons (OpSure.take (v := rarr m) (by kernel_rfl) (by kernel_rfl) (fun _ h => run_load_blk (by kernel_rfl) (h.get 0 rfl) Tryd.underlying30 rfl (info_rl _))) ?_
    refine AllSure.cons (sure_call (v := .string (bytesOf m)) (by kernel_rfl) (by kernel_rfl) enter14 HA.keep #[rarr m] (by kernel_rfl) (fun w' h' => rbytes_any m w')) ?_
    refine AllSure.cons (OpSure.take (v := .bool true) (by kernel_rfl) (by kernel_rfl) (fun _ _ => (run_eqs (s := bytesOf m) (t := bytesOf m) (by kernel_rfl) (by kernel_rfl) true (decide_eq_true rfl)))) ?_
    refine AllSure.cons (OpSure.take (v := .bool true) (by kernel_rfl) (by kernel_rfl) (fun _ _ => (by kernel_rfl))) ?_
    refine AllSure.cons (OpSure.take (v := .bool true) (by kernel_rfl) (by kernel_rfl) (fun _ _ => (by kernel_rfl))) ?_
    refine AllSure.cons (OpSure.take (v := arr m) (by kernel_rfl) (by kernel_rfl) (fun _ h => run_load_blk (by kernel_rfl) (h.get 1 rfl) Tryd.underlying26 rfl info26)) ?_
    refine AllSure.cons (sure_call (v := .bool false) (by kernel_rfl) (by kernel_rfl) enter15 HA.keep #[arr m] (by kernel_rfl) (fun w' h' => Odd_no m hmo w')) ?_
    refine AllSure.cons (OpSure.take (v := rarr m) (by kernel_rfl) (by kernel_rfl) (fun _ h => run_load_blk (by kernel_rfl) (h.get 0 rfl) Tryd.underlying30 rfl (info_rl _))) ?_
    refine AllSure.cons (sure_call (v := .bool false) (by kernel_rfl) (by kernel_rfl) enter16 HA.keep #[rarr m] (by kernel_rfl) (fun w' h' => rodd_no m hmo w')) ?_
    refine AllSure.cons (OpSure.take (v := .bool true) (by kernel_rfl) (by kernel_rfl) (fun _ _ => (run_eqb false false (by kernel_rfl) (by kernel_rfl)))) ?_
    refine AllSure.cons (OpSure.take (v := .bool true) (by kernel_rfl) (by kernel_rfl) (fun _ _ => (by kernel_rfl))) ?_
    refine AllSure.cons (OpSure.take (v := .bool true) (by kernel_rfl) (by kernel_rfl) (fun _ _ => (by kernel_rfl))) ?_
    refine AllSure.cons (OpSure.take (v := iN .u32 z) (by kernel_rfl) (by kernel_rfl) (fun _ _ => (by kernel_rfl))) ?_
    refine AllSure.cons (sure_call (v := arr z) (by kernel_rfl) (by kernel_rfl) enter17 HA.keep #[iN .u32 z] (by kernel_rfl) (fun w' h' => Small_any z hz w')) ?_
    refine AllSure.cons (sure_call (v := .string (bytesOf z)) (by kernel_rfl) (by kernel_rfl) enter13 HA.keep #[arr z] (by kernel_rfl) (fun w' h' => Bytes_any z w')) ?_
    refine AllSure.cons (OpSure.take (v := iN .u32 z) (by kernel_rfl) (by kernel_rfl) (fun _ _ => (by kernel_rfl))) ?_
    refine AllSure.cons (sure_call (v := rarr z) (by kernel_rfl) (by kernel_rfl) enter18 HA.keep #[iN .u32 z] (by kernel_rfl) (fun w' h' => rsmall_any z hz w')) ?_
    refine AllSure.cons (sure_call (v := .string (bytesOf z)) (by kernel_rfl) (by kernel_rfl) enter14 HA.keep #[rarr z] (by kernel_rfl) (fun w' h' => rbytes_any z w')) ?_
    refine AllSure.cons (OpSure.take (v := .bool true) (by kernel_rfl) (by kernel_rfl) (fun _ _ => (run_eqs (s := bytesOf z) (t := bytesOf z) (by kernel_rfl) (by kernel_rfl) true (decide_eq_true rfl)))) ?_
    refine AllSure.cons (OpSure.take (v := .bool true) (by kernel_rfl) (by kernel_rfl) (fun _ _ => (by kernel_rfl))) ?_
    refine AllSure.cons (OpSure.take (v := .bool true) (by kernel_rfl) (by kernel_rfl) (fun _ _ => (by kernel_rfl))) ?_
    refine AllSure.cons (OpSure.take (v := iN .u32 z) (by kernel_rfl) (by kernel_rfl) (fun _ _ => (by kernel_rfl))) ?_
    refine AllSure.cons (sure_call (v := arr z) (by kernel_rfl) (by kernel_rfl) enter17 HA.keep #[iN .u32 z] (by kernel_rfl) (fun w' h' => Small_any z hz w')) ?_
    refine AllSure.cons (sure_call (v := .bool false) (by kernel_rfl) (by kernel_rfl) enter15 HA.keep #[arr z] (by kernel_rfl) (fun w' h' => Odd_no z hzo w')) ?_
    refine AllSure.cons (OpSure.take (v := iN .u32 z) (by kernel_rfl) (by kernel_rfl) (fun _ _ => (by kernel_rfl))) ?_
    refine AllSure.cons (OpSure.take (v := iN .u32 (z % 2)) (by kernel_rfl) (by kernel_rfl) (fun _ _ => (run_rem (k := .u32) (a := z) (b := 2) (by kernel_rfl) (by kernel_rfl) (by omega)))) ?_
    refine AllSure.cons (OpSure.take (v := .bool false) (by kernel_rfl) (by kernel_rfl) (fun _ _ => (run_eqi (k := .u32) (a := z % 2) (b := 1) (by kernel_rfl) (by kernel_rfl) false (by rw [decide_eq_false]; omega)))) ?_
    refine AllSure.cons (OpSure.take (v := .bool true) (by kernel_rfl) (by kernel_rfl) (fun _ _ => (run_eqb false false (by kernel_rfl) (by kernel_rfl)))) ?_
    refine AllSure.cons (OpSure.take (v := .bool true) (by kernel_rfl) (by kernel_rfl) (fun _ _ => (by kernel_rfl))) ?_
    refine AllSure.cons (OpSure.take (v := .bool true) (by kernel_rfl) (by kernel_rfl) (fun _ _ => (by kernel_rfl))) ?_
    refine AllSure.cons (sure_call (v := .bool true) (by kernel_rfl) (by kernel_rfl) enter19 HA.keep #[] (by kernel_rfl) (fun w' h' => works_any w' (VV.out.below h'.old VV.out.big))) ?_
    refine AllSure.cons (OpSure.take (v := .bool true) (by kernel_rfl) (by kernel_rfl) (fun _ _ => (by kernel_rfl))) ?_
    refine AllSure.cons (OpSure.take (v := .bool true) (by kernel_rfl) (by kernel_rfl) (fun _ _ => (by kernel_rfl))) ?_
    exact AllSure.nil
  intro w15 h16
  refine then_at (F := ⟨(.string s :: iN .u32 z :: un :: un :: .bool true :: pt q3 :: .bool true :: pt q10 :: .bool true :: .tuple #[arr m, .bool true] :: .string s :: .tuple #[arr m, .bool true] :: arr m :: .bool true :: .tuple #[rarr m, .bool true] :: .string s :: .tuple #[rarr m, .bool true] :: rarr m :: .bool true :: .bool true :: .bool true :: .bool true :: .bool true :: arr m :: .string (bytesOf m) :: rarr m :: .string (bytesOf m) :: .bool true :: .bool true :: .bool true :: arr m :: .bool false :: rarr m :: .bool false :: .bool true :: .bool true :: .bool true :: iN .u32 z :: arr z :: .string (bytesOf z) :: iN .u32 z :: rarr z :: .string (bytesOf z) :: .bool true :: .bool true :: .bool true :: iN .u32 z :: arr z :: .bool false :: iN .u32 z :: iN .u32 (z % 2) :: .bool false :: .bool true :: .bool true :: .bool true :: .bool true :: .bool true :: List.replicate 0 un).toArray, []⟩) (by kernel_rfl) ?_
  refine wp_ret ?_
  repeat first | refine then_ret ?_ | refine block_ret ?_
  exact bodyPost_ret (v := .bool true) (by kernel_rfl) rfl ⟨rfl, h16.old⟩
set_option linter.unusedVariables false in
set_option maxRecDepth 100000 in
set_option maxHeartbeats 4000000 in
theorem reads_01 (s : ByteArray) (z : Nat) (hz : z < 4294967296) (hzP : z < P) (m : Nat) (ho : ofP s = some m) (hm : m < P) (hmo : m % 2 = 0) (hzo : z % 2 = 1) (w : World) (V : Vars w) :
    Calls Tryd.prog 3 #[.string s, iN .u32 z] w fun e w' => e = .returned (.bool true) ∧ Below w.heap.size w w' := by
  have VV := hide V
  have H0 := HA.start w
  clear V
  go_enter Tryd.func3, Tryd.ntmps3
  refine wp_seq ?_
  -- region 0
  refine wl_region ?_
  refine wl_val (.bool false) (by kernel_rfl) (by kernel_rfl) ?_
  refine wl_nil ?_
  refine then_at (F := ⟨(.string s :: iN .u32 z :: un :: un :: .bool false :: List.replicate 52 un).toArray, []⟩) (by kernel_rfl) ?_
  refine wp_seq ?_
  -- region 1
  refine wl_region ?_
  refine wl_val (.string s) (by kernel_rfl) (by kernel_rfl) ?_
  refine wl_call (v := .tuple #[arr m, .bool true]) H0 (by kernel_rfl) enter11 #[.string s] (by kernel_rfl) (Of_yes s ho w (VV.out.below H0.old VV.out.big)) ?_
  intro w1 h2
  refine wl_val (.tuple #[arr m, .bool true]) (by kernel_rfl) (by kernel_rfl) ?_
  refine wl_val (arr m) (by kernel_rfl) (by kernel_rfl) ?_
  refine wl_val (.bool true) (by kernel_rfl) (by kernel_rfl) ?_
  refine wl_make h2 26 (by kernel_rfl) run_alloc26 ?_
  intro q3 w4 h5
  refine wl_fill (c' := el m) h5 0 rfl (by kernel_rfl) (by kernel_rfl) (by kernel_rfl) rfl info26 (one_el _) ?_
  intro w6 (h7 : HA w [(q3, 26, el m)] w6)
  refine wl_val (.bool true) (by kernel_rfl) (by kernel_rfl) ?_
  refine wl_nil ?_
  refine then_at (F := ⟨(.string s :: iN .u32 z :: un :: un :: .bool false :: pt q3 :: .bool true :: un :: un :: .tuple #[arr m, .bool true] :: .string s :: .tuple #[arr m, .bool true] :: arr m :: .bool true :: List.replicate 43 un).toArray, []⟩) (by kernel_rfl) ?_
  refine wp_seq ?_
  -- region 2
  refine wl_region ?_
  refine wl_val (.string s) (by kernel_rfl) (by kernel_rfl) ?_
  refine wl_call (v := .tuple #[rarr m, .bool true]) h7 (by kernel_rfl) enter12 #[.string s] (by kernel_rfl) (rof_some s ho w6) ?_
  intro w8 h9
  refine wl_val (.tuple #[rarr m, .bool true]) (by kernel_rfl) (by kernel_rfl) ?_
  refine wl_val (rarr m) (by kernel_rfl) (by kernel_rfl) ?_
  refine wl_val (.bool true) (by kernel_rfl) (by kernel_rfl) ?_
  refine wl_make h9 30 (by kernel_rfl) run_alloc30 ?_
  intro q10 w11 h12
  refine wl_fill (c' := rl m) h12 0 rfl (by kernel_rfl) (by kernel_rfl) (by kernel_rfl) (rl_sz _ _) (info_rl _) (one_rl _) ?_
  intro w13 (h14 : HA w [(q10, 30, rl m), (q3, 26, el m)] w13)
  refine wl_val (.bool true) (by kernel_rfl) (by kernel_rfl) ?_
  refine wl_nil ?_
  refine then_at (F := ⟨(.string s :: iN .u32 z :: un :: un :: .bool false :: pt q3 :: .bool true :: pt q10 :: .bool true :: .tuple #[arr m, .bool true] :: .string s :: .tuple #[arr m, .bool true] :: arr m :: .bool true :: .tuple #[rarr m, .bool true] :: .string s :: .tuple #[rarr m, .bool true] :: rarr m :: .bool true :: List.replicate 38 un).toArray, []⟩) (by kernel_rfl) ?_
  refine wp_seq ?_
  -- region 3
  refine wp_region_sure ⟨(.string s :: iN .u32 z :: un :: un :: .bool true :: pt q3 :: .bool true :: pt q10 :: .bool true :: .tuple #[arr m, .bool true] :: .string s :: .tuple #[arr m, .bool true] :: arr m :: .bool true :: .tuple #[rarr m, .bool true] :: .string s :: .tuple #[rarr m, .bool true] :: rarr m :: .bool true :: .bool true :: .bool true :: .bool true :: .bool true :: arr m :: .string (bytesOf m) :: rarr m :: .string (bytesOf m) :: .bool true :: .bool true :: .bool true :: arr m :: .bool false :: rarr m :: .bool false :: .bool true :: .bool true :: .bool true :: iN .u32 z :: arr z :: .string (bytesOf z) :: iN .u32 z :: rarr z :: .string (bytesOf z) :: .bool true :: .bool true :: .bool true :: iN .u32 z :: arr z :: .bool true :: iN .u32 z :: iN .u32 (z % 2) :: .bool true :: .bool true :: .bool true :: .bool true :: .bool true :: .bool true :: List.replicate 0 un).toArray, []⟩ (HA w [(q10, 30, rl m), (q3, 26, el m)]) [.bool true, .bool true, .bool true, .bool true, arr m, .string (bytesOf m), rarr m, .string (bytesOf m), .bool true, .bool true, .bool true, arr m, .bool false, rarr m, .bool false, .bool true, .bool true, .bool true, iN .u32 z, arr z, .string (bytesOf z), iN .u32 z, rarr z, .string (bytesOf z), .bool true, .bool true, .bool true, iN .u32 z, arr z, .bool true, iN .u32 z, iN .u32 (z % 2), .bool true, .bool true, .bool true, .bool true, .bool true, .bool true, .bool true] (by kernel_rfl) (by kernel_rfl) (by kernel_rfl) (by kernel_rfl) (fun _ _ _ h => h) h14.drew ?_ ?_
  · refine AllSure.cons (OpSure.take (v := .bool true) (by kernel_rfl) (by kernel_rfl) (fun _ _ => (by kernel_rfl))) ?_
    refine AllSure.cons (OpSure.take (v := .bool true) (by kernel_rfl) (by kernel_rfl) (fun _ _ => (by kernel_rfl))) ?_
    refine AllSure.cons (OpSure.take (v := .bool true) (by kernel_rfl) (by kernel_rfl) (fun _ _ => (run_eqb true true (by kernel_rfl) (by kernel_rfl)))) ?_
    refine AllSure.cons (OpSure.take (v := .bool true) (by kernel_rfl) (by kernel_rfl) (fun _ _ => (by kernel_rfl))) ?_
    refine AllSure.cons (OpSure.take (v := arr m) (by kernel_rfl) (by kernel_rfl) (fun _ h => run_load_blk (by kernel_rfl) (h.get 1 rfl) Tryd.underlying26 rfl info26)) ?_
    refine AllSure.cons (sure_call (v := .string (bytesOf m)) (by kernel_rfl) (by kernel_rfl) enter13 HA.keep #[arr m] (by kernel_rfl) (fun w' h' => Bytes_any m w')) ?_
    refine AllSure.cons (OpSure.take (v := rarr m) (by kernel_rfl) (by kernel_rfl) (fun _ h => run_load_blk (by kernel_rfl) (h.get 0 rfl) Tryd.underlying30 rfl (info_rl _))) ?_
    refine AllSure.cons (sure_call (v := .string (bytesOf m)) (by kernel_rfl) (by kernel_rfl) enter14 HA.keep #[rarr m] (by kernel_rfl) (fun w' h' => rbytes_any m w')) ?_
    refine AllSure.cons (OpSure.take (v := .bool true) (by kernel_rfl) (by kernel_rfl) (fun _ _ => (run_eqs (s := bytesOf m) (t := bytesOf m) (by kernel_rfl) (by kernel_rfl) true (decide_eq_true rfl)))) ?_
    refine AllSure.cons (OpSure.take (v := .bool true) (by kernel_rfl) (by kernel_rfl) (fun _ _ => (by kernel_rfl))) ?_
    refine AllSure.cons (OpSure.take (v := .bool true) (by kernel_rfl) (by kernel_rfl) (fun _ _ => (by kernel_rfl))) ?_
    refine AllSure.cons (OpSure.take (v := arr m) (by kernel_rfl) (by kernel_rfl) (fun _ h => run_load_blk (by kernel_rfl) (h.get 1 rfl) Tryd.underlying26 rfl info26)) ?_
    refine AllSure.cons (sure_call (v := .bool false) (by kernel_rfl) (by kernel_rfl) enter15 HA.keep #[arr m] (by kernel_rfl) (fun w' h' => Odd_no m hmo w')) ?_
    refine AllSure.cons (OpSure.take (v := rarr m) (by kernel_rfl) (by kernel_rfl) (fun _ h => run_load_blk (by kernel_rfl) (h.get 0 rfl) Tryd.underlying30 rfl (info_rl _))) ?_
    refine AllSure.cons (sure_call (v := .bool false) (by kernel_rfl) (by kernel_rfl) enter16 HA.keep #[rarr m] (by kernel_rfl) (fun w' h' => rodd_no m hmo w')) ?_
    refine AllSure.cons (OpSure.take (v := .bool true) (by kernel_rfl) (by kernel_rfl) (fun _ _ => (run_eqb false false (by kernel_rfl) (by kernel_rfl)))) ?_
    refine AllSure.cons (OpSure.take (v := .bool true) (by kernel_rfl) (by kernel_rfl) (fun _ _ => (by kernel_rfl))) ?_
    refine AllSure.cons (OpSure.take (v := .bool true) (by kernel_rfl) (by kernel_rfl) (fun _ _ => (by kernel_rfl))) ?_
    refine AllSure.cons (OpSure.take (v := iN .u32 z) (by kernel_rfl) (by kernel_rfl) (fun _ _ => (by kernel_rfl))) ?_
    refine AllSure.cons (sure_call (v := arr z) (by kernel_rfl) (by kernel_rfl) enter17 HA.keep #[iN .u32 z] (by kernel_rfl) (fun w' h' => Small_any z hz w')) ?_
    refine AllSure.cons (sure_call (v := .string (bytesOf z)) (by kernel_rfl) (by kernel_rfl) enter13 HA.keep #[arr z] (by kernel_rfl) (fun w' h' => Bytes_any z w')) ?_
    refine AllSure.cons (OpSure.take (v := iN .u32 z) (by kernel_rfl) (by kernel_rfl) (fun _ _ => (by kernel_rfl))) ?_
    refine AllSure.cons (sure_call (v := rarr z) (by kernel_rfl) (by kernel_rfl) enter18 HA.keep #[iN .u32 z] (by kernel_rfl) (fun w' h' => rsmall_any z hz w')) ?_
    refine AllSure.cons (sure_call (v := .string (bytesOf z)) (by kernel_rfl) (by kernel_rfl) enter14 HA.keep #[rarr z] (by kernel_rfl) (fun w' h' => rbytes_any z w')) ?_
    refine AllSure.cons (OpSure.take (v := .bool true) (by kernel_rfl) (by kernel_rfl) (fun _ _ => (run_eqs (s := bytesOf z) (t := bytesOf z) (by kernel_rfl) (by kernel_rfl) true (decide_eq_true rfl)))) ?_
    refine AllSure.cons (OpSure.take (v := .bool true) (by kernel_rfl) (by kernel_rfl) (fun _ _ => (by kernel_rfl))) ?_
    refine AllSure.cons (OpSure.take (v := .bool true) (by kernel_rfl) (by kernel_rfl) (fun _ _ => (by kernel_rfl))) ?_
    refine AllSure.cons (OpSure.take (v := iN .u32 z) (by kernel_rfl) (by kernel_rfl) (fun _ _ => (by kernel_rfl))) ?_
    refine AllSure.cons (sure_call (v := arr z) (by kernel_rfl) (by kernel_rfl) enter17 HA.keep #[iN .u32 z] (by kernel_rfl) (fun w' h' => Small_any z hz w')) ?_
    refine AllSure.cons (sure_call (v := .bool true) (by kernel_rfl) (by kernel_rfl) enter15 HA.keep #[arr z] (by kernel_rfl) (fun w' h' => Odd_yes z hzo w')) ?_
    refine AllSure.cons (OpSure.take (v := iN .u32 z) (by kernel_rfl) (by kernel_rfl) (fun _ _ => (by kernel_rfl))) ?_
    refine AllSure.cons (OpSure.take (v := iN .u32 (z % 2)) (by kernel_rfl) (by kernel_rfl) (fun _ _ => (run_rem (k := .u32) (a := z) (b := 2) (by kernel_rfl) (by kernel_rfl) (by omega)))) ?_
    refine AllSure.cons (OpSure.take (v := .bool true) (by kernel_rfl) (by kernel_rfl) (fun _ _ => (run_eqi (k := .u32) (a := z % 2) (b := 1) (by kernel_rfl) (by kernel_rfl) true (decide_eq_true hzo)))) ?_
    refine AllSure.cons (OpSure.take (v := .bool true) (by kernel_rfl) (by kernel_rfl) (fun _ _ => (run_eqb true true (by kernel_rfl) (by kernel_rfl)))) ?_
    refine AllSure.cons (OpSure.take (v := .bool true) (by kernel_rfl) (by kernel_rfl) (fun _ _ => (by kernel_rfl))) ?_
    refine AllSure.cons (OpSure.take (v := .bool true) (by kernel_rfl) (by kernel_rfl) (fun _ _ => (by kernel_rfl))) ?_
    refine AllSure.cons (sure_call (v := .bool true) (by kernel_rfl) (by kernel_rfl) enter19 HA.keep #[] (by kernel_rfl) (fun w' h' => works_any w' (VV.out.below h'.old VV.out.big))) ?_
    refine AllSure.cons (OpSure.take (v := .bool true) (by kernel_rfl) (by kernel_rfl) (fun _ _ => (by kernel_rfl))) ?_
    refine AllSure.cons (OpSure.take (v := .bool true) (by kernel_rfl) (by kernel_rfl) (fun _ _ => (by kernel_rfl))) ?_
    exact AllSure.nil
  intro w15 h16
  refine then_at (F := ⟨(.string s :: iN .u32 z :: un :: un :: .bool true :: pt q3 :: .bool true :: pt q10 :: .bool true :: .tuple #[arr m, .bool true] :: .string s :: .tuple #[arr m, .bool true] :: arr m :: .bool true :: .tuple #[rarr m, .bool true] :: .string s :: .tuple #[rarr m, .bool true] :: rarr m :: .bool true :: .bool true :: .bool true :: .bool true :: .bool true :: arr m :: .string (bytesOf m) :: rarr m :: .string (bytesOf m) :: .bool true :: .bool true :: .bool true :: arr m :: .bool false :: rarr m :: .bool false :: .bool true :: .bool true :: .bool true :: iN .u32 z :: arr z :: .string (bytesOf z) :: iN .u32 z :: rarr z :: .string (bytesOf z) :: .bool true :: .bool true :: .bool true :: iN .u32 z :: arr z :: .bool true :: iN .u32 z :: iN .u32 (z % 2) :: .bool true :: .bool true :: .bool true :: .bool true :: .bool true :: .bool true :: List.replicate 0 un).toArray, []⟩) (by kernel_rfl) ?_
  refine wp_ret ?_
  repeat first | refine then_ret ?_ | refine block_ret ?_
  exact bodyPost_ret (v := .bool true) (by kernel_rfl) rfl ⟨rfl, h16.old⟩
set_option linter.unusedVariables false in
set_option maxRecDepth 100000 in
set_option maxHeartbeats 4000000 in
theorem reads_10 (s : ByteArray) (z : Nat) (hz : z < 4294967296) (hzP : z < P) (m : Nat) (ho : ofP s = some m) (hm : m < P) (hmo : m % 2 = 1) (hzo : z % 2 = 0) (w : World) (V : Vars w) :
    Calls Tryd.prog 3 #[.string s, iN .u32 z] w fun e w' => e = .returned (.bool true) ∧ Below w.heap.size w w' := by
  have VV := hide V
  have H0 := HA.start w
  clear V
  go_enter Tryd.func3, Tryd.ntmps3
  refine wp_seq ?_
  -- region 0
  refine wl_region ?_
  refine wl_val (.bool false) (by kernel_rfl) (by kernel_rfl) ?_
  refine wl_nil ?_
  refine then_at (F := ⟨(.string s :: iN .u32 z :: un :: un :: .bool false :: List.replicate 52 un).toArray, []⟩) (by kernel_rfl) ?_
  refine wp_seq ?_
  -- region 1
  refine wl_region ?_
  refine wl_val (.string s) (by kernel_rfl) (by kernel_rfl) ?_
  refine wl_call (v := .tuple #[arr m, .bool true]) H0 (by kernel_rfl) enter11 #[.string s] (by kernel_rfl) (Of_yes s ho w (VV.out.below H0.old VV.out.big)) ?_
  intro w1 h2
  refine wl_val (.tuple #[arr m, .bool true]) (by kernel_rfl) (by kernel_rfl) ?_
  refine wl_val (arr m) (by kernel_rfl) (by kernel_rfl) ?_
  refine wl_val (.bool true) (by kernel_rfl) (by kernel_rfl) ?_
  refine wl_make h2 26 (by kernel_rfl) run_alloc26 ?_
  intro q3 w4 h5
  refine wl_fill (c' := el m) h5 0 rfl (by kernel_rfl) (by kernel_rfl) (by kernel_rfl) rfl info26 (one_el _) ?_
  intro w6 (h7 : HA w [(q3, 26, el m)] w6)
  refine wl_val (.bool true) (by kernel_rfl) (by kernel_rfl) ?_
  refine wl_nil ?_
  refine then_at (F := ⟨(.string s :: iN .u32 z :: un :: un :: .bool false :: pt q3 :: .bool true :: un :: un :: .tuple #[arr m, .bool true] :: .string s :: .tuple #[arr m, .bool true] :: arr m :: .bool true :: List.replicate 43 un).toArray, []⟩) (by kernel_rfl) ?_
  refine wp_seq ?_
  -- region 2
  refine wl_region ?_
  refine wl_val (.string s) (by kernel_rfl) (by kernel_rfl) ?_
  refine wl_call (v := .tuple #[rarr m, .bool true]) h7 (by kernel_rfl) enter12 #[.string s] (by kernel_rfl) (rof_some s ho w6) ?_
  intro w8 h9
  refine wl_val (.tuple #[rarr m, .bool true]) (by kernel_rfl) (by kernel_rfl) ?_
  refine wl_val (rarr m) (by kernel_rfl) (by kernel_rfl) ?_
  refine wl_val (.bool true) (by kernel_rfl) (by kernel_rfl) ?_
  refine wl_make h9 30 (by kernel_rfl) run_alloc30 ?_
  intro q10 w11 h12
  refine wl_fill (c' := rl m) h12 0 rfl (by kernel_rfl) (by kernel_rfl) (by kernel_rfl) (rl_sz _ _) (info_rl _) (one_rl _) ?_
  intro w13 (h14 : HA w [(q10, 30, rl m), (q3, 26, el m)] w13)
  refine wl_val (.bool true) (by kernel_rfl) (by kernel_rfl) ?_
  refine wl_nil ?_
  refine then_at (F := ⟨(.string s :: iN .u32 z :: un :: un :: .bool false :: pt q3 :: .bool true :: pt q10 :: .bool true :: .tuple #[arr m, .bool true] :: .string s :: .tuple #[arr m, .bool true] :: arr m :: .bool true :: .tuple #[rarr m, .bool true] :: .string s :: .tuple #[rarr m, .bool true] :: rarr m :: .bool true :: List.replicate 38 un).toArray, []⟩) (by kernel_rfl) ?_
  refine wp_seq ?_
  -- region 3
  refine wp_region_sure ⟨(.string s :: iN .u32 z :: un :: un :: .bool true :: pt q3 :: .bool true :: pt q10 :: .bool true :: .tuple #[arr m, .bool true] :: .string s :: .tuple #[arr m, .bool true] :: arr m :: .bool true :: .tuple #[rarr m, .bool true] :: .string s :: .tuple #[rarr m, .bool true] :: rarr m :: .bool true :: .bool true :: .bool true :: .bool true :: .bool true :: arr m :: .string (bytesOf m) :: rarr m :: .string (bytesOf m) :: .bool true :: .bool true :: .bool true :: arr m :: .bool true :: rarr m :: .bool true :: .bool true :: .bool true :: .bool true :: iN .u32 z :: arr z :: .string (bytesOf z) :: iN .u32 z :: rarr z :: .string (bytesOf z) :: .bool true :: .bool true :: .bool true :: iN .u32 z :: arr z :: .bool false :: iN .u32 z :: iN .u32 (z % 2) :: .bool false :: .bool true :: .bool true :: .bool true :: .bool true :: .bool true :: List.replicate 0 un).toArray, []⟩ (HA w [(q10, 30, rl m), (q3, 26, el m)]) [.bool true, .bool true, .bool true, .bool true, arr m, .string (bytesOf m), rarr m, .string (bytesOf m), .bool true, .bool true, .bool true, arr m, .bool true, rarr m, .bool true, .bool true, .bool true, .bool true, iN .u32 z, arr z, .string (bytesOf z), iN .u32 z, rarr z, .string (bytesOf z), .bool true, .bool true, .bool true, iN .u32 z, arr z, .bool false, iN .u32 z, iN .u32 (z % 2), .bool false, .bool true, .bool true, .bool true, .bool true, .bool true, .bool true] (by kernel_rfl) (by kernel_rfl) (by kernel_rfl) (by kernel_rfl) (fun _ _ _ h => h) h14.drew ?_ ?_
  · refine AllSure.cons (OpSure.take (v := .bool true) (by kernel_rfl) (by kernel_rfl) (fun _ _ => (by kernel_rfl))) ?_
    refine AllSure.cons (OpSure.take (v := .bool true) (by kernel_rfl) (by kernel_rfl) (fun _ _ => (by kernel_rfl))) ?_
    refine AllSure.cons (OpSure.take (v := .bool true) (by kernel_rfl) (by kernel_rfl) (fun _ _ => (run_eqb true true (by kernel_rfl) (by kernel_rfl)))) ?_
    refine AllSure.cons (OpSure.take (v := .bool true) (by kernel_rfl) (by kernel_rfl) (fun _ _ => (by kernel_rfl))) ?_
    refine AllSure.cons (OpSure.take (v := arr m) (by kernel_rfl) (by kernel_rfl) (fun _ h => run_load_blk (by kernel_rfl) (h.get 1 rfl) Tryd.underlying26 rfl info26)) ?_
    refine AllSure.cons (sure_call (v := .string (bytesOf m)) (by kernel_rfl) (by kernel_rfl) enter13 HA.keep #[arr m] (by kernel_rfl) (fun w' h' => Bytes_any m w')) ?_
    refine AllSure.cons (OpSure.take (v := rarr m) (by kernel_rfl) (by kernel_rfl) (fun _ h => run_load_blk (by kernel_rfl) (h.get 0 rfl) Tryd.underlying30 rfl (info_rl _))) ?_
    refine AllSure.cons (sure_call (v := .string (bytesOf m)) (by kernel_rfl) (by kernel_rfl) enter14 HA.keep #[rarr m] (by kernel_rfl) (fun w' h' => rbytes_any m w')) ?_
    refine AllSure.cons (OpSure.take (v := .bool true) (by kernel_rfl) (by kernel_rfl) (fun _ _ => (run_eqs (s := bytesOf m) (t := bytesOf m) (by kernel_rfl) (by kernel_rfl) true (decide_eq_true rfl)))) ?_
    refine AllSure.cons (OpSure.take (v := .bool true) (by kernel_rfl) (by kernel_rfl) (fun _ _ => (by kernel_rfl))) ?_
    refine AllSure.cons (OpSure.take (v := .bool true) (by kernel_rfl) (by kernel_rfl) (fun _ _ => (by kernel_rfl))) ?_
    refine AllSure.cons (OpSure.take (v := arr m) (by kernel_rfl) (by kernel_rfl) (fun _ h => run_load_blk (by kernel_rfl) (h.get 1 rfl) Tryd.underlying26 rfl info26)) ?_
    refine AllSure.cons (sure_call (v := .bool true) (by kernel_rfl) (by kernel_rfl) enter15 HA.keep #[arr m] (by kernel_rfl) (fun w' h' => Odd_yes m hmo w')) ?_
    refine AllSure.cons (OpSure.take (v := rarr m) (by kernel_rfl) (by kernel_rfl) (fun _ h => run_load_blk (by kernel_rfl) (h.get 0 rfl) Tryd.underlying30 rfl (info_rl _))) ?_
    refine AllSure.cons (sure_call (v := .bool true) (by kernel_rfl) (by kernel_rfl) enter16 HA.keep #[rarr m] (by kernel_rfl) (fun w' h' => rodd_yes m hmo w')) ?_
    refine AllSure.cons (OpSure.take (v := .bool true) (by kernel_rfl) (by kernel_rfl) (fun _ _ => (run_eqb true true (by kernel_rfl) (by kernel_rfl)))) ?_
    refine AllSure.cons (OpSure.take (v := .bool true) (by kernel_rfl) (by kernel_rfl) (fun _ _ => (by kernel_rfl))) ?_
    refine AllSure.cons (OpSure.take (v := .bool true) (by kernel_rfl) (by kernel_rfl) (fun _ _ => (by kernel_rfl))) ?_
    refine AllSure.cons (OpSure.take (v := iN .u32 z) (by kernel_rfl) (by kernel_rfl) (fun _ _ => (by kernel_rfl))) ?_
    refine AllSure.cons (sure_call (v := arr z) (by kernel_rfl) (by kernel_rfl) enter17 HA.keep #[iN .u32 z] (by kernel_rfl) (fun w' h' => Small_any z hz w')) ?_
    refine AllSure.cons (sure_call (v := .string (bytesOf z)) (by kernel_rfl) (by kernel_rfl) enter13 HA.keep #[arr z] (by kernel_rfl) (fun w' h' => Bytes_any z w')) ?_
    refine AllSure.cons (OpSure.take (v := iN .u32 z) (by kernel_rfl) (by kernel_rfl) (fun _ _ => (by kernel_rfl))) ?_
    refine AllSure.cons (sure_call (v := rarr z) (by kernel_rfl) (by kernel_rfl) enter18 HA.keep #[iN .u32 z] (by kernel_rfl) (fun w' h' => rsmall_any z hz w')) ?_
    refine AllSure.cons (sure_call (v := .string (bytesOf z)) (by kernel_rfl) (by kernel_rfl) enter14 HA.keep #[rarr z] (by kernel_rfl) (fun w' h' => rbytes_any z w')) ?_
    refine AllSure.cons (OpSure.take (v := .bool true) (by kernel_rfl) (by kernel_rfl) (fun _ _ => (run_eqs (s := bytesOf z) (t := bytesOf z) (by kernel_rfl) (by kernel_rfl) true (decide_eq_true rfl)))) ?_
    refine AllSure.cons (OpSure.take (v := .bool true) (by kernel_rfl) (by kernel_rfl) (fun _ _ => (by kernel_rfl))) ?_
    refine AllSure.cons (OpSure.take (v := .bool true) (by kernel_rfl) (by kernel_rfl) (fun _ _ => (by kernel_rfl))) ?_
    refine AllSure.cons (OpSure.take (v := iN .u32 z) (by kernel_rfl) (by kernel_rfl) (fun _ _ => (by kernel_rfl))) ?_
    refine AllSure.cons (sure_call (v := arr z) (by kernel_rfl) (by kernel_rfl) enter17 HA.keep #[iN .u32 z] (by kernel_rfl) (fun w' h' => Small_any z hz w')) ?_
    refine AllSure.cons (sure_call (v := .bool false) (by kernel_rfl) (by kernel_rfl) enter15 HA.keep #[arr z] (by kernel_rfl) (fun w' h' => Odd_no z hzo w')) ?_
    refine AllSure.cons (OpSure.take (v := iN .u32 z) (by kernel_rfl) (by kernel_rfl) (fun _ _ => (by kernel_rfl))) ?_
    refine AllSure.cons (OpSure.take (v := iN .u32 (z % 2)) (by kernel_rfl) (by kernel_rfl) (fun _ _ => (run_rem (k := .u32) (a := z) (b := 2) (by kernel_rfl) (by kernel_rfl) (by omega)))) ?_
    refine AllSure.cons (OpSure.take (v := .bool false) (by kernel_rfl) (by kernel_rfl) (fun _ _ => (run_eqi (k := .u32) (a := z % 2) (b := 1) (by kernel_rfl) (by kernel_rfl) false (by rw [decide_eq_false]; omega)))) ?_
    refine AllSure.cons (OpSure.take (v := .bool true) (by kernel_rfl) (by kernel_rfl) (fun _ _ => (run_eqb false false (by kernel_rfl) (by kernel_rfl)))) ?_
    refine AllSure.cons (OpSure.take (v := .bool true) (by kernel_rfl) (by kernel_rfl) (fun _ _ => (by kernel_rfl))) ?_
    refine AllSure.cons (OpSure.take (v := .bool true) (by kernel_rfl) (by kernel_rfl) (fun _ _ => (by kernel_rfl))) ?_
    refine AllSure.cons (sure_call (v := .bool true) (by kernel_rfl) (by kernel_rfl) enter19 HA.keep #[] (by kernel_rfl) (fun w' h' => works_any w' (VV.out.below h'.old VV.out.big))) ?_
    refine AllSure.cons (OpSure.take (v := .bool true) (by kernel_rfl) (by kernel_rfl) (fun _ _ => (by kernel_rfl))) ?_
    refine AllSure.cons (OpSure.take (v := .bool true) (by kernel_rfl) (by kernel_rfl) (fun _ _ => (by kernel_rfl))) ?_
    exact AllSure.nil
  intro w15 h16
  refine then_at (F := ⟨(.string s :: iN .u32 z :: un :: un :: .bool true :: pt q3 :: .bool true :: pt q10 :: .bool true :: .tuple #[arr m, .bool true] :: .string s :: .tuple #[arr m, .bool true] :: arr m :: .bool true :: .tuple #[rarr m, .bool true] :: .string s :: .tuple #[rarr m, .bool true] :: rarr m :: .bool true :: .bool true :: .bool true :: .bool true :: .bool true :: arr m :: .string (bytesOf m) :: rarr m :: .string (bytesOf m) :: .bool true :: .bool true :: .bool true :: arr m :: .bool true :: rarr m :: .bool true :: .bool true :: .bool true :: .bool true :: iN .u32 z :: arr z :: .string (bytesOf z) :: iN .u32 z :: rarr z :: .string (bytesOf z) :: .bool true :: .bool true :: .bool true :: iN .u32 z :: arr z :: .bool false :: iN .u32 z :: iN .u32 (z % 2) :: .bool false :: .bool true :: .bool true :: .bool true :: .bool true :: .bool true :: List.replicate 0 un).toArray, []⟩) (by kernel_rfl) ?_
  refine wp_ret ?_
  repeat first | refine then_ret ?_ | refine block_ret ?_
  exact bodyPost_ret (v := .bool true) (by kernel_rfl) rfl ⟨rfl, h16.old⟩
set_option linter.unusedVariables false in
set_option maxRecDepth 100000 in
set_option maxHeartbeats 4000000 in
theorem reads_11 (s : ByteArray) (z : Nat) (hz : z < 4294967296) (hzP : z < P) (m : Nat) (ho : ofP s = some m) (hm : m < P) (hmo : m % 2 = 1) (hzo : z % 2 = 1) (w : World) (V : Vars w) :
    Calls Tryd.prog 3 #[.string s, iN .u32 z] w fun e w' => e = .returned (.bool true) ∧ Below w.heap.size w w' := by
  have VV := hide V
  have H0 := HA.start w
  clear V
  go_enter Tryd.func3, Tryd.ntmps3
  refine wp_seq ?_
  -- region 0
  refine wl_region ?_
  refine wl_val (.bool false) (by kernel_rfl) (by kernel_rfl) ?_
  refine wl_nil ?_
  refine then_at (F := ⟨(.string s :: iN .u32 z :: un :: un :: .bool false :: List.replicate 52 un).toArray, []⟩) (by kernel_rfl) ?_
  refine wp_seq ?_
  -- region 1
  refine wl_region ?_
  refine wl_val (.string s) (by kernel_rfl) (by kernel_rfl) ?_
  refine wl_call (v := .tuple #[arr m, .bool true]) H0 (by kernel_rfl) enter11 #[.string s] (by kernel_rfl) (Of_yes s ho w (VV.out.below H0.old VV.out.big)) ?_
  intro w1 h2
  refine wl_val (.tuple #[arr m, .bool true]) (by kernel_rfl) (by kernel_rfl) ?_
  refine wl_val (arr m) (by kernel_rfl) (by kernel_rfl) ?_
  refine wl_val (.bool true) (by kernel_rfl) (by kernel_rfl) ?_
  refine wl_make h2 26 (by kernel_rfl) run_alloc26 ?_
  intro q3 w4 h5
  refine wl_fill (c' := el m) h5 0 rfl (by kernel_rfl) (by kernel_rfl) (by kernel_rfl) rfl info26 (one_el _) ?_
  intro w6 (h7 : HA w [(q3, 26, el m)] w6)
  refine wl_val (.bool true) (by kernel_rfl) (by kernel_rfl) ?_
  refine wl_nil ?_
  refine then_at (F := ⟨(.string s :: iN .u32 z :: un :: un :: .bool false :: pt q3 :: .bool true :: un :: un :: .tuple #[arr m, .bool true] :: .string s :: .tuple #[arr m, .bool true] :: arr m :: .bool true :: List.replicate 43 un).toArray, []⟩) (by kernel_rfl) ?_
  refine wp_seq ?_
  -- region 2
  refine wl_region ?_
  refine wl_val (.string s) (by kernel_rfl) (by kernel_rfl) ?_
  refine wl_call (v := .tuple #[rarr m, .bool true]) h7 (by kernel_rfl) enter12 #[.string s] (by kernel_rfl) (rof_some s ho w6) ?_
  intro w8 h9
  refine wl_val (.tuple #[rarr m, .bool true]) (by kernel_rfl) (by kernel_rfl) ?_
  refine wl_val (rarr m) (by kernel_rfl) (by kernel_rfl) ?_
  refine wl_val (.bool true) (by kernel_rfl) (by kernel_rfl) ?_
  refine wl_make h9 30 (by kernel_rfl) run_alloc30 ?_
  intro q10 w11 h12
  refine wl_fill (c' := rl m) h12 0 rfl (by kernel_rfl) (by kernel_rfl) (by kernel_rfl) (rl_sz _ _) (info_rl _) (one_rl _) ?_
  intro w13 (h14 : HA w [(q10, 30, rl m), (q3, 26, el m)] w13)
  refine wl_val (.bool true) (by kernel_rfl) (by kernel_rfl) ?_
  refine wl_nil ?_
  refine then_at (F := ⟨(.string s :: iN .u32 z :: un :: un :: .bool false :: pt q3 :: .bool true :: pt q10 :: .bool true :: .tuple #[arr m, .bool true] :: .string s :: .tuple #[arr m, .bool true] :: arr m :: .bool true :: .tuple #[rarr m, .bool true] :: .string s :: .tuple #[rarr m, .bool true] :: rarr m :: .bool true :: List.replicate 38 un).toArray, []⟩) (by kernel_rfl) ?_
  refine wp_seq ?_
  -- region 3
  refine wp_region_sure ⟨(.string s :: iN .u32 z :: un :: un :: .bool true :: pt q3 :: .bool true :: pt q10 :: .bool true :: .tuple #[arr m, .bool true] :: .string s :: .tuple #[arr m, .bool true] :: arr m :: .bool true :: .tuple #[rarr m, .bool true] :: .string s :: .tuple #[rarr m, .bool true] :: rarr m :: .bool true :: .bool true :: .bool true :: .bool true :: .bool true :: arr m :: .string (bytesOf m) :: rarr m :: .string (bytesOf m) :: .bool true :: .bool true :: .bool true :: arr m :: .bool true :: rarr m :: .bool true :: .bool true :: .bool true :: .bool true :: iN .u32 z :: arr z :: .string (bytesOf z) :: iN .u32 z :: rarr z :: .string (bytesOf z) :: .bool true :: .bool true :: .bool true :: iN .u32 z :: arr z :: .bool true :: iN .u32 z :: iN .u32 (z % 2) :: .bool true :: .bool true :: .bool true :: .bool true :: .bool true :: .bool true :: List.replicate 0 un).toArray, []⟩ (HA w [(q10, 30, rl m), (q3, 26, el m)]) [.bool true, .bool true, .bool true, .bool true, arr m, .string (bytesOf m), rarr m, .string (bytesOf m), .bool true, .bool true, .bool true, arr m, .bool true, rarr m, .bool true, .bool true, .bool true, .bool true, iN .u32 z, arr z, .string (bytesOf z), iN .u32 z, rarr z, .string (bytesOf z), .bool true, .bool true, .bool true, iN .u32 z, arr z, .bool true, iN .u32 z, iN .u32 (z % 2), .bool true, .bool true, .bool true, .bool true, .bool true, .bool true, .bool true] (by kernel_rfl) (by kernel_rfl) (by kernel_rfl) (by kernel_rfl) (fun _ _ _ h => h) h14.drew ?_ ?_
  · refine AllSure.cons (OpSure.take (v := .bool true) (by kernel_rfl) (by kernel_rfl) (fun _ _ => (by kernel_rfl))) ?_
    refine AllSure.cons (OpSure.take (v := .bool true) (by kernel_rfl) (by kernel_rfl) (fun _ _ => (by kernel_rfl))) ?_
    refine AllSure.cons (OpSure.take (v := .bool true) (by kernel_rfl) (by kernel_rfl) (fun _ _ => (run_eqb true true (by kernel_rfl) (by kernel_rfl)))) ?_
    refine AllSure.cons (OpSure.take (v := .bool true) (by kernel_rfl) (by kernel_rfl) (fun _ _ => (by kernel_rfl))) ?_
    refine AllSure.cons (OpSure.take (v := arr m) (by kernel_rfl) (by kernel_rfl) (fun _ h => run_load_blk (by kernel_rfl) (h.get 1 rfl) Tryd.underlying26 rfl info26)) ?_
    refine AllSure.cons (sure_call (v := .string (bytesOf m)) (by kernel_rfl) (by kernel_rfl) enter13 HA.keep #[arr m] (by kernel_rfl) (fun w' h' => Bytes_any m w')) ?_
    refine AllSure.cons (OpSure.take (v := rarr m) (by kernel_rfl) (by kernel_rfl) (fun _ h => run_load_blk (by kernel_rfl) (h.get 0 rfl) Tryd.underlying30 rfl (info_rl _))) ?_
    refine AllSure.cons (sure_call (v := .string (bytesOf m)) (by kernel_rfl) (by kernel_rfl) enter14 HA.keep #[rarr m] (by kernel_rfl) (fun w' h' => rbytes_any m w')) ?_
    refine AllSure.cons (OpSure.take (v := .bool true) (by kernel_rfl) (by kernel_rfl) (fun _ _ => (run_eqs (s := bytesOf m) (t := bytesOf m) (by kernel_rfl) (by kernel_rfl) true (decide_eq_true rfl)))) ?_
    refine AllSure.cons (OpSure.take (v := .bool true) (by kernel_rfl) (by kernel_rfl) (fun _ _ => (by kernel_rfl))) ?_
    refine AllSure.cons (OpSure.take (v := .bool true) (by kernel_rfl) (by kernel_rfl) (fun _ _ => (by kernel_rfl))) ?_
    refine AllSure.cons (OpSure.take (v := arr m) (by kernel_rfl) (by kernel_rfl) (fun _ h => run_load_blk (by kernel_rfl) (h.get 1 rfl) Tryd.underlying26 rfl info26)) ?_
    refine AllSure.cons (sure_call (v := .bool true) (by kernel_rfl) (by kernel_rfl) enter15 HA.keep #[arr m] (by kernel_rfl) (fun w' h' => Odd_yes m hmo w')) ?_
    refine AllSure.cons (OpSure.take (v := rarr m) (by kernel_rfl) (by kernel_rfl) (fun _ h => run_load_blk (by kernel_rfl) (h.get 0 rfl) Tryd.underlying30 rfl (info_rl _))) ?_
    refine AllSure.cons (sure_call (v := .bool true) (by kernel_rfl) (by kernel_rfl) enter16 HA.keep #[rarr m] (by kernel_rfl) (fun w' h' => rodd_yes m hmo w')) ?_
    refine AllSure.cons (OpSure.take (v := .bool true) (by kernel_rfl) (by kernel_rfl) (fun _ _ => (run_eqb true true (by kernel_rfl) (by kernel_rfl)))) ?_
    refine AllSure.cons (OpSure.take (v := .bool true) (by kernel_rfl) (by kernel_rfl) (fun _ _ => (by kernel_rfl))) ?_
    refine AllSure.cons (OpSure.take (v := .bool true) (by kernel_rfl) (by kernel_rfl) (fun _ _ => (by kernel_rfl))) ?_
    refine AllSure.cons (OpSure.take (v := iN .u32 z) (by kernel_rfl) (by kernel_rfl) (fun _ _ => (by kernel_rfl))) ?_
    refine AllSure.cons (sure_call (v := arr z) (by kernel_rfl) (by kernel_rfl) enter17 HA.keep #[iN .u32 z] (by kernel_rfl) (fun w' h' => Small_any z hz w')) ?_
    refine AllSure.cons (sure_call (v := .string (bytesOf z)) (by kernel_rfl) (by kernel_rfl) enter13 HA.keep #[arr z] (by kernel_rfl) (fun w' h' => Bytes_any z w')) ?_
    refine AllSure.cons (OpSure.take (v := iN .u32 z) (by kernel_rfl) (by kernel_rfl) (fun _ _ => (by kernel_rfl))) ?_
    refine AllSure.cons (sure_call (v := rarr z) (by kernel_rfl) (by kernel_rfl) enter18 HA.keep #[iN .u32 z] (by kernel_rfl) (fun w' h' => rsmall_any z hz w')) ?_
    refine AllSure.cons (sure_call (v := .string (bytesOf z)) (by kernel_rfl) (by kernel_rfl) enter14 HA.keep #[rarr z] (by kernel_rfl) (fun w' h' => rbytes_any z w')) ?_
    refine AllSure.cons (OpSure.take (v := .bool true) (by kernel_rfl) (by kernel_rfl) (fun _ _ => (run_eqs (s := bytesOf z) (t := bytesOf z) (by kernel_rfl) (by kernel_rfl) true (decide_eq_true rfl)))) ?_
    refine AllSure.cons (OpSure.take (v := .bool true) (by kernel_rfl) (by kernel_rfl) (fun _ _ => (by kernel_rfl))) ?_
    refine AllSure.cons (OpSure.take (v := .bool true) (by kernel_rfl) (by kernel_rfl) (fun _ _ => (by kernel_rfl))) ?_
    refine AllSure.cons (OpSure.take (v := iN .u32 z) (by kernel_rfl) (by kernel_rfl) (fun _ _ => (by kernel_rfl))) ?_
    refine AllSure.cons (sure_call (v := arr z) (by kernel_rfl) (by kernel_rfl) enter17 HA.keep #[iN .u32 z] (by kernel_rfl) (fun w' h' => Small_any z hz w')) ?_
    refine AllSure.cons (sure_call (v := .bool true) (by kernel_rfl) (by kernel_rfl) enter15 HA.keep #[arr z] (by kernel_rfl) (fun w' h' => Odd_yes z hzo w')) ?_
    refine AllSure.cons (OpSure.take (v := iN .u32 z) (by kernel_rfl) (by kernel_rfl) (fun _ _ => (by kernel_rfl))) ?_
    refine AllSure.cons (OpSure.take (v := iN .u32 (z % 2)) (by kernel_rfl) (by kernel_rfl) (fun _ _ => (run_rem (k := .u32) (a := z) (b := 2) (by kernel_rfl) (by kernel_rfl) (by omega)))) ?_
    refine AllSure.cons (OpSure.take (v := .bool true) (by kernel_rfl) (by kernel_rfl) (fun _ _ => (run_eqi (k := .u32) (a := z % 2) (b := 1) (by kernel_rfl) (by kernel_rfl) true (decide_eq_true hzo)))) ?_
    refine AllSure.cons (OpSure.take (v := .bool true) (by kernel_rfl) (by kernel_rfl) (fun _ _ => (run_eqb true true (by kernel_rfl) (by kernel_rfl)))) ?_
    refine AllSure.cons (OpSure.take (v := .bool true) (by kernel_rfl) (by kernel_rfl) (fun _ _ => (by kernel_rfl))) ?_
    refine AllSure.cons (OpSure.take (v := .bool true) (by kernel_rfl) (by kernel_rfl) (fun _ _ => (by kernel_rfl))) ?_
    refine AllSure.cons (sure_call (v := .bool true) (by kernel_rfl) (by kernel_rfl) enter19 HA.keep #[] (by kernel_rfl) (fun w' h' => works_any w' (VV.out.below h'.old VV.out.big))) ?_
    refine AllSure.cons (OpSure.take (v := .bool true) (by kernel_rfl) (by kernel_rfl) (fun _ _ => (by kernel_rfl))) ?_
    refine AllSure.cons (OpSure.take (v := .bool true) (by kernel_rfl) (by kernel_rfl) (fun _ _ => (by kernel_rfl))) ?_
    exact AllSure.nil
  intro w15 h16
  refine then_at (F := ⟨(.string s :: iN .u32 z :: un :: un :: .bool true :: pt q3 :: .bool true :: pt q10 :: .bool true :: .tuple #[arr m, .bool true] :: .string s :: .tuple #[arr m, .bool true] :: arr m :: .bool true :: .tuple #[rarr m, .bool true] :: .string s :: .tuple #[rarr m, .bool true] :: rarr m :: .bool true :: .bool true :: .bool true :: .bool true :: .bool true :: arr m :: .string (bytesOf m) :: rarr m :: .string (bytesOf m) :: .bool true :: .bool true :: .bool true :: arr m :: .bool true :: rarr m :: .bool true :: .bool true :: .bool true :: .bool true :: iN .u32 z :: arr z :: .string (bytesOf z) :: iN .u32 z :: rarr z :: .string (bytesOf z) :: .bool true :: .bool true :: .bool true :: iN .u32 z :: arr z :: .bool true :: iN .u32 z :: iN .u32 (z % 2) :: .bool true :: .bool true :: .bool true :: .bool true :: .bool true :: .bool true :: List.replicate 0 un).toArray, []⟩) (by kernel_rfl) ?_
  refine wp_ret ?_
  repeat first | refine then_ret ?_ | refine block_ret ?_
  exact bodyPost_ret (v := .bool true) (by kernel_rfl) rfl ⟨rfl, h16.old⟩
theorem FieldReads_any (s : ByteArray) (z : Nat) (hz : z < 4294967296) (w : World) (V : Vars w) :
    Calls Tryd.prog 3 #[.string s, iN .u32 z] w fun e w' => e = .returned (.bool true) ∧ Below w.heap.size w w' := by
  have hzP : z < P := Nat.lt_trans hz (by decide)
  rcases Nat.mod_two_eq_zero_or_one z with hzo | hzo
  · cases ho : ofP s with
    | none => exact reads_n0 s z hz hzP ho hzo w V
    | some m =>
      rcases Nat.mod_two_eq_zero_or_one m with hmo | hmo
      · exact reads_00 s z hz hzP m ho (ofP_some ho).1 hmo hzo w V
      · exact reads_10 s z hz hzP m ho (ofP_some ho).1 hmo hzo w V
  · cases ho : ofP s with
    | none => exact reads_n1 s z hz hzP ho hzo w V
    | some m =>
      rcases Nat.mod_two_eq_zero_or_one m with hmo | hmo
      · exact reads_01 s z hz hzP m ho (ofP_some ho).1 hmo hzo w V
      · exact reads_11 s z hz hzP m ho (ofP_some ho).1 hmo hzo w V
end Go.Proofs.YtbmfmamhidccbaaDoor
