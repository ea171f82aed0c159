/-
  The reference's Arm, New.
-/
import Derived.Test.YtjedhnjjgmbcbaaR8
namespace Go.Proofs.Ytjedhnjjgmbcbaa
open Go.RowKit

set_option linter.unusedVariables false in
set_option maxRecDepth 100000 in
set_option maxHeartbeats 2000000 in
theorem rarm_d {w : World} {rm lf cz cf : Nat} {pf pz : Option Addr} {fs : List RF} {zs : List Nat} {N : BL} (hF : RFL (.slice pf fs.length cf) fs N) (hZ : RZL (.slice pz zs.length cz) zs N) (hS : Stand w N) (hfl : fs.length ≤ 1000) (hzl : zs.length ≤ 1000) (hlb : lf ≤ 9223372036854775807) (z : Int) :
    Calls Try.prog 19 #[.agg #[iN .i64 rm, .slice pf fs.length cf, .bool true, iN .i64 lf, .slice pz zs.length cz], .int .i64 z] w fun e w' => RO w w' N e rm fs true lf zs 16 := by
  have H0 := HA.start w
  go_enter Try.func19, Try.ntmps19
  refine wp_seq ?_
  refine wl_region ?_
  refine wl_make (c := #[iN .i64 rm, .slice pf fs.length cf, .bool true, iN .i64 lf, .slice pz zs.length cz]) H0 28 (by kernel_rfl) (by kernel_rfl) ?_
  intro q1 w2 (h3 : HA (bs w) [(q1, 28, #[iN .i64 rm, .slice pf fs.length cf, .bool true, iN .i64 lf, .slice pz zs.length cz])] w2)
  refine wl_make (c := #[iN .i64 0, .slice none 0 0, .bool false, iN .i64 0, .slice none 0 0]) h3 28 (by kernel_rfl) (by kernel_rfl) ?_
  intro q4 w5 (h6 : HA (bs w) [(q4, 28, #[iN .i64 0, .slice none 0 0, .bool false, iN .i64 0, .slice none 0 0]), (q1, 28, #[iN .i64 rm, .slice pf fs.length cf, .bool true, iN .i64 lf, .slice pz zs.length cz])] w5)
  refine wl_val (iN .i64 0) (by kernel_rfl) (by kernel_rfl) ?_
  refine wl_nil ?_
  refine then_at (F := ⟨(.agg #[iN .i64 rm, .slice pf fs.length cf, .bool true, iN .i64 lf, .slice pz zs.length cz] :: .int .i64 z :: pt q1 :: un :: pt q4 :: iN .i64 0 :: List.replicate 9 un).toArray, []⟩) (by kernel_rfl) ?_
  refine wp_seq ?_
  refine wp_seq ?_
  refine wl_region ?_
  refine wl_val (.pointer (some ⟨q1, 2, none⟩)) (by kernel_rfl) (by kernel_rfl) ?_
  refine wl_val (.bool true) (by kernel_rfl) (run_load1 (fun w => Try.isAgg4 w) (by kernel_rfl) (((h6.get 1 rfl).cell 2).trans rfl)) ?_
  refine wl_nil ?_
  refine then_at (F := ⟨(.agg #[iN .i64 rm, .slice pf fs.length cf, .bool true, iN .i64 lf, .slice pz zs.length cz] :: .int .i64 z :: pt q1 :: un :: pt q4 :: iN .i64 0 :: .pointer (some ⟨q1, 2, none⟩) :: .bool true :: List.replicate 7 un).toArray, []⟩) (by kernel_rfl) ?_
  refine wp_cond_true (by kernel_rfl) ?_
  refine wp_seq ?_
  refine wl_region ?_
  refine wl_load h6 1 rfl (by kernel_rfl) (by kernel_rfl) Try.underlying28 rfl (by kernel_rfl) ?_
  refine wl_fill (c' := #[iN .i64 rm, .slice pf fs.length cf, .bool true, iN .i64 lf, .slice pz zs.length cz]) h6 0 rfl (by kernel_rfl) (by kernel_rfl) (by kernel_rfl) rfl (by kernel_rfl) (by kernel_rfl) ?_
  intro w7 (h8 : HA (bs w) [(q4, 28, #[iN .i64 rm, .slice pf fs.length cf, .bool true, iN .i64 lf, .slice pz zs.length cz]), (q1, 28, #[iN .i64 rm, .slice pf fs.length cf, .bool true, iN .i64 lf, .slice pz zs.length cz])] w7)
  refine wl_val (iN .i64 16) (by kernel_rfl) (by kernel_rfl) ?_
  refine wl_nil ?_
  refine then_at (F := ⟨(.agg #[iN .i64 rm, .slice pf fs.length cf, .bool true, iN .i64 lf, .slice pz zs.length cz] :: .int .i64 z :: pt q1 :: un :: pt q4 :: iN .i64 16 :: .pointer (some ⟨q1, 2, none⟩) :: .bool true :: .agg (#[iN .i64 rm, .slice pf fs.length cf, .bool true, iN .i64 lf, .slice pz zs.length cz]) :: List.replicate 6 un).toArray, []⟩) (by kernel_rfl) ?_
  refine wp_ret ?_
  repeat first | refine then_ret ?_ | refine block_ret ?_
  exact bodyPost_ret (v := .tuple #[.agg (#[iN .i64 rm, .slice pf fs.length cf, .bool true, iN .i64 lf, .slice pz zs.length cz]), iN .i64 16]) (res_cell_tmp (p := 4) (r := 5) (by kernel_rfl) (by kernel_rfl) (by kernel_rfl) (h8.get 0 rfl) Try.underlying28 rfl (by kernel_rfl)) rfl ⟨pf, cf, pz, cz, [], rfl, hF, hZ, Newer.nil _ _, h8.old.old⟩
set_option linter.unusedVariables false in
set_option maxRecDepth 100000 in
set_option maxHeartbeats 2000000 in
theorem rarm_n {w : World} {rm lf cz cf : Nat} {pf pz : Option Addr} {fs : List RF} {zs : List Nat} {N : BL} (hF : RFL (.slice pf fs.length cf) fs N) (hZ : RZL (.slice pz zs.length cz) zs N) (hS : Stand w N) (hfl : fs.length ≤ 1000) (hzl : zs.length ≤ 1000) (hlb : lf ≤ 9223372036854775807) (z : Int) (hz : z < 0) :
    Calls Try.prog 19 #[.agg #[iN .i64 rm, .slice pf fs.length cf, .bool false, iN .i64 lf, .slice pz zs.length cz], .int .i64 z] w fun e w' => RO w w' N e rm fs false lf zs 2 := by
  have H0 := HA.start w
  go_enter Try.func19, Try.ntmps19
  refine wp_seq ?_
  refine wl_region ?_
  refine wl_make (c := #[iN .i64 rm, .slice pf fs.length cf, .bool false, iN .i64 lf, .slice pz zs.length cz]) H0 28 (by kernel_rfl) (by kernel_rfl) ?_
  intro q1 w2 (h3 : HA (bs w) [(q1, 28, #[iN .i64 rm, .slice pf fs.length cf, .bool false, iN .i64 lf, .slice pz zs.length cz])] w2)
  refine wl_make (c := #[iN .i64 0, .slice none 0 0, .bool false, iN .i64 0, .slice none 0 0]) h3 28 (by kernel_rfl) (by kernel_rfl) ?_
  intro q4 w5 (h6 : HA (bs w) [(q4, 28, #[iN .i64 0, .slice none 0 0, .bool false, iN .i64 0, .slice none 0 0]), (q1, 28, #[iN .i64 rm, .slice pf fs.length cf, .bool false, iN .i64 lf, .slice pz zs.length cz])] w5)
  refine wl_val (iN .i64 0) (by kernel_rfl) (by kernel_rfl) ?_
  refine wl_nil ?_
  refine then_at (F := ⟨(.agg #[iN .i64 rm, .slice pf fs.length cf, .bool false, iN .i64 lf, .slice pz zs.length cz] :: .int .i64 z :: pt q1 :: un :: pt q4 :: iN .i64 0 :: List.replicate 9 un).toArray, []⟩) (by kernel_rfl) ?_
  refine wp_seq ?_
  refine wp_seq ?_
  refine wl_region ?_
  refine wl_val (.pointer (some ⟨q1, 2, none⟩)) (by kernel_rfl) (by kernel_rfl) ?_
  refine wl_val (.bool false) (by kernel_rfl) (run_load1 (fun w => Try.isAgg4 w) (by kernel_rfl) (((h6.get 1 rfl).cell 2).trans rfl)) ?_
  refine wl_nil ?_
  refine then_at (F := ⟨(.agg #[iN .i64 rm, .slice pf fs.length cf, .bool false, iN .i64 lf, .slice pz zs.length cz] :: .int .i64 z :: pt q1 :: un :: pt q4 :: iN .i64 0 :: .pointer (some ⟨q1, 2, none⟩) :: .bool false :: List.replicate 7 un).toArray, []⟩) (by kernel_rfl) ?_
  refine wp_cond_false (by kernel_rfl) ?_
  refine wp_skip ?_
  refine then_at (F := ⟨(.agg #[iN .i64 rm, .slice pf fs.length cf, .bool false, iN .i64 lf, .slice pz zs.length cz] :: .int .i64 z :: pt q1 :: un :: pt q4 :: iN .i64 0 :: .pointer (some ⟨q1, 2, none⟩) :: .bool false :: List.replicate 7 un).toArray, []⟩) (by kernel_rfl) ?_
  refine wp_seq ?_
  refine wp_seq ?_
  refine wl_region ?_
  refine wl_val (.int .i64 z) (by kernel_rfl) (by kernel_rfl) ?_
  refine wl_val (.bool true) (by kernel_rfl) (run_ltz (a := z) (b := 0) (by kernel_rfl) (by kernel_rfl) true (decide_eq_true hz)) ?_
  refine wl_nil ?_
  refine then_at (F := ⟨(.agg #[iN .i64 rm, .slice pf fs.length cf, .bool false, iN .i64 lf, .slice pz zs.length cz] :: .int .i64 z :: pt q1 :: un :: pt q4 :: iN .i64 0 :: .pointer (some ⟨q1, 2, none⟩) :: .bool false :: un :: .int .i64 z :: .bool true :: List.replicate 4 un).toArray, []⟩) (by kernel_rfl) ?_
  refine wp_cond_true (by kernel_rfl) ?_
  refine wp_seq ?_
  refine wl_region ?_
  refine wl_load h6 1 rfl (by kernel_rfl) (by kernel_rfl) Try.underlying28 rfl (by kernel_rfl) ?_
  refine wl_fill (c' := #[iN .i64 rm, .slice pf fs.length cf, .bool false, iN .i64 lf, .slice pz zs.length cz]) h6 0 rfl (by kernel_rfl) (by kernel_rfl) (by kernel_rfl) rfl (by kernel_rfl) (by kernel_rfl) ?_
  intro w7 (h8 : HA (bs w) [(q4, 28, #[iN .i64 rm, .slice pf fs.length cf, .bool false, iN .i64 lf, .slice pz zs.length cz]), (q1, 28, #[iN .i64 rm, .slice pf fs.length cf, .bool false, iN .i64 lf, .slice pz zs.length cz])] w7)
  refine wl_val (iN .i64 2) (by kernel_rfl) (by kernel_rfl) ?_
  refine wl_nil ?_
  refine then_at (F := ⟨(.agg #[iN .i64 rm, .slice pf fs.length cf, .bool false, iN .i64 lf, .slice pz zs.length cz] :: .int .i64 z :: pt q1 :: un :: pt q4 :: iN .i64 2 :: .pointer (some ⟨q1, 2, none⟩) :: .bool false :: un :: .int .i64 z :: .bool true :: .agg (#[iN .i64 rm, .slice pf fs.length cf, .bool false, iN .i64 lf, .slice pz zs.length cz]) :: List.replicate 3 un).toArray, []⟩) (by kernel_rfl) ?_
  refine wp_ret ?_
  repeat first | refine then_ret ?_ | refine block_ret ?_
  exact bodyPost_ret (v := .tuple #[.agg (#[iN .i64 rm, .slice pf fs.length cf, .bool false, iN .i64 lf, .slice pz zs.length cz]), iN .i64 2]) (res_cell_tmp (p := 4) (r := 5) (by kernel_rfl) (by kernel_rfl) (by kernel_rfl) (h8.get 0 rfl) Try.underlying28 rfl (by kernel_rfl)) rfl ⟨pf, cf, pz, cz, [], rfl, hF, hZ, Newer.nil _ _, h8.old.old⟩
set_option linter.unusedVariables false in
set_option maxRecDepth 100000 in
set_option maxHeartbeats 2000000 in
theorem rarm_y {w : World} {rm lf cz cf : Nat} {pf pz : Option Addr} {fs : List RF} {zs : List Nat} {N : BL} (hF : RFL (.slice pf fs.length cf) fs N) (hZ : RZL (.slice pz zs.length cz) zs N) (hS : Stand w N) (hfl : fs.length ≤ 1000) (hzl : zs.length ≤ 1000) (hlb : lf ≤ 9223372036854775807) (n : Nat) (hz : ¬ (n : Int) < (0 : Nat)) :
    Calls Try.prog 19 #[.agg #[iN .i64 rm, .slice pf fs.length cf, .bool false, iN .i64 lf, .slice pz zs.length cz], iN .i64 n] w fun e w' => RO w w' N e rm fs false n zs 0 := by
  have H0 := HA.start w
  go_enter Try.func19, Try.ntmps19
  refine wp_seq ?_
  refine wl_region ?_
  refine wl_make (c := #[iN .i64 rm, .slice pf fs.length cf, .bool false, iN .i64 lf, .slice pz zs.length cz]) H0 28 (by kernel_rfl) (by kernel_rfl) ?_
  intro q1 w2 (h3 : HA (bs w) [(q1, 28, #[iN .i64 rm, .slice pf fs.length cf, .bool false, iN .i64 lf, .slice pz zs.length cz])] w2)
  refine wl_make (c := #[iN .i64 0, .slice none 0 0, .bool false, iN .i64 0, .slice none 0 0]) h3 28 (by kernel_rfl) (by kernel_rfl) ?_
  intro q4 w5 (h6 : HA (bs w) [(q4, 28, #[iN .i64 0, .slice none 0 0, .bool false, iN .i64 0, .slice none 0 0]), (q1, 28, #[iN .i64 rm, .slice pf fs.length cf, .bool false, iN .i64 lf, .slice pz zs.length cz])] w5)
  refine wl_val (iN .i64 0) (by kernel_rfl) (by kernel_rfl) ?_
  refine wl_nil ?_
  refine then_at (F := ⟨(.agg #[iN .i64 rm, .slice pf fs.length cf, .bool false, iN .i64 lf, .slice pz zs.length cz] :: iN .i64 n :: pt q1 :: un :: pt q4 :: iN .i64 0 :: List.replicate 9 un).toArray, []⟩) (by kernel_rfl) ?_
  refine wp_seq ?_
  refine wp_seq ?_
  refine wl_region ?_
  refine wl_val (.pointer (some ⟨q1, 2, none⟩)) (by kernel_rfl) (by kernel_rfl) ?_
  refine wl_val (.bool false) (by kernel_rfl) (run_load1 (fun w => Try.isAgg4 w) (by kernel_rfl) (((h6.get 1 rfl).cell 2).trans rfl)) ?_
  refine wl_nil ?_
  refine then_at (F := ⟨(.agg #[iN .i64 rm, .slice pf fs.length cf, .bool false, iN .i64 lf, .slice pz zs.length cz] :: iN .i64 n :: pt q1 :: un :: pt q4 :: iN .i64 0 :: .pointer (some ⟨q1, 2, none⟩) :: .bool false :: List.replicate 7 un).toArray, []⟩) (by kernel_rfl) ?_
  refine wp_cond_false (by kernel_rfl) ?_
  refine wp_skip ?_
  refine then_at (F := ⟨(.agg #[iN .i64 rm, .slice pf fs.length cf, .bool false, iN .i64 lf, .slice pz zs.length cz] :: iN .i64 n :: pt q1 :: un :: pt q4 :: iN .i64 0 :: .pointer (some ⟨q1, 2, none⟩) :: .bool false :: List.replicate 7 un).toArray, []⟩) (by kernel_rfl) ?_
  refine wp_seq ?_
  refine wp_seq ?_
  refine wl_region ?_
  refine wl_val (iN .i64 n) (by kernel_rfl) (by kernel_rfl) ?_
  refine wl_val (.bool false) (by kernel_rfl) (run_ltz (a := (n : Int)) (b := 0) (by kernel_rfl) (by kernel_rfl) false (decide_eq_false hz)) ?_
  refine wl_nil ?_
  refine then_at (F := ⟨(.agg #[iN .i64 rm, .slice pf fs.length cf, .bool false, iN .i64 lf, .slice pz zs.length cz] :: iN .i64 n :: pt q1 :: un :: pt q4 :: iN .i64 0 :: .pointer (some ⟨q1, 2, none⟩) :: .bool false :: un :: iN .i64 n :: .bool false :: List.replicate 4 un).toArray, []⟩) (by kernel_rfl) ?_
  refine wp_cond_false (by kernel_rfl) ?_
  refine wp_skip ?_
  refine then_at (F := ⟨(.agg #[iN .i64 rm, .slice pf fs.length cf, .bool false, iN .i64 lf, .slice pz zs.length cz] :: iN .i64 n :: pt q1 :: un :: pt q4 :: iN .i64 0 :: .pointer (some ⟨q1, 2, none⟩) :: .bool false :: un :: iN .i64 n :: .bool false :: List.replicate 4 un).toArray, []⟩) (by kernel_rfl) ?_
  refine wp_seq ?_
  refine wl_region ?_
  refine wl_val (iN .i64 n) (by kernel_rfl) (by kernel_rfl) ?_
  refine wl_val (.pointer (some ⟨q1, 3, none⟩)) (by kernel_rfl) (by kernel_rfl) ?_
  refine wl_putv (v := iN .i64 n) h6 1 rfl 3 (by show 3 < 5; decide) (by kernel_rfl) (fun w => Try.sizeOf3 w) (by kernel_rfl) (by kernel_rfl) (by kernel_rfl) ?_
  intro w7 (h8 : HA (bs w) [(q4, 28, #[iN .i64 0, .slice none 0 0, .bool false, iN .i64 0, .slice none 0 0]), (q1, 28, #[iN .i64 rm, .slice pf fs.length cf, .bool false, iN .i64 n, .slice pz zs.length cz])] w7)
  refine wl_nil ?_
  refine then_at (F := ⟨(.agg #[iN .i64 rm, .slice pf fs.length cf, .bool false, iN .i64 lf, .slice pz zs.length cz] :: iN .i64 n :: pt q1 :: un :: pt q4 :: iN .i64 0 :: .pointer (some ⟨q1, 2, none⟩) :: .bool false :: un :: iN .i64 n :: .bool false :: un :: iN .i64 n :: .pointer (some ⟨q1, 3, none⟩) :: List.replicate 1 un).toArray, []⟩) (by kernel_rfl) ?_
  refine wp_seq ?_
  refine wl_region ?_
  refine wl_load h8 1 rfl (by kernel_rfl) (by kernel_rfl) Try.underlying28 rfl (by kernel_rfl) ?_
  refine wl_fill (c' := #[iN .i64 rm, .slice pf fs.length cf, .bool false, iN .i64 n, .slice pz zs.length cz]) h8 0 rfl (by kernel_rfl) (by kernel_rfl) (by kernel_rfl) rfl (by kernel_rfl) (by kernel_rfl) ?_
  intro w9 (h10 : HA (bs w) [(q4, 28, #[iN .i64 rm, .slice pf fs.length cf, .bool false, iN .i64 n, .slice pz zs.length cz]), (q1, 28, #[iN .i64 rm, .slice pf fs.length cf, .bool false, iN .i64 n, .slice pz zs.length cz])] w9)
  refine wl_val (iN .i64 0) (by kernel_rfl) (by kernel_rfl) ?_
  refine wl_nil ?_
  refine then_at (F := ⟨(.agg #[iN .i64 rm, .slice pf fs.length cf, .bool false, iN .i64 lf, .slice pz zs.length cz] :: iN .i64 n :: pt q1 :: un :: pt q4 :: iN .i64 0 :: .pointer (some ⟨q1, 2, none⟩) :: .bool false :: un :: iN .i64 n :: .bool false :: un :: iN .i64 n :: .pointer (some ⟨q1, 3, none⟩) :: .agg (#[iN .i64 rm, .slice pf fs.length cf, .bool false, iN .i64 n, .slice pz zs.length cz]) :: List.replicate 0 un).toArray, []⟩) (by kernel_rfl) ?_
  refine wp_ret ?_
  repeat first | refine then_ret ?_ | refine block_ret ?_
  exact bodyPost_ret (v := .tuple #[.agg (#[iN .i64 rm, .slice pf fs.length cf, .bool false, iN .i64 n, .slice pz zs.length cz]), iN .i64 0]) (res_cell_tmp (p := 4) (r := 5) (by kernel_rfl) (by kernel_rfl) (by kernel_rfl) (h10.get 0 rfl) Try.underlying28 rfl (by kernel_rfl)) rfl ⟨pf, cf, pz, cz, [], rfl, hF, hZ, Newer.nil _ _, h10.old.old⟩
set_option linter.unusedVariables false in
set_option maxRecDepth 100000 in
set_option maxHeartbeats 2000000 in
theorem rnew_any {w : World} (z : Int) :
    Calls Try.prog 8 #[.int .i64 z] w fun e w' => e = .returned (.agg #[iN .i64 z.toNat, .slice none 0 0, .bool false, iN .i64 0, .slice none 0 0]) ∧ Below w.heap.size w w' := by
  have H0 := HA.start w
  go_enter Try.func8, Try.ntmps8
  refine wp_seq ?_
  refine wl_region ?_
  refine wl_make (c := #[iN .i64 0, .slice none 0 0, .bool false, iN .i64 0, .slice none 0 0]) H0 28 (by kernel_rfl) (by kernel_rfl) ?_
  intro q1 w2 (h3 : HA (bs w) [(q1, 28, #[iN .i64 0, .slice none 0 0, .bool false, iN .i64 0, .slice none 0 0])] w2)
  refine wl_nil ?_
  refine then_at (F := ⟨(.int .i64 z :: un :: pt q1 :: List.replicate 3 un).toArray, []⟩) (by kernel_rfl) ?_
  refine wp_seq ?_
  refine wl_region ?_
  refine wl_val (.int .i64 z) (by kernel_rfl) (by kernel_rfl) ?_
  refine wl_val (iN .i64 z.toNat) (by kernel_rfl) (run_maxz (z := z) (by kernel_rfl) (by kernel_rfl)) ?_
  refine wl_val (.agg #[iN .i64 z.toNat, .slice none 0 0, .bool false, iN .i64 0, .slice none 0 0]) (by kernel_rfl) (by kernel_rfl) ?_
  refine wl_fill (c' := #[iN .i64 z.toNat, .slice none 0 0, .bool false, iN .i64 0, .slice none 0 0]) h3 0 rfl (by kernel_rfl) (by kernel_rfl) (by kernel_rfl) rfl (by kernel_rfl) (by kernel_rfl) ?_
  intro w4 (h5 : HA (bs w) [(q1, 28, #[iN .i64 z.toNat, .slice none 0 0, .bool false, iN .i64 0, .slice none 0 0])] w4)
  refine wl_nil ?_
  refine then_at (F := ⟨(.int .i64 z :: un :: pt q1 :: .int .i64 z :: iN .i64 z.toNat :: .agg #[iN .i64 z.toNat, .slice none 0 0, .bool false, iN .i64 0, .slice none 0 0] :: List.replicate 0 un).toArray, []⟩) (by kernel_rfl) ?_
  refine wp_ret ?_
  repeat first | refine then_ret ?_ | refine block_ret ?_
  exact bodyPost_ret (v := .agg (#[iN .i64 z.toNat, .slice none 0 0, .bool false, iN .i64 0, .slice none 0 0])) (res_cell (p := 2) (by kernel_rfl) (by kernel_rfl) (h5.get 0 rfl) Try.underlying28 rfl (by kernel_rfl)) rfl ⟨rfl, h5.old.old⟩
end Go.Proofs.Ytjedhnjjgmbcbaa
