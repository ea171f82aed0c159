/-
  The reference's Rename, Arm, New.
-/
import Derived.Test.YtjedhnjjgmbcbaaR7
namespace Go.Proofs.Ytjedhnjjgmbcbaa
open Go.RowKit

set_option linter.unusedVariables false in
set_option maxRecDepth 100000 in
set_option maxHeartbeats 2000000 in
theorem rren_g {w : World} {rm lf cz cf : Nat} {pf pz : Option Addr} {fs : List RF} {zs : List Nat} {N : BL} {dn : Bool} (hF : RFL (.slice pf fs.length cf) fs N) (hZ : RZL (.slice pz zs.length cz) zs N) (hS : Stand w N) (hfl : fs.length ≤ 1000) (hzl : zs.length ≤ 1000) (hlb : lf ≤ 9223372036854775807) (s to : ByteArray) {l' : Nat} {d' : Bool} (hg : gateL dn lf = (l', d', false)) :
    Calls Try.prog 15 #[.agg #[iN .i64 rm, .slice pf fs.length cf, .bool dn, iN .i64 lf, .slice pz zs.length cz], .string s, .string to] w fun e w' => RO w w' N e rm fs d' l' zs 16 := by
  have H0 := HA.start w
  go_enter Try.func15, Try.ntmps15
  refine wp_seq ?_
  refine wl_region ?_
  refine wl_make (c := #[iN .i64 rm, .slice pf fs.length cf, .bool dn, iN .i64 lf, .slice pz zs.length cz]) H0 28 (by kernel_rfl) (by kernel_rfl) ?_
  intro q1 w2 (h3 : HA (bs w) [(q1, 28, #[iN .i64 rm, .slice pf fs.length cf, .bool dn, iN .i64 lf, .slice pz zs.length cz])] w2)
  refine wl_make (c := #[iN .i64 0, .slice none 0 0, .bool false, iN .i64 0, .slice none 0 0]) h3 28 (by kernel_rfl) (by kernel_rfl) ?_
  intro q4 w5 (h6 : HA (bs w) [(q4, 28, #[iN .i64 0, .slice none 0 0, .bool false, iN .i64 0, .slice none 0 0]), (q1, 28, #[iN .i64 rm, .slice pf fs.length cf, .bool dn, iN .i64 lf, .slice pz zs.length cz])] w5)
  refine wl_val (iN .i64 0) (by kernel_rfl) (by kernel_rfl) ?_
  refine wl_nil ?_
  refine then_at rfl ?_
  refine wp_seq ?_
  refine wl_region ?_
  refine wl_load h6 1 rfl (by kernel_rfl) (by kernel_rfl) Try.underlying28 rfl (by kernel_rfl) ?_
  refine wl_call (v := .tuple #[.agg #[iN .i64 rm, .slice pf fs.length cf, .bool d', iN .i64 l', .slice pz zs.length cz], .bool false]) h6 (by kernel_rfl) enter36 #[.agg (#[iN .i64 rm, .slice pf fs.length cf, .bool dn, iN .i64 lf, .slice pz zs.length cz])] (by kernel_rfl) (by have hh := gate_any (rm := rm) (nf := fs.length) (cf := cf) (nz := zs.length) (cz := cz) (pf := pf) (pz := pz) (w := w5) dn hlb; rw [hg] at hh; exact hh) ?_
  intro w7 h8
  refine wl_val (.tuple #[.agg #[iN .i64 rm, .slice pf fs.length cf, .bool d', iN .i64 l', .slice pz zs.length cz], .bool false]) (by kernel_rfl) (by kernel_rfl) ?_
  refine wl_val (.agg #[iN .i64 rm, .slice pf fs.length cf, .bool d', iN .i64 l', .slice pz zs.length cz]) (by kernel_rfl) (by kernel_rfl) ?_
  refine wl_val (.bool false) (by kernel_rfl) (by kernel_rfl) ?_
  refine wl_fill (c' := #[iN .i64 rm, .slice pf fs.length cf, .bool d', iN .i64 l', .slice pz zs.length cz]) h8 1 rfl (by kernel_rfl) (by kernel_rfl) (by kernel_rfl) rfl (by kernel_rfl) (by kernel_rfl) ?_
  intro w9 (h10 : HA (bs w) [(q4, 28, #[iN .i64 0, .slice none 0 0, .bool false, iN .i64 0, .slice none 0 0]), (q1, 28, #[iN .i64 rm, .slice pf fs.length cf, .bool d', iN .i64 l', .slice pz zs.length cz])] w9)
  refine wl_val (.bool false) (by kernel_rfl) (by kernel_rfl) ?_
  refine wl_nil ?_
  refine then_at rfl ?_
  refine wp_seq ?_
  refine wp_seq ?_
  refine wl_region ?_
  refine wl_val (.bool false) (by kernel_rfl) (by kernel_rfl) ?_
  refine wl_val (.bool true) (by kernel_rfl) (by kernel_rfl) ?_
  refine wl_nil ?_
  refine then_at rfl ?_
  refine wp_cond_true (by kernel_rfl) ?_
  refine wp_seq ?_
  refine wl_region ?_
  refine wl_load h10 1 rfl (by kernel_rfl) (by kernel_rfl) Try.underlying28 rfl (by kernel_rfl) ?_
  refine wl_fill (c' := #[iN .i64 rm, .slice pf fs.length cf, .bool d', iN .i64 l', .slice pz zs.length cz]) h10 0 rfl (by kernel_rfl) (by kernel_rfl) (by kernel_rfl) rfl (by kernel_rfl) (by kernel_rfl) ?_
  intro w11 (h12 : HA (bs w) [(q4, 28, #[iN .i64 rm, .slice pf fs.length cf, .bool d', iN .i64 l', .slice pz zs.length cz]), (q1, 28, #[iN .i64 rm, .slice pf fs.length cf, .bool d', iN .i64 l', .slice pz zs.length cz])] w11)
  refine wl_val (iN .i64 16) (by kernel_rfl) (by kernel_rfl) ?_
  refine wl_nil ?_
  refine then_at rfl ?_
  refine wp_ret ?_
  repeat first | refine then_ret ?_ | refine block_ret ?_
  exact bodyPost_ret (v := .tuple #[.agg (#[iN .i64 rm, .slice pf fs.length cf, .bool d', iN .i64 l', .slice pz zs.length cz]), iN .i64 16]) (res_cell_tmp (p := 6) (r := 7) (by kernel_rfl) (by kernel_rfl) (by kernel_rfl) (h12.get 0 rfl) Try.underlying28 rfl (by kernel_rfl)) rfl ⟨pf, cf, pz, cz, [], rfl, hF, hZ, Newer.nil _ _, h12.old.old⟩
set_option linter.unusedVariables false in
set_option maxRecDepth 100000 in
set_option maxHeartbeats 2000000 in
theorem rren_n {w : World} {rm lf cz cf : Nat} {pf pz : Option Addr} {fs : List RF} {zs : List Nat} {N : BL} {dn : Bool} (hF : RFL (.slice pf fs.length cf) fs N) (hZ : RZL (.slice pz zs.length cz) zs N) (hS : Stand w N) (hfl : fs.length ≤ 1000) (hzl : zs.length ≤ 1000) (hlb : lf ≤ 9223372036854775807) (s to : ByteArray) {l' : Nat} (hg : gateL dn lf = (l', false, true)) {i0 : Nat} (hfr : findR fs s = (i0, false)) :
    Calls Try.prog 15 #[.agg #[iN .i64 rm, .slice pf fs.length cf, .bool dn, iN .i64 lf, .slice pz zs.length cz], .string s, .string to] w fun e w' => RO w w' N e rm fs false l' zs 5 := by
  have H0 := HA.start w
  go_enter Try.func15, Try.ntmps15
  refine wp_seq ?_
  refine wl_region ?_
  refine wl_make (c := #[iN .i64 rm, .slice pf fs.length cf, .bool dn, iN .i64 lf, .slice pz zs.length cz]) H0 28 (by kernel_rfl) (by kernel_rfl) ?_
  intro q1 w2 (h3 : HA (bs w) [(q1, 28, #[iN .i64 rm, .slice pf fs.length cf, .bool dn, iN .i64 lf, .slice pz zs.length cz])] w2)
  refine wl_make (c := #[iN .i64 0, .slice none 0 0, .bool false, iN .i64 0, .slice none 0 0]) h3 28 (by kernel_rfl) (by kernel_rfl) ?_
  intro q4 w5 (h6 : HA (bs w) [(q4, 28, #[iN .i64 0, .slice none 0 0, .bool false, iN .i64 0, .slice none 0 0]), (q1, 28, #[iN .i64 rm, .slice pf fs.length cf, .bool dn, iN .i64 lf, .slice pz zs.length cz])] w5)
  refine wl_val (iN .i64 0) (by kernel_rfl) (by kernel_rfl) ?_
  refine wl_nil ?_
  refine then_at rfl ?_
  refine wp_seq ?_
  refine wl_region ?_
  refine wl_load h6 1 rfl (by kernel_rfl) (by kernel_rfl) Try.underlying28 rfl (by kernel_rfl) ?_
  refine wl_call (v := .tuple #[.agg #[iN .i64 rm, .slice pf fs.length cf, .bool false, iN .i64 l', .slice pz zs.length cz], .bool true]) h6 (by kernel_rfl) enter36 #[.agg (#[iN .i64 rm, .slice pf fs.length cf, .bool dn, iN .i64 lf, .slice pz zs.length cz])] (by kernel_rfl) (by have hh := gate_any (rm := rm) (nf := fs.length) (cf := cf) (nz := zs.length) (cz := cz) (pf := pf) (pz := pz) (w := w5) dn hlb; rw [hg] at hh; exact hh) ?_
  intro w7 h8
  refine wl_val (.tuple #[.agg #[iN .i64 rm, .slice pf fs.length cf, .bool false, iN .i64 l', .slice pz zs.length cz], .bool true]) (by kernel_rfl) (by kernel_rfl) ?_
  refine wl_val (.agg #[iN .i64 rm, .slice pf fs.length cf, .bool false, iN .i64 l', .slice pz zs.length cz]) (by kernel_rfl) (by kernel_rfl) ?_
  refine wl_val (.bool true) (by kernel_rfl) (by kernel_rfl) ?_
  refine wl_fill (c' := #[iN .i64 rm, .slice pf fs.length cf, .bool false, iN .i64 l', .slice pz zs.length cz]) h8 1 rfl (by kernel_rfl) (by kernel_rfl) (by kernel_rfl) rfl (by kernel_rfl) (by kernel_rfl) ?_
  intro w9 (h10 : HA (bs w) [(q4, 28, #[iN .i64 0, .slice none 0 0, .bool false, iN .i64 0, .slice none 0 0]), (q1, 28, #[iN .i64 rm, .slice pf fs.length cf, .bool false, iN .i64 l', .slice pz zs.length cz])] w9)
  refine wl_val (.bool true) (by kernel_rfl) (by kernel_rfl) ?_
  refine wl_nil ?_
  refine then_at rfl ?_
  refine wp_seq ?_
  refine wp_seq ?_
  refine wl_region ?_
  refine wl_val (.bool true) (by kernel_rfl) (by kernel_rfl) ?_
  refine wl_val (.bool false) (by kernel_rfl) (by kernel_rfl) ?_
  refine wl_nil ?_
  refine then_at rfl ?_
  refine wp_cond_false (by kernel_rfl) ?_
  refine wp_skip ?_
  refine then_at rfl ?_
  refine wp_seq ?_
  refine wl_region ?_
  refine wl_load h10 1 rfl (by kernel_rfl) (by kernel_rfl) Try.underlying28 rfl (by kernel_rfl) ?_
  refine wl_val (.string s) (by kernel_rfl) (by kernel_rfl) ?_
  refine wl_call (v := .tuple #[iN .i64 i0, .bool false]) h10 (by kernel_rfl) enter39 #[.agg (#[iN .i64 rm, .slice pf fs.length cf, .bool false, iN .i64 l', .slice pz zs.length cz]), .string s] (by kernel_rfl) (by have hh := rfind_any (lf := l') (rm := rm) (nz := zs.length) (cz := cz) (pz := pz) (dn := false) hF (hS.keep h10.old.old) (by omega) s; rw [hfr] at hh; exact hh) ?_
  intro w11 h12
  refine wl_val (.tuple #[iN .i64 i0, .bool false]) (by kernel_rfl) (by kernel_rfl) ?_
  refine wl_val (iN .i64 i0) (by kernel_rfl) (by kernel_rfl) ?_
  refine wl_val (.bool false) (by kernel_rfl) (by kernel_rfl) ?_
  refine wl_val (iN .i64 i0) (by kernel_rfl) (by kernel_rfl) ?_
  refine wl_val (.bool false) (by kernel_rfl) (by kernel_rfl) ?_
  refine wl_nil ?_
  refine then_at rfl ?_
  refine wp_seq ?_
  refine wp_seq ?_
  refine wl_region ?_
  refine wl_val (.bool false) (by kernel_rfl) (by kernel_rfl) ?_
  refine wl_val (.bool true) (by kernel_rfl) (by kernel_rfl) ?_
  refine wl_nil ?_
  refine then_at (F := ⟨(.agg #[iN .i64 rm, .slice pf fs.length cf, .bool dn, iN .i64 lf, .slice pz zs.length cz] :: .string s :: .string to :: pt q1 :: un :: un :: pt q4 :: iN .i64 0 :: .bool true :: iN .i64 i0 :: .bool false :: un :: .tuple #[.agg #[iN .i64 rm, .slice pf fs.length cf, .bool false, iN .i64 l', .slice pz zs.length cz], .bool true] :: .agg (#[iN .i64 rm, .slice pf fs.length cf, .bool dn, iN .i64 lf, .slice pz zs.length cz]) :: .tuple #[.agg #[iN .i64 rm, .slice pf fs.length cf, .bool false, iN .i64 l', .slice pz zs.length cz], .bool true] :: .agg #[iN .i64 rm, .slice pf fs.length cf, .bool false, iN .i64 l', .slice pz zs.length cz] :: .bool true :: .bool true :: .bool false :: un :: .tuple #[iN .i64 i0, .bool false] :: .agg (#[iN .i64 rm, .slice pf fs.length cf, .bool false, iN .i64 l', .slice pz zs.length cz]) :: .string s :: .tuple #[iN .i64 i0, .bool false] :: iN .i64 i0 :: .bool false :: .bool false :: .bool true :: List.replicate 18 un).toArray, []⟩) (by kernel_rfl) ?_
  refine wp_cond_true (by kernel_rfl) ?_
  refine wp_seq ?_
  refine wl_region ?_
  refine wl_load h12 1 rfl (by kernel_rfl) (by kernel_rfl) Try.underlying28 rfl (by kernel_rfl) ?_
  refine wl_fill (c' := #[iN .i64 rm, .slice pf fs.length cf, .bool false, iN .i64 l', .slice pz zs.length cz]) h12 0 rfl (by kernel_rfl) (by kernel_rfl) (by kernel_rfl) rfl (by kernel_rfl) (by kernel_rfl) ?_
  intro w13 (h14 : HA (bs w) [(q4, 28, #[iN .i64 rm, .slice pf fs.length cf, .bool false, iN .i64 l', .slice pz zs.length cz]), (q1, 28, #[iN .i64 rm, .slice pf fs.length cf, .bool false, iN .i64 l', .slice pz zs.length cz])] w13)
  refine wl_val (iN .i64 5) (by kernel_rfl) (by kernel_rfl) ?_
  refine wl_nil ?_
  refine then_at rfl ?_
  refine wp_ret ?_
  repeat first | refine then_ret ?_ | refine block_ret ?_
  exact bodyPost_ret (v := .tuple #[.agg (#[iN .i64 rm, .slice pf fs.length cf, .bool false, iN .i64 l', .slice pz zs.length cz]), iN .i64 5]) (res_cell_tmp (p := 6) (r := 7) (by kernel_rfl) (by kernel_rfl) (by kernel_rfl) (h14.get 0 rfl) Try.underlying28 rfl (by kernel_rfl)) rfl ⟨pf, cf, pz, cz, [], rfl, hF, hZ, Newer.nil _ _, h14.old.old⟩
set_option linter.unusedVariables false in
set_option maxRecDepth 100000 in
set_option maxHeartbeats 2000000 in
theorem rren_a {w : World} {rm lf cz cf : Nat} {pf pz : Option Addr} {fs : List RF} {zs : List Nat} {N : BL} {dn : Bool} (hF : RFL (.slice pf fs.length cf) fs N) (hZ : RZL (.slice pz zs.length cz) zs N) (hS : Stand w N) (hfl : fs.length ≤ 1000) (hzl : zs.length ≤ 1000) (hlb : lf ≤ 9223372036854775807) (s to : ByteArray) {l' : Nat} (hg : gateL dn lf = (l', false, true)) {i0 : Nat} (hfr : findR fs s = (i0, true)) (hnm : ¬ (1 ≤ to.size ∧ to.size ≤ 64)) :
    Calls Try.prog 15 #[.agg #[iN .i64 rm, .slice pf fs.length cf, .bool dn, iN .i64 lf, .slice pz zs.length cz], .string s, .string to] w fun e w' => RO w w' N e rm fs false l' zs 2 := by
  have H0 := HA.start w
  go_enter Try.func15, Try.ntmps15
  refine wp_seq ?_
  refine wl_region ?_
  refine wl_make (c := #[iN .i64 rm, .slice pf fs.length cf, .bool dn, iN .i64 lf, .slice pz zs.length cz]) H0 28 (by kernel_rfl) (by kernel_rfl) ?_
  intro q1 w2 (h3 : HA (bs w) [(q1, 28, #[iN .i64 rm, .slice pf fs.length cf, .bool dn, iN .i64 lf, .slice pz zs.length cz])] w2)
  refine wl_make (c := #[iN .i64 0, .slice none 0 0, .bool false, iN .i64 0, .slice none 0 0]) h3 28 (by kernel_rfl) (by kernel_rfl) ?_
  intro q4 w5 (h6 : HA (bs w) [(q4, 28, #[iN .i64 0, .slice none 0 0, .bool false, iN .i64 0, .slice none 0 0]), (q1, 28, #[iN .i64 rm, .slice pf fs.length cf, .bool dn, iN .i64 lf, .slice pz zs.length cz])] w5)
  refine wl_val (iN .i64 0) (by kernel_rfl) (by kernel_rfl) ?_
  refine wl_nil ?_
  refine then_at rfl ?_
  refine wp_seq ?_
  refine wl_region ?_
  refine wl_load h6 1 rfl (by kernel_rfl) (by kernel_rfl) Try.underlying28 rfl (by kernel_rfl) ?_
  refine wl_call (v := .tuple #[.agg #[iN .i64 rm, .slice pf fs.length cf, .bool false, iN .i64 l', .slice pz zs.length cz], .bool true]) h6 (by kernel_rfl) enter36 #[.agg (#[iN .i64 rm, .slice pf fs.length cf, .bool dn, iN .i64 lf, .slice pz zs.length cz])] (by kernel_rfl) (by have hh := gate_any (rm := rm) (nf := fs.length) (cf := cf) (nz := zs.length) (cz := cz) (pf := pf) (pz := pz) (w := w5) dn hlb; rw [hg] at hh; exact hh) ?_
  intro w7 h8
  refine wl_val (.tuple #[.agg #[iN .i64 rm, .slice pf fs.length cf, .bool false, iN .i64 l', .slice pz zs.length cz], .bool true]) (by kernel_rfl) (by kernel_rfl) ?_
  refine wl_val (.agg #[iN .i64 rm, .slice pf fs.length cf, .bool false, iN .i64 l', .slice pz zs.length cz]) (by kernel_rfl) (by kernel_rfl) ?_
  refine wl_val (.bool true) (by kernel_rfl) (by kernel_rfl) ?_
  refine wl_fill (c' := #[iN .i64 rm, .slice pf fs.length cf, .bool false, iN .i64 l', .slice pz zs.length cz]) h8 1 rfl (by kernel_rfl) (by kernel_rfl) (by kernel_rfl) rfl (by kernel_rfl) (by kernel_rfl) ?_
  intro w9 (h10 : HA (bs w) [(q4, 28, #[iN .i64 0, .slice none 0 0, .bool false, iN .i64 0, .slice none 0 0]), (q1, 28, #[iN .i64 rm, .slice pf fs.length cf, .bool false, iN .i64 l', .slice pz zs.length cz])] w9)
  refine wl_val (.bool true) (by kernel_rfl) (by kernel_rfl) ?_
  refine wl_nil ?_
  refine then_at rfl ?_
  refine wp_seq ?_
  refine wp_seq ?_
  refine wl_region ?_
  refine wl_val (.bool true) (by kernel_rfl) (by kernel_rfl) ?_
  refine wl_val (.bool false) (by kernel_rfl) (by kernel_rfl) ?_
  refine wl_nil ?_
  refine then_at rfl ?_
  refine wp_cond_false (by kernel_rfl) ?_
  refine wp_skip ?_
  refine then_at rfl ?_
  refine wp_seq ?_
  refine wl_region ?_
  refine wl_load h10 1 rfl (by kernel_rfl) (by kernel_rfl) Try.underlying28 rfl (by kernel_rfl) ?_
  refine wl_val (.string s) (by kernel_rfl) (by kernel_rfl) ?_
  refine wl_call (v := .tuple #[iN .i64 i0, .bool true]) h10 (by kernel_rfl) enter39 #[.agg (#[iN .i64 rm, .slice pf fs.length cf, .bool false, iN .i64 l', .slice pz zs.length cz]), .string s] (by kernel_rfl) (by have hh := rfind_any (lf := l') (rm := rm) (nz := zs.length) (cz := cz) (pz := pz) (dn := false) hF (hS.keep h10.old.old) (by omega) s; rw [hfr] at hh; exact hh) ?_
  intro w11 h12
  refine wl_val (.tuple #[iN .i64 i0, .bool true]) (by kernel_rfl) (by kernel_rfl) ?_
  refine wl_val (iN .i64 i0) (by kernel_rfl) (by kernel_rfl) ?_
  refine wl_val (.bool true) (by kernel_rfl) (by kernel_rfl) ?_
  refine wl_val (iN .i64 i0) (by kernel_rfl) (by kernel_rfl) ?_
  refine wl_val (.bool true) (by kernel_rfl) (by kernel_rfl) ?_
  refine wl_nil ?_
  refine then_at rfl ?_
  refine wp_seq ?_
  refine wp_seq ?_
  refine wl_region ?_
  refine wl_val (.bool true) (by kernel_rfl) (by kernel_rfl) ?_
  refine wl_val (.bool false) (by kernel_rfl) (by kernel_rfl) ?_
  refine wl_nil ?_
  refine then_at (F := ⟨(.agg #[iN .i64 rm, .slice pf fs.length cf, .bool dn, iN .i64 lf, .slice pz zs.length cz] :: .string s :: .string to :: pt q1 :: un :: un :: pt q4 :: iN .i64 0 :: .bool true :: iN .i64 i0 :: .bool true :: un :: .tuple #[.agg #[iN .i64 rm, .slice pf fs.length cf, .bool false, iN .i64 l', .slice pz zs.length cz], .bool true] :: .agg (#[iN .i64 rm, .slice pf fs.length cf, .bool dn, iN .i64 lf, .slice pz zs.length cz]) :: .tuple #[.agg #[iN .i64 rm, .slice pf fs.length cf, .bool false, iN .i64 l', .slice pz zs.length cz], .bool true] :: .agg #[iN .i64 rm, .slice pf fs.length cf, .bool false, iN .i64 l', .slice pz zs.length cz] :: .bool true :: .bool true :: .bool false :: un :: .tuple #[iN .i64 i0, .bool true] :: .agg (#[iN .i64 rm, .slice pf fs.length cf, .bool false, iN .i64 l', .slice pz zs.length cz]) :: .string s :: .tuple #[iN .i64 i0, .bool true] :: iN .i64 i0 :: .bool true :: .bool true :: .bool false :: List.replicate 18 un).toArray, []⟩) (by kernel_rfl) ?_
  refine wp_cond_false (by kernel_rfl) ?_
  refine wp_skip ?_
  refine then_at rfl ?_
  refine wp_seq ?_
  refine wp_seq ?_
  refine wl_region ?_
  refine wl_val (.string to) (by kernel_rfl) (by kernel_rfl) ?_
  refine wl_call (v := .bool false) h12 (by kernel_rfl) enter37 #[.string to] (by kernel_rfl) (by have hh := rname_any w11 to; rw [decide_eq_false hnm] at hh; exact hh) ?_
  intro w13 h14
  refine wl_val (.bool true) (by kernel_rfl) (by kernel_rfl) ?_
  refine wl_nil ?_
  refine then_at rfl ?_
  refine wp_cond_true (by kernel_rfl) ?_
  refine wp_seq ?_
  refine wl_region ?_
  refine wl_load h14 1 rfl (by kernel_rfl) (by kernel_rfl) Try.underlying28 rfl (by kernel_rfl) ?_
  refine wl_fill (c' := #[iN .i64 rm, .slice pf fs.length cf, .bool false, iN .i64 l', .slice pz zs.length cz]) h14 0 rfl (by kernel_rfl) (by kernel_rfl) (by kernel_rfl) rfl (by kernel_rfl) (by kernel_rfl) ?_
  intro w15 (h16 : HA (bs w) [(q4, 28, #[iN .i64 rm, .slice pf fs.length cf, .bool false, iN .i64 l', .slice pz zs.length cz]), (q1, 28, #[iN .i64 rm, .slice pf fs.length cf, .bool false, iN .i64 l', .slice pz zs.length cz])] w15)
  refine wl_val (iN .i64 2) (by kernel_rfl) (by kernel_rfl) ?_
  refine wl_nil ?_
  refine then_at rfl ?_
  refine wp_ret ?_
  repeat first | refine then_ret ?_ | refine block_ret ?_
  exact bodyPost_ret (v := .tuple #[.agg (#[iN .i64 rm, .slice pf fs.length cf, .bool false, iN .i64 l', .slice pz zs.length cz]), iN .i64 2]) (res_cell_tmp (p := 6) (r := 7) (by kernel_rfl) (by kernel_rfl) (by kernel_rfl) (h16.get 0 rfl) Try.underlying28 rfl (by kernel_rfl)) rfl ⟨pf, cf, pz, cz, [], rfl, hF, hZ, Newer.nil _ _, h16.old.old⟩
set_option linter.unusedVariables false in
set_option maxRecDepth 100000 in
set_option maxHeartbeats 2000000 in
theorem rren_y {w : World} {rm lf cz cf : Nat} {pf pz : Option Addr} {fs : List RF} {zs : List Nat} {N : BL} {dn : Bool} (hF : RFL (.slice pf fs.length cf) fs N) (hZ : RZL (.slice pz zs.length cz) zs N) (hS : Stand w N) (hfl : fs.length ≤ 1000) (hzl : zs.length ≤ 1000) (hlb : lf ≤ 9223372036854775807) (s to : ByteArray) {l' : Nat} (hg : gateL dn lf = (l', false, true)) {i0 : Nat} {f : RF} (hfr : findR fs s = (i0, true)) (hf0 : fs[i0]? = some f) (hnm : 1 ≤ to.size ∧ to.size ≤ 64) :
    Calls Try.prog 15 #[.agg #[iN .i64 rm, .slice pf fs.length cf, .bool dn, iN .i64 lf, .slice pz zs.length cz], .string s, .string to] w fun e w' => RO w w' N e rm (withR (woR fs s fs.length) ⟨to, f.b, f.sy⟩) false l' (zs ++ [0]) 0 := by
  have hf := hf0
  obtain ⟨gF, curF, hpF, _, hgF, c0, c1, c2⟩ := hF.at hf
  have H0 := HA.start w
  go_enter Try.func15, Try.ntmps15
  refine wp_seq ?_
  refine wl_region ?_
  refine wl_make (c := #[iN .i64 rm, .slice pf fs.length cf, .bool dn, iN .i64 lf, .slice pz zs.length cz]) H0 28 (by kernel_rfl) (by kernel_rfl) ?_
  intro q1 w2 (h3 : HA (bs w) [(q1, 28, #[iN .i64 rm, .slice pf fs.length cf, .bool dn, iN .i64 lf, .slice pz zs.length cz])] w2)
  refine wl_make (c := #[iN .i64 0, .slice none 0 0, .bool false, iN .i64 0, .slice none 0 0]) h3 28 (by kernel_rfl) (by kernel_rfl) ?_
  intro q4 w5 (h6 : HA (bs w) [(q4, 28, #[iN .i64 0, .slice none 0 0, .bool false, iN .i64 0, .slice none 0 0]), (q1, 28, #[iN .i64 rm, .slice pf fs.length cf, .bool dn, iN .i64 lf, .slice pz zs.length cz])] w5)
  refine wl_val (iN .i64 0) (by kernel_rfl) (by kernel_rfl) ?_
  refine wl_nil ?_
  refine then_at rfl ?_
  refine wp_seq ?_
  refine wl_region ?_
  refine wl_load h6 1 rfl (by kernel_rfl) (by kernel_rfl) Try.underlying28 rfl (by kernel_rfl) ?_
  refine wl_call (v := .tuple #[.agg #[iN .i64 rm, .slice pf fs.length cf, .bool false, iN .i64 l', .slice pz zs.length cz], .bool true]) h6 (by kernel_rfl) enter36 #[.agg (#[iN .i64 rm, .slice pf fs.length cf, .bool dn, iN .i64 lf, .slice pz zs.length cz])] (by kernel_rfl) (by have hh := gate_any (rm := rm) (nf := fs.length) (cf := cf) (nz := zs.length) (cz := cz) (pf := pf) (pz := pz) (w := w5) dn hlb; rw [hg] at hh; exact hh) ?_
  intro w7 h8
  refine wl_val (.tuple #[.agg #[iN .i64 rm, .slice pf fs.length cf, .bool false, iN .i64 l', .slice pz zs.length cz], .bool true]) (by kernel_rfl) (by kernel_rfl) ?_
  refine wl_val (.agg #[iN .i64 rm, .slice pf fs.length cf, .bool false, iN .i64 l', .slice pz zs.length cz]) (by kernel_rfl) (by kernel_rfl) ?_
  refine wl_val (.bool true) (by kernel_rfl) (by kernel_rfl) ?_
  refine wl_fill (c' := #[iN .i64 rm, .slice pf fs.length cf, .bool false, iN .i64 l', .slice pz zs.length cz]) h8 1 rfl (by kernel_rfl) (by kernel_rfl) (by kernel_rfl) rfl (by kernel_rfl) (by kernel_rfl) ?_
  intro w9 (h10 : HA (bs w) [(q4, 28, #[iN .i64 0, .slice none 0 0, .bool false, iN .i64 0, .slice none 0 0]), (q1, 28, #[iN .i64 rm, .slice pf fs.length cf, .bool false, iN .i64 l', .slice pz zs.length cz])] w9)
  refine wl_val (.bool true) (by kernel_rfl) (by kernel_rfl) ?_
  refine wl_nil ?_
  refine then_at rfl ?_
  refine wp_seq ?_
  refine wp_seq ?_
  refine wl_region ?_
  refine wl_val (.bool true) (by kernel_rfl) (by kernel_rfl) ?_
  refine wl_val (.bool false) (by kernel_rfl) (by kernel_rfl) ?_
  refine wl_nil ?_
  refine then_at rfl ?_
  refine wp_cond_false (by kernel_rfl) ?_
  refine wp_skip ?_
  refine then_at rfl ?_
  refine wp_seq ?_
  refine wl_region ?_
  refine wl_load h10 1 rfl (by kernel_rfl) (by kernel_rfl) Try.underlying28 rfl (by kernel_rfl) ?_
  refine wl_val (.string s) (by kernel_rfl) (by kernel_rfl) ?_
  refine wl_call (v := .tuple #[iN .i64 i0, .bool true]) h10 (by kernel_rfl) enter39 #[.agg (#[iN .i64 rm, .slice pf fs.length cf, .bool false, iN .i64 l', .slice pz zs.length cz]), .string s] (by kernel_rfl) (by have hh := rfind_any (lf := l') (rm := rm) (nz := zs.length) (cz := cz) (pz := pz) (dn := false) hF (hS.keep h10.old.old) (by omega) s; rw [hfr] at hh; exact hh) ?_
  intro w11 h12
  refine wl_val (.tuple #[iN .i64 i0, .bool true]) (by kernel_rfl) (by kernel_rfl) ?_
  refine wl_val (iN .i64 i0) (by kernel_rfl) (by kernel_rfl) ?_
  refine wl_val (.bool true) (by kernel_rfl) (by kernel_rfl) ?_
  refine wl_val (iN .i64 i0) (by kernel_rfl) (by kernel_rfl) ?_
  refine wl_val (.bool true) (by kernel_rfl) (by kernel_rfl) ?_
  refine wl_nil ?_
  refine then_at rfl ?_
  refine wp_seq ?_
  refine wp_seq ?_
  refine wl_region ?_
  refine wl_val (.bool true) (by kernel_rfl) (by kernel_rfl) ?_
  refine wl_val (.bool false) (by kernel_rfl) (by kernel_rfl) ?_
  refine wl_nil ?_
  refine then_at (F := ⟨(.agg #[iN .i64 rm, .slice pf fs.length cf, .bool dn, iN .i64 lf, .slice pz zs.length cz] :: .string s :: .string to :: pt q1 :: un :: un :: pt q4 :: iN .i64 0 :: .bool true :: iN .i64 i0 :: .bool true :: un :: .tuple #[.agg #[iN .i64 rm, .slice pf fs.length cf, .bool false, iN .i64 l', .slice pz zs.length cz], .bool true] :: .agg (#[iN .i64 rm, .slice pf fs.length cf, .bool dn, iN .i64 lf, .slice pz zs.length cz]) :: .tuple #[.agg #[iN .i64 rm, .slice pf fs.length cf, .bool false, iN .i64 l', .slice pz zs.length cz], .bool true] :: .agg #[iN .i64 rm, .slice pf fs.length cf, .bool false, iN .i64 l', .slice pz zs.length cz] :: .bool true :: .bool true :: .bool false :: un :: .tuple #[iN .i64 i0, .bool true] :: .agg (#[iN .i64 rm, .slice pf fs.length cf, .bool false, iN .i64 l', .slice pz zs.length cz]) :: .string s :: .tuple #[iN .i64 i0, .bool true] :: iN .i64 i0 :: .bool true :: .bool true :: .bool false :: List.replicate 18 un).toArray, []⟩) (by kernel_rfl) ?_
  refine wp_cond_false (by kernel_rfl) ?_
  refine wp_skip ?_
  refine then_at rfl ?_
  refine wp_seq ?_
  refine wp_seq ?_
  refine wl_region ?_
  refine wl_val (.string to) (by kernel_rfl) (by kernel_rfl) ?_
  refine wl_call (v := .bool true) h12 (by kernel_rfl) enter37 #[.string to] (by kernel_rfl) (by have hh := rname_any w11 to; rw [decide_eq_true hnm] at hh; exact hh) ?_
  intro w13 h14
  refine wl_val (.bool false) (by kernel_rfl) (by kernel_rfl) ?_
  refine wl_nil ?_
  refine then_at rfl ?_
  refine wp_cond_false (by kernel_rfl) ?_
  refine wp_skip ?_
  refine then_at rfl ?_
  refine wp_seq ?_
  refine wl_region ?_
  refine wl_val (.pointer (some ⟨q1, 1, none⟩)) (by kernel_rfl) (by kernel_rfl) ?_
  refine wl_val (.slice pf fs.length cf) (by kernel_rfl) (run_load1 (fun w => Try.isAgg25 w) (by kernel_rfl) (((h14.get 1 rfl).cell 1).trans rfl)) ?_
  refine wl_val (iN .i64 i0) (by kernel_rfl) (by kernel_rfl) ?_
  refine wl_val (.pointer (some ⟨gF, 3 * i0, none⟩)) (by kernel_rfl) (run_addr75p (q := gF) (n := fs.length) (m := cf) (a := i0) hpF (by kernel_rfl) (by kernel_rfl) (List.getElem?_eq_some_iff.1 hf).1) ?_
  refine wl_val (.agg #[.string f.nm, .string f.b, iN .i64 f.sy]) (by kernel_rfl) (run_part (c' := #[.string f.nm, .string f.b, iN .i64 f.sy]) (by kernel_rfl) ((hS.keep h14.old.old) _ hgF) (part3 c0 c1 c2) Try.underlying75 rfl (by kernel_rfl)) ?_
  refine wl_make (c := #[.string ({ data := #[] }), .string ({ data := #[] }), iN .i64 0]) h14 75 (by kernel_rfl) (by kernel_rfl) ?_
  intro q15 w16 (h17 : HA (bs w) [(q15, 75, #[.string ({ data := #[] }), .string ({ data := #[] }), iN .i64 0]), (q4, 28, #[iN .i64 0, .slice none 0 0, .bool false, iN .i64 0, .slice none 0 0]), (q1, 28, #[iN .i64 rm, .slice pf fs.length cf, .bool false, iN .i64 l', .slice pz zs.length cz])] w16)
  refine wl_fill (c' := #[.string f.nm, .string f.b, iN .i64 f.sy]) h17 0 rfl (by kernel_rfl) (by kernel_rfl) (by kernel_rfl) rfl (by kernel_rfl) (by kernel_rfl) ?_
  intro w18 (h19 : HA (bs w) [(q15, 75, #[.string f.nm, .string f.b, iN .i64 f.sy]), (q4, 28, #[iN .i64 0, .slice none 0 0, .bool false, iN .i64 0, .slice none 0 0]), (q1, 28, #[iN .i64 rm, .slice pf fs.length cf, .bool false, iN .i64 l', .slice pz zs.length cz])] w18)
  refine wl_nil ?_
  refine then_at rfl ?_
  refine wp_seq ?_
  refine wl_region ?_
  refine wl_val (.string to) (by kernel_rfl) (by kernel_rfl) ?_
  refine wl_val (.pointer (some ⟨q15, 0, none⟩)) (by kernel_rfl) (by kernel_rfl) ?_
  refine wl_putv (v := .string to) h19 0 rfl 0 (by show 0 < 3; decide) (by kernel_rfl) (fun w => Try.sizeOf9 w) (by kernel_rfl) (by kernel_rfl) (by kernel_rfl) ?_
  intro w20 (h21 : HA (bs w) [(q15, 75, #[.string to, .string f.b, iN .i64 f.sy]), (q4, 28, #[iN .i64 0, .slice none 0 0, .bool false, iN .i64 0, .slice none 0 0]), (q1, 28, #[iN .i64 rm, .slice pf fs.length cf, .bool false, iN .i64 l', .slice pz zs.length cz])] w20)
  refine wl_nil ?_
  refine then_at rfl ?_
  refine wp_seq ?_
  refine wp_region_wx (HA (bs w) [(q15, 75, #[.string to, .string f.b, iN .i64 f.sy]), (q1, 28, #[iN .i64 rm, .slice pf fs.length cf, .bool false, iN .i64 l', .slice pz zs.length cz])]) (fun AQ w' => ∃ (N1 : BL) (p1 : Option Addr) (c1 : Nat) (N3 : BL) (p3 : Option Addr) (c3 : Nat) (N2 : BL) (p2 : Option Addr) (c2 : Nat), AQ = ⟨(.agg #[iN .i64 rm, .slice pf fs.length cf, .bool dn, iN .i64 lf, .slice pz zs.length cz] :: .string s :: .string to :: pt q1 :: un :: un :: pt q4 :: iN .i64 0 :: .bool true :: iN .i64 i0 :: .bool true :: pt q15 :: .tuple #[.agg #[iN .i64 rm, .slice pf fs.length cf, .bool false, iN .i64 l', .slice pz zs.length cz], .bool true] :: .agg (#[iN .i64 rm, .slice pf fs.length cf, .bool dn, iN .i64 lf, .slice pz zs.length cz]) :: .tuple #[.agg #[iN .i64 rm, .slice pf fs.length cf, .bool false, iN .i64 l', .slice pz zs.length cz], .bool true] :: .agg #[iN .i64 rm, .slice pf fs.length cf, .bool false, iN .i64 l', .slice pz zs.length cz] :: .bool true :: .bool true :: .bool false :: un :: .tuple #[iN .i64 i0, .bool true] :: .agg (#[iN .i64 rm, .slice pf fs.length cf, .bool false, iN .i64 l', .slice pz zs.length cz]) :: .string s :: .tuple #[iN .i64 i0, .bool true] :: iN .i64 i0 :: .bool true :: .bool true :: .bool false :: un :: .string to :: .bool true :: .bool false :: un :: .pointer (some ⟨q1, 1, none⟩) :: .slice pf fs.length cf :: iN .i64 i0 :: .pointer (some ⟨gF, 3 * i0, none⟩) :: .agg #[.string f.nm, .string f.b, iN .i64 f.sy] :: .string to :: pt q15 :: .agg (#[iN .i64 rm, .slice pf fs.length cf, .bool false, iN .i64 l', .slice pz zs.length cz]) :: .string s :: .agg #[iN .i64 rm, .slice p1 (woR fs s fs.length).length c1, .bool false, iN .i64 l', .slice pz zs.length cz] :: .agg (#[.string to, .string f.b, iN .i64 f.sy]) :: .agg #[iN .i64 rm, .slice p3 (withR (woR fs s fs.length) ⟨to, f.b, f.sy⟩).length c3, .bool false, iN .i64 l', .slice pz zs.length cz] :: .agg #[iN .i64 rm, .slice p3 (withR (woR fs s fs.length) ⟨to, f.b, f.sy⟩).length c3, .bool false, iN .i64 l', .slice p2 (zs ++ [(0 : Nat)]).length c2] :: List.replicate 0 un).toArray, []⟩ ∧ RFL (.slice p1 (woR fs s fs.length).length c1) (woR fs s fs.length) N1 ∧ RFL (.slice p3 (withR (woR fs s fs.length) ⟨to, f.b, f.sy⟩).length c3) (withR (woR fs s fs.length) ⟨to, f.b, f.sy⟩) N3 ∧ RZL (.slice p2 (zs ++ [(0 : Nat)]).length c2) (zs ++ [(0 : Nat)]) N2 ∧ HA (bs w) ((q15, 75, #[.string to, .string f.b, iN .i64 f.sy]) :: (q4, 28, #[iN .i64 rm, .slice p3 (withR (woR fs s fs.length) ⟨to, f.b, f.sy⟩).length c3, .bool false, iN .i64 l', .slice p2 (zs ++ [(0 : Nat)]).length c2]) :: (q1, 28, #[iN .i64 rm, .slice pf fs.length cf, .bool false, iN .i64 l', .slice pz zs.length cz]) :: ((N1 ++ N3) ++ N2)) w') 8 (by kernel_rfl) (by kernel_rfl) (by kernel_rfl) (by kernel_rfl) (by kernel_rfl) (h21.drew.sub (List.Sublist.cons_cons _ (List.Sublist.cons _ (List.Sublist.cons_cons _ (List.Sublist.refl _))))) ?_ ?_
  · have h22 := h21.drew
    refine wx_val (i := 0) (.agg (#[iN .i64 rm, .slice pf fs.length cf, .bool false, iN .i64 l', .slice pz zs.length cz])) rfl rfl (by kernel_rfl) (by kernel_rfl) (fun w' h' => run_load_blk (by kernel_rfl) (h'.get 1 rfl) Try.underlying28 rfl (by kernel_rfl)) ?_
    refine wx_pure (i := 1) (.string s) rfl rfl (by kernel_rfl) (by kernel_rfl) (fun _ => (by kernel_rfl)) ?_
    refine wx_val (i := 3) (.agg (#[.string to, .string f.b, iN .i64 f.sy])) rfl rfl (by kernel_rfl) (by kernel_rfl) (fun w' h' => run_load_blk (by kernel_rfl) (h'.get 0 rfl) Try.underlying75 rfl (by kernel_rfl)) ?_
    refine wx_one 2 (by kernel_rfl) ?_
    refine ex_callx rfl (by kernel_rfl) h22 enter47 #[.agg (#[iN .i64 rm, .slice pf fs.length cf, .bool false, iN .i64 l', .slice pz zs.length cz]), .string s] (by kernel_rfl) (fun w23 h24 => without_any (lf := l') (rm := rm) (nz := zs.length) (cz := cz) (pz := pz) (dn := false) hF (hS.keep h24.old.old) (by omega) s) ?_
    rintro w23 h24 _ w25 ⟨p1, c1, N1, rfl, hF1, hN1, hb1⟩
    have hxh26 := HA.addL h24 hb1 hN1
    have h26 : HA (bs w) ((q15, 75, #[.string to, .string f.b, iN .i64 f.sy]) :: (q4, 28, #[iN .i64 0, .slice none 0 0, .bool false, iN .i64 0, .slice none 0 0]) :: (q1, 28, #[iN .i64 rm, .slice pf fs.length cf, .bool false, iN .i64 l', .slice pz zs.length cz]) :: N1) w25 := hxh26
    refine ⟨_, rfl, _, .inr rfl, (h26.sub (List.Sublist.cons_cons _ (List.Sublist.cons _ (List.Sublist.cons_cons _ (List.nil_sublist _))))), ?_⟩
    refine wx_one 4 (by kernel_rfl) ?_
    refine ex_callx rfl (by kernel_rfl) h26 enter41 #[.agg #[iN .i64 rm, .slice p1 (woR fs s fs.length).length c1, .bool false, iN .i64 l', .slice pz zs.length cz], .agg (#[.string to, .string f.b, iN .i64 f.sy])] (by kernel_rfl) (fun w27 h28 => with_any (lf := l') (rm := rm) (nz := zs.length) (cz := cz) (pz := pz) (dn := false) hF1 (fun y hy => h28.blk y (by simp [hy])) (by have := woR_len fs s fs.length; omega) ⟨to, f.b, f.sy⟩) ?_
    rintro w27 h28 _ w29 ⟨p3, c3, N3, rfl, hF3, hN3, hb3⟩
    have hxh30 := HA.addL h28 hb3 hN3
    have h30 : HA (bs w) ((q15, 75, #[.string to, .string f.b, iN .i64 f.sy]) :: (q4, 28, #[iN .i64 0, .slice none 0 0, .bool false, iN .i64 0, .slice none 0 0]) :: (q1, 28, #[iN .i64 rm, .slice pf fs.length cf, .bool false, iN .i64 l', .slice pz zs.length cz]) :: (N1 ++ N3)) w29 := hxh30
    refine ⟨_, rfl, _, .inr rfl, (h30.sub (List.Sublist.cons_cons _ (List.Sublist.cons _ (List.Sublist.cons_cons _ (List.nil_sublist _))))), ?_⟩
    refine wx_one 5 (by kernel_rfl) ?_
    refine ex_callx rfl (by kernel_rfl) h30 enter40 #[.agg #[iN .i64 rm, .slice p3 (withR (woR fs s fs.length) ⟨to, f.b, f.sy⟩).length c3, .bool false, iN .i64 l', .slice pz zs.length cz], iN .i64 0] (by kernel_rfl) (fun w31 h32 => told_any (lf := l') (rm := rm) (nf := (withR (woR fs s fs.length) ⟨to, f.b, f.sy⟩).length) (cf := c3) (pf := p3) (dn := false) hZ (hS.keep h32.old.old) (by omega) (0 : Nat)) ?_
    rintro w31 h32 _ w33 ⟨p2, c2, N2, rfl, hZ2, hN2, hb2⟩
    have hxh34 := HA.addL h32 hb2 hN2
    have h34 : HA (bs w) ((q15, 75, #[.string to, .string f.b, iN .i64 f.sy]) :: (q4, 28, #[iN .i64 0, .slice none 0 0, .bool false, iN .i64 0, .slice none 0 0]) :: (q1, 28, #[iN .i64 rm, .slice pf fs.length cf, .bool false, iN .i64 l', .slice pz zs.length cz]) :: ((N1 ++ N3) ++ N2)) w33 := hxh34
    refine ⟨_, rfl, _, .inr rfl, (h34.sub (List.Sublist.cons_cons _ (List.Sublist.cons _ (List.Sublist.cons_cons _ (List.nil_sublist _))))), ?_⟩
    refine wx_one 6 (by kernel_rfl) ?_
    refine ex_skipS rfl (by kernel_rfl) h34 fun w35 h36 => ⟨_, run_store_blk (c' := #[iN .i64 rm, .slice p3 (withR (woR fs s fs.length) ⟨to, f.b, f.sy⟩).length c3, .bool false, iN .i64 l', .slice p2 (zs ++ [(0 : Nat)]).length c2]) (by kernel_rfl) (by kernel_rfl) (h36.get 1 rfl) rfl (by kernel_rfl) (by kernel_rfl), (h36.fill 1 rfl (c' := #[iN .i64 rm, .slice p3 (withR (woR fs s fs.length) ⟨to, f.b, f.sy⟩).length c3, .bool false, iN .i64 l', .slice p2 (zs ++ [(0 : Nat)]).length c2]) rfl).sub (List.Sublist.cons_cons _ (List.Sublist.cons _ (List.Sublist.cons_cons _ (List.nil_sublist _)))), ?_⟩
    have h37 : HA (bs w) ((q15, 75, #[.string to, .string f.b, iN .i64 f.sy]) :: (q4, 28, #[iN .i64 rm, .slice p3 (withR (woR fs s fs.length) ⟨to, f.b, f.sy⟩).length c3, .bool false, iN .i64 l', .slice p2 (zs ++ [(0 : Nat)]).length c2]) :: (q1, 28, #[iN .i64 rm, .slice pf fs.length cf, .bool false, iN .i64 l', .slice pz zs.length cz]) :: ((N1 ++ N3) ++ N2)) _ := h36.fill 1 rfl (c' := #[iN .i64 rm, .slice p3 (withR (woR fs s fs.length) ⟨to, f.b, f.sy⟩).length c3, .bool false, iN .i64 l', .slice p2 (zs ++ [(0 : Nat)]).length c2]) rfl
    refine wx_pure (i := 7) (iN .i64 0) rfl rfl (by kernel_rfl) (by kernel_rfl) (fun _ => (by kernel_rfl)) ?_
    refine wx_end fun w38 hbx _ => ?_
    have h39 := HA.keep _ _ h37 hbx
    exact ⟨N1, p1, c1, N3, p3, c3, N2, p2, c2, by kernel_rfl, hF1, hF3, hZ2, h39⟩
  · rintro _ w40 ⟨N1, p1, c1, N3, p3, c3, N2, p2, c2, rfl, hF1, hF3, hZ2, h41⟩
    refine then_at (F := ⟨(.agg #[iN .i64 rm, .slice pf fs.length cf, .bool dn, iN .i64 lf, .slice pz zs.length cz] :: .string s :: .string to :: pt q1 :: un :: un :: pt q4 :: iN .i64 0 :: .bool true :: iN .i64 i0 :: .bool true :: pt q15 :: .tuple #[.agg #[iN .i64 rm, .slice pf fs.length cf, .bool false, iN .i64 l', .slice pz zs.length cz], .bool true] :: .agg (#[iN .i64 rm, .slice pf fs.length cf, .bool dn, iN .i64 lf, .slice pz zs.length cz]) :: .tuple #[.agg #[iN .i64 rm, .slice pf fs.length cf, .bool false, iN .i64 l', .slice pz zs.length cz], .bool true] :: .agg #[iN .i64 rm, .slice pf fs.length cf, .bool false, iN .i64 l', .slice pz zs.length cz] :: .bool true :: .bool true :: .bool false :: un :: .tuple #[iN .i64 i0, .bool true] :: .agg (#[iN .i64 rm, .slice pf fs.length cf, .bool false, iN .i64 l', .slice pz zs.length cz]) :: .string s :: .tuple #[iN .i64 i0, .bool true] :: iN .i64 i0 :: .bool true :: .bool true :: .bool false :: un :: .string to :: .bool true :: .bool false :: un :: .pointer (some ⟨q1, 1, none⟩) :: .slice pf fs.length cf :: iN .i64 i0 :: .pointer (some ⟨gF, 3 * i0, none⟩) :: .agg #[.string f.nm, .string f.b, iN .i64 f.sy] :: .string to :: pt q15 :: .agg (#[iN .i64 rm, .slice pf fs.length cf, .bool false, iN .i64 l', .slice pz zs.length cz]) :: .string s :: .agg #[iN .i64 rm, .slice p1 (woR fs s fs.length).length c1, .bool false, iN .i64 l', .slice pz zs.length cz] :: .agg (#[.string to, .string f.b, iN .i64 f.sy]) :: .agg #[iN .i64 rm, .slice p3 (withR (woR fs s fs.length) ⟨to, f.b, f.sy⟩).length c3, .bool false, iN .i64 l', .slice pz zs.length cz] :: .agg #[iN .i64 rm, .slice p3 (withR (woR fs s fs.length) ⟨to, f.b, f.sy⟩).length c3, .bool false, iN .i64 l', .slice p2 (zs ++ [(0 : Nat)]).length c2] :: List.replicate 0 un).toArray, []⟩) (by kernel_rfl) ?_
    refine wp_ret ?_
    repeat first | refine then_ret ?_ | refine block_ret ?_
    exact bodyPost_ret (v := .tuple #[.agg (#[iN .i64 rm, .slice p3 (withR (woR fs s fs.length) ⟨to, f.b, f.sy⟩).length c3, .bool false, iN .i64 l', .slice p2 (zs ++ [(0 : Nat)]).length c2]), iN .i64 0]) (res_cell_tmp (p := 6) (r := 7) (by kernel_rfl) (by kernel_rfl) (by kernel_rfl) (h41.get 1 rfl) Try.underlying28 rfl (by kernel_rfl)) rfl ⟨p3, c3, p2, c2, (N1 ++ N3) ++ N2, rfl, hF3.mono (fun x hx => by simp [hx]), hZ2.mono (fun x hx => by simp [hx]), HA.newerS h41 (List.Sublist.cons _ (List.Sublist.cons _ (List.Sublist.cons _ (List.Sublist.refl _)))), h41.old.old⟩
end Go.Proofs.Ytjedhnjjgmbcbaa
