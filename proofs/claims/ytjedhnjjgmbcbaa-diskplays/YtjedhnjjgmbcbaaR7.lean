/-
  The reference's operations: Remove, Sync, Append, Arm.
-/
import Derived.Test.YtjedhnjjgmbcbaaR6
namespace Go.Proofs.Ytjedhnjjgmbcbaa
open Go.RowKit

theorem HA.addL {z : Base} {L N : BL} {w w' : World} (H : HA z L w) (hb : Below w.heap.size w w') (hN : Newer w.heap.size w' N) : HA z (L ++ N) w' := by
  have H' := H.keep w w' hb
  refine ⟨H'.old, fun x hx => (List.mem_append.1 hx).elim (H'.blk x) (fun h => (hN.all x h).2), fun x hx => (List.mem_append.1 hx).elim (H'.own x) (fun h => Nat.le_trans H.old.old.size (hN.all x h).1), ?_⟩
  rw [List.map_append, List.nodup_append]
  refine ⟨H'.nd, hN.nd, fun a ha b hb' e => ?_⟩
  obtain ⟨x, hx, rfl⟩ := List.mem_map.1 ha
  obtain ⟨y, hy, rfl⟩ := List.mem_map.1 hb'
  have h1 := (H.blk x hx).lt
  have h2 := (hN.all y hy).1
  omega
theorem HA.newerT {L N : BL} {w w' : World} (H : HA (bs w) (L ++ N) w') : Newer w.heap.size w' N :=
  ⟨fun y hy => ⟨H.own y (by simp [hy]), H.blk y (by simp [hy])⟩, by have := H.nd; rw [List.map_append, List.nodup_append] at this; exact this.2.1⟩
theorem HA.newerS {L N : BL} {w w' : World} (H : HA (bs w) L w') (hs : N.Sublist L) : Newer w.heap.size w' N := HA.newerT (L := []) (H.sub hs)
theorem empty_add {da : ByteArray} (h : da.size ≤ 1000000) : ({ data := #[] } : ByteArray).size + da.size ≤ 9223372036854775807 := by
  have e : ({ data := #[] } : ByteArray).size = 0 := rfl
  rw [e]
  omega
/-- left, down, does it go? -/
def gateL (dn : Bool) (lf : Nat) : Nat × Bool × Bool := if dn = true then (lf, true, false) else if lf = 0 then (lf, false, true) else if lf = 1 then (lf - 1, true, false) else (lf - 1, false, true)
theorem gateL_goes {dn : Bool} {lf l : Nat} {d : Bool} (h : gateL dn lf = (l, d, true)) : d = false := by
  unfold gateL at h
  repeat' split at h
  all_goals cases h
  all_goals rfl
theorem gate_any {w : World} {rm lf nf cf nz cz : Nat} {pf pz : Option Addr} (dn : Bool) (hb : lf ≤ 9223372036854775807) :
    Calls Try.prog 36 #[.agg #[iN .i64 rm, .slice pf nf cf, .bool dn, iN .i64 lf, .slice pz nz cz]] w fun e w' => e = .returned (.tuple #[.agg #[iN .i64 rm, .slice pf nf cf, .bool (gateL dn lf).2.1, iN .i64 (gateL dn lf).1, .slice pz nz cz], .bool (gateL dn lf).2.2]) ∧ Below w.heap.size w w' := by
  unfold gateL
  cases dn with
  | true => exact gate_d
  | false =>
    rw [if_neg (by decide)]
    by_cases h0 : lf = 0
    · rw [if_pos h0]; exact gate_0 h0
    · rw [if_neg h0]
      by_cases h1 : lf = 1
      · rw [if_pos h1]; exact gate_1 h1
      · rw [if_neg h1]; exact gate_n (by omega) hb
/-- what an operation of the reference's leaves -/
def RO (w w' : World) (N : BL) (e : Ending) (rm : Nat) (fs : List RF) (dn : Bool) (lf : Nat) (zs : List Nat) (code : Nat) : Prop :=
  ∃ pf cf pz cz N', e = .returned (.tuple #[.agg #[iN .i64 rm, .slice pf fs.length cf, .bool dn, iN .i64 lf, .slice pz zs.length cz], iN .i64 code]) ∧ RFL (.slice pf fs.length cf) fs (N' ++ N) ∧ RZL (.slice pz zs.length cz) zs (N' ++ N) ∧ Newer w.heap.size w' N' ∧ Below w.heap.size w w'
set_option linter.unusedVariables false in
set_option maxRecDepth 100000 in
set_option maxHeartbeats 2000000 in
theorem rrem_g {w : World} {rm lf cz cf : Nat} {pf pz : Option Addr} {fs : List RF} {zs : List Nat} {N : BL} {dn : Bool} (hF : RFL (.slice pf fs.length cf) fs N) (hZ : RZL (.slice pz zs.length cz) zs N) (hS : Stand w N) (hfl : fs.length ≤ 1000) (hzl : zs.length ≤ 1000) (hlb : lf ≤ 9223372036854775807) (s : ByteArray) {l' : Nat} {d' : Bool} (hg : gateL dn lf = (l', d', false)) :
    Calls Try.prog 17 #[.agg #[iN .i64 rm, .slice pf fs.length cf, .bool dn, iN .i64 lf, .slice pz zs.length cz], .string s] w fun e w' => RO w w' N e rm fs d' l' zs 16 := by
  have H0 := HA.start w
  go_enter Try.func17, Try.ntmps17
  refine wp_seq ?_
  refine wl_region ?_
  refine wl_make (c := #[iN .i64 rm, .slice pf fs.length cf, .bool dn, iN .i64 lf, .slice pz zs.length cz]) H0 28 (by kernel_rfl) (by kernel_rfl) ?_
  intro q1 w2 (h3 : HA (bs w) [(q1, 28, #[iN .i64 rm, .slice pf fs.length cf, .bool dn, iN .i64 lf, .slice pz zs.length cz])] w2)
  refine wl_make (c := #[iN .i64 0, .slice none 0 0, .bool false, iN .i64 0, .slice none 0 0]) h3 28 (by kernel_rfl) (by kernel_rfl) ?_
  intro q4 w5 (h6 : HA (bs w) [(q4, 28, #[iN .i64 0, .slice none 0 0, .bool false, iN .i64 0, .slice none 0 0]), (q1, 28, #[iN .i64 rm, .slice pf fs.length cf, .bool dn, iN .i64 lf, .slice pz zs.length cz])] w5)
  refine wl_val (iN .i64 0) (by kernel_rfl) (by kernel_rfl) ?_
  refine wl_nil ?_
  refine then_at rfl ?_
  refine wp_seq ?_
  refine wl_region ?_
  refine wl_load h6 1 rfl (by kernel_rfl) (by kernel_rfl) Try.underlying28 rfl (by kernel_rfl) ?_
  refine wl_call (v := .tuple #[.agg #[iN .i64 rm, .slice pf fs.length cf, .bool d', iN .i64 l', .slice pz zs.length cz], .bool false]) h6 (by kernel_rfl) enter36 #[.agg (#[iN .i64 rm, .slice pf fs.length cf, .bool dn, iN .i64 lf, .slice pz zs.length cz])] (by kernel_rfl) (by have hh := gate_any (rm := rm) (nf := fs.length) (cf := cf) (nz := zs.length) (cz := cz) (pf := pf) (pz := pz) (w := w5) dn hlb; rw [hg] at hh; exact hh) ?_
  intro w7 h8
  refine wl_val (.tuple #[.agg #[iN .i64 rm, .slice pf fs.length cf, .bool d', iN .i64 l', .slice pz zs.length cz], .bool false]) (by kernel_rfl) (by kernel_rfl) ?_
  refine wl_val (.agg #[iN .i64 rm, .slice pf fs.length cf, .bool d', iN .i64 l', .slice pz zs.length cz]) (by kernel_rfl) (by kernel_rfl) ?_
  refine wl_val (.bool false) (by kernel_rfl) (by kernel_rfl) ?_
  refine wl_fill (c' := #[iN .i64 rm, .slice pf fs.length cf, .bool d', iN .i64 l', .slice pz zs.length cz]) h8 1 rfl (by kernel_rfl) (by kernel_rfl) (by kernel_rfl) rfl (by kernel_rfl) (by kernel_rfl) ?_
  intro w9 (h10 : HA (bs w) [(q4, 28, #[iN .i64 0, .slice none 0 0, .bool false, iN .i64 0, .slice none 0 0]), (q1, 28, #[iN .i64 rm, .slice pf fs.length cf, .bool d', iN .i64 l', .slice pz zs.length cz])] w9)
  refine wl_val (.bool false) (by kernel_rfl) (by kernel_rfl) ?_
  refine wl_nil ?_
  refine then_at rfl ?_
  refine wp_seq ?_
  refine wp_seq ?_
  refine wl_region ?_
  refine wl_val (.bool false) (by kernel_rfl) (by kernel_rfl) ?_
  refine wl_val (.bool true) (by kernel_rfl) (by kernel_rfl) ?_
  refine wl_nil ?_
  refine then_at rfl ?_
  refine wp_cond_true (by kernel_rfl) ?_
  refine wp_seq ?_
  refine wl_region ?_
  refine wl_load h10 1 rfl (by kernel_rfl) (by kernel_rfl) Try.underlying28 rfl (by kernel_rfl) ?_
  refine wl_fill (c' := #[iN .i64 rm, .slice pf fs.length cf, .bool d', iN .i64 l', .slice pz zs.length cz]) h10 0 rfl (by kernel_rfl) (by kernel_rfl) (by kernel_rfl) rfl (by kernel_rfl) (by kernel_rfl) ?_
  intro w11 (h12 : HA (bs w) [(q4, 28, #[iN .i64 rm, .slice pf fs.length cf, .bool d', iN .i64 l', .slice pz zs.length cz]), (q1, 28, #[iN .i64 rm, .slice pf fs.length cf, .bool d', iN .i64 l', .slice pz zs.length cz])] w11)
  refine wl_val (iN .i64 16) (by kernel_rfl) (by kernel_rfl) ?_
  refine wl_nil ?_
  refine then_at rfl ?_
  refine wp_ret ?_
  repeat first | refine then_ret ?_ | refine block_ret ?_
  exact bodyPost_ret (v := .tuple #[.agg (#[iN .i64 rm, .slice pf fs.length cf, .bool d', iN .i64 l', .slice pz zs.length cz]), iN .i64 16]) (res_cell_tmp (p := 4) (r := 5) (by kernel_rfl) (by kernel_rfl) (by kernel_rfl) (h12.get 0 rfl) Try.underlying28 rfl (by kernel_rfl)) rfl ⟨pf, cf, pz, cz, [], rfl, hF, hZ, Newer.nil _ _, h12.old.old⟩
set_option linter.unusedVariables false in
set_option maxRecDepth 100000 in
set_option maxHeartbeats 2000000 in
theorem rrem_n {w : World} {rm lf cz cf : Nat} {pf pz : Option Addr} {fs : List RF} {zs : List Nat} {N : BL} {dn : Bool} (hF : RFL (.slice pf fs.length cf) fs N) (hZ : RZL (.slice pz zs.length cz) zs N) (hS : Stand w N) (hfl : fs.length ≤ 1000) (hzl : zs.length ≤ 1000) (hlb : lf ≤ 9223372036854775807) (s : ByteArray) {l' : Nat} (hg : gateL dn lf = (l', false, true)) {i0 : Nat} (hfr : findR fs s = (i0, false)) :
    Calls Try.prog 17 #[.agg #[iN .i64 rm, .slice pf fs.length cf, .bool dn, iN .i64 lf, .slice pz zs.length cz], .string s] w fun e w' => RO w w' N e rm fs false l' zs 5 := by
  have H0 := HA.start w
  go_enter Try.func17, Try.ntmps17
  refine wp_seq ?_
  refine wl_region ?_
  refine wl_make (c := #[iN .i64 rm, .slice pf fs.length cf, .bool dn, iN .i64 lf, .slice pz zs.length cz]) H0 28 (by kernel_rfl) (by kernel_rfl) ?_
  intro q1 w2 (h3 : HA (bs w) [(q1, 28, #[iN .i64 rm, .slice pf fs.length cf, .bool dn, iN .i64 lf, .slice pz zs.length cz])] w2)
  refine wl_make (c := #[iN .i64 0, .slice none 0 0, .bool false, iN .i64 0, .slice none 0 0]) h3 28 (by kernel_rfl) (by kernel_rfl) ?_
  intro q4 w5 (h6 : HA (bs w) [(q4, 28, #[iN .i64 0, .slice none 0 0, .bool false, iN .i64 0, .slice none 0 0]), (q1, 28, #[iN .i64 rm, .slice pf fs.length cf, .bool dn, iN .i64 lf, .slice pz zs.length cz])] w5)
  refine wl_val (iN .i64 0) (by kernel_rfl) (by kernel_rfl) ?_
  refine wl_nil ?_
  refine then_at rfl ?_
  refine wp_seq ?_
  refine wl_region ?_
  refine wl_load h6 1 rfl (by kernel_rfl) (by kernel_rfl) Try.underlying28 rfl (by kernel_rfl) ?_
  refine wl_call (v := .tuple #[.agg #[iN .i64 rm, .slice pf fs.length cf, .bool false, iN .i64 l', .slice pz zs.length cz], .bool true]) h6 (by kernel_rfl) enter36 #[.agg (#[iN .i64 rm, .slice pf fs.length cf, .bool dn, iN .i64 lf, .slice pz zs.length cz])] (by kernel_rfl) (by have hh := gate_any (rm := rm) (nf := fs.length) (cf := cf) (nz := zs.length) (cz := cz) (pf := pf) (pz := pz) (w := w5) dn hlb; rw [hg] at hh; exact hh) ?_
  intro w7 h8
  refine wl_val (.tuple #[.agg #[iN .i64 rm, .slice pf fs.length cf, .bool false, iN .i64 l', .slice pz zs.length cz], .bool true]) (by kernel_rfl) (by kernel_rfl) ?_
  refine wl_val (.agg #[iN .i64 rm, .slice pf fs.length cf, .bool false, iN .i64 l', .slice pz zs.length cz]) (by kernel_rfl) (by kernel_rfl) ?_
  refine wl_val (.bool true) (by kernel_rfl) (by kernel_rfl) ?_
  refine wl_fill (c' := #[iN .i64 rm, .slice pf fs.length cf, .bool false, iN .i64 l', .slice pz zs.length cz]) h8 1 rfl (by kernel_rfl) (by kernel_rfl) (by kernel_rfl) rfl (by kernel_rfl) (by kernel_rfl) ?_
  intro w9 (h10 : HA (bs w) [(q4, 28, #[iN .i64 0, .slice none 0 0, .bool false, iN .i64 0, .slice none 0 0]), (q1, 28, #[iN .i64 rm, .slice pf fs.length cf, .bool false, iN .i64 l', .slice pz zs.length cz])] w9)
  refine wl_val (.bool true) (by kernel_rfl) (by kernel_rfl) ?_
  refine wl_nil ?_
  refine then_at rfl ?_
  refine wp_seq ?_
  refine wp_seq ?_
  refine wl_region ?_
  refine wl_val (.bool true) (by kernel_rfl) (by kernel_rfl) ?_
  refine wl_val (.bool false) (by kernel_rfl) (by kernel_rfl) ?_
  refine wl_nil ?_
  refine then_at rfl ?_
  refine wp_cond_false (by kernel_rfl) ?_
  refine wp_skip ?_
  refine then_at rfl ?_
  refine wp_seq ?_
  refine wl_region ?_
  refine wl_load h10 1 rfl (by kernel_rfl) (by kernel_rfl) Try.underlying28 rfl (by kernel_rfl) ?_
  refine wl_val (.string s) (by kernel_rfl) (by kernel_rfl) ?_
  refine wl_call (v := .tuple #[iN .i64 i0, .bool false]) h10 (by kernel_rfl) enter39 #[.agg (#[iN .i64 rm, .slice pf fs.length cf, .bool false, iN .i64 l', .slice pz zs.length cz]), .string s] (by kernel_rfl) (by have hh := rfind_any (lf := l') (rm := rm) (nz := zs.length) (cz := cz) (pz := pz) (dn := false) hF (hS.keep h10.old.old) (by omega) s; rw [hfr] at hh; exact hh) ?_
  intro w11 h12
  refine wl_val (.tuple #[iN .i64 i0, .bool false]) (by kernel_rfl) (by kernel_rfl) ?_
  refine wl_val (iN .i64 i0) (by kernel_rfl) (by kernel_rfl) ?_
  refine wl_val (.bool false) (by kernel_rfl) (by kernel_rfl) ?_
  refine wl_val (iN .i64 i0) (by kernel_rfl) (by kernel_rfl) ?_
  refine wl_val (.bool false) (by kernel_rfl) (by kernel_rfl) ?_
  refine wl_nil ?_
  refine then_at rfl ?_
  refine wp_seq ?_
  refine wp_seq ?_
  refine wl_region ?_
  refine wl_val (.bool false) (by kernel_rfl) (by kernel_rfl) ?_
  refine wl_val (.bool true) (by kernel_rfl) (by kernel_rfl) ?_
  refine wl_nil ?_
  refine then_at (F := ⟨(.agg #[iN .i64 rm, .slice pf fs.length cf, .bool dn, iN .i64 lf, .slice pz zs.length cz] :: .string s :: pt q1 :: un :: pt q4 :: iN .i64 0 :: .bool true :: iN .i64 i0 :: .bool false :: .tuple #[.agg #[iN .i64 rm, .slice pf fs.length cf, .bool false, iN .i64 l', .slice pz zs.length cz], .bool true] :: .agg (#[iN .i64 rm, .slice pf fs.length cf, .bool dn, iN .i64 lf, .slice pz zs.length cz]) :: .tuple #[.agg #[iN .i64 rm, .slice pf fs.length cf, .bool false, iN .i64 l', .slice pz zs.length cz], .bool true] :: .agg #[iN .i64 rm, .slice pf fs.length cf, .bool false, iN .i64 l', .slice pz zs.length cz] :: .bool true :: .bool true :: .bool false :: un :: .tuple #[iN .i64 i0, .bool false] :: .agg (#[iN .i64 rm, .slice pf fs.length cf, .bool false, iN .i64 l', .slice pz zs.length cz]) :: .string s :: .tuple #[iN .i64 i0, .bool false] :: iN .i64 i0 :: .bool false :: .bool false :: .bool true :: List.replicate 5 un).toArray, []⟩) (by kernel_rfl) ?_
  refine wp_cond_true (by kernel_rfl) ?_
  refine wp_seq ?_
  refine wl_region ?_
  refine wl_load h12 1 rfl (by kernel_rfl) (by kernel_rfl) Try.underlying28 rfl (by kernel_rfl) ?_
  refine wl_fill (c' := #[iN .i64 rm, .slice pf fs.length cf, .bool false, iN .i64 l', .slice pz zs.length cz]) h12 0 rfl (by kernel_rfl) (by kernel_rfl) (by kernel_rfl) rfl (by kernel_rfl) (by kernel_rfl) ?_
  intro w13 (h14 : HA (bs w) [(q4, 28, #[iN .i64 rm, .slice pf fs.length cf, .bool false, iN .i64 l', .slice pz zs.length cz]), (q1, 28, #[iN .i64 rm, .slice pf fs.length cf, .bool false, iN .i64 l', .slice pz zs.length cz])] w13)
  refine wl_val (iN .i64 5) (by kernel_rfl) (by kernel_rfl) ?_
  refine wl_nil ?_
  refine then_at rfl ?_
  refine wp_ret ?_
  repeat first | refine then_ret ?_ | refine block_ret ?_
  exact bodyPost_ret (v := .tuple #[.agg (#[iN .i64 rm, .slice pf fs.length cf, .bool false, iN .i64 l', .slice pz zs.length cz]), iN .i64 5]) (res_cell_tmp (p := 4) (r := 5) (by kernel_rfl) (by kernel_rfl) (by kernel_rfl) (h14.get 0 rfl) Try.underlying28 rfl (by kernel_rfl)) rfl ⟨pf, cf, pz, cz, [], rfl, hF, hZ, Newer.nil _ _, h14.old.old⟩
set_option linter.unusedVariables false in
set_option maxRecDepth 100000 in
set_option maxHeartbeats 2000000 in
theorem rrem_y {w : World} {rm lf cz cf : Nat} {pf pz : Option Addr} {fs : List RF} {zs : List Nat} {N : BL} {dn : Bool} (hF : RFL (.slice pf fs.length cf) fs N) (hZ : RZL (.slice pz zs.length cz) zs N) (hS : Stand w N) (hfl : fs.length ≤ 1000) (hzl : zs.length ≤ 1000) (hlb : lf ≤ 9223372036854775807) (s : ByteArray) {l' : Nat} (hg : gateL dn lf = (l', false, true)) {i0 : Nat} (hfr : findR fs s = (i0, true)) :
    Calls Try.prog 17 #[.agg #[iN .i64 rm, .slice pf fs.length cf, .bool dn, iN .i64 lf, .slice pz zs.length cz], .string s] w fun e w' => RO w w' N e rm (woR fs s fs.length) false l' (zs ++ [0]) 0 := by
  have H0 := HA.start w
  go_enter Try.func17, Try.ntmps17
  refine wp_seq ?_
  refine wl_region ?_
  refine wl_make (c := #[iN .i64 rm, .slice pf fs.length cf, .bool dn, iN .i64 lf, .slice pz zs.length cz]) H0 28 (by kernel_rfl) (by kernel_rfl) ?_
  intro q1 w2 (h3 : HA (bs w) [(q1, 28, #[iN .i64 rm, .slice pf fs.length cf, .bool dn, iN .i64 lf, .slice pz zs.length cz])] w2)
  refine wl_make (c := #[iN .i64 0, .slice none 0 0, .bool false, iN .i64 0, .slice none 0 0]) h3 28 (by kernel_rfl) (by kernel_rfl) ?_
  intro q4 w5 (h6 : HA (bs w) [(q4, 28, #[iN .i64 0, .slice none 0 0, .bool false, iN .i64 0, .slice none 0 0]), (q1, 28, #[iN .i64 rm, .slice pf fs.length cf, .bool dn, iN .i64 lf, .slice pz zs.length cz])] w5)
  refine wl_val (iN .i64 0) (by kernel_rfl) (by kernel_rfl) ?_
  refine wl_nil ?_
  refine then_at rfl ?_
  refine wp_seq ?_
  refine wl_region ?_
  refine wl_load h6 1 rfl (by kernel_rfl) (by kernel_rfl) Try.underlying28 rfl (by kernel_rfl) ?_
  refine wl_call (v := .tuple #[.agg #[iN .i64 rm, .slice pf fs.length cf, .bool false, iN .i64 l', .slice pz zs.length cz], .bool true]) h6 (by kernel_rfl) enter36 #[.agg (#[iN .i64 rm, .slice pf fs.length cf, .bool dn, iN .i64 lf, .slice pz zs.length cz])] (by kernel_rfl) (by have hh := gate_any (rm := rm) (nf := fs.length) (cf := cf) (nz := zs.length) (cz := cz) (pf := pf) (pz := pz) (w := w5) dn hlb; rw [hg] at hh; exact hh) ?_
  intro w7 h8
  refine wl_val (.tuple #[.agg #[iN .i64 rm, .slice pf fs.length cf, .bool false, iN .i64 l', .slice pz zs.length cz], .bool true]) (by kernel_rfl) (by kernel_rfl) ?_
  refine wl_val (.agg #[iN .i64 rm, .slice pf fs.length cf, .bool false, iN .i64 l', .slice pz zs.length cz]) (by kernel_rfl) (by kernel_rfl) ?_
  refine wl_val (.bool true) (by kernel_rfl) (by kernel_rfl) ?_
  refine wl_fill (c' := #[iN .i64 rm, .slice pf fs.length cf, .bool false, iN .i64 l', .slice pz zs.length cz]) h8 1 rfl (by kernel_rfl) (by kernel_rfl) (by kernel_rfl) rfl (by kernel_rfl) (by kernel_rfl) ?_
  intro w9 (h10 : HA (bs w) [(q4, 28, #[iN .i64 0, .slice none 0 0, .bool false, iN .i64 0, .slice none 0 0]), (q1, 28, #[iN .i64 rm, .slice pf fs.length cf, .bool false, iN .i64 l', .slice pz zs.length cz])] w9)
  refine wl_val (.bool true) (by kernel_rfl) (by kernel_rfl) ?_
  refine wl_nil ?_
  refine then_at rfl ?_
  refine wp_seq ?_
  refine wp_seq ?_
  refine wl_region ?_
  refine wl_val (.bool true) (by kernel_rfl) (by kernel_rfl) ?_
  refine wl_val (.bool false) (by kernel_rfl) (by kernel_rfl) ?_
  refine wl_nil ?_
  refine then_at rfl ?_
  refine wp_cond_false (by kernel_rfl) ?_
  refine wp_skip ?_
  refine then_at rfl ?_
  refine wp_seq ?_
  refine wl_region ?_
  refine wl_load h10 1 rfl (by kernel_rfl) (by kernel_rfl) Try.underlying28 rfl (by kernel_rfl) ?_
  refine wl_val (.string s) (by kernel_rfl) (by kernel_rfl) ?_
  refine wl_call (v := .tuple #[iN .i64 i0, .bool true]) h10 (by kernel_rfl) enter39 #[.agg (#[iN .i64 rm, .slice pf fs.length cf, .bool false, iN .i64 l', .slice pz zs.length cz]), .string s] (by kernel_rfl) (by have hh := rfind_any (lf := l') (rm := rm) (nz := zs.length) (cz := cz) (pz := pz) (dn := false) hF (hS.keep h10.old.old) (by omega) s; rw [hfr] at hh; exact hh) ?_
  intro w11 h12
  refine wl_val (.tuple #[iN .i64 i0, .bool true]) (by kernel_rfl) (by kernel_rfl) ?_
  refine wl_val (iN .i64 i0) (by kernel_rfl) (by kernel_rfl) ?_
  refine wl_val (.bool true) (by kernel_rfl) (by kernel_rfl) ?_
  refine wl_val (iN .i64 i0) (by kernel_rfl) (by kernel_rfl) ?_
  refine wl_val (.bool true) (by kernel_rfl) (by kernel_rfl) ?_
  refine wl_nil ?_
  refine then_at rfl ?_
  refine wp_seq ?_
  refine wp_seq ?_
  refine wl_region ?_
  refine wl_val (.bool true) (by kernel_rfl) (by kernel_rfl) ?_
  refine wl_val (.bool false) (by kernel_rfl) (by kernel_rfl) ?_
  refine wl_nil ?_
  refine then_at (F := ⟨(.agg #[iN .i64 rm, .slice pf fs.length cf, .bool dn, iN .i64 lf, .slice pz zs.length cz] :: .string s :: pt q1 :: un :: pt q4 :: iN .i64 0 :: .bool true :: iN .i64 i0 :: .bool true :: .tuple #[.agg #[iN .i64 rm, .slice pf fs.length cf, .bool false, iN .i64 l', .slice pz zs.length cz], .bool true] :: .agg (#[iN .i64 rm, .slice pf fs.length cf, .bool dn, iN .i64 lf, .slice pz zs.length cz]) :: .tuple #[.agg #[iN .i64 rm, .slice pf fs.length cf, .bool false, iN .i64 l', .slice pz zs.length cz], .bool true] :: .agg #[iN .i64 rm, .slice pf fs.length cf, .bool false, iN .i64 l', .slice pz zs.length cz] :: .bool true :: .bool true :: .bool false :: un :: .tuple #[iN .i64 i0, .bool true] :: .agg (#[iN .i64 rm, .slice pf fs.length cf, .bool false, iN .i64 l', .slice pz zs.length cz]) :: .string s :: .tuple #[iN .i64 i0, .bool true] :: iN .i64 i0 :: .bool true :: .bool true :: .bool false :: List.replicate 5 un).toArray, []⟩) (by kernel_rfl) ?_
  refine wp_cond_false (by kernel_rfl) ?_
  refine wp_skip ?_
  refine then_at rfl ?_
  refine wp_seq ?_
  refine wl_region ?_
  refine wl_load h12 1 rfl (by kernel_rfl) (by kernel_rfl) Try.underlying28 rfl (by kernel_rfl) ?_
  refine wl_val (.string s) (by kernel_rfl) (by kernel_rfl) ?_
  refine wl_callx (by kernel_rfl) enter47 #[.agg (#[iN .i64 rm, .slice pf fs.length cf, .bool false, iN .i64 l', .slice pz zs.length cz]), .string s] (by kernel_rfl) (without_any (lf := l') (rm := rm) (nz := zs.length) (cz := cz) (pz := pz) (dn := false) hF (hS.keep h12.old.old) (by omega) s) ?_
  rintro _ w13 ⟨p1, c1, N1, rfl, hF1, hN1, hb1⟩
  refine ⟨_, rfl, ?_⟩
  have hxh14 := HA.addL h12 hb1 hN1
  have h14 : HA (bs w) ((q4, 28, #[iN .i64 0, .slice none 0 0, .bool false, iN .i64 0, .slice none 0 0]) :: (q1, 28, #[iN .i64 rm, .slice pf fs.length cf, .bool false, iN .i64 l', .slice pz zs.length cz]) :: N1) w13 := hxh14
  refine wl_callx (by kernel_rfl) enter40 #[.agg #[iN .i64 rm, .slice p1 (woR fs s fs.length).length c1, .bool false, iN .i64 l', .slice pz zs.length cz], iN .i64 0] (by kernel_rfl) (told_any (lf := l') (rm := rm) (nf := (woR fs s fs.length).length) (cf := c1) (pf := p1) (dn := false) hZ (hS.keep h14.old.old) (by omega) 0) ?_
  rintro _ w15 ⟨p2, c2, N2, rfl, hZ2, hN2, hb2⟩
  refine ⟨_, rfl, ?_⟩
  have hxh16 := HA.addL h14 hb2 hN2
  have h16 : HA (bs w) ((q4, 28, #[iN .i64 0, .slice none 0 0, .bool false, iN .i64 0, .slice none 0 0]) :: (q1, 28, #[iN .i64 rm, .slice pf fs.length cf, .bool false, iN .i64 l', .slice pz zs.length cz]) :: (N1 ++ N2)) w15 := hxh16
  refine wl_fill (c' := #[iN .i64 rm, .slice p1 (woR fs s fs.length).length c1, .bool false, iN .i64 l', .slice p2 (zs ++ [0]).length c2]) h16 0 rfl (by kernel_rfl) (by kernel_rfl) (by kernel_rfl) rfl (by kernel_rfl) (by kernel_rfl) ?_
  intro w17 (h18 : HA (bs w) ((q4, 28, #[iN .i64 rm, .slice p1 (woR fs s fs.length).length c1, .bool false, iN .i64 l', .slice p2 (zs ++ [0]).length c2]) :: (q1, 28, #[iN .i64 rm, .slice pf fs.length cf, .bool false, iN .i64 l', .slice pz zs.length cz]) :: (N1 ++ N2)) w17)
  refine wl_val (iN .i64 0) (by kernel_rfl) (by kernel_rfl) ?_
  refine wl_nil ?_
  refine then_at rfl ?_
  refine wp_ret ?_
  repeat first | refine then_ret ?_ | refine block_ret ?_
  exact bodyPost_ret (v := .tuple #[.agg (#[iN .i64 rm, .slice p1 (woR fs s fs.length).length c1, .bool false, iN .i64 l', .slice p2 (zs ++ [0]).length c2]), iN .i64 0]) (res_cell_tmp (p := 4) (r := 5) (by kernel_rfl) (by kernel_rfl) (by kernel_rfl) (h18.get 0 rfl) Try.underlying28 rfl (by kernel_rfl)) rfl ⟨p1, c1, p2, c2, N1 ++ N2, rfl, hF1.mono (fun x hx => by simp [hx]), hZ2.mono (fun x hx => by simp [hx]), HA.newerS h18 (List.Sublist.cons _ (List.Sublist.cons _ (List.Sublist.refl _))), h18.old.old⟩
set_option linter.unusedVariables false in
set_option maxRecDepth 100000 in
set_option maxHeartbeats 2000000 in
theorem rsync_g {w : World} {rm lf cz cf : Nat} {pf pz : Option Addr} {fs : List RF} {zs : List Nat} {N : BL} {dn : Bool} (hF : RFL (.slice pf fs.length cf) fs N) (hZ : RZL (.slice pz zs.length cz) zs N) (hS : Stand w N) (hfl : fs.length ≤ 1000) (hzl : zs.length ≤ 1000) (hlb : lf ≤ 9223372036854775807) (s : ByteArray) {l' : Nat} {d' : Bool} (hg : gateL dn lf = (l', d', false)) :
    Calls Try.prog 13 #[.agg #[iN .i64 rm, .slice pf fs.length cf, .bool dn, iN .i64 lf, .slice pz zs.length cz], .string s] w fun e w' => RO w w' N e rm fs d' l' zs 16 := by
  have H0 := HA.start w
  go_enter Try.func13, Try.ntmps13
  refine wp_seq ?_
  refine wl_region ?_
  refine wl_make (c := #[iN .i64 rm, .slice pf fs.length cf, .bool dn, iN .i64 lf, .slice pz zs.length cz]) H0 28 (by kernel_rfl) (by kernel_rfl) ?_
  intro q1 w2 (h3 : HA (bs w) [(q1, 28, #[iN .i64 rm, .slice pf fs.length cf, .bool dn, iN .i64 lf, .slice pz zs.length cz])] w2)
  refine wl_make (c := #[iN .i64 0, .slice none 0 0, .bool false, iN .i64 0, .slice none 0 0]) h3 28 (by kernel_rfl) (by kernel_rfl) ?_
  intro q4 w5 (h6 : HA (bs w) [(q4, 28, #[iN .i64 0, .slice none 0 0, .bool false, iN .i64 0, .slice none 0 0]), (q1, 28, #[iN .i64 rm, .slice pf fs.length cf, .bool dn, iN .i64 lf, .slice pz zs.length cz])] w5)
  refine wl_val (iN .i64 0) (by kernel_rfl) (by kernel_rfl) ?_
  refine wl_nil ?_
  refine then_at rfl ?_
  refine wp_seq ?_
  refine wl_region ?_
  refine wl_load h6 1 rfl (by kernel_rfl) (by kernel_rfl) Try.underlying28 rfl (by kernel_rfl) ?_
  refine wl_call (v := .tuple #[.agg #[iN .i64 rm, .slice pf fs.length cf, .bool d', iN .i64 l', .slice pz zs.length cz], .bool false]) h6 (by kernel_rfl) enter36 #[.agg (#[iN .i64 rm, .slice pf fs.length cf, .bool dn, iN .i64 lf, .slice pz zs.length cz])] (by kernel_rfl) (by have hh := gate_any (rm := rm) (nf := fs.length) (cf := cf) (nz := zs.length) (cz := cz) (pf := pf) (pz := pz) (w := w5) dn hlb; rw [hg] at hh; exact hh) ?_
  intro w7 h8
  refine wl_val (.tuple #[.agg #[iN .i64 rm, .slice pf fs.length cf, .bool d', iN .i64 l', .slice pz zs.length cz], .bool false]) (by kernel_rfl) (by kernel_rfl) ?_
  refine wl_val (.agg #[iN .i64 rm, .slice pf fs.length cf, .bool d', iN .i64 l', .slice pz zs.length cz]) (by kernel_rfl) (by kernel_rfl) ?_
  refine wl_val (.bool false) (by kernel_rfl) (by kernel_rfl) ?_
  refine wl_fill (c' := #[iN .i64 rm, .slice pf fs.length cf, .bool d', iN .i64 l', .slice pz zs.length cz]) h8 1 rfl (by kernel_rfl) (by kernel_rfl) (by kernel_rfl) rfl (by kernel_rfl) (by kernel_rfl) ?_
  intro w9 (h10 : HA (bs w) [(q4, 28, #[iN .i64 0, .slice none 0 0, .bool false, iN .i64 0, .slice none 0 0]), (q1, 28, #[iN .i64 rm, .slice pf fs.length cf, .bool d', iN .i64 l', .slice pz zs.length cz])] w9)
  refine wl_val (.bool false) (by kernel_rfl) (by kernel_rfl) ?_
  refine wl_nil ?_
  refine then_at rfl ?_
  refine wp_seq ?_
  refine wp_seq ?_
  refine wl_region ?_
  refine wl_val (.bool false) (by kernel_rfl) (by kernel_rfl) ?_
  refine wl_val (.bool true) (by kernel_rfl) (by kernel_rfl) ?_
  refine wl_nil ?_
  refine then_at rfl ?_
  refine wp_cond_true (by kernel_rfl) ?_
  refine wp_seq ?_
  refine wl_region ?_
  refine wl_load h10 1 rfl (by kernel_rfl) (by kernel_rfl) Try.underlying28 rfl (by kernel_rfl) ?_
  refine wl_fill (c' := #[iN .i64 rm, .slice pf fs.length cf, .bool d', iN .i64 l', .slice pz zs.length cz]) h10 0 rfl (by kernel_rfl) (by kernel_rfl) (by kernel_rfl) rfl (by kernel_rfl) (by kernel_rfl) ?_
  intro w11 (h12 : HA (bs w) [(q4, 28, #[iN .i64 rm, .slice pf fs.length cf, .bool d', iN .i64 l', .slice pz zs.length cz]), (q1, 28, #[iN .i64 rm, .slice pf fs.length cf, .bool d', iN .i64 l', .slice pz zs.length cz])] w11)
  refine wl_val (iN .i64 16) (by kernel_rfl) (by kernel_rfl) ?_
  refine wl_nil ?_
  refine then_at rfl ?_
  refine wp_ret ?_
  repeat first | refine then_ret ?_ | refine block_ret ?_
  exact bodyPost_ret (v := .tuple #[.agg (#[iN .i64 rm, .slice pf fs.length cf, .bool d', iN .i64 l', .slice pz zs.length cz]), iN .i64 16]) (res_cell_tmp (p := 4) (r := 5) (by kernel_rfl) (by kernel_rfl) (by kernel_rfl) (h12.get 0 rfl) Try.underlying28 rfl (by kernel_rfl)) rfl ⟨pf, cf, pz, cz, [], rfl, hF, hZ, Newer.nil _ _, h12.old.old⟩
set_option linter.unusedVariables false in
set_option maxRecDepth 100000 in
set_option maxHeartbeats 2000000 in
theorem rsync_n {w : World} {rm lf cz cf : Nat} {pf pz : Option Addr} {fs : List RF} {zs : List Nat} {N : BL} {dn : Bool} (hF : RFL (.slice pf fs.length cf) fs N) (hZ : RZL (.slice pz zs.length cz) zs N) (hS : Stand w N) (hfl : fs.length ≤ 1000) (hzl : zs.length ≤ 1000) (hlb : lf ≤ 9223372036854775807) (s : ByteArray) {l' : Nat} (hg : gateL dn lf = (l', false, true)) {i0 : Nat} (hfr : findR fs s = (i0, false)) :
    Calls Try.prog 13 #[.agg #[iN .i64 rm, .slice pf fs.length cf, .bool dn, iN .i64 lf, .slice pz zs.length cz], .string s] w fun e w' => RO w w' N e rm fs false l' zs 5 := by
  have H0 := HA.start w
  go_enter Try.func13, Try.ntmps13
  refine wp_seq ?_
  refine wl_region ?_
  refine wl_make (c := #[iN .i64 rm, .slice pf fs.length cf, .bool dn, iN .i64 lf, .slice pz zs.length cz]) H0 28 (by kernel_rfl) (by kernel_rfl) ?_
  intro q1 w2 (h3 : HA (bs w) [(q1, 28, #[iN .i64 rm, .slice pf fs.length cf, .bool dn, iN .i64 lf, .slice pz zs.length cz])] w2)
  refine wl_make (c := #[iN .i64 0, .slice none 0 0, .bool false, iN .i64 0, .slice none 0 0]) h3 28 (by kernel_rfl) (by kernel_rfl) ?_
  intro q4 w5 (h6 : HA (bs w) [(q4, 28, #[iN .i64 0, .slice none 0 0, .bool false, iN .i64 0, .slice none 0 0]), (q1, 28, #[iN .i64 rm, .slice pf fs.length cf, .bool dn, iN .i64 lf, .slice pz zs.length cz])] w5)
  refine wl_val (iN .i64 0) (by kernel_rfl) (by kernel_rfl) ?_
  refine wl_nil ?_
  refine then_at rfl ?_
  refine wp_seq ?_
  refine wl_region ?_
  refine wl_load h6 1 rfl (by kernel_rfl) (by kernel_rfl) Try.underlying28 rfl (by kernel_rfl) ?_
  refine wl_call (v := .tuple #[.agg #[iN .i64 rm, .slice pf fs.length cf, .bool false, iN .i64 l', .slice pz zs.length cz], .bool true]) h6 (by kernel_rfl) enter36 #[.agg (#[iN .i64 rm, .slice pf fs.length cf, .bool dn, iN .i64 lf, .slice pz zs.length cz])] (by kernel_rfl) (by have hh := gate_any (rm := rm) (nf := fs.length) (cf := cf) (nz := zs.length) (cz := cz) (pf := pf) (pz := pz) (w := w5) dn hlb; rw [hg] at hh; exact hh) ?_
  intro w7 h8
  refine wl_val (.tuple #[.agg #[iN .i64 rm, .slice pf fs.length cf, .bool false, iN .i64 l', .slice pz zs.length cz], .bool true]) (by kernel_rfl) (by kernel_rfl) ?_
  refine wl_val (.agg #[iN .i64 rm, .slice pf fs.length cf, .bool false, iN .i64 l', .slice pz zs.length cz]) (by kernel_rfl) (by kernel_rfl) ?_
  refine wl_val (.bool true) (by kernel_rfl) (by kernel_rfl) ?_
  refine wl_fill (c' := #[iN .i64 rm, .slice pf fs.length cf, .bool false, iN .i64 l', .slice pz zs.length cz]) h8 1 rfl (by kernel_rfl) (by kernel_rfl) (by kernel_rfl) rfl (by kernel_rfl) (by kernel_rfl) ?_
  intro w9 (h10 : HA (bs w) [(q4, 28, #[iN .i64 0, .slice none 0 0, .bool false, iN .i64 0, .slice none 0 0]), (q1, 28, #[iN .i64 rm, .slice pf fs.length cf, .bool false, iN .i64 l', .slice pz zs.length cz])] w9)
  refine wl_val (.bool true) (by kernel_rfl) (by kernel_rfl) ?_
  refine wl_nil ?_
  refine then_at rfl ?_
  refine wp_seq ?_
  refine wp_seq ?_
  refine wl_region ?_
  refine wl_val (.bool true) (by kernel_rfl) (by kernel_rfl) ?_
  refine wl_val (.bool false) (by kernel_rfl) (by kernel_rfl) ?_
  refine wl_nil ?_
  refine then_at rfl ?_
  refine wp_cond_false (by kernel_rfl) ?_
  refine wp_skip ?_
  refine then_at rfl ?_
  refine wp_seq ?_
  refine wl_region ?_
  refine wl_load h10 1 rfl (by kernel_rfl) (by kernel_rfl) Try.underlying28 rfl (by kernel_rfl) ?_
  refine wl_val (.string s) (by kernel_rfl) (by kernel_rfl) ?_
  refine wl_call (v := .tuple #[iN .i64 i0, .bool false]) h10 (by kernel_rfl) enter39 #[.agg (#[iN .i64 rm, .slice pf fs.length cf, .bool false, iN .i64 l', .slice pz zs.length cz]), .string s] (by kernel_rfl) (by have hh := rfind_any (lf := l') (rm := rm) (nz := zs.length) (cz := cz) (pz := pz) (dn := false) hF (hS.keep h10.old.old) (by omega) s; rw [hfr] at hh; exact hh) ?_
  intro w11 h12
  refine wl_val (.tuple #[iN .i64 i0, .bool false]) (by kernel_rfl) (by kernel_rfl) ?_
  refine wl_val (iN .i64 i0) (by kernel_rfl) (by kernel_rfl) ?_
  refine wl_val (.bool false) (by kernel_rfl) (by kernel_rfl) ?_
  refine wl_val (iN .i64 i0) (by kernel_rfl) (by kernel_rfl) ?_
  refine wl_val (.bool false) (by kernel_rfl) (by kernel_rfl) ?_
  refine wl_nil ?_
  refine then_at rfl ?_
  refine wp_seq ?_
  refine wp_seq ?_
  refine wl_region ?_
  refine wl_val (.bool false) (by kernel_rfl) (by kernel_rfl) ?_
  refine wl_val (.bool true) (by kernel_rfl) (by kernel_rfl) ?_
  refine wl_nil ?_
  refine then_at (F := ⟨(.agg #[iN .i64 rm, .slice pf fs.length cf, .bool dn, iN .i64 lf, .slice pz zs.length cz] :: .string s :: pt q1 :: un :: pt q4 :: iN .i64 0 :: .bool true :: iN .i64 i0 :: .bool false :: un :: .tuple #[.agg #[iN .i64 rm, .slice pf fs.length cf, .bool false, iN .i64 l', .slice pz zs.length cz], .bool true] :: .agg (#[iN .i64 rm, .slice pf fs.length cf, .bool dn, iN .i64 lf, .slice pz zs.length cz]) :: .tuple #[.agg #[iN .i64 rm, .slice pf fs.length cf, .bool false, iN .i64 l', .slice pz zs.length cz], .bool true] :: .agg #[iN .i64 rm, .slice pf fs.length cf, .bool false, iN .i64 l', .slice pz zs.length cz] :: .bool true :: .bool true :: .bool false :: un :: .tuple #[iN .i64 i0, .bool false] :: .agg (#[iN .i64 rm, .slice pf fs.length cf, .bool false, iN .i64 l', .slice pz zs.length cz]) :: .string s :: .tuple #[iN .i64 i0, .bool false] :: iN .i64 i0 :: .bool false :: .bool false :: .bool true :: List.replicate 14 un).toArray, []⟩) (by kernel_rfl) ?_
  refine wp_cond_true (by kernel_rfl) ?_
  refine wp_seq ?_
  refine wl_region ?_
  refine wl_load h12 1 rfl (by kernel_rfl) (by kernel_rfl) Try.underlying28 rfl (by kernel_rfl) ?_
  refine wl_fill (c' := #[iN .i64 rm, .slice pf fs.length cf, .bool false, iN .i64 l', .slice pz zs.length cz]) h12 0 rfl (by kernel_rfl) (by kernel_rfl) (by kernel_rfl) rfl (by kernel_rfl) (by kernel_rfl) ?_
  intro w13 (h14 : HA (bs w) [(q4, 28, #[iN .i64 rm, .slice pf fs.length cf, .bool false, iN .i64 l', .slice pz zs.length cz]), (q1, 28, #[iN .i64 rm, .slice pf fs.length cf, .bool false, iN .i64 l', .slice pz zs.length cz])] w13)
  refine wl_val (iN .i64 5) (by kernel_rfl) (by kernel_rfl) ?_
  refine wl_nil ?_
  refine then_at rfl ?_
  refine wp_ret ?_
  repeat first | refine then_ret ?_ | refine block_ret ?_
  exact bodyPost_ret (v := .tuple #[.agg (#[iN .i64 rm, .slice pf fs.length cf, .bool false, iN .i64 l', .slice pz zs.length cz]), iN .i64 5]) (res_cell_tmp (p := 4) (r := 5) (by kernel_rfl) (by kernel_rfl) (by kernel_rfl) (h14.get 0 rfl) Try.underlying28 rfl (by kernel_rfl)) rfl ⟨pf, cf, pz, cz, [], rfl, hF, hZ, Newer.nil _ _, h14.old.old⟩
set_option linter.unusedVariables false in
set_option maxRecDepth 100000 in
set_option maxHeartbeats 2000000 in
theorem rsync_y {w : World} {rm lf cz cf : Nat} {pf pz : Option Addr} {fs : List RF} {zs : List Nat} {N : BL} {dn : Bool} (hF : RFL (.slice pf fs.length cf) fs N) (hZ : RZL (.slice pz zs.length cz) zs N) (hS : Stand w N) (hfl : fs.length ≤ 1000) (hzl : zs.length ≤ 1000) (hlb : lf ≤ 9223372036854775807) (s : ByteArray) {l' : Nat} (hg : gateL dn lf = (l', false, true)) {i0 : Nat} {f : RF} (hfr : findR fs s = (i0, true)) (hf0 : fs[i0]? = some f) :
    Calls Try.prog 13 #[.agg #[iN .i64 rm, .slice pf fs.length cf, .bool dn, iN .i64 lf, .slice pz zs.length cz], .string s] w fun e w' => RO w w' N e rm (withR fs ⟨f.nm, f.b, f.b.size⟩) false l' (zs ++ [0]) 0 := by
  have hf := hf0
  obtain ⟨gF, curF, hpF, _, hgF, c0, c1, c2⟩ := hF.at hf
  have H0 := HA.start w
  go_enter Try.func13, Try.ntmps13
  refine wp_seq ?_
  refine wl_region ?_
  refine wl_make (c := #[iN .i64 rm, .slice pf fs.length cf, .bool dn, iN .i64 lf, .slice pz zs.length cz]) H0 28 (by kernel_rfl) (by kernel_rfl) ?_
  intro q1 w2 (h3 : HA (bs w) [(q1, 28, #[iN .i64 rm, .slice pf fs.length cf, .bool dn, iN .i64 lf, .slice pz zs.length cz])] w2)
  refine wl_make (c := #[iN .i64 0, .slice none 0 0, .bool false, iN .i64 0, .slice none 0 0]) h3 28 (by kernel_rfl) (by kernel_rfl) ?_
  intro q4 w5 (h6 : HA (bs w) [(q4, 28, #[iN .i64 0, .slice none 0 0, .bool false, iN .i64 0, .slice none 0 0]), (q1, 28, #[iN .i64 rm, .slice pf fs.length cf, .bool dn, iN .i64 lf, .slice pz zs.length cz])] w5)
  refine wl_val (iN .i64 0) (by kernel_rfl) (by kernel_rfl) ?_
  refine wl_nil ?_
  refine then_at rfl ?_
  refine wp_seq ?_
  refine wl_region ?_
  refine wl_load h6 1 rfl (by kernel_rfl) (by kernel_rfl) Try.underlying28 rfl (by kernel_rfl) ?_
  refine wl_call (v := .tuple #[.agg #[iN .i64 rm, .slice pf fs.length cf, .bool false, iN .i64 l', .slice pz zs.length cz], .bool true]) h6 (by kernel_rfl) enter36 #[.agg (#[iN .i64 rm, .slice pf fs.length cf, .bool dn, iN .i64 lf, .slice pz zs.length cz])] (by kernel_rfl) (by have hh := gate_any (rm := rm) (nf := fs.length) (cf := cf) (nz := zs.length) (cz := cz) (pf := pf) (pz := pz) (w := w5) dn hlb; rw [hg] at hh; exact hh) ?_
  intro w7 h8
  refine wl_val (.tuple #[.agg #[iN .i64 rm, .slice pf fs.length cf, .bool false, iN .i64 l', .slice pz zs.length cz], .bool true]) (by kernel_rfl) (by kernel_rfl) ?_
  refine wl_val (.agg #[iN .i64 rm, .slice pf fs.length cf, .bool false, iN .i64 l', .slice pz zs.length cz]) (by kernel_rfl) (by kernel_rfl) ?_
  refine wl_val (.bool true) (by kernel_rfl) (by kernel_rfl) ?_
  refine wl_fill (c' := #[iN .i64 rm, .slice pf fs.length cf, .bool false, iN .i64 l', .slice pz zs.length cz]) h8 1 rfl (by kernel_rfl) (by kernel_rfl) (by kernel_rfl) rfl (by kernel_rfl) (by kernel_rfl) ?_
  intro w9 (h10 : HA (bs w) [(q4, 28, #[iN .i64 0, .slice none 0 0, .bool false, iN .i64 0, .slice none 0 0]), (q1, 28, #[iN .i64 rm, .slice pf fs.length cf, .bool false, iN .i64 l', .slice pz zs.length cz])] w9)
  refine wl_val (.bool true) (by kernel_rfl) (by kernel_rfl) ?_
  refine wl_nil ?_
  refine then_at rfl ?_
  refine wp_seq ?_
  refine wp_seq ?_
  refine wl_region ?_
  refine wl_val (.bool true) (by kernel_rfl) (by kernel_rfl) ?_
  refine wl_val (.bool false) (by kernel_rfl) (by kernel_rfl) ?_
  refine wl_nil ?_
  refine then_at rfl ?_
  refine wp_cond_false (by kernel_rfl) ?_
  refine wp_skip ?_
  refine then_at rfl ?_
  refine wp_seq ?_
  refine wl_region ?_
  refine wl_load h10 1 rfl (by kernel_rfl) (by kernel_rfl) Try.underlying28 rfl (by kernel_rfl) ?_
  refine wl_val (.string s) (by kernel_rfl) (by kernel_rfl) ?_
  refine wl_call (v := .tuple #[iN .i64 i0, .bool true]) h10 (by kernel_rfl) enter39 #[.agg (#[iN .i64 rm, .slice pf fs.length cf, .bool false, iN .i64 l', .slice pz zs.length cz]), .string s] (by kernel_rfl) (by have hh := rfind_any (lf := l') (rm := rm) (nz := zs.length) (cz := cz) (pz := pz) (dn := false) hF (hS.keep h10.old.old) (by omega) s; rw [hfr] at hh; exact hh) ?_
  intro w11 h12
  refine wl_val (.tuple #[iN .i64 i0, .bool true]) (by kernel_rfl) (by kernel_rfl) ?_
  refine wl_val (iN .i64 i0) (by kernel_rfl) (by kernel_rfl) ?_
  refine wl_val (.bool true) (by kernel_rfl) (by kernel_rfl) ?_
  refine wl_val (iN .i64 i0) (by kernel_rfl) (by kernel_rfl) ?_
  refine wl_val (.bool true) (by kernel_rfl) (by kernel_rfl) ?_
  refine wl_nil ?_
  refine then_at rfl ?_
  refine wp_seq ?_
  refine wp_seq ?_
  refine wl_region ?_
  refine wl_val (.bool true) (by kernel_rfl) (by kernel_rfl) ?_
  refine wl_val (.bool false) (by kernel_rfl) (by kernel_rfl) ?_
  refine wl_nil ?_
  refine then_at (F := ⟨(.agg #[iN .i64 rm, .slice pf fs.length cf, .bool dn, iN .i64 lf, .slice pz zs.length cz] :: .string s :: pt q1 :: un :: pt q4 :: iN .i64 0 :: .bool true :: iN .i64 i0 :: .bool true :: un :: .tuple #[.agg #[iN .i64 rm, .slice pf fs.length cf, .bool false, iN .i64 l', .slice pz zs.length cz], .bool true] :: .agg (#[iN .i64 rm, .slice pf fs.length cf, .bool dn, iN .i64 lf, .slice pz zs.length cz]) :: .tuple #[.agg #[iN .i64 rm, .slice pf fs.length cf, .bool false, iN .i64 l', .slice pz zs.length cz], .bool true] :: .agg #[iN .i64 rm, .slice pf fs.length cf, .bool false, iN .i64 l', .slice pz zs.length cz] :: .bool true :: .bool true :: .bool false :: un :: .tuple #[iN .i64 i0, .bool true] :: .agg (#[iN .i64 rm, .slice pf fs.length cf, .bool false, iN .i64 l', .slice pz zs.length cz]) :: .string s :: .tuple #[iN .i64 i0, .bool true] :: iN .i64 i0 :: .bool true :: .bool true :: .bool false :: List.replicate 14 un).toArray, []⟩) (by kernel_rfl) ?_
  refine wp_cond_false (by kernel_rfl) ?_
  refine wp_skip ?_
  refine then_at rfl ?_
  refine wp_seq ?_
  refine wl_region ?_
  refine wl_val (.pointer (some ⟨q1, 1, none⟩)) (by kernel_rfl) (by kernel_rfl) ?_
  refine wl_val (.slice pf fs.length cf) (by kernel_rfl) (run_load1 (fun w => Try.isAgg25 w) (by kernel_rfl) (((h12.get 1 rfl).cell 1).trans rfl)) ?_
  refine wl_val (iN .i64 i0) (by kernel_rfl) (by kernel_rfl) ?_
  refine wl_val (.pointer (some ⟨gF, 3 * i0, none⟩)) (by kernel_rfl) (run_addr75p (q := gF) (n := fs.length) (m := cf) (a := i0) hpF (by kernel_rfl) (by kernel_rfl) (List.getElem?_eq_some_iff.1 hf).1) ?_
  refine wl_val (.agg #[.string f.nm, .string f.b, iN .i64 f.sy]) (by kernel_rfl) (run_part (c' := #[.string f.nm, .string f.b, iN .i64 f.sy]) (by kernel_rfl) ((hS.keep h12.old.old) _ hgF) (part3 c0 c1 c2) Try.underlying75 rfl (by kernel_rfl)) ?_
  refine wl_make (c := #[.string ({ data := #[] }), .string ({ data := #[] }), iN .i64 0]) h12 75 (by kernel_rfl) (by kernel_rfl) ?_
  intro q13 w14 (h15 : HA (bs w) [(q13, 75, #[.string ({ data := #[] }), .string ({ data := #[] }), iN .i64 0]), (q4, 28, #[iN .i64 0, .slice none 0 0, .bool false, iN .i64 0, .slice none 0 0]), (q1, 28, #[iN .i64 rm, .slice pf fs.length cf, .bool false, iN .i64 l', .slice pz zs.length cz])] w14)
  refine wl_fill (c' := #[.string f.nm, .string f.b, iN .i64 f.sy]) h15 0 rfl (by kernel_rfl) (by kernel_rfl) (by kernel_rfl) rfl (by kernel_rfl) (by kernel_rfl) ?_
  intro w16 (h17 : HA (bs w) [(q13, 75, #[.string f.nm, .string f.b, iN .i64 f.sy]), (q4, 28, #[iN .i64 0, .slice none 0 0, .bool false, iN .i64 0, .slice none 0 0]), (q1, 28, #[iN .i64 rm, .slice pf fs.length cf, .bool false, iN .i64 l', .slice pz zs.length cz])] w16)
  refine wl_nil ?_
  refine then_at rfl ?_
  refine wp_seq ?_
  refine wl_region ?_
  refine wl_val (.pointer (some ⟨q13, 1, none⟩)) (by kernel_rfl) (by kernel_rfl) ?_
  refine wl_val (.string f.b) (by kernel_rfl) (run_load1 (fun w => Try.isAgg9 w) (by kernel_rfl) (((h17.get 0 rfl).cell 1).trans rfl)) ?_
  refine wl_val (iN .i64 f.b.size) (by kernel_rfl) (run_len (s := f.b) (by kernel_rfl)) ?_
  refine wl_val (.pointer (some ⟨q13, 2, none⟩)) (by kernel_rfl) (by kernel_rfl) ?_
  refine wl_putv (v := iN .i64 f.b.size) h17 0 rfl 2 (by show 2 < 3; decide) (by kernel_rfl) (fun w => Try.sizeOf3 w) (by kernel_rfl) (by kernel_rfl) (by kernel_rfl) ?_
  intro w18 (h19 : HA (bs w) [(q13, 75, #[.string f.nm, .string f.b, iN .i64 f.b.size]), (q4, 28, #[iN .i64 0, .slice none 0 0, .bool false, iN .i64 0, .slice none 0 0]), (q1, 28, #[iN .i64 rm, .slice pf fs.length cf, .bool false, iN .i64 l', .slice pz zs.length cz])] w18)
  refine wl_nil ?_
  refine then_at rfl ?_
  refine wp_seq ?_
  refine wl_region ?_
  refine wl_load h19 2 rfl (by kernel_rfl) (by kernel_rfl) Try.underlying28 rfl (by kernel_rfl) ?_
  refine wl_load h19 0 rfl (by kernel_rfl) (by kernel_rfl) Try.underlying75 rfl (by kernel_rfl) ?_
  refine wl_callx (by kernel_rfl) enter41 #[.agg (#[iN .i64 rm, .slice pf fs.length cf, .bool false, iN .i64 l', .slice pz zs.length cz]), .agg (#[.string f.nm, .string f.b, iN .i64 f.b.size])] (by kernel_rfl) (with_any (lf := l') (rm := rm) (nz := zs.length) (cz := cz) (pz := pz) (dn := false) hF (hS.keep h19.old.old) (by omega) ⟨f.nm, f.b, f.b.size⟩) ?_
  rintro _ w20 ⟨p1, c1, N1, rfl, hF1, hN1, hb1⟩
  refine ⟨_, rfl, ?_⟩
  have hxh21 := HA.addL h19 hb1 hN1
  have h21 : HA (bs w) ((q13, 75, #[.string f.nm, .string f.b, iN .i64 f.b.size]) :: (q4, 28, #[iN .i64 0, .slice none 0 0, .bool false, iN .i64 0, .slice none 0 0]) :: (q1, 28, #[iN .i64 rm, .slice pf fs.length cf, .bool false, iN .i64 l', .slice pz zs.length cz]) :: N1) w20 := hxh21
  refine wl_callx (by kernel_rfl) enter40 #[.agg #[iN .i64 rm, .slice p1 (withR fs ⟨f.nm, f.b, f.b.size⟩).length c1, .bool false, iN .i64 l', .slice pz zs.length cz], iN .i64 0] (by kernel_rfl) (told_any (lf := l') (rm := rm) (nf := (withR fs ⟨f.nm, f.b, f.b.size⟩).length) (cf := c1) (pf := p1) (dn := false) hZ (hS.keep h21.old.old) (by omega) 0) ?_
  rintro _ w22 ⟨p2, c2, N2, rfl, hZ2, hN2, hb2⟩
  refine ⟨_, rfl, ?_⟩
  have hxh23 := HA.addL h21 hb2 hN2
  have h23 : HA (bs w) ((q13, 75, #[.string f.nm, .string f.b, iN .i64 f.b.size]) :: (q4, 28, #[iN .i64 0, .slice none 0 0, .bool false, iN .i64 0, .slice none 0 0]) :: (q1, 28, #[iN .i64 rm, .slice pf fs.length cf, .bool false, iN .i64 l', .slice pz zs.length cz]) :: (N1 ++ N2)) w22 := hxh23
  refine wl_fill (c' := #[iN .i64 rm, .slice p1 (withR fs ⟨f.nm, f.b, f.b.size⟩).length c1, .bool false, iN .i64 l', .slice p2 (zs ++ [0]).length c2]) h23 1 rfl (by kernel_rfl) (by kernel_rfl) (by kernel_rfl) rfl (by kernel_rfl) (by kernel_rfl) ?_
  intro w24 (h25 : HA (bs w) ((q13, 75, #[.string f.nm, .string f.b, iN .i64 f.b.size]) :: (q4, 28, #[iN .i64 rm, .slice p1 (withR fs ⟨f.nm, f.b, f.b.size⟩).length c1, .bool false, iN .i64 l', .slice p2 (zs ++ [0]).length c2]) :: (q1, 28, #[iN .i64 rm, .slice pf fs.length cf, .bool false, iN .i64 l', .slice pz zs.length cz]) :: (N1 ++ N2)) w24)
  refine wl_val (iN .i64 0) (by kernel_rfl) (by kernel_rfl) ?_
  refine wl_nil ?_
  refine then_at rfl ?_
  refine wp_ret ?_
  repeat first | refine then_ret ?_ | refine block_ret ?_
  exact bodyPost_ret (v := .tuple #[.agg (#[iN .i64 rm, .slice p1 (withR fs ⟨f.nm, f.b, f.b.size⟩).length c1, .bool false, iN .i64 l', .slice p2 (zs ++ [0]).length c2]), iN .i64 0]) (res_cell_tmp (p := 4) (r := 5) (by kernel_rfl) (by kernel_rfl) (by kernel_rfl) (h25.get 1 rfl) Try.underlying28 rfl (by kernel_rfl)) rfl ⟨p1, c1, p2, c2, N1 ++ N2, rfl, hF1.mono (fun x hx => by simp [hx]), hZ2.mono (fun x hx => by simp [hx]), HA.newerS h25 (List.Sublist.cons _ (List.Sublist.cons _ (List.Sublist.cons _ (List.Sublist.refl _)))), h25.old.old⟩
set_option linter.unusedVariables false in
set_option maxRecDepth 100000 in
set_option maxHeartbeats 2000000 in
theorem rapp_g {w : World} {rm lf cz cf : Nat} {pf pz : Option Addr} {fs : List RF} {zs : List Nat} {N : BL} {dn : Bool} (hF : RFL (.slice pf fs.length cf) fs N) (hZ : RZL (.slice pz zs.length cz) zs N) (hS : Stand w N) (hfl : fs.length ≤ 1000) (hzl : zs.length ≤ 1000) (hlb : lf ≤ 9223372036854775807) (s da : ByteArray) {l' : Nat} {d' : Bool} (hg : gateL dn lf = (l', d', false)) :
    Calls Try.prog 11 #[.agg #[iN .i64 rm, .slice pf fs.length cf, .bool dn, iN .i64 lf, .slice pz zs.length cz], .string s, .string da] w fun e w' => RO w w' N e rm fs d' l' zs 16 := by
  have H0 := HA.start w
  go_enter Try.func11, Try.ntmps11
  refine wp_seq ?_
  refine wl_region ?_
  refine wl_make (c := #[iN .i64 rm, .slice pf fs.length cf, .bool dn, iN .i64 lf, .slice pz zs.length cz]) H0 28 (by kernel_rfl) (by kernel_rfl) ?_
  intro q1 w2 (h3 : HA (bs w) [(q1, 28, #[iN .i64 rm, .slice pf fs.length cf, .bool dn, iN .i64 lf, .slice pz zs.length cz])] w2)
  refine wl_make (c := #[iN .i64 0, .slice none 0 0, .bool false, iN .i64 0, .slice none 0 0]) h3 28 (by kernel_rfl) (by kernel_rfl) ?_
  intro q4 w5 (h6 : HA (bs w) [(q4, 28, #[iN .i64 0, .slice none 0 0, .bool false, iN .i64 0, .slice none 0 0]), (q1, 28, #[iN .i64 rm, .slice pf fs.length cf, .bool dn, iN .i64 lf, .slice pz zs.length cz])] w5)
  refine wl_val (iN .i64 0) (by kernel_rfl) (by kernel_rfl) ?_
  refine wl_nil ?_
  refine then_at rfl ?_
  refine wp_seq ?_
  refine wl_region ?_
  refine wl_load h6 1 rfl (by kernel_rfl) (by kernel_rfl) Try.underlying28 rfl (by kernel_rfl) ?_
  refine wl_call (v := .tuple #[.agg #[iN .i64 rm, .slice pf fs.length cf, .bool d', iN .i64 l', .slice pz zs.length cz], .bool false]) h6 (by kernel_rfl) enter36 #[.agg (#[iN .i64 rm, .slice pf fs.length cf, .bool dn, iN .i64 lf, .slice pz zs.length cz])] (by kernel_rfl) (by have hh := gate_any (rm := rm) (nf := fs.length) (cf := cf) (nz := zs.length) (cz := cz) (pf := pf) (pz := pz) (w := w5) dn hlb; rw [hg] at hh; exact hh) ?_
  intro w7 h8
  refine wl_val (.tuple #[.agg #[iN .i64 rm, .slice pf fs.length cf, .bool d', iN .i64 l', .slice pz zs.length cz], .bool false]) (by kernel_rfl) (by kernel_rfl) ?_
  refine wl_val (.agg #[iN .i64 rm, .slice pf fs.length cf, .bool d', iN .i64 l', .slice pz zs.length cz]) (by kernel_rfl) (by kernel_rfl) ?_
  refine wl_val (.bool false) (by kernel_rfl) (by kernel_rfl) ?_
  refine wl_fill (c' := #[iN .i64 rm, .slice pf fs.length cf, .bool d', iN .i64 l', .slice pz zs.length cz]) h8 1 rfl (by kernel_rfl) (by kernel_rfl) (by kernel_rfl) rfl (by kernel_rfl) (by kernel_rfl) ?_
  intro w9 (h10 : HA (bs w) [(q4, 28, #[iN .i64 0, .slice none 0 0, .bool false, iN .i64 0, .slice none 0 0]), (q1, 28, #[iN .i64 rm, .slice pf fs.length cf, .bool d', iN .i64 l', .slice pz zs.length cz])] w9)
  refine wl_val (.bool false) (by kernel_rfl) (by kernel_rfl) ?_
  refine wl_nil ?_
  refine then_at rfl ?_
  refine wp_seq ?_
  refine wp_seq ?_
  refine wl_region ?_
  refine wl_val (.bool false) (by kernel_rfl) (by kernel_rfl) ?_
  refine wl_val (.bool true) (by kernel_rfl) (by kernel_rfl) ?_
  refine wl_nil ?_
  refine then_at rfl ?_
  refine wp_cond_true (by kernel_rfl) ?_
  refine wp_seq ?_
  refine wl_region ?_
  refine wl_load h10 1 rfl (by kernel_rfl) (by kernel_rfl) Try.underlying28 rfl (by kernel_rfl) ?_
  refine wl_fill (c' := #[iN .i64 rm, .slice pf fs.length cf, .bool d', iN .i64 l', .slice pz zs.length cz]) h10 0 rfl (by kernel_rfl) (by kernel_rfl) (by kernel_rfl) rfl (by kernel_rfl) (by kernel_rfl) ?_
  intro w11 (h12 : HA (bs w) [(q4, 28, #[iN .i64 rm, .slice pf fs.length cf, .bool d', iN .i64 l', .slice pz zs.length cz]), (q1, 28, #[iN .i64 rm, .slice pf fs.length cf, .bool d', iN .i64 l', .slice pz zs.length cz])] w11)
  refine wl_val (iN .i64 16) (by kernel_rfl) (by kernel_rfl) ?_
  refine wl_nil ?_
  refine then_at rfl ?_
  refine wp_ret ?_
  repeat first | refine then_ret ?_ | refine block_ret ?_
  exact bodyPost_ret (v := .tuple #[.agg (#[iN .i64 rm, .slice pf fs.length cf, .bool d', iN .i64 l', .slice pz zs.length cz]), iN .i64 16]) (res_cell_tmp (p := 6) (r := 7) (by kernel_rfl) (by kernel_rfl) (by kernel_rfl) (h12.get 0 rfl) Try.underlying28 rfl (by kernel_rfl)) rfl ⟨pf, cf, pz, cz, [], rfl, hF, hZ, Newer.nil _ _, h12.old.old⟩
set_option linter.unusedVariables false in
set_option maxRecDepth 100000 in
set_option maxHeartbeats 2000000 in
theorem rapp_a {w : World} {rm lf cz cf : Nat} {pf pz : Option Addr} {fs : List RF} {zs : List Nat} {N : BL} {dn : Bool} (hF : RFL (.slice pf fs.length cf) fs N) (hZ : RZL (.slice pz zs.length cz) zs N) (hS : Stand w N) (hfl : fs.length ≤ 1000) (hzl : zs.length ≤ 1000) (hlb : lf ≤ 9223372036854775807) (s da : ByteArray) {l' : Nat} (hg : gateL dn lf = (l', false, true)) (hnm : ¬ (1 ≤ s.size ∧ s.size ≤ 64)) :
    Calls Try.prog 11 #[.agg #[iN .i64 rm, .slice pf fs.length cf, .bool dn, iN .i64 lf, .slice pz zs.length cz], .string s, .string da] w fun e w' => RO w w' N e rm fs false l' zs 2 := by
  have H0 := HA.start w
  go_enter Try.func11, Try.ntmps11
  refine wp_seq ?_
  refine wl_region ?_
  refine wl_make (c := #[iN .i64 rm, .slice pf fs.length cf, .bool dn, iN .i64 lf, .slice pz zs.length cz]) H0 28 (by kernel_rfl) (by kernel_rfl) ?_
  intro q1 w2 (h3 : HA (bs w) [(q1, 28, #[iN .i64 rm, .slice pf fs.length cf, .bool dn, iN .i64 lf, .slice pz zs.length cz])] w2)
  refine wl_make (c := #[iN .i64 0, .slice none 0 0, .bool false, iN .i64 0, .slice none 0 0]) h3 28 (by kernel_rfl) (by kernel_rfl) ?_
  intro q4 w5 (h6 : HA (bs w) [(q4, 28, #[iN .i64 0, .slice none 0 0, .bool false, iN .i64 0, .slice none 0 0]), (q1, 28, #[iN .i64 rm, .slice pf fs.length cf, .bool dn, iN .i64 lf, .slice pz zs.length cz])] w5)
  refine wl_val (iN .i64 0) (by kernel_rfl) (by kernel_rfl) ?_
  refine wl_nil ?_
  refine then_at rfl ?_
  refine wp_seq ?_
  refine wl_region ?_
  refine wl_load h6 1 rfl (by kernel_rfl) (by kernel_rfl) Try.underlying28 rfl (by kernel_rfl) ?_
  refine wl_call (v := .tuple #[.agg #[iN .i64 rm, .slice pf fs.length cf, .bool false, iN .i64 l', .slice pz zs.length cz], .bool true]) h6 (by kernel_rfl) enter36 #[.agg (#[iN .i64 rm, .slice pf fs.length cf, .bool dn, iN .i64 lf, .slice pz zs.length cz])] (by kernel_rfl) (by have hh := gate_any (rm := rm) (nf := fs.length) (cf := cf) (nz := zs.length) (cz := cz) (pf := pf) (pz := pz) (w := w5) dn hlb; rw [hg] at hh; exact hh) ?_
  intro w7 h8
  refine wl_val (.tuple #[.agg #[iN .i64 rm, .slice pf fs.length cf, .bool false, iN .i64 l', .slice pz zs.length cz], .bool true]) (by kernel_rfl) (by kernel_rfl) ?_
  refine wl_val (.agg #[iN .i64 rm, .slice pf fs.length cf, .bool false, iN .i64 l', .slice pz zs.length cz]) (by kernel_rfl) (by kernel_rfl) ?_
  refine wl_val (.bool true) (by kernel_rfl) (by kernel_rfl) ?_
  refine wl_fill (c' := #[iN .i64 rm, .slice pf fs.length cf, .bool false, iN .i64 l', .slice pz zs.length cz]) h8 1 rfl (by kernel_rfl) (by kernel_rfl) (by kernel_rfl) rfl (by kernel_rfl) (by kernel_rfl) ?_
  intro w9 (h10 : HA (bs w) [(q4, 28, #[iN .i64 0, .slice none 0 0, .bool false, iN .i64 0, .slice none 0 0]), (q1, 28, #[iN .i64 rm, .slice pf fs.length cf, .bool false, iN .i64 l', .slice pz zs.length cz])] w9)
  refine wl_val (.bool true) (by kernel_rfl) (by kernel_rfl) ?_
  refine wl_nil ?_
  refine then_at rfl ?_
  refine wp_seq ?_
  refine wp_seq ?_
  refine wl_region ?_
  refine wl_val (.bool true) (by kernel_rfl) (by kernel_rfl) ?_
  refine wl_val (.bool false) (by kernel_rfl) (by kernel_rfl) ?_
  refine wl_nil ?_
  refine then_at rfl ?_
  refine wp_cond_false (by kernel_rfl) ?_
  refine wp_skip ?_
  refine then_at rfl ?_
  refine wp_seq ?_
  refine wp_seq ?_
  refine wl_region ?_
  refine wl_val (.string s) (by kernel_rfl) (by kernel_rfl) ?_
  refine wl_call (v := .bool false) h10 (by kernel_rfl) enter37 #[.string s] (by kernel_rfl) (by have hh := rname_any w9 s; rw [decide_eq_false hnm] at hh; exact hh) ?_
  intro w11 h12
  refine wl_val (.bool true) (by kernel_rfl) (by kernel_rfl) ?_
  refine wl_nil ?_
  refine then_at rfl ?_
  refine wp_cond_true (by kernel_rfl) ?_
  refine wp_seq ?_
  refine wl_region ?_
  refine wl_load h12 1 rfl (by kernel_rfl) (by kernel_rfl) Try.underlying28 rfl (by kernel_rfl) ?_
  refine wl_fill (c' := #[iN .i64 rm, .slice pf fs.length cf, .bool false, iN .i64 l', .slice pz zs.length cz]) h12 0 rfl (by kernel_rfl) (by kernel_rfl) (by kernel_rfl) rfl (by kernel_rfl) (by kernel_rfl) ?_
  intro w13 (h14 : HA (bs w) [(q4, 28, #[iN .i64 rm, .slice pf fs.length cf, .bool false, iN .i64 l', .slice pz zs.length cz]), (q1, 28, #[iN .i64 rm, .slice pf fs.length cf, .bool false, iN .i64 l', .slice pz zs.length cz])] w13)
  refine wl_val (iN .i64 2) (by kernel_rfl) (by kernel_rfl) ?_
  refine wl_nil ?_
  refine then_at (F := ⟨(.agg #[iN .i64 rm, .slice pf fs.length cf, .bool dn, iN .i64 lf, .slice pz zs.length cz] :: .string s :: .string da :: pt q1 :: un :: un :: pt q4 :: iN .i64 2 :: .bool true :: un :: un :: un :: .tuple #[.agg #[iN .i64 rm, .slice pf fs.length cf, .bool false, iN .i64 l', .slice pz zs.length cz], .bool true] :: .agg (#[iN .i64 rm, .slice pf fs.length cf, .bool dn, iN .i64 lf, .slice pz zs.length cz]) :: .tuple #[.agg #[iN .i64 rm, .slice pf fs.length cf, .bool false, iN .i64 l', .slice pz zs.length cz], .bool true] :: .agg #[iN .i64 rm, .slice pf fs.length cf, .bool false, iN .i64 l', .slice pz zs.length cz] :: .bool true :: .bool true :: .bool false :: un :: .string s :: .bool false :: .bool true :: .agg (#[iN .i64 rm, .slice pf fs.length cf, .bool false, iN .i64 l', .slice pz zs.length cz]) :: List.replicate 31 un).toArray, []⟩) (by kernel_rfl) ?_
  refine wp_ret ?_
  repeat first | refine then_ret ?_ | refine block_ret ?_
  exact bodyPost_ret (v := .tuple #[.agg (#[iN .i64 rm, .slice pf fs.length cf, .bool false, iN .i64 l', .slice pz zs.length cz]), iN .i64 2]) (res_cell_tmp (p := 6) (r := 7) (by kernel_rfl) (by kernel_rfl) (by kernel_rfl) (h14.get 0 rfl) Try.underlying28 rfl (by kernel_rfl)) rfl ⟨pf, cf, pz, cz, [], rfl, hF, hZ, Newer.nil _ _, h14.old.old⟩
set_option linter.unusedVariables false in
set_option maxRecDepth 100000 in
set_option maxHeartbeats 2000000 in
theorem rapp_f {w : World} {rm lf cz cf : Nat} {pf pz : Option Addr} {fs : List RF} {zs : List Nat} {N : BL} {dn : Bool} (hF : RFL (.slice pf fs.length cf) fs N) (hZ : RZL (.slice pz zs.length cz) zs N) (hS : Stand w N) (hfl : fs.length ≤ 1000) (hzl : zs.length ≤ 1000) (hlb : lf ≤ 9223372036854775807) (s da : ByteArray) {l' : Nat} (hg : gateL dn lf = (l', false, true)) (hnm : 1 ≤ s.size ∧ s.size ≤ 64) (hsm : sumB fs fs.length ≤ rm) (hrm : rm ≤ 9223372036854775807) (hfu : rm - sumB fs fs.length < da.size) :
    Calls Try.prog 11 #[.agg #[iN .i64 rm, .slice pf fs.length cf, .bool dn, iN .i64 lf, .slice pz zs.length cz], .string s, .string da] w fun e w' => RO w w' N e rm fs false l' zs 7 := by
  have H0 := HA.start w
  go_enter Try.func11, Try.ntmps11
  refine wp_seq ?_
  refine wl_region ?_
  refine wl_make (c := #[iN .i64 rm, .slice pf fs.length cf, .bool dn, iN .i64 lf, .slice pz zs.length cz]) H0 28 (by kernel_rfl) (by kernel_rfl) ?_
  intro q1 w2 (h3 : HA (bs w) [(q1, 28, #[iN .i64 rm, .slice pf fs.length cf, .bool dn, iN .i64 lf, .slice pz zs.length cz])] w2)
  refine wl_make (c := #[iN .i64 0, .slice none 0 0, .bool false, iN .i64 0, .slice none 0 0]) h3 28 (by kernel_rfl) (by kernel_rfl) ?_
  intro q4 w5 (h6 : HA (bs w) [(q4, 28, #[iN .i64 0, .slice none 0 0, .bool false, iN .i64 0, .slice none 0 0]), (q1, 28, #[iN .i64 rm, .slice pf fs.length cf, .bool dn, iN .i64 lf, .slice pz zs.length cz])] w5)
  refine wl_val (iN .i64 0) (by kernel_rfl) (by kernel_rfl) ?_
  refine wl_nil ?_
  refine then_at rfl ?_
  refine wp_seq ?_
  refine wl_region ?_
  refine wl_load h6 1 rfl (by kernel_rfl) (by kernel_rfl) Try.underlying28 rfl (by kernel_rfl) ?_
  refine wl_call (v := .tuple #[.agg #[iN .i64 rm, .slice pf fs.length cf, .bool false, iN .i64 l', .slice pz zs.length cz], .bool true]) h6 (by kernel_rfl) enter36 #[.agg (#[iN .i64 rm, .slice pf fs.length cf, .bool dn, iN .i64 lf, .slice pz zs.length cz])] (by kernel_rfl) (by have hh := gate_any (rm := rm) (nf := fs.length) (cf := cf) (nz := zs.length) (cz := cz) (pf := pf) (pz := pz) (w := w5) dn hlb; rw [hg] at hh; exact hh) ?_
  intro w7 h8
  refine wl_val (.tuple #[.agg #[iN .i64 rm, .slice pf fs.length cf, .bool false, iN .i64 l', .slice pz zs.length cz], .bool true]) (by kernel_rfl) (by kernel_rfl) ?_
  refine wl_val (.agg #[iN .i64 rm, .slice pf fs.length cf, .bool false, iN .i64 l', .slice pz zs.length cz]) (by kernel_rfl) (by kernel_rfl) ?_
  refine wl_val (.bool true) (by kernel_rfl) (by kernel_rfl) ?_
  refine wl_fill (c' := #[iN .i64 rm, .slice pf fs.length cf, .bool false, iN .i64 l', .slice pz zs.length cz]) h8 1 rfl (by kernel_rfl) (by kernel_rfl) (by kernel_rfl) rfl (by kernel_rfl) (by kernel_rfl) ?_
  intro w9 (h10 : HA (bs w) [(q4, 28, #[iN .i64 0, .slice none 0 0, .bool false, iN .i64 0, .slice none 0 0]), (q1, 28, #[iN .i64 rm, .slice pf fs.length cf, .bool false, iN .i64 l', .slice pz zs.length cz])] w9)
  refine wl_val (.bool true) (by kernel_rfl) (by kernel_rfl) ?_
  refine wl_nil ?_
  refine then_at rfl ?_
  refine wp_seq ?_
  refine wp_seq ?_
  refine wl_region ?_
  refine wl_val (.bool true) (by kernel_rfl) (by kernel_rfl) ?_
  refine wl_val (.bool false) (by kernel_rfl) (by kernel_rfl) ?_
  refine wl_nil ?_
  refine then_at rfl ?_
  refine wp_cond_false (by kernel_rfl) ?_
  refine wp_skip ?_
  refine then_at rfl ?_
  refine wp_seq ?_
  refine wp_seq ?_
  refine wl_region ?_
  refine wl_val (.string s) (by kernel_rfl) (by kernel_rfl) ?_
  refine wl_call (v := .bool true) h10 (by kernel_rfl) enter37 #[.string s] (by kernel_rfl) (by have hh := rname_any w9 s; rw [decide_eq_true hnm] at hh; exact hh) ?_
  intro w11 h12
  refine wl_val (.bool false) (by kernel_rfl) (by kernel_rfl) ?_
  refine wl_nil ?_
  refine then_at rfl ?_
  refine wp_cond_false (by kernel_rfl) ?_
  refine wp_skip ?_
  refine then_at (F := ⟨(.agg #[iN .i64 rm, .slice pf fs.length cf, .bool dn, iN .i64 lf, .slice pz zs.length cz] :: .string s :: .string da :: pt q1 :: un :: un :: pt q4 :: iN .i64 0 :: .bool true :: un :: un :: un :: .tuple #[.agg #[iN .i64 rm, .slice pf fs.length cf, .bool false, iN .i64 l', .slice pz zs.length cz], .bool true] :: .agg (#[iN .i64 rm, .slice pf fs.length cf, .bool dn, iN .i64 lf, .slice pz zs.length cz]) :: .tuple #[.agg #[iN .i64 rm, .slice pf fs.length cf, .bool false, iN .i64 l', .slice pz zs.length cz], .bool true] :: .agg #[iN .i64 rm, .slice pf fs.length cf, .bool false, iN .i64 l', .slice pz zs.length cz] :: .bool true :: .bool true :: .bool false :: un :: .string s :: .bool true :: .bool false :: List.replicate 32 un).toArray, []⟩) (by kernel_rfl) ?_
  refine wp_seq ?_
  refine wp_seq ?_
  refine wl_region ?_
  refine wl_val (.string da) (by kernel_rfl) (by kernel_rfl) ?_
  refine wl_val (iN .i64 da.size) (by kernel_rfl) (run_len (s := da) (by kernel_rfl)) ?_
  refine wl_load h12 1 rfl (by kernel_rfl) (by kernel_rfl) Try.underlying28 rfl (by kernel_rfl) ?_
  refine wl_call (v := iN .i64 (rm - sumB fs fs.length)) h12 (by kernel_rfl) enter38 #[.agg (#[iN .i64 rm, .slice pf fs.length cf, .bool false, iN .i64 l', .slice pz zs.length cz])] (by kernel_rfl) (rfree_u (lf := l') (nz := zs.length) (cz := cz) (pz := pz) hF (hS.keep h12.old.old) (by omega) hsm hrm) ?_
  intro w13 h14
  refine wl_val (.bool true) (by kernel_rfl) (run_gtr (k := .i64) (a := da.size) (b := rm - sumB fs fs.length) (by kernel_rfl) (by kernel_rfl) true (decide_eq_true hfu)) ?_
  refine wl_nil ?_
  refine then_at rfl ?_
  refine wp_cond_true (by kernel_rfl) ?_
  refine wp_seq ?_
  refine wl_region ?_
  refine wl_load h14 1 rfl (by kernel_rfl) (by kernel_rfl) Try.underlying28 rfl (by kernel_rfl) ?_
  refine wl_fill (c' := #[iN .i64 rm, .slice pf fs.length cf, .bool false, iN .i64 l', .slice pz zs.length cz]) h14 0 rfl (by kernel_rfl) (by kernel_rfl) (by kernel_rfl) rfl (by kernel_rfl) (by kernel_rfl) ?_
  intro w15 (h16 : HA (bs w) [(q4, 28, #[iN .i64 rm, .slice pf fs.length cf, .bool false, iN .i64 l', .slice pz zs.length cz]), (q1, 28, #[iN .i64 rm, .slice pf fs.length cf, .bool false, iN .i64 l', .slice pz zs.length cz])] w15)
  refine wl_val (iN .i64 7) (by kernel_rfl) (by kernel_rfl) ?_
  refine wl_nil ?_
  refine then_at rfl ?_
  refine wp_ret ?_
  repeat first | refine then_ret ?_ | refine block_ret ?_
  exact bodyPost_ret (v := .tuple #[.agg (#[iN .i64 rm, .slice pf fs.length cf, .bool false, iN .i64 l', .slice pz zs.length cz]), iN .i64 7]) (res_cell_tmp (p := 6) (r := 7) (by kernel_rfl) (by kernel_rfl) (by kernel_rfl) (h16.get 0 rfl) Try.underlying28 rfl (by kernel_rfl)) rfl ⟨pf, cf, pz, cz, [], rfl, hF, hZ, Newer.nil _ _, h16.old.old⟩
set_option linter.unusedVariables false in
set_option maxRecDepth 100000 in
set_option maxHeartbeats 2000000 in
theorem rapp_n {w : World} {rm lf cz cf : Nat} {pf pz : Option Addr} {fs : List RF} {zs : List Nat} {N : BL} {dn : Bool} (hF : RFL (.slice pf fs.length cf) fs N) (hZ : RZL (.slice pz zs.length cz) zs N) (hS : Stand w N) (hfl : fs.length ≤ 1000) (hzl : zs.length ≤ 1000) (hlb : lf ≤ 9223372036854775807) (s da : ByteArray) {l' : Nat} (hg : gateL dn lf = (l', false, true)) (hnm : 1 ≤ s.size ∧ s.size ≤ 64) (hsm : sumB fs fs.length ≤ rm) (hrm : rm ≤ 9223372036854775807) (hfu : ¬ rm - sumB fs fs.length < da.size) {i0 : Nat} (hfr : findR fs s = (i0, false)) (hdb : da.size ≤ 1000000) {bb : ByteArray} (hbb : bb = { data := #[] } ++ da) :
    Calls Try.prog 11 #[.agg #[iN .i64 rm, .slice pf fs.length cf, .bool dn, iN .i64 lf, .slice pz zs.length cz], .string s, .string da] w fun e w' => RO w w' N e rm (withR fs ⟨s, bb, 0⟩) false l' (zs ++ [da.size]) 0 := by
  have H0 := HA.start w
  go_enter Try.func11, Try.ntmps11
  refine wp_seq ?_
  refine wl_region ?_
  refine wl_make (c := #[iN .i64 rm, .slice pf fs.length cf, .bool dn, iN .i64 lf, .slice pz zs.length cz]) H0 28 (by kernel_rfl) (by kernel_rfl) ?_
  intro q1 w2 (h3 : HA (bs w) [(q1, 28, #[iN .i64 rm, .slice pf fs.length cf, .bool dn, iN .i64 lf, .slice pz zs.length cz])] w2)
  refine wl_make (c := #[iN .i64 0, .slice none 0 0, .bool false, iN .i64 0, .slice none 0 0]) h3 28 (by kernel_rfl) (by kernel_rfl) ?_
  intro q4 w5 (h6 : HA (bs w) [(q4, 28, #[iN .i64 0, .slice none 0 0, .bool false, iN .i64 0, .slice none 0 0]), (q1, 28, #[iN .i64 rm, .slice pf fs.length cf, .bool dn, iN .i64 lf, .slice pz zs.length cz])] w5)
  refine wl_val (iN .i64 0) (by kernel_rfl) (by kernel_rfl) ?_
  refine wl_nil ?_
  refine then_at rfl ?_
  refine wp_seq ?_
  refine wl_region ?_
  refine wl_load h6 1 rfl (by kernel_rfl) (by kernel_rfl) Try.underlying28 rfl (by kernel_rfl) ?_
  refine wl_call (v := .tuple #[.agg #[iN .i64 rm, .slice pf fs.length cf, .bool false, iN .i64 l', .slice pz zs.length cz], .bool true]) h6 (by kernel_rfl) enter36 #[.agg (#[iN .i64 rm, .slice pf fs.length cf, .bool dn, iN .i64 lf, .slice pz zs.length cz])] (by kernel_rfl) (by have hh := gate_any (rm := rm) (nf := fs.length) (cf := cf) (nz := zs.length) (cz := cz) (pf := pf) (pz := pz) (w := w5) dn hlb; rw [hg] at hh; exact hh) ?_
  intro w7 h8
  refine wl_val (.tuple #[.agg #[iN .i64 rm, .slice pf fs.length cf, .bool false, iN .i64 l', .slice pz zs.length cz], .bool true]) (by kernel_rfl) (by kernel_rfl) ?_
  refine wl_val (.agg #[iN .i64 rm, .slice pf fs.length cf, .bool false, iN .i64 l', .slice pz zs.length cz]) (by kernel_rfl) (by kernel_rfl) ?_
  refine wl_val (.bool true) (by kernel_rfl) (by kernel_rfl) ?_
  refine wl_fill (c' := #[iN .i64 rm, .slice pf fs.length cf, .bool false, iN .i64 l', .slice pz zs.length cz]) h8 1 rfl (by kernel_rfl) (by kernel_rfl) (by kernel_rfl) rfl (by kernel_rfl) (by kernel_rfl) ?_
  intro w9 (h10 : HA (bs w) [(q4, 28, #[iN .i64 0, .slice none 0 0, .bool false, iN .i64 0, .slice none 0 0]), (q1, 28, #[iN .i64 rm, .slice pf fs.length cf, .bool false, iN .i64 l', .slice pz zs.length cz])] w9)
  refine wl_val (.bool true) (by kernel_rfl) (by kernel_rfl) ?_
  refine wl_nil ?_
  refine then_at rfl ?_
  refine wp_seq ?_
  refine wp_seq ?_
  refine wl_region ?_
  refine wl_val (.bool true) (by kernel_rfl) (by kernel_rfl) ?_
  refine wl_val (.bool false) (by kernel_rfl) (by kernel_rfl) ?_
  refine wl_nil ?_
  refine then_at rfl ?_
  refine wp_cond_false (by kernel_rfl) ?_
  refine wp_skip ?_
  refine then_at rfl ?_
  refine wp_seq ?_
  refine wp_seq ?_
  refine wl_region ?_
  refine wl_val (.string s) (by kernel_rfl) (by kernel_rfl) ?_
  refine wl_call (v := .bool true) h10 (by kernel_rfl) enter37 #[.string s] (by kernel_rfl) (by have hh := rname_any w9 s; rw [decide_eq_true hnm] at hh; exact hh) ?_
  intro w11 h12
  refine wl_val (.bool false) (by kernel_rfl) (by kernel_rfl) ?_
  refine wl_nil ?_
  refine then_at rfl ?_
  refine wp_cond_false (by kernel_rfl) ?_
  refine wp_skip ?_
  refine then_at (F := ⟨(.agg #[iN .i64 rm, .slice pf fs.length cf, .bool dn, iN .i64 lf, .slice pz zs.length cz] :: .string s :: .string da :: pt q1 :: un :: un :: pt q4 :: iN .i64 0 :: .bool true :: un :: un :: un :: .tuple #[.agg #[iN .i64 rm, .slice pf fs.length cf, .bool false, iN .i64 l', .slice pz zs.length cz], .bool true] :: .agg (#[iN .i64 rm, .slice pf fs.length cf, .bool dn, iN .i64 lf, .slice pz zs.length cz]) :: .tuple #[.agg #[iN .i64 rm, .slice pf fs.length cf, .bool false, iN .i64 l', .slice pz zs.length cz], .bool true] :: .agg #[iN .i64 rm, .slice pf fs.length cf, .bool false, iN .i64 l', .slice pz zs.length cz] :: .bool true :: .bool true :: .bool false :: un :: .string s :: .bool true :: .bool false :: List.replicate 32 un).toArray, []⟩) (by kernel_rfl) ?_
  refine wp_seq ?_
  refine wp_seq ?_
  refine wl_region ?_
  refine wl_val (.string da) (by kernel_rfl) (by kernel_rfl) ?_
  refine wl_val (iN .i64 da.size) (by kernel_rfl) (run_len (s := da) (by kernel_rfl)) ?_
  refine wl_load h12 1 rfl (by kernel_rfl) (by kernel_rfl) Try.underlying28 rfl (by kernel_rfl) ?_
  refine wl_call (v := iN .i64 (rm - sumB fs fs.length)) h12 (by kernel_rfl) enter38 #[.agg (#[iN .i64 rm, .slice pf fs.length cf, .bool false, iN .i64 l', .slice pz zs.length cz])] (by kernel_rfl) (rfree_u (lf := l') (nz := zs.length) (cz := cz) (pz := pz) hF (hS.keep h12.old.old) (by omega) hsm hrm) ?_
  intro w13 h14
  refine wl_val (.bool false) (by kernel_rfl) (run_gtr (k := .i64) (a := da.size) (b := rm - sumB fs fs.length) (by kernel_rfl) (by kernel_rfl) false (decide_eq_false hfu)) ?_
  refine wl_nil ?_
  refine then_at rfl ?_
  refine wp_cond_false (by kernel_rfl) ?_
  refine wp_skip ?_
  refine then_at rfl ?_
  refine wp_seq ?_
  refine wl_region ?_
  refine wl_load h14 1 rfl (by kernel_rfl) (by kernel_rfl) Try.underlying28 rfl (by kernel_rfl) ?_
  refine wl_val (.string s) (by kernel_rfl) (by kernel_rfl) ?_
  refine wl_call (v := .tuple #[iN .i64 i0, .bool false]) h14 (by kernel_rfl) enter39 #[.agg (#[iN .i64 rm, .slice pf fs.length cf, .bool false, iN .i64 l', .slice pz zs.length cz]), .string s] (by kernel_rfl) (by have hh := rfind_any (lf := l') (rm := rm) (nz := zs.length) (cz := cz) (pz := pz) (dn := false) hF (hS.keep h14.old.old) (by omega) s; rw [hfr] at hh; exact hh) ?_
  intro w15 h16
  refine wl_val (.tuple #[iN .i64 i0, .bool false]) (by kernel_rfl) (by kernel_rfl) ?_
  refine wl_val (iN .i64 i0) (by kernel_rfl) (by kernel_rfl) ?_
  refine wl_val (.bool false) (by kernel_rfl) (by kernel_rfl) ?_
  refine wl_val (iN .i64 i0) (by kernel_rfl) (by kernel_rfl) ?_
  refine wl_val (.bool false) (by kernel_rfl) (by kernel_rfl) ?_
  refine wl_nil ?_
  refine then_at rfl ?_
  refine wp_seq ?_
  refine wl_region ?_
  refine wl_val (.string s) (by kernel_rfl) (by kernel_rfl) ?_
  refine wl_val (.agg #[.string s, .string ({ data := #[] }), iN .i64 0]) (by kernel_rfl) (by kernel_rfl) ?_
  refine wl_make (c := #[.string ({ data := #[] }), .string ({ data := #[] }), iN .i64 0]) h16 75 (by kernel_rfl) (by kernel_rfl) ?_
  intro q17 w18 (h19 : HA (bs w) [(q17, 75, #[.string ({ data := #[] }), .string ({ data := #[] }), iN .i64 0]), (q4, 28, #[iN .i64 0, .slice none 0 0, .bool false, iN .i64 0, .slice none 0 0]), (q1, 28, #[iN .i64 rm, .slice pf fs.length cf, .bool false, iN .i64 l', .slice pz zs.length cz])] w18)
  refine wl_fill (c' := #[.string s, .string ({ data := #[] }), iN .i64 0]) h19 0 rfl (by kernel_rfl) (by kernel_rfl) (by kernel_rfl) rfl (by kernel_rfl) (by kernel_rfl) ?_
  intro w20 (h21 : HA (bs w) [(q17, 75, #[.string s, .string ({ data := #[] }), iN .i64 0]), (q4, 28, #[iN .i64 0, .slice none 0 0, .bool false, iN .i64 0, .slice none 0 0]), (q1, 28, #[iN .i64 rm, .slice pf fs.length cf, .bool false, iN .i64 l', .slice pz zs.length cz])] w20)
  refine wl_nil ?_
  refine then_at rfl ?_
  refine wp_seq ?_
  refine wp_seq ?_
  refine wl_region ?_
  refine wl_val (.bool false) (by kernel_rfl) (by kernel_rfl) ?_
  refine wl_nil ?_
  refine then_at rfl ?_
  refine wp_cond_false (by kernel_rfl) ?_
  refine wp_skip ?_
  refine then_at (F := ⟨(.agg #[iN .i64 rm, .slice pf fs.length cf, .bool dn, iN .i64 lf, .slice pz zs.length cz] :: .string s :: .string da :: pt q1 :: un :: un :: pt q4 :: iN .i64 0 :: .bool true :: iN .i64 i0 :: .bool false :: pt q17 :: .tuple #[.agg #[iN .i64 rm, .slice pf fs.length cf, .bool false, iN .i64 l', .slice pz zs.length cz], .bool true] :: .agg (#[iN .i64 rm, .slice pf fs.length cf, .bool dn, iN .i64 lf, .slice pz zs.length cz]) :: .tuple #[.agg #[iN .i64 rm, .slice pf fs.length cf, .bool false, iN .i64 l', .slice pz zs.length cz], .bool true] :: .agg #[iN .i64 rm, .slice pf fs.length cf, .bool false, iN .i64 l', .slice pz zs.length cz] :: .bool true :: .bool true :: .bool false :: un :: .string s :: .bool true :: .bool false :: un :: .string da :: iN .i64 da.size :: .agg (#[iN .i64 rm, .slice pf fs.length cf, .bool false, iN .i64 l', .slice pz zs.length cz]) :: iN .i64 (rm - sumB fs fs.length) :: .bool false :: un :: .tuple #[iN .i64 i0, .bool false] :: .agg (#[iN .i64 rm, .slice pf fs.length cf, .bool false, iN .i64 l', .slice pz zs.length cz]) :: .string s :: .tuple #[iN .i64 i0, .bool false] :: iN .i64 i0 :: .bool false :: .string s :: .agg #[.string s, .string ({ data := #[] }), iN .i64 0] :: .bool false :: List.replicate 16 un).toArray, []⟩) (by kernel_rfl) ?_
  refine wp_seq ?_
  refine wl_region ?_
  refine wl_val (.pointer (some ⟨q17, 1, none⟩)) (by kernel_rfl) (by kernel_rfl) ?_
  refine wl_val (.string ({ data := #[] })) (by kernel_rfl) (run_load1 (fun w => Try.isAgg9 w) (by kernel_rfl) (((h21.get 0 rfl).cell 1).trans rfl)) ?_
  refine wl_val (.string da) (by kernel_rfl) (by kernel_rfl) ?_
  refine wl_val (.string bb) (by kernel_rfl) (by rw [hbb]; exact run_cat (s := { data := #[] }) (t := da) (by kernel_rfl) (by kernel_rfl) (empty_add hdb)) ?_
  refine wl_val (.pointer (some ⟨q17, 1, none⟩)) (by kernel_rfl) (by kernel_rfl) ?_
  refine wl_putv (v := .string bb) h21 0 rfl 1 (by show 1 < 3; decide) (by kernel_rfl) (fun w => Try.sizeOf9 w) (by kernel_rfl) (by kernel_rfl) (by kernel_rfl) ?_
  intro w22 (h23 : HA (bs w) [(q17, 75, #[.string s, .string bb, iN .i64 0]), (q4, 28, #[iN .i64 0, .slice none 0 0, .bool false, iN .i64 0, .slice none 0 0]), (q1, 28, #[iN .i64 rm, .slice pf fs.length cf, .bool false, iN .i64 l', .slice pz zs.length cz])] w22)
  refine wl_nil ?_
  refine then_at rfl ?_
  refine wp_seq ?_
  refine wl_region ?_
  refine wl_load h23 2 rfl (by kernel_rfl) (by kernel_rfl) Try.underlying28 rfl (by kernel_rfl) ?_
  refine wl_load h23 0 rfl (by kernel_rfl) (by kernel_rfl) Try.underlying75 rfl (by kernel_rfl) ?_
  refine wl_callx (by kernel_rfl) enter41 #[.agg (#[iN .i64 rm, .slice pf fs.length cf, .bool false, iN .i64 l', .slice pz zs.length cz]), .agg (#[.string s, .string bb, iN .i64 0])] (by kernel_rfl) (with_any (lf := l') (rm := rm) (nz := zs.length) (cz := cz) (pz := pz) (dn := false) hF (hS.keep h23.old.old) (by omega) ⟨s, bb, 0⟩) ?_
  rintro _ w24 ⟨p1, c1, N1, rfl, hF1, hN1, hb1⟩
  refine ⟨_, rfl, ?_⟩
  have hxh25 := HA.addL h23 hb1 hN1
  have h25 : HA (bs w) ((q17, 75, #[.string s, .string bb, iN .i64 0]) :: (q4, 28, #[iN .i64 0, .slice none 0 0, .bool false, iN .i64 0, .slice none 0 0]) :: (q1, 28, #[iN .i64 rm, .slice pf fs.length cf, .bool false, iN .i64 l', .slice pz zs.length cz]) :: N1) w24 := hxh25
  refine wl_val (.string da) (by kernel_rfl) (by kernel_rfl) ?_
  refine wl_val (iN .i64 da.size) (by kernel_rfl) (run_len (s := da) (by kernel_rfl)) ?_
  refine wl_callx (by kernel_rfl) enter40 #[.agg #[iN .i64 rm, .slice p1 (withR fs ⟨s, bb, 0⟩).length c1, .bool false, iN .i64 l', .slice pz zs.length cz], iN .i64 da.size] (by kernel_rfl) (told_any (lf := l') (rm := rm) (nf := (withR fs ⟨s, bb, 0⟩).length) (cf := c1) (pf := p1) (dn := false) hZ (hS.keep h25.old.old) (by omega) da.size) ?_
  rintro _ w26 ⟨p2, c2, N2, rfl, hZ2, hN2, hb2⟩
  refine ⟨_, rfl, ?_⟩
  have hxh27 := HA.addL h25 hb2 hN2
  have h27 : HA (bs w) ((q17, 75, #[.string s, .string bb, iN .i64 0]) :: (q4, 28, #[iN .i64 0, .slice none 0 0, .bool false, iN .i64 0, .slice none 0 0]) :: (q1, 28, #[iN .i64 rm, .slice pf fs.length cf, .bool false, iN .i64 l', .slice pz zs.length cz]) :: (N1 ++ N2)) w26 := hxh27
  refine wl_fill (c' := #[iN .i64 rm, .slice p1 (withR fs ⟨s, bb, 0⟩).length c1, .bool false, iN .i64 l', .slice p2 (zs ++ [da.size]).length c2]) h27 1 rfl (by kernel_rfl) (by kernel_rfl) (by kernel_rfl) rfl (by kernel_rfl) (by kernel_rfl) ?_
  intro w28 (h29 : HA (bs w) ((q17, 75, #[.string s, .string bb, iN .i64 0]) :: (q4, 28, #[iN .i64 rm, .slice p1 (withR fs ⟨s, bb, 0⟩).length c1, .bool false, iN .i64 l', .slice p2 (zs ++ [da.size]).length c2]) :: (q1, 28, #[iN .i64 rm, .slice pf fs.length cf, .bool false, iN .i64 l', .slice pz zs.length cz]) :: (N1 ++ N2)) w28)
  refine wl_val (iN .i64 0) (by kernel_rfl) (by kernel_rfl) ?_
  refine wl_nil ?_
  refine then_at rfl ?_
  refine wp_ret ?_
  repeat first | refine then_ret ?_ | refine block_ret ?_
  exact bodyPost_ret (v := .tuple #[.agg (#[iN .i64 rm, .slice p1 (withR fs ⟨s, bb, 0⟩).length c1, .bool false, iN .i64 l', .slice p2 (zs ++ [da.size]).length c2]), iN .i64 0]) (res_cell_tmp (p := 6) (r := 7) (by kernel_rfl) (by kernel_rfl) (by kernel_rfl) (h29.get 1 rfl) Try.underlying28 rfl (by kernel_rfl)) rfl ⟨p1, c1, p2, c2, N1 ++ N2, rfl, hF1.mono (fun x hx => by simp [hx]), hZ2.mono (fun x hx => by simp [hx]), HA.newerS h29 (List.Sublist.cons _ (List.Sublist.cons _ (List.Sublist.cons _ (List.Sublist.refl _)))), h29.old.old⟩
set_option linter.unusedVariables false in
set_option maxRecDepth 100000 in
set_option maxHeartbeats 2000000 in
theorem rapp_y {w : World} {rm lf cz cf : Nat} {pf pz : Option Addr} {fs : List RF} {zs : List Nat} {N : BL} {dn : Bool} (hF : RFL (.slice pf fs.length cf) fs N) (hZ : RZL (.slice pz zs.length cz) zs N) (hS : Stand w N) (hfl : fs.length ≤ 1000) (hzl : zs.length ≤ 1000) (hlb : lf ≤ 9223372036854775807) (s da : ByteArray) {l' : Nat} (hg : gateL dn lf = (l', false, true)) (hnm : 1 ≤ s.size ∧ s.size ≤ 64) (hsm : sumB fs fs.length ≤ rm) (hrm : rm ≤ 9223372036854775807) (hfu : ¬ rm - sumB fs fs.length < da.size) {i0 : Nat} {f : RF} (hfr : findR fs s = (i0, true)) (hf0 : fs[i0]? = some f) (hdb : da.size ≤ 1000000) (hfb : f.b.size ≤ 100000000) {bb : ByteArray} (hbb : bb = f.b ++ da) :
    Calls Try.prog 11 #[.agg #[iN .i64 rm, .slice pf fs.length cf, .bool dn, iN .i64 lf, .slice pz zs.length cz], .string s, .string da] w fun e w' => RO w w' N e rm (withR fs ⟨f.nm, bb, f.sy⟩) false l' (zs ++ [da.size]) 0 := by
  have hf := hf0
  obtain ⟨gF, curF, hpF, _, hgF, c0, c1, c2⟩ := hF.at hf
  have H0 := HA.start w
  go_enter Try.func11, Try.ntmps11
  refine wp_seq ?_
  refine wl_region ?_
  refine wl_make (c := #[iN .i64 rm, .slice pf fs.length cf, .bool dn, iN .i64 lf, .slice pz zs.length cz]) H0 28 (by kernel_rfl) (by kernel_rfl) ?_
  intro q1 w2 (h3 : HA (bs w) [(q1, 28, #[iN .i64 rm, .slice pf fs.length cf, .bool dn, iN .i64 lf, .slice pz zs.length cz])] w2)
  refine wl_make (c := #[iN .i64 0, .slice none 0 0, .bool false, iN .i64 0, .slice none 0 0]) h3 28 (by kernel_rfl) (by kernel_rfl) ?_
  intro q4 w5 (h6 : HA (bs w) [(q4, 28, #[iN .i64 0, .slice none 0 0, .bool false, iN .i64 0, .slice none 0 0]), (q1, 28, #[iN .i64 rm, .slice pf fs.length cf, .bool dn, iN .i64 lf, .slice pz zs.length cz])] w5)
  refine wl_val (iN .i64 0) (by kernel_rfl) (by kernel_rfl) ?_
  refine wl_nil ?_
  refine then_at rfl ?_
  refine wp_seq ?_
  refine wl_region ?_
  refine wl_load h6 1 rfl (by kernel_rfl) (by kernel_rfl) Try.underlying28 rfl (by kernel_rfl) ?_
  refine wl_call (v := .tuple #[.agg #[iN .i64 rm, .slice pf fs.length cf, .bool false, iN .i64 l', .slice pz zs.length cz], .bool true]) h6 (by kernel_rfl) enter36 #[.agg (#[iN .i64 rm, .slice pf fs.length cf, .bool dn, iN .i64 lf, .slice pz zs.length cz])] (by kernel_rfl) (by have hh := gate_any (rm := rm) (nf := fs.length) (cf := cf) (nz := zs.length) (cz := cz) (pf := pf) (pz := pz) (w := w5) dn hlb; rw [hg] at hh; exact hh) ?_
  intro w7 h8
  refine wl_val (.tuple #[.agg #[iN .i64 rm, .slice pf fs.length cf, .bool false, iN .i64 l', .slice pz zs.length cz], .bool true]) (by kernel_rfl) (by kernel_rfl) ?_
  refine wl_val (.agg #[iN .i64 rm, .slice pf fs.length cf, .bool false, iN .i64 l', .slice pz zs.length cz]) (by kernel_rfl) (by kernel_rfl) ?_
  refine wl_val (.bool true) (by kernel_rfl) (by kernel_rfl) ?_
  refine wl_fill (c' := #[iN .i64 rm, .slice pf fs.length cf, .bool false, iN .i64 l', .slice pz zs.length cz]) h8 1 rfl (by kernel_rfl) (by kernel_rfl) (by kernel_rfl) rfl (by kernel_rfl) (by kernel_rfl) ?_
  intro w9 (h10 : HA (bs w) [(q4, 28, #[iN .i64 0, .slice none 0 0, .bool false, iN .i64 0, .slice none 0 0]), (q1, 28, #[iN .i64 rm, .slice pf fs.length cf, .bool false, iN .i64 l', .slice pz zs.length cz])] w9)
  refine wl_val (.bool true) (by kernel_rfl) (by kernel_rfl) ?_
  refine wl_nil ?_
  refine then_at rfl ?_
  refine wp_seq ?_
  refine wp_seq ?_
  refine wl_region ?_
  refine wl_val (.bool true) (by kernel_rfl) (by kernel_rfl) ?_
  refine wl_val (.bool false) (by kernel_rfl) (by kernel_rfl) ?_
  refine wl_nil ?_
  refine then_at rfl ?_
  refine wp_cond_false (by kernel_rfl) ?_
  refine wp_skip ?_
  refine then_at rfl ?_
  refine wp_seq ?_
  refine wp_seq ?_
  refine wl_region ?_
  refine wl_val (.string s) (by kernel_rfl) (by kernel_rfl) ?_
  refine wl_call (v := .bool true) h10 (by kernel_rfl) enter37 #[.string s] (by kernel_rfl) (by have hh := rname_any w9 s; rw [decide_eq_true hnm] at hh; exact hh) ?_
  intro w11 h12
  refine wl_val (.bool false) (by kernel_rfl) (by kernel_rfl) ?_
  refine wl_nil ?_
  refine then_at rfl ?_
  refine wp_cond_false (by kernel_rfl) ?_
  refine wp_skip ?_
  refine then_at (F := ⟨(.agg #[iN .i64 rm, .slice pf fs.length cf, .bool dn, iN .i64 lf, .slice pz zs.length cz] :: .string s :: .string da :: pt q1 :: un :: un :: pt q4 :: iN .i64 0 :: .bool true :: un :: un :: un :: .tuple #[.agg #[iN .i64 rm, .slice pf fs.length cf, .bool false, iN .i64 l', .slice pz zs.length cz], .bool true] :: .agg (#[iN .i64 rm, .slice pf fs.length cf, .bool dn, iN .i64 lf, .slice pz zs.length cz]) :: .tuple #[.agg #[iN .i64 rm, .slice pf fs.length cf, .bool false, iN .i64 l', .slice pz zs.length cz], .bool true] :: .agg #[iN .i64 rm, .slice pf fs.length cf, .bool false, iN .i64 l', .slice pz zs.length cz] :: .bool true :: .bool true :: .bool false :: un :: .string s :: .bool true :: .bool false :: List.replicate 32 un).toArray, []⟩) (by kernel_rfl) ?_
  refine wp_seq ?_
  refine wp_seq ?_
  refine wl_region ?_
  refine wl_val (.string da) (by kernel_rfl) (by kernel_rfl) ?_
  refine wl_val (iN .i64 da.size) (by kernel_rfl) (run_len (s := da) (by kernel_rfl)) ?_
  refine wl_load h12 1 rfl (by kernel_rfl) (by kernel_rfl) Try.underlying28 rfl (by kernel_rfl) ?_
  refine wl_call (v := iN .i64 (rm - sumB fs fs.length)) h12 (by kernel_rfl) enter38 #[.agg (#[iN .i64 rm, .slice pf fs.length cf, .bool false, iN .i64 l', .slice pz zs.length cz])] (by kernel_rfl) (rfree_u (lf := l') (nz := zs.length) (cz := cz) (pz := pz) hF (hS.keep h12.old.old) (by omega) hsm hrm) ?_
  intro w13 h14
  refine wl_val (.bool false) (by kernel_rfl) (run_gtr (k := .i64) (a := da.size) (b := rm - sumB fs fs.length) (by kernel_rfl) (by kernel_rfl) false (decide_eq_false hfu)) ?_
  refine wl_nil ?_
  refine then_at rfl ?_
  refine wp_cond_false (by kernel_rfl) ?_
  refine wp_skip ?_
  refine then_at rfl ?_
  refine wp_seq ?_
  refine wl_region ?_
  refine wl_load h14 1 rfl (by kernel_rfl) (by kernel_rfl) Try.underlying28 rfl (by kernel_rfl) ?_
  refine wl_val (.string s) (by kernel_rfl) (by kernel_rfl) ?_
  refine wl_call (v := .tuple #[iN .i64 i0, .bool true]) h14 (by kernel_rfl) enter39 #[.agg (#[iN .i64 rm, .slice pf fs.length cf, .bool false, iN .i64 l', .slice pz zs.length cz]), .string s] (by kernel_rfl) (by have hh := rfind_any (lf := l') (rm := rm) (nz := zs.length) (cz := cz) (pz := pz) (dn := false) hF (hS.keep h14.old.old) (by omega) s; rw [hfr] at hh; exact hh) ?_
  intro w15 h16
  refine wl_val (.tuple #[iN .i64 i0, .bool true]) (by kernel_rfl) (by kernel_rfl) ?_
  refine wl_val (iN .i64 i0) (by kernel_rfl) (by kernel_rfl) ?_
  refine wl_val (.bool true) (by kernel_rfl) (by kernel_rfl) ?_
  refine wl_val (iN .i64 i0) (by kernel_rfl) (by kernel_rfl) ?_
  refine wl_val (.bool true) (by kernel_rfl) (by kernel_rfl) ?_
  refine wl_nil ?_
  refine then_at rfl ?_
  refine wp_seq ?_
  refine wl_region ?_
  refine wl_val (.string s) (by kernel_rfl) (by kernel_rfl) ?_
  refine wl_val (.agg #[.string s, .string ({ data := #[] }), iN .i64 0]) (by kernel_rfl) (by kernel_rfl) ?_
  refine wl_make (c := #[.string ({ data := #[] }), .string ({ data := #[] }), iN .i64 0]) h16 75 (by kernel_rfl) (by kernel_rfl) ?_
  intro q17 w18 (h19 : HA (bs w) [(q17, 75, #[.string ({ data := #[] }), .string ({ data := #[] }), iN .i64 0]), (q4, 28, #[iN .i64 0, .slice none 0 0, .bool false, iN .i64 0, .slice none 0 0]), (q1, 28, #[iN .i64 rm, .slice pf fs.length cf, .bool false, iN .i64 l', .slice pz zs.length cz])] w18)
  refine wl_fill (c' := #[.string s, .string ({ data := #[] }), iN .i64 0]) h19 0 rfl (by kernel_rfl) (by kernel_rfl) (by kernel_rfl) rfl (by kernel_rfl) (by kernel_rfl) ?_
  intro w20 (h21 : HA (bs w) [(q17, 75, #[.string s, .string ({ data := #[] }), iN .i64 0]), (q4, 28, #[iN .i64 0, .slice none 0 0, .bool false, iN .i64 0, .slice none 0 0]), (q1, 28, #[iN .i64 rm, .slice pf fs.length cf, .bool false, iN .i64 l', .slice pz zs.length cz])] w20)
  refine wl_nil ?_
  refine then_at rfl ?_
  refine wp_seq ?_
  refine wp_seq ?_
  refine wl_region ?_
  refine wl_val (.bool true) (by kernel_rfl) (by kernel_rfl) ?_
  refine wl_nil ?_
  refine then_at rfl ?_
  refine wp_cond_true (by kernel_rfl) ?_
  refine wl_region ?_
  refine wl_val (.pointer (some ⟨q1, 1, none⟩)) (by kernel_rfl) (by kernel_rfl) ?_
  refine wl_val (.slice pf fs.length cf) (by kernel_rfl) (run_load1 (fun w => Try.isAgg25 w) (by kernel_rfl) (((h21.get 2 rfl).cell 1).trans rfl)) ?_
  refine wl_val (iN .i64 i0) (by kernel_rfl) (by kernel_rfl) ?_
  refine wl_val (.pointer (some ⟨gF, 3 * i0, none⟩)) (by kernel_rfl) (run_addr75p (q := gF) (n := fs.length) (m := cf) (a := i0) hpF (by kernel_rfl) (by kernel_rfl) (List.getElem?_eq_some_iff.1 hf).1) ?_
  refine wl_val (.agg #[.string f.nm, .string f.b, iN .i64 f.sy]) (by kernel_rfl) (run_part (c' := #[.string f.nm, .string f.b, iN .i64 f.sy]) (by kernel_rfl) ((hS.keep h21.old.old) _ hgF) (part3 c0 c1 c2) Try.underlying75 rfl (by kernel_rfl)) ?_
  refine wl_fill (c' := #[.string f.nm, .string f.b, iN .i64 f.sy]) h21 0 rfl (by kernel_rfl) (by kernel_rfl) (by kernel_rfl) rfl (by kernel_rfl) (by kernel_rfl) ?_
  intro w22 (h23 : HA (bs w) [(q17, 75, #[.string f.nm, .string f.b, iN .i64 f.sy]), (q4, 28, #[iN .i64 0, .slice none 0 0, .bool false, iN .i64 0, .slice none 0 0]), (q1, 28, #[iN .i64 rm, .slice pf fs.length cf, .bool false, iN .i64 l', .slice pz zs.length cz])] w22)
  refine wl_nil ?_
  refine then_at (F := ⟨(.agg #[iN .i64 rm, .slice pf fs.length cf, .bool dn, iN .i64 lf, .slice pz zs.length cz] :: .string s :: .string da :: pt q1 :: un :: un :: pt q4 :: iN .i64 0 :: .bool true :: iN .i64 i0 :: .bool true :: pt q17 :: .tuple #[.agg #[iN .i64 rm, .slice pf fs.length cf, .bool false, iN .i64 l', .slice pz zs.length cz], .bool true] :: .agg (#[iN .i64 rm, .slice pf fs.length cf, .bool dn, iN .i64 lf, .slice pz zs.length cz]) :: .tuple #[.agg #[iN .i64 rm, .slice pf fs.length cf, .bool false, iN .i64 l', .slice pz zs.length cz], .bool true] :: .agg #[iN .i64 rm, .slice pf fs.length cf, .bool false, iN .i64 l', .slice pz zs.length cz] :: .bool true :: .bool true :: .bool false :: un :: .string s :: .bool true :: .bool false :: un :: .string da :: iN .i64 da.size :: .agg (#[iN .i64 rm, .slice pf fs.length cf, .bool false, iN .i64 l', .slice pz zs.length cz]) :: iN .i64 (rm - sumB fs fs.length) :: .bool false :: un :: .tuple #[iN .i64 i0, .bool true] :: .agg (#[iN .i64 rm, .slice pf fs.length cf, .bool false, iN .i64 l', .slice pz zs.length cz]) :: .string s :: .tuple #[iN .i64 i0, .bool true] :: iN .i64 i0 :: .bool true :: .string s :: .agg #[.string s, .string ({ data := #[] }), iN .i64 0] :: .bool true :: .pointer (some ⟨q1, 1, none⟩) :: .slice pf fs.length cf :: iN .i64 i0 :: .pointer (some ⟨gF, 3 * i0, none⟩) :: .agg #[.string f.nm, .string f.b, iN .i64 f.sy] :: List.replicate 11 un).toArray, []⟩) (by kernel_rfl) ?_
  refine wp_seq ?_
  refine wl_region ?_
  refine wl_val (.pointer (some ⟨q17, 1, none⟩)) (by kernel_rfl) (by kernel_rfl) ?_
  refine wl_val (.string f.b) (by kernel_rfl) (run_load1 (fun w => Try.isAgg9 w) (by kernel_rfl) (((h23.get 0 rfl).cell 1).trans rfl)) ?_
  refine wl_val (.string da) (by kernel_rfl) (by kernel_rfl) ?_
  refine wl_val (.string bb) (by kernel_rfl) (by rw [hbb]; exact run_cat (s := f.b) (t := da) (by kernel_rfl) (by kernel_rfl) (by omega)) ?_
  refine wl_val (.pointer (some ⟨q17, 1, none⟩)) (by kernel_rfl) (by kernel_rfl) ?_
  refine wl_putv (v := .string bb) h23 0 rfl 1 (by show 1 < 3; decide) (by kernel_rfl) (fun w => Try.sizeOf9 w) (by kernel_rfl) (by kernel_rfl) (by kernel_rfl) ?_
  intro w24 (h25 : HA (bs w) [(q17, 75, #[.string f.nm, .string bb, iN .i64 f.sy]), (q4, 28, #[iN .i64 0, .slice none 0 0, .bool false, iN .i64 0, .slice none 0 0]), (q1, 28, #[iN .i64 rm, .slice pf fs.length cf, .bool false, iN .i64 l', .slice pz zs.length cz])] w24)
  refine wl_nil ?_
  refine then_at rfl ?_
  refine wp_seq ?_
  refine wl_region ?_
  refine wl_load h25 2 rfl (by kernel_rfl) (by kernel_rfl) Try.underlying28 rfl (by kernel_rfl) ?_
  refine wl_load h25 0 rfl (by kernel_rfl) (by kernel_rfl) Try.underlying75 rfl (by kernel_rfl) ?_
  refine wl_callx (by kernel_rfl) enter41 #[.agg (#[iN .i64 rm, .slice pf fs.length cf, .bool false, iN .i64 l', .slice pz zs.length cz]), .agg (#[.string f.nm, .string bb, iN .i64 f.sy])] (by kernel_rfl) (with_any (lf := l') (rm := rm) (nz := zs.length) (cz := cz) (pz := pz) (dn := false) hF (hS.keep h25.old.old) (by omega) ⟨f.nm, bb, f.sy⟩) ?_
  rintro _ w26 ⟨p1, c1, N1, rfl, hF1, hN1, hb1⟩
  refine ⟨_, rfl, ?_⟩
  have hxh27 := HA.addL h25 hb1 hN1
  have h27 : HA (bs w) ((q17, 75, #[.string f.nm, .string bb, iN .i64 f.sy]) :: (q4, 28, #[iN .i64 0, .slice none 0 0, .bool false, iN .i64 0, .slice none 0 0]) :: (q1, 28, #[iN .i64 rm, .slice pf fs.length cf, .bool false, iN .i64 l', .slice pz zs.length cz]) :: N1) w26 := hxh27
  refine wl_val (.string da) (by kernel_rfl) (by kernel_rfl) ?_
  refine wl_val (iN .i64 da.size) (by kernel_rfl) (run_len (s := da) (by kernel_rfl)) ?_
  refine wl_callx (by kernel_rfl) enter40 #[.agg #[iN .i64 rm, .slice p1 (withR fs ⟨f.nm, bb, f.sy⟩).length c1, .bool false, iN .i64 l', .slice pz zs.length cz], iN .i64 da.size] (by kernel_rfl) (told_any (lf := l') (rm := rm) (nf := (withR fs ⟨f.nm, bb, f.sy⟩).length) (cf := c1) (pf := p1) (dn := false) hZ (hS.keep h27.old.old) (by omega) da.size) ?_
  rintro _ w28 ⟨p2, c2, N2, rfl, hZ2, hN2, hb2⟩
  refine ⟨_, rfl, ?_⟩
  have hxh29 := HA.addL h27 hb2 hN2
  have h29 : HA (bs w) ((q17, 75, #[.string f.nm, .string bb, iN .i64 f.sy]) :: (q4, 28, #[iN .i64 0, .slice none 0 0, .bool false, iN .i64 0, .slice none 0 0]) :: (q1, 28, #[iN .i64 rm, .slice pf fs.length cf, .bool false, iN .i64 l', .slice pz zs.length cz]) :: (N1 ++ N2)) w28 := hxh29
  refine wl_fill (c' := #[iN .i64 rm, .slice p1 (withR fs ⟨f.nm, bb, f.sy⟩).length c1, .bool false, iN .i64 l', .slice p2 (zs ++ [da.size]).length c2]) h29 1 rfl (by kernel_rfl) (by kernel_rfl) (by kernel_rfl) rfl (by kernel_rfl) (by kernel_rfl) ?_
  intro w30 (h31 : HA (bs w) ((q17, 75, #[.string f.nm, .string bb, iN .i64 f.sy]) :: (q4, 28, #[iN .i64 rm, .slice p1 (withR fs ⟨f.nm, bb, f.sy⟩).length c1, .bool false, iN .i64 l', .slice p2 (zs ++ [da.size]).length c2]) :: (q1, 28, #[iN .i64 rm, .slice pf fs.length cf, .bool false, iN .i64 l', .slice pz zs.length cz]) :: (N1 ++ N2)) w30)
  refine wl_val (iN .i64 0) (by kernel_rfl) (by kernel_rfl) ?_
  refine wl_nil ?_
  refine then_at rfl ?_
  refine wp_ret ?_
  repeat first | refine then_ret ?_ | refine block_ret ?_
  exact bodyPost_ret (v := .tuple #[.agg (#[iN .i64 rm, .slice p1 (withR fs ⟨f.nm, bb, f.sy⟩).length c1, .bool false, iN .i64 l', .slice p2 (zs ++ [da.size]).length c2]), iN .i64 0]) (res_cell_tmp (p := 6) (r := 7) (by kernel_rfl) (by kernel_rfl) (by kernel_rfl) (h31.get 1 rfl) Try.underlying28 rfl (by kernel_rfl)) rfl ⟨p1, c1, p2, c2, N1 ++ N2, rfl, hF1.mono (fun x hx => by simp [hx]), hZ2.mono (fun x hx => by simp [hx]), HA.newerS h31 (List.Sublist.cons _ (List.Sublist.cons _ (List.Sublist.cons _ (List.Sublist.refl _)))), h31.old.old⟩
end Go.Proofs.Ytjedhnjjgmbcbaa
