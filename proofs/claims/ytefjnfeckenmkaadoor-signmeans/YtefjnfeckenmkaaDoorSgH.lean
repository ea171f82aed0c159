/-
  the bytes of 128 digits.
-/
import Derived.Test.YtefjnfeckenmkaaDoorC1
namespace Go.Proofs.YtefjnfeckenmkaaDoor.X2
open Go.RowKit Num

section
variable {ops : Array Oper} {Q : Exit → Act → World → Prop} {F : (Nat → Nat) → Act} {i i0 j q : Nat} {dst : Option Tmp} {ty : TypeId} {pos : String} {aft : Array Edge} {gd : Option (Nat × Bool)}
  {w0 : World} {L : List (Nat × TypeId × Array Value)} {t : TypeId} {c : Array Value}
end
/-- a digit of base 16 -/
def Hexd (s : ByteArray) : Prop := ∀ i, i < 128 → 48 ≤ sb s i ∧ sb s i < 128 ∧ halfN (sb s i) < 16
def hexb (s : ByteArray) (k : Nat) : Nat := halfN (sb s (2 * k)) * 2 ^ 4 ||| halfN (sb s (2 * k + 1))
def hexL (s : ByteArray) (k : Nat) : List UInt8 := (List.range k).map (fun i => UInt8.ofNat (hexb s i)) ++ List.replicate (64 - k) 0
theorem hexL_len (s : ByteArray) (k : Nat) (hk : k ≤ 64) : (hexL s k).length = 64 := by
  unfold hexL; rw [List.length_append, List.length_map, List.length_range, List.length_replicate]; omega
theorem hexb_lt (s : ByteArray) (hs : Hexd s) (k : Nat) (hk : k < 64) : hexb s k < 256 := by
  have h1 := (hs (2 * k) (by omega)).2.2
  have h2 := (hs (2 * k + 1) (by omega)).2.2
  exact Nat.or_lt_two_pow (n := 8) (by omega) (by omega)
theorem hexL_put (s : ByteArray) (hs : Hexd s) (k : Nat) (hk : k < 64) : (cs (hexL s k)).toArray.setIfInBounds k (.int .u8 (hexb s k : Int)) = (cs (hexL s (k + 1))).toArray := by
  have e0 : (hexb s k : Int) = ((UInt8.ofNat (hexb s k)).toNat : Int) := by rw [UInt8.toNat_ofNat', Nat.mod_eq_of_lt (hexb_lt s hs k hk)]
  rw [e0, cs_set]
  congr 2
  unfold hexL
  rw [List.set_append_right _ _ (by rw [List.length_map, List.length_range]; omega), List.length_map, List.length_range, Nat.sub_self]
  have e : 64 - k = (64 - (k + 1)) + 1 := by omega
  rw [e, List.replicate_succ, List.set_cons_zero, List.range_succ, List.map_append, List.append_assoc]
  rfl

theorem lenS {ρ : Operand → Value} {x : Operand} {s : ByteArray} {w : World} {dst : Option Tmp} {ty : TypeId} {pos : String} {aft : Array Edge} {gd : Option (Nat × Bool)} (hs : s.size = 128) (hx : ρ x = .string s) :
    (execOp ρ ⟨dst, .call { callee := .builtin .len, args := #[x], argTypes := #[9] }, ty, pos, aft, gd⟩).run Tryd.prog w = .ok (.value (iN .i64 128)) w := by
  have h := run_len (dst := dst) (ty := ty) (pos := pos) (aft := aft) (gd := gd) (w := w) hx
  rw [hs] at h
  exact h
def zSgH_0 (s : ByteArray) q1 (zx4 : Value) (zt : List Value) := (.string s :: un :: .string { data := #[] } :: .slice (some ⟨q1, 0, none⟩) 64 64 :: zx4 :: .string s :: iN .i64 128 :: iN .i64 (128 / 2) :: .slice (some ⟨q1, 0, none⟩) 64 64 :: zt : List Value)
def zSgH_1 (s : ByteArray) q1 k (u4 : Nat → Value) (zx9 zx10 zx11 zx12 : Value) (zt : List Value) := (.string s :: un :: .string { data := #[] } :: .slice (some ⟨q1, 0, none⟩) 64 64 :: iN .i64 k :: .string s :: iN .i64 128 :: iN .i64 (128 / 2) :: .slice (some ⟨q1, 0, none⟩) 64 64 :: zx9 :: zx10 :: zx11 :: zx12 :: u4 13 :: u4 14 :: u4 15 :: u4 16 :: u4 17 :: u4 18 :: u4 19 :: u4 20 :: u4 21 :: u4 22 :: u4 23 :: u4 24 :: u4 25 :: u4 26 :: u4 27 :: u4 28 :: u4 29 :: u4 30 :: un :: un :: zt : List Value)
def zSgH_2 (s : ByteArray) q1 k (u4 : Nat → Value) (zt : List Value) := (.string s :: un :: .string { data := #[] } :: .slice (some ⟨q1, 0, none⟩) 64 64 :: iN .i64 k :: .string s :: iN .i64 128 :: iN .i64 (128 / 2) :: .slice (some ⟨q1, 0, none⟩) 64 64 :: iN .i64 k :: .slice (some ⟨q1, 0, none⟩) 64 64 :: iN .i64 64 :: .bool true :: u4 13 :: u4 14 :: .slice (some ⟨q1, 0, none⟩) 64 64 :: iN .i64 k :: .string s :: iN .i64 k :: iN .i64 (2 * k) :: iN .u8 (sb s (2 * k)) :: iN .u8 (halfN (sb s (2 * k))) :: iN .u8 ((halfN (sb s (2 * k))) * 2 ^ 4) :: .string s :: iN .i64 k :: iN .i64 (2 * k) :: iN .i64 ((2 * k) + 1) :: iN .u8 (sb s ((2 * k) + 1)) :: iN .u8 (halfN (sb s ((2 * k) + 1))) :: iN .u8 (((halfN (sb s (2 * k))) * 2 ^ 4) ||| (halfN (sb s ((2 * k) + 1)))) :: .pointer (some ⟨q1, k, none⟩) :: un :: un :: zt : List Value)
def zSgH_3 (s : ByteArray) q1 (u4 : Nat → Value) (zx2 : Value) (zt : List Value) := (.string s :: un :: zx2 :: .slice (some ⟨q1, 0, none⟩) 64 64 :: iN .i64 64 :: .string s :: iN .i64 128 :: iN .i64 (128 / 2) :: .slice (some ⟨q1, 0, none⟩) 64 64 :: iN .i64 64 :: .slice (some ⟨q1, 0, none⟩) 64 64 :: iN .i64 64 :: .bool false :: u4 13 :: u4 14 :: u4 15 :: u4 16 :: u4 17 :: u4 18 :: u4 19 :: u4 20 :: u4 21 :: u4 22 :: u4 23 :: u4 24 :: u4 25 :: u4 26 :: u4 27 :: u4 28 :: u4 29 :: u4 30 :: zt : List Value)
set_option linter.unusedVariables false in
set_option maxRecDepth 100000 in
set_option maxHeartbeats 2000000 in
theorem hex_any (s : ByteArray) (hs : s.size = 128) (hd : Hexd s) (w : World) :
    Calls Tryd.prog 22 #[.string s] w fun e w' => e = .returned (.string ⟨(hexL s 64).toArray⟩) ∧ Below w.heap.size w w' := by
  have H0 := HA.start w
  go_enter Tryd.func22, Tryd.ntmps22
  refine wp_seq ?_
  refine wl_region ?_
  refine wl_val (.string { data := #[] }) (by kernel_rfl) (by kernel_rfl) ?_
  refine wl_nil ?_
  refine then_at (F := ⟨(.string s :: un :: .string { data := #[] } :: List.replicate 30 un).toArray, []⟩) (by kernel_rfl) ?_
  refine wp_seq ?_
  refine wl_region ?_
  refine wl_val (.string s) (by kernel_rfl) (by kernel_rfl) ?_
  refine wl_val (iN .i64 128) (by kernel_rfl) (lenS hs (by kernel_rfl)) ?_
  refine wl_val (iN .i64 (128 / 2)) (by kernel_rfl) (run_quo (k := .i64) (a := 128) (b := 2) (by kernel_rfl) (by kernel_rfl) (by omega) (by simp only [top]; omega)) ?_
  refine wl_mkslice (n := 64) H0 5 (by kernel_rfl) (run_mk 64 (by decide) (by kernel_rfl) (by kernel_rfl)) ?_
  intro q1 w2 h3
  refine wl_val (.slice (some ⟨q1, 0, none⟩) 64 64) (by kernel_rfl) (by kernel_rfl) ?_
  refine wl_nil ?_
  refine then_at (F := ⟨(zSgH_0 s q1 un (List.replicate 24 un)).toArray, []⟩) (by kernel_rfl) ?_
  refine wp_seq ?_
  refine wp_seq ?_
  refine wl_region ?_
  refine wl_val (iN .i64 0) (by kernel_rfl) (by kernel_rfl) ?_
  refine wl_nil ?_
  refine then_at (F := ⟨(zSgH_0 s q1 (iN .i64 0) (List.replicate 24 un)).toArray, []⟩) (by kernel_rfl) ?_
  refine wp_block ?_
  refine wp_count (fun k A w' => ∃ u4 : Nat → Value, A = ⟨(zSgH_1 s q1 k u4 (u4 9) (u4 10) (u4 11) (u4 12) ([])).toArray, []⟩ ∧ HA w [(q1, 5, (cs (hexL s k)).toArray)] w') 64 ?_ ?_ ?_
  · exact ⟨fun ii => (([(9, undef), (10, undef), (11, undef), (12, undef), (13, undef), (14, undef), (15, undef), (16, undef), (17, undef), (18, undef), (19, undef), (20, undef), (21, undef), (22, undef), (23, undef), (24, undef), (25, undef), (26, undef), (27, undef), (28, undef), (29, undef), (30, undef)] : List (Nat × Value)).find? (·.1 == ii)).elim undef (·.2), by kernel_rfl, (by rw [← (by kernel_rfl : zr 64 = (cs (hexL s 0)).toArray)]; exact h3)⟩
  · rintro k hk _ w5 ⟨u4, rfl, h6⟩
    refine wp_seq ?_
    refine wp_seq ?_
    refine wl_region ?_
    refine wl_val (iN .i64 k) (by kernel_rfl) (by kernel_rfl) ?_
    refine wl_val (.slice (some ⟨q1, 0, none⟩) 64 64) (by kernel_rfl) (by kernel_rfl) ?_
    refine wl_val (iN .i64 64) (by kernel_rfl) (run_len_sl (a := some ⟨q1, 0, none⟩) (n := 64) (c := 64) (by kernel_rfl)) ?_
    refine wl_val (.bool true) (by kernel_rfl) (run_lss (k := .i64) (a := k) (b := 64) (by kernel_rfl) (by kernel_rfl) true (decide_eq_true hk)) ?_
    refine wl_nil ?_
    refine then_at (F := ⟨(zSgH_1 s q1 k u4 (iN .i64 k) (.slice (some ⟨q1, 0, none⟩) 64 64) (iN .i64 64) (.bool true) ([])).toArray, []⟩) (by kernel_rfl) ?_
    refine wp_cond_true (by kernel_rfl) ?_
    refine wp_skip ?_
    refine then_at (F := ⟨(zSgH_1 s q1 k u4 (iN .i64 k) (.slice (some ⟨q1, 0, none⟩) 64 64) (iN .i64 64) (.bool true) ([])).toArray, []⟩) (by kernel_rfl) ?_
    refine wp_seq ?_
    refine wp_block ?_
    refine wp_region_ghost (fun _ : Nat → Nat => (⟨(zSgH_2 s q1 k u4 ([])).toArray, []⟩ : Act)) (GP w [(q1, 5, (cs (hexL s k)).toArray)] 16 0 q1 5 ((cs (hexL s (k + 1))).toArray)) [.slice (some ⟨q1, 0, none⟩) 64 64, iN .i64 k, .string s, iN .i64 k, iN .i64 (2 * k), iN .u8 (sb s (2 * k)), iN .u8 (halfN (sb s (2 * k))), iN .u8 ((halfN (sb s (2 * k))) * 2 ^ 4), .string s, iN .i64 k, iN .i64 (2 * k), iN .i64 ((2 * k) + 1), iN .u8 (sb s ((2 * k) + 1)), iN .u8 (halfN (sb s ((2 * k) + 1))), iN .u8 (((halfN (sb s (2 * k))) * 2 ^ 4) ||| (halfN (sb s ((2 * k) + 1)))), .pointer (some ⟨q1, k, none⟩), undef] (by kernel_rfl) (by kernel_rfl) (by kernel_rfl) (by kernel_rfl) (fun _ _ _ _ h => h) (fun d hd => GP.start h6.drew (hd 16 (by decide))) ?_ ?_
    · refine AllGhost.cons (gp_plain (v := .slice (some ⟨q1, 0, none⟩) 64 64) (by decide) (fun _ => by kernel_rfl) (fun _ => by kernel_rfl) (fun _ _ => (by kernel_rfl))) ?_
      refine AllGhost.cons (gp_plain (v := iN .i64 k) (by decide) (fun _ => by kernel_rfl) (fun _ => by kernel_rfl) (fun _ _ => (by kernel_rfl))) ?_
      refine AllGhost.cons (gp_plain (v := .string s) (by decide) (fun _ => by kernel_rfl) (fun _ => by kernel_rfl) (fun _ _ => (by kernel_rfl))) ?_
      refine AllGhost.cons (gp_plain (v := iN .i64 k) (by decide) (fun _ => by kernel_rfl) (fun _ => by kernel_rfl) (fun _ _ => (by kernel_rfl))) ?_
      refine AllGhost.cons (gp_plain (v := iN .i64 (2 * k)) (by decide) (fun _ => by kernel_rfl) (fun _ => by kernel_rfl) (fun _ _ => (run_mul (k := .i64) (a := 2) (b := k) (by kernel_rfl) (by kernel_rfl) (by simp only [top]; omega)))) ?_
      refine AllGhost.cons (gp_plain (v := iN .u8 (sb s (2 * k))) (by decide) (fun _ => by kernel_rfl) (fun _ => by kernel_rfl) (fun _ _ => (run_sidx (s := s) (a := 2 * k) (by kernel_rfl) (by kernel_rfl) (by omega)))) ?_
      refine AllGhost.cons (gp_call (v := iN .u8 (halfN (sb s (2 * k)))) (by decide) (fun _ => by kernel_rfl) (fun _ => by kernel_rfl) enter71 #[iN .u8 (sb s (2 * k))] (fun _ => by kernel_rfl) (fun w' => half_any (sb s (2 * k)) (hd (2 * k) (by omega)).2.1 (hd (2 * k) (by omega)).1 w')) ?_
      refine AllGhost.cons (gp_plain (v := iN .u8 ((halfN (sb s (2 * k))) * 2 ^ 4)) (by decide) (fun _ => by kernel_rfl) (fun _ => by kernel_rfl) (fun _ _ => (run_shl (k2 := .u64) (k := .u8) (a := halfN (sb s (2 * k))) (b := 4) (by kernel_rfl) (by kernel_rfl) (by decide) (by have hz := (hd (2 * k) (by omega)).2.2; simp only [top]; omega)))) ?_
      refine AllGhost.cons (gp_plain (v := .string s) (by decide) (fun _ => by kernel_rfl) (fun _ => by kernel_rfl) (fun _ _ => (by kernel_rfl))) ?_
      refine AllGhost.cons (gp_plain (v := iN .i64 k) (by decide) (fun _ => by kernel_rfl) (fun _ => by kernel_rfl) (fun _ _ => (by kernel_rfl))) ?_
      refine AllGhost.cons (gp_plain (v := iN .i64 (2 * k)) (by decide) (fun _ => by kernel_rfl) (fun _ => by kernel_rfl) (fun _ _ => (run_mul (k := .i64) (a := 2) (b := k) (by kernel_rfl) (by kernel_rfl) (by simp only [top]; omega)))) ?_
      refine AllGhost.cons (gp_plain (v := iN .i64 ((2 * k) + 1)) (by decide) (fun _ => by kernel_rfl) (fun _ => by kernel_rfl) (fun _ _ => (run_add (k := .i64) (a := 2 * k) (b := 1) (by kernel_rfl) (by kernel_rfl) (by simp only [top]; omega)))) ?_
      refine AllGhost.cons (gp_plain (v := iN .u8 (sb s ((2 * k) + 1))) (by decide) (fun _ => by kernel_rfl) (fun _ => by kernel_rfl) (fun _ _ => (run_sidx (s := s) (a := (2 * k) + 1) (by kernel_rfl) (by kernel_rfl) (by omega)))) ?_
      refine AllGhost.cons (gp_call (v := iN .u8 (halfN (sb s ((2 * k) + 1)))) (by decide) (fun _ => by kernel_rfl) (fun _ => by kernel_rfl) enter71 #[iN .u8 (sb s ((2 * k) + 1))] (fun _ => by kernel_rfl) (fun w' => half_any (sb s ((2 * k) + 1)) (hd ((2 * k) + 1) (by omega)).2.1 (hd ((2 * k) + 1) (by omega)).1 w')) ?_
      refine AllGhost.cons (gp_plain (v := iN .u8 (((halfN (sb s (2 * k))) * 2 ^ 4) ||| (halfN (sb s ((2 * k) + 1))))) (by decide) (fun _ => by kernel_rfl) (fun _ => by kernel_rfl) (fun _ _ => (run_or8 (a := (halfN (sb s (2 * k))) * 2 ^ 4) (b := halfN (sb s ((2 * k) + 1))) (by kernel_rfl) (by kernel_rfl) (by have hz := (hd (2 * k) (by omega)).2.2; omega) (by have hz := (hd (2 * k + 1) (by omega)).2.2; omega)))) ?_
      refine AllGhost.cons (gp_plain (v := .pointer (some ⟨q1, k, none⟩)) (by decide) (fun _ => by kernel_rfl) (fun _ => by kernel_rfl) (fun _ _ => (run_addr_slice (q := q1) (n := 64) (m := 64) (a := k) Tryd.underlying27 (fun w => Tryd.sizeOf5 w) (by kernel_rfl) (by kernel_rfl) (by omega)))) ?_
      refine AllGhost.cons (gp_put (k := .u8) (z := ((((halfN (sb s (2 * k))) * 2 ^ 4) ||| (halfN (sb s ((2 * k) + 1))) : Nat) : Int)) (off := k) rfl (by rw [List.size_toArray, cs_length, hexL_len _ _ (by omega)]; omega) ((hexL_put s hd k hk)) (fun w => Tryd.sizeOf5 w) (fun _ => by kernel_rfl) (fun _ => by kernel_rfl) (fun _ => by kernel_rfl) (fun _ => by kernel_rfl)) ?_
      exact AllGhost.nil
    intro _ w7 g8
    have h9 : HA w [(q1, 5, (cs (hexL s (k + 1))).toArray)] w7 := g8
    clear g8
    refine block_normal ?_
    refine then_at (F := ⟨(zSgH_2 s q1 k u4 ([])).toArray, []⟩) (by kernel_rfl) ?_
    refine wl_region ?_
    refine wl_val (iN .i64 k) (by kernel_rfl) (by kernel_rfl) ?_
    refine wl_val (iN .i64 (k + 1)) (by kernel_rfl) (run_add (k := .i64) (a := k) (b := 1) (by kernel_rfl) (by kernel_rfl) (by simp only [top]; omega)) ?_
    refine wl_val (iN .i64 (k + 1)) (by kernel_rfl) (by kernel_rfl) ?_
    refine wl_nil ?_
    exact then_I ⟨fun ii => (([(9, iN .i64 k), (10, .slice (some ⟨q1, 0, none⟩) 64 64), (11, iN .i64 64), (12, .bool true), (13, iN .i64 k), (14, iN .i64 (k + 1)), (15, .slice (some ⟨q1, 0, none⟩) 64 64), (16, iN .i64 k), (17, .string s), (18, iN .i64 k), (19, iN .i64 (2 * k)), (20, iN .u8 (sb s (2 * k))), (21, iN .u8 (halfN (sb s (2 * k)))), (22, iN .u8 ((halfN (sb s (2 * k))) * 2 ^ 4)), (23, .string s), (24, iN .i64 k), (25, iN .i64 (2 * k)), (26, iN .i64 ((2 * k) + 1)), (27, iN .u8 (sb s ((2 * k) + 1))), (28, iN .u8 (halfN (sb s ((2 * k) + 1)))), (29, iN .u8 (((halfN (sb s (2 * k))) * 2 ^ 4) ||| (halfN (sb s ((2 * k) + 1))))), (30, .pointer (some ⟨q1, k, none⟩))] : List (Nat × Value)).find? (·.1 == ii)).elim undef (·.2), by kernel_rfl, h9⟩
  · rintro _ w10 ⟨u4, rfl, h11⟩
    refine wp_seq ?_
    refine wp_seq ?_
    refine wl_region ?_
    refine wl_val (iN .i64 64) (by kernel_rfl) (by kernel_rfl) ?_
    refine wl_val (.slice (some ⟨q1, 0, none⟩) 64 64) (by kernel_rfl) (by kernel_rfl) ?_
    refine wl_val (iN .i64 64) (by kernel_rfl) (run_len_sl (a := some ⟨q1, 0, none⟩) (n := 64) (c := 64) (by kernel_rfl)) ?_
    refine wl_val (.bool false) (by kernel_rfl) (run_lss (k := .i64) (a := 64) (b := 64) (by kernel_rfl) (by kernel_rfl) false (by decide)) ?_
    refine wl_nil ?_
    refine then_at (F := ⟨(zSgH_3 s q1 u4 (.string { data := #[] }) (List.replicate 2 un)).toArray, []⟩) (by kernel_rfl) ?_
    refine wp_cond_false (by kernel_rfl) ?_
    refine wp_exit ?_
    repeat first | refine then_exit ?_ | refine block_exit ?_ | refine block_exit_ne (by decide) ?_
    refine then_at (F := ⟨(zSgH_3 s q1 u4 (.string { data := #[] }) (List.replicate 2 un)).toArray, []⟩) (by kernel_rfl) ?_
    refine wp_seq ?_
    refine wl_region ?_
    refine wl_val (.slice (some ⟨q1, 0, none⟩) 64 64) (by kernel_rfl) (by kernel_rfl) ?_
    refine wl_val (.string ⟨(hexL s 64).toArray⟩) (by kernel_rfl) (run_text (hexL s 64) (by kernel_rfl) (h11.get 0 rfl) rfl (hexL_len s 64 (by decide))) ?_
    refine wl_val (.string ⟨(hexL s 64).toArray⟩) (by kernel_rfl) (by kernel_rfl) ?_
    refine wl_nil ?_
    refine then_at (F := ⟨(zSgH_3 s q1 u4 (.string ⟨(hexL s 64).toArray⟩) (.slice (some ⟨q1, 0, none⟩) 64 64 :: .string ⟨(hexL s 64).toArray⟩ :: [])).toArray, []⟩) (by kernel_rfl) ?_
    refine wp_ret ?_
    repeat first | refine then_ret ?_ | refine block_ret ?_
    exact bodyPost_ret (v := .string ⟨(hexL s 64).toArray⟩) (by kernel_rfl) rfl ⟨rfl, h11.old⟩
end Go.Proofs.YtefjnfeckenmkaaDoor.X2
