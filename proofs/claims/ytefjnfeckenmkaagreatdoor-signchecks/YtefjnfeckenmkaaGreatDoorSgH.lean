/-
 the bytes of 128 digits.
-/
import Derived.Test.YtefjnfeckenmkaaGreatDoorC1
namespace Go.Proofs.YtefjnfeckenmkaaGreatDoor.X2
set_option linter.unusedVariables false
set_option maxRecDepth 100000
set_option maxHeartbeats 2000000
open Go.RowKit Num
def Hexd (s : ByteArray) : Prop := ∀ i, i < 128 → 48 ≤ sb s i ∧ sb s i < 128 ∧ halfN (sb s i) < 16
def hexb (s : ByteArray) (k : Nat) : Nat := halfN (sb s (2 * k)) * 2 ^ 4 ||| halfN (sb s (2 * k + 1))
def hexL (s : ByteArray) (k : Nat) : List UInt8 := (List.range k).map (fun i => UInt8.ofNat (hexb s i)) ++ List.replicate (64 - k) 0
theorem hexL_len (s : ByteArray) (k : Nat) (hk : k ≤ 64) : (hexL s k).length = 64 := by
 unfold hexL; rw [List.length_append, List.length_map, List.length_range, List.length_replicate]; omega
theorem hexb_lt (s : ByteArray) (hs : Hexd s) (k : Nat) (hk : k < 64) : hexb s k < 256 := by
 have h1 := (hs (2 * k) (by omega)).2.2
 have h2 := (hs (2 * k + 1) (by omega)).2.2
 exact Nat.or_lt_two_pow (n := 8) (by omega) (by omega)
theorem hexL_put (s : ByteArray) (hs : Hexd s) (k : Nat) (hk : k < 64) : (cs (hexL s k)).toArray.setIfInBounds k (.int .u8 (hexb s k : Int)) = (cs (hexL s (k + 1))).toArray := by
 have e0 : (hexb s k : Int) = ((UInt8.ofNat (hexb s k)).toNat : Int) := by rw [UInt8.toNat_ofNat', Nat.mod_eq_of_lt (hexb_lt s hs k hk)]
 rw [e0, cs_set]
 congr 2
 unfold hexL
 rw [List.set_append_right _ _ (by rw [List.length_map, List.length_range]; omega), List.length_map, List.length_range, Nat.sub_self]
 have e : 64 - k = (64 - (k + 1)) + 1 := by omega
 rw [e, List.replicate_succ, List.set_cons_zero, List.range_succ, List.map_append, List.append_assoc]
 rfl
theorem lenS {ρ : Operand → Value} {x : Operand} {s : ByteArray} {w : World} {dst : Option Tmp} {ty : TypeId} {pos : String} {aft : Array Edge} {gd : Option (Nat × Bool)} (hs : s.size = 128) (hx : ρ x = .string s) :
  (execOp ρ ⟨dst, .call { callee := .builtin .len, args := #[x], argTypes := #[9] }, ty, pos, aft, gd⟩).run Tryz.prog w = .ok (.value (iN .i64 128)) w := by
 have h := run_len (dst := dst) (ty := ty) (pos := pos) (aft := aft) (gd := gd) (w := w) (hx := hx)
 rw [hs] at h
 exact h
theorem hex_any (s : ByteArray) (hs : s.size = 128) (hd : Hexd s) (w : World) :
  Calls Tryz.prog 26 #[.string s] w fun e w' => e = .returned (.string ⟨(hexL s 64).toArray⟩) ∧ Below w.heap.size w w' := by
 have H0 := HA.start w
 go_enter Tryz.func26, Tryz.ntmps26
 refine zsr ?_
 refine zwv (.string { data := #[] }) ?_
 refine znt ?_
 refine zsr ?_
 refine zwv (.string s) ?_
 refine zwu (lenS hs (by kernel_rfl)) ?_
 refine zwu (run_quo (k := .i64) (a := 128) (b := 2) (by omega) (by simp only [top]; omega)) ?_
 refine wl_mkslice (n := 64) H0 5 (by kernel_rfl) (run_mk 64) ?_
 intro q1 w2 h3
 refine zwv (.slice (some ⟨q1, 0, none⟩) 64 64) ?_
 refine znt ?_
 refine wp_seq ?_
 refine zsr ?_
 refine zwv (iN .i64 0) ?_
 refine znt ?_
 refine wp_block ?_
 refine wp_count (fun k A w' => ∃ u4 : Nat → Value, A = ⟨(.string s :: un :: .string { data := #[] } :: .slice (some ⟨q1, 0, none⟩) 64 64 :: iN .i64 k :: .string s :: iN .i64 128 :: iN .i64 (128 / 2) :: .slice (some ⟨q1, 0, none⟩) 64 64 :: u4 9 :: u4 10 :: u4 11 :: u4 12 :: u4 13 :: u4 14 :: u4 15 :: u4 16 :: u4 17 :: u4 18 :: u4 19 :: u4 20 :: u4 21 :: u4 22 :: u4 23 :: u4 24 :: u4 25 :: u4 26 :: u4 27 :: u4 28 :: u4 29 :: u4 30 :: List.replicate 2 un).toArray, []⟩ ∧ HA w [(q1, 5, (cs (hexL s k)).toArray)] w') 64 ?_ ?_ ?_
 ·exact zex ((by rw [← (by kernel_rfl : zr 64 = (cs (hexL s 0)).toArray)]; exact h3))
 ·rintro k hk _ w5 ⟨u4, rfl, h6⟩
  refine wp_seq ?_
  refine zsr ?_
  refine zwv (iN .i64 k) ?_
  refine zwv (.slice (some ⟨q1, 0, none⟩) 64 64) ?_
  refine zwu (run_len_sl (a := some ⟨q1, 0, none⟩) (n := 64) (c := 64) (by kernel_rfl)) ?_
  refine zwu (run_lss (k := .i64) (a := k) (b := 64) true (decide_eq_true hk)) ?_
  refine znt ?_
  refine zct ?_
  refine wp_skip ?_
  refine then_at rfl ?_
  refine wp_seq ?_
  refine wp_block ?_
  refine zrg (fun _ : Nat → Nat => (⟨(.string s :: un :: .string { data := #[] } :: .slice (some ⟨q1, 0, none⟩) 64 64 :: iN .i64 k :: .string s :: iN .i64 128 :: iN .i64 (128 / 2) :: .slice (some ⟨q1, 0, none⟩) 64 64 :: iN .i64 k :: .slice (some ⟨q1, 0, none⟩) 64 64 :: iN .i64 64 :: .bool true :: u4 13 :: u4 14 :: .slice (some ⟨q1, 0, none⟩) 64 64 :: iN .i64 k :: .string s :: iN .i64 k :: iN .i64 (2 * k) :: iN .u8 (sb s (2 * k)) :: iN .u8 (halfN (sb s (2 * k))) :: iN .u8 ((halfN (sb s (2 * k))) * 2 ^ 4) :: .string s :: iN .i64 k :: iN .i64 (2 * k) :: iN .i64 ((2 * k) + 1) :: iN .u8 (sb s ((2 * k) + 1)) :: iN .u8 (halfN (sb s ((2 * k) + 1))) :: iN .u8 (((halfN (sb s (2 * k))) * 2 ^ 4) ||| (halfN (sb s ((2 * k) + 1)))) :: .pointer (some ⟨q1, k, none⟩) :: List.replicate 2 un).toArray, []⟩ : Act)) (GP w [(q1, 5, (cs (hexL s k)).toArray)] 16 0 q1 5 ((cs (hexL s (k + 1))).toArray)) (fun d hd => GP.start h6.drew (hd 16 (by decide))) ?_ ?_
  ·refine zg (gp_plain (v := .slice (some ⟨q1, 0, none⟩) 64 64) (fun _ _ => (by kernel_rfl))) ?_
   refine zg (gp_plain (v := iN .i64 k) (fun _ _ => (by kernel_rfl))) ?_
   refine zg (gp_plain (v := .string s) (fun _ _ => (by kernel_rfl))) ?_
   refine zg (gp_plain (v := iN .i64 k) (fun _ _ => (by kernel_rfl))) ?_
   refine zg (gp_plain (v := iN .i64 (2 * k)) (fun _ _ => (run_mul (k := .i64) (a := 2) (b := k) (by simp only [top]; omega)))) ?_
   refine zg (gp_plain (v := iN .u8 (sb s (2 * k))) (fun _ _ => (run_sidx (s := s) (a := 2 * k) (by omega)))) ?_
   refine zg (gp_call (v := iN .u8 (halfN (sb s (2 * k)))) enter71 #[iN .u8 (sb s (2 * k))] (fun w' => half_any (sb s (2 * k)) (hd (2 * k) (by omega)).2.1 (hd (2 * k) (by omega)).1 w')) ?_
   refine zg (gp_plain (v := iN .u8 ((halfN (sb s (2 * k))) * 2 ^ 4)) (fun _ _ => (run_shl (k2 := .u64) (k := .u8) (a := halfN (sb s (2 * k))) (b := 4) (by have hz := (hd (2 * k) (by omega)).2.2; simp only [top]; omega)))) ?_
   refine zg (gp_plain (v := .string s) (fun _ _ => (by kernel_rfl))) ?_
   refine zg (gp_plain (v := iN .i64 k) (fun _ _ => (by kernel_rfl))) ?_
   refine zg (gp_plain (v := iN .i64 (2 * k)) (fun _ _ => (run_mul (k := .i64) (a := 2) (b := k) (by simp only [top]; omega)))) ?_
   refine zg (gp_plain (v := iN .i64 ((2 * k) + 1)) (fun _ _ => (run_add (k := .i64) (a := 2 * k) (b := 1) (by simp only [top]; omega)))) ?_
   refine zg (gp_plain (v := iN .u8 (sb s ((2 * k) + 1))) (fun _ _ => (run_sidx (s := s) (a := (2 * k) + 1) (by omega)))) ?_
   refine zg (gp_call (v := iN .u8 (halfN (sb s ((2 * k) + 1)))) enter71 #[iN .u8 (sb s ((2 * k) + 1))] (fun w' => half_any (sb s ((2 * k) + 1)) (hd ((2 * k) + 1) (by omega)).2.1 (hd ((2 * k) + 1) (by omega)).1 w')) ?_
   refine zg (gp_plain (v := iN .u8 (((halfN (sb s (2 * k))) * 2 ^ 4) ||| (halfN (sb s ((2 * k) + 1))))) (fun _ _ => (run_or8 (a := (halfN (sb s (2 * k))) * 2 ^ 4) (b := halfN (sb s ((2 * k) + 1))) (by have hz := (hd (2 * k) (by omega)).2.2; omega) (hb := (by have hz := (hd (2 * k + 1) (by omega)).2.2; omega))))) ?_
   refine zg (gp_plain (v := .pointer (some ⟨q1, k, none⟩)) (fun _ _ => (run_addr_slice (q := q1) (n := 64) (m := 64) (a := k) Tryz.underlying71 Tryz.sizeOf5 (by omega)))) ?_
   refine zg (gp_put (k := .u8) (z := ((((halfN (sb s (2 * k))) * 2 ^ 4) ||| (halfN (sb s ((2 * k) + 1))) : Nat) : Int)) (off := k) rfl (by rw [List.size_toArray, cs_length, hexL_len _ _ (by omega)]; omega) ((hexL_put s hd k hk)) Tryz.sizeOf5) ?_
   exact AllGhost.nil
  intro _ w7 g8
  have h9 : HA w [(q1, 5, (cs (hexL s (k + 1))).toArray)] w7 := g8
  clear g8
  refine block_normal ?_
  refine then_at rfl ?_
  refine wl_region ?_
  refine zwv (iN .i64 k) ?_
  refine zwu (run_add (k := .i64) (a := k) (b := 1) (by simp only [top]; omega)) ?_
  refine zwv (iN .i64 (k + 1)) ?_
  refine wl_nil ?_
  exact then_I (zex h9)
 ·rintro _ w10 ⟨u4, rfl, h11⟩
  refine wp_seq ?_
  refine zsr ?_
  refine zwv (iN .i64 64) ?_
  refine zwv (.slice (some ⟨q1, 0, none⟩) 64 64) ?_
  refine zwu (run_len_sl (a := some ⟨q1, 0, none⟩) (n := 64) (c := 64) (by kernel_rfl)) ?_
  refine zwu (run_lss (k := .i64) (a := 64) (b := 64) false (by decide)) ?_
  refine znt ?_
  refine zcf ?_
  refine wp_exit ?_
  repeat first | refine then_exit ?_ | refine block_exit ?_ | refine block_exit_ne (by decide) ?_
  refine then_at rfl ?_
  refine zsr ?_
  refine zwv (.slice (some ⟨q1, 0, none⟩) 64 64) ?_
  refine zwu (run_text (hexL s 64) (by kernel_rfl) (h11.get 0 rfl) rfl (hexL_len s 64 (by decide))) ?_
  refine zwv (.string ⟨(hexL s 64).toArray⟩) ?_
  refine znt ?_
  exact wp_ret (zb h11.old)
end Go.Proofs.YtefjnfeckenmkaaGreatDoor.X2
