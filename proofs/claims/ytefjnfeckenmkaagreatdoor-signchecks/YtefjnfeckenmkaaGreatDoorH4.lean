/-
 the reference: turns, words of the rounds, what is filled.
-/
import Derived.Test.YtefjnfeckenmkaaGreatDoorH3
import Derived.Test.YtefjnfeckenmkaaGreatDoorH1
import Derived.Test.YtefjnfeckenmkaaGreatDoorH2
import Derived.Test.YtefjnfeckenmkaaGreatDoorB0
namespace Go.Proofs.YtefjnfeckenmkaaGreatDoor.Hh
set_option linter.unusedVariables false
set_option maxRecDepth 100000
set_option maxHeartbeats 2000000
open Go.RowKit
theorem rotRL (x : BitVec 64) (n : Nat) (hn : n ≤ 64) (w : World) :
  Calls Tryz.prog 85 #[bv .u64 x, iN .i64 n] w fun e w' => e = .returned (bv .u64 (rotP x n)) ∧ Below w.heap.size w w' := by
 have H0 := HA.start w
 go_enter Tryz.func85, Tryz.ntmps85
 refine zsr ?_
 refine zwv (iN .u64 0) ?_
 refine znt ?_
 refine wp_seq ?_
 refine zrs ⟨(bv .u64 x :: iN .i64 n :: un :: un :: bv .u64 ((x >>> n) ||| (x <<< (64 - n))) :: bv .u64 x :: iN .i64 n :: bv .u64 (x >>> n) :: bv .u64 x :: iN .i64 n :: iN .i64 (64 - n) :: bv .u64 (x <<< (64 - n)) :: bv .u64 ((x >>> n) ||| (x <<< (64 - n))) :: List.replicate 0 un).toArray, []⟩ (HA w []) H0.drew ?_ ?_
 ·refine zsp (bv .u64 x) ?_
  refine zsp (iN .i64 n) ?_
  refine zst (fun _ _ => (run_shrv (k2 := .i64) (m := n) WK.l (a := x))) ?_
  refine zsp (bv .u64 x) ?_
  refine zsp (iN .i64 n) ?_
  refine zst (fun _ _ => (run_sub (k := .i64) (a := 64) (b := n) (by omega) (by simp only [top]; omega))) ?_
  refine zst (fun _ _ => (run_shlv (k2 := .i64) (m := 64 - n) WK.l (a := x) (by kernel_rfl) (by kernel_rfl) (by omega))) ?_
  refine zst (fun _ _ => (run_orv WK.l (a := x >>> n) (b := x <<< (64 - n)) (by kernel_rfl) (by kernel_rfl))) ?_
  refine zsp (bv .u64 ((x >>> n) ||| (x <<< (64 - n)))) ?_
  exact AllSure.nil
 intro w1 h2
 refine then_at rfl ?_
 exact wp_ret (zb h2.old)
theorem rws_len : rws.length = 80 := by decide +kernel
theorem kwRL (i : Nat) (hi : i < 80) (w : World) :
  Calls Tryz.prog 86 #[iN .i64 i] w fun e w' => e = .returned (bv .u64 (cutP 64 (rws.getD i 0))) ∧ Below w.heap.size w w' := by
 have H0 := HA.start w
 go_enter Tryz.func86, Tryz.ntmps86
 refine zsr ?_
 refine zwv (iN .u64 0) ?_
 refine znt ?_
 refine zsr ?_
 refine zwv (.agg (wc .u64 rws)) ?_
 refine wl_make H0 109 run_alloc44 ?_
 intro q1 w2 h3
 refine wl_fill (c' := wc .u64 rws) h3 0 rfl (by rw [wc_size, wc_size, rws_len, (List.length_replicate)]) (info44 .u64 rws rws_len) (one_wc .u64 rws) ?_
 intro w4 (h5 : HA w [(q1, 109, wc .u64 rws)] w4)
 refine znt ?_
 refine zsr ?_
 refine zwv (iN .i64 i) ?_
 refine zwu (run_addr_arr (q := q1) (a := i) Tryz.underlying109 Tryz.sizeOf34 (by omega)) ?_
 refine zwu (run_load1 Tryz.isAgg34 (((h5.get 0 rfl).cell i).trans (wc_get .u64 rws i (by rw [rws_len]; omega)))) ?_
 refine zwv (bv .u64 (rws.getD i 0)) ?_
 refine znt ?_
 refine wp_ret ?_
 repeat first | refine then_ret ?_ | refine block_ret ?_
 exact bodyPost_ret (v := bv .u64 (rws.getD i 0)) (by kernel_rfl) rfl ⟨by unfold cutP; rw [BitVec.setWidth_eq]; rfl, h5.old⟩
def dnv : Nat → Value
 | 0 => .int .i64 (-1)
 | k + 1 => iN .i64 k
section
variable {ρ : Operand → Value} {x y : Operand} {w : World} {dst : Option Tmp} {T T2 ty : TypeId} {pos : String} {aft : Array Edge} {gd : Option (Nat × Bool)} {P : Program}
theorem run_geq0 {k : IntKind} {a b : Int}   (t : Bool) (ht : decide (b ≤ a) = t) (hx : ρ x = .int k a := by kernel_rfl) (hy : ρ y = .int k b := by kernel_rfl) : (execOp ρ ⟨dst, .binOp .geq T x y T2, ty, pos, aft, gd⟩).run P w = .ok (.value (.bool t)) w := by
 subst ht
 simp only [execOp, hx, hy]
 simp [binOp, go_sem]
end
theorem run_dec {ρ : Operand → Value} {x y : Operand} {w : World} {dst : Option Tmp} {T T2 ty : TypeId} {pos : String} {aft : Array Edge} {gd : Option (Nat × Bool)} {P : Program} {j : Nat} (hj : j < 1000) (hx : ρ x = iN .i64 j) (hy : ρ y = iN .i64 1) :
  (execOp ρ ⟨dst, .binOp .sub T x y T2, ty, pos, aft, gd⟩).run P w = .ok (.value (dnv j)) w := by
 cases j with
 | zero =>
  simp only [execOp, hx, hy, iN, dnv]
  simp [binOp, go_sem, IntKind.wrap, IntKind.bits, IntKind.signed]
 | succ j =>
  have h := run_sub (ρ := ρ) (x := x) (y := y) (w := w) (dst := dst) (T := T) (T2 := T2) (ty := ty) (pos := pos) (aft := aft) (gd := gd) (P := P) (k := .i64) (a := j + 1) (b := 1) (hx := hx) (hy := hy) (by omega) (by simp only [top]; omega)
  exact h
theorem bl_app (s t : ByteArray) : bl (s ++ t) = bl s ++ bl t := by
 unfold bl
 rw [ByteArray.data_append, Array.toList_append]
theorem size_of_bl {t : ByteArray} {l : List UInt8} (h : bl t = l) : t.size = l.length := by rw [← h, bl_len]
theorem gp_noL (z j : Nat) (h : j < gapP KL z) : (z + (1 + j)) % 128 ≠ 112 := by
 have e : gapP KL z = 127 - (z + 17 - 1) % 128 := rfl
 rw [e] at h
 omega
theorem gp_yesL (z : Nat) : (z + (1 + gapP KL z)) % 128 = 112 := by
 have e : gapP KL z = 127 - (z + 17 - 1) % 128 := rfl
 rw [e]
 omega
theorem gp_leL (z : Nat) : gapP KL z ≤ 127 := Nat.sub_le _ _
theorem be_nextL (z j : Nat) (hj : j < 16) : beP 16 (8 * z) (16 - j) = beP 16 (8 * z) (16 - (j + 1)) ++ [UInt8.ofNat (8 * z / 2 ^ (8 * j))] := by
 rw [show 16 - j = (16 - (j + 1)) + 1 by omega, beP, show 16 - 1 - (16 - (j + 1)) = j by omega]
theorem far_zero (z j : Nat) (hz : z ≤ 2251799813685248) (hj : 8 ≤ j) : UInt8.ofNat (8 * z / 2 ^ (8 * j)) = 0 := by
 rw [Nat.div_eq_of_lt (Nat.lt_of_lt_of_le (show 8 * z < 2 ^ 64 by omega) (Nat.pow_le_pow_right (by decide) (by omega)))]
 rfl
theorem filRL (s : ByteArray) (hs : s.size ≤ 2251799813685248) (w : World) :
  Calls Tryz.prog 84 #[.string s, iN .i64 128, iN .i64 16] w fun e w' => (∃ t, e = .returned (.string t) ∧ bl t = bl s ++ fillP KL s.size) ∧ Below w.heap.size w w' := by
 have H0 := HA.start w
 go_enter Tryz.func84, Tryz.ntmps84
 refine zsr ?_
 refine zwv (.string { data := #[] }) ?_
 refine znt ?_
 refine zsr ?_
 refine zwv (.string s) ?_
 refine zwu (run_len (s := s)) ?_
 refine zwu (v := iN .u64 s.size) (run_conv .u64 Tryz.underlying3 Tryz.underlying34 (by simp only [top]; omega)) ?_
 refine zwu (run_mul (k := .u64) (a := s.size) (b := 8) (by simp only [top]; omega)) ?_
 refine zwv (iN .u64 (s.size * 8)) ?_
 refine znt ?_
 refine zsr ?_
 refine zwv (.string s) ?_
 refine zwu (run_cat (s := s) (t := { data := #[128] }) (by show s.size + 1 ≤ _; omega)) ?_
 refine zwv (.string (s ++ ({ data := #[128] } : ByteArray))) ?_
 refine znt ?_
 refine wp_seq ?_
 refine wp_block ?_
 refine wp_while (fun mq A w' => ∃ (ta : ByteArray) (ja : Nat) (u1 : Nat → Value), mq = gapP KL s.size - ja ∧ A = ⟨(.string ta :: iN .i64 128 :: iN .i64 16 :: un :: un :: un :: .string { data := #[] } :: iN .u64 (s.size * 8) :: un :: .string s :: iN .i64 s.size :: iN .u64 s.size :: iN .u64 (s.size * 8) :: .string s :: .string (s ++ ({ data := #[128] } : ByteArray)) :: u1 15 :: u1 16 :: u1 17 :: u1 18 :: u1 19 :: u1 20 :: u1 21 :: u1 22 :: u1 23 :: u1 24 :: List.replicate 20 un).toArray, []⟩ ∧ HA w [] w' ∧ ja ≤ gapP KL s.size ∧ bl ta = bl s ++ (128 :: List.replicate ja 0)) (gapP KL s.size - 0) ?_ ?_
 ·exact ⟨s ++ ({ data := #[128] } : ByteArray), 0, lku (fun _ => undef) [], rfl, by kernel_rfl, H0, (Nat.zero_le _), (bl_app _ _)⟩
 rintro _ _ w2 ⟨ta, ja, u1, rfl, rfl, h3, hjla, hba⟩
 refine wp_seq ?_
 refine wp_seq ?_
 by_cases hja : ja < gapP KL s.size
 · -- region 3
  refine wl_region ?_
  refine zwv (.string ta) ?_
  refine zwu (run_len (s := ta)) ?_
  refine zwv (iN .i64 128) ?_
  refine zwu (run_rem (k := .i64) (a := ta.size) (b := 128) (by omega)) ?_
  refine zwv (iN .i64 128) ?_
  refine zwv (iN .i64 16) ?_
  refine zwu (run_sub (k := .i64) (a := 128) (b := 16) (by decide) (by decide)) ?_
  refine zwu (v := .bool true) (run_nei (k := .i64) (a := ta.size % 128) (b := 112) true (decide_eq_true (by rw [size_of_bl hba, List.length_append, List.length_cons, List.length_replicate, bl_len, Nat.add_comm ja 1]; exact gp_noL s.size ja hja))) ?_
  refine znt ?_
  refine zct ?_
  refine wp_skip ?_
  refine then_at rfl ?_
  refine wp_block ?_
  refine wl_region ?_
  refine zwv (.string ta) ?_
  refine zwu (run_cat (s := ta) (t := { data := #[0] }) (by have hg := gp_leL s.size; have hz := size_of_bl hba; simp only [List.length_append, List.length_cons, List.length_replicate, bl_len] at hz; show ta.size + 1 ≤ _; omega)) ?_
  refine zwv (.string (ta ++ ({ data := #[0] } : ByteArray))) ?_
  refine wl_nil ?_
  refine block_normal ?_
  exact then_I ⟨gapP KL s.size - (ja + 1), (by omega), ta ++ ({ data := #[0] } : ByteArray), ja + 1, lku (fun _ => undef) [(15, .string ta), (16, iN .i64 ta.size), (17, iN .i64 128), (18, iN .i64 (ta.size % 128)), (19, iN .i64 128), (20, iN .i64 16), (21, iN .i64 112), (22, .bool true), (23, .string ta), (24, .string (ta ++ ({ data := #[0] } : ByteArray)))], rfl, by kernel_rfl, h3, hja, (by rw [bl_app, hba, List.replicate_succ', ← List.cons_append, ← List.append_assoc]; rfl)⟩
 · -- region 3
  refine wl_region ?_
  refine zwv (.string ta) ?_
  refine zwu (run_len (s := ta)) ?_
  refine zwv (iN .i64 128) ?_
  refine zwu (run_rem (k := .i64) (a := ta.size) (b := 128) (by omega)) ?_
  refine zwv (iN .i64 128) ?_
  refine zwv (iN .i64 16) ?_
  refine zwu (run_sub (k := .i64) (a := 128) (b := 16) (by decide) (by decide)) ?_
  refine zwu (v := .bool false) (run_nei (k := .i64) (a := ta.size % 128) (b := 112) false (decide_eq_false (fun h => h (by rw [size_of_bl hba, List.length_append, List.length_cons, List.length_replicate, bl_len, Nat.add_comm _ 1, show ja = gapP KL s.size by omega]; exact gp_yesL s.size)))) ?_
  refine znt ?_
  refine zcf ?_
  refine wp_exit ?_
  repeat first | refine then_exit ?_ | refine block_exit ?_ | refine block_exit_ne (by decide) ?_
  refine then_at rfl ?_
  refine wp_seq ?_
  refine zsr ?_
  refine zwv (iN .i64 16) ?_
  refine zwu (run_sub (k := .i64) (a := 16) (b := 1) (by decide) (by decide)) ?_
  refine zwv (iN .i64 15) ?_
  refine znt ?_
  refine wp_block ?_
  refine wp_while (fun mq A w' => ∃ (t : ByteArray) (j : Nat) (u4 : Nat → Value), mq = j + 1 ∧ A = ⟨(.string t :: iN .i64 128 :: iN .i64 16 :: un :: un :: un :: .string { data := #[] } :: iN .u64 (s.size * 8) :: dnv j :: .string s :: iN .i64 s.size :: iN .u64 s.size :: iN .u64 (s.size * 8) :: .string s :: .string (s ++ ({ data := #[128] } : ByteArray)) :: .string ta :: iN .i64 ta.size :: iN .i64 128 :: iN .i64 (ta.size % 128) :: iN .i64 128 :: iN .i64 16 :: iN .i64 112 :: .bool false :: u1 23 :: u1 24 :: iN .i64 16 :: iN .i64 15 :: u4 27 :: u4 28 :: u4 29 :: u4 30 :: u4 31 :: u4 32 :: u4 33 :: u4 34 :: u4 35 :: u4 36 :: u4 37 :: u4 38 :: u4 39 :: u4 40 :: u4 41 :: u4 42 :: u4 43 :: List.replicate 1 un).toArray, []⟩ ∧ HA w [] w' ∧ j ≤ 16 ∧ bl t = bl s ++ (128 :: List.replicate (gapP KL s.size) 0) ++ beP 16 (8 * s.size) (16 - j)) (16 + 1) ?_ ?_
  ·exact ⟨ta, 16, lku (fun _ => undef) [], rfl, by kernel_rfl, h3, (Nat.le_refl _), (by rw [hba, show ja = gapP KL s.size by omega]; exact (List.append_nil _).symm)⟩
  rintro _ _ w5 ⟨t, j, u4, rfl, rfl, h6, hjl, hb⟩
  refine wp_seq ?_
  refine wp_seq ?_
  rcases j with _ | j
  · -- region 6
   refine wl_region ?_
   refine zwv (dnv 0) ?_
   refine zwu (run_geq0 (k := .i64) (a := -1) (b := 0) false (by decide)) ?_
   refine znt ?_
   refine zcf ?_
   refine wp_exit ?_
   repeat first | refine then_exit ?_ | refine block_exit ?_ | refine block_exit_ne (by decide) ?_
   refine then_at rfl ?_
   refine zsr ?_
   refine zwv (.string t) ?_
   refine zwv (.string t) ?_
   refine znt ?_
   refine wp_ret ?_
   repeat first | refine then_ret ?_ | refine block_ret ?_
   exact bodyPost_ret (v := .string t) (by kernel_rfl) rfl ⟨⟨t, rfl, by rw [hb]; exact List.append_assoc _ _ _⟩, h6.old⟩
  ·by_cases h8 : 8 ≤ j
   · -- region 6
    refine wl_region ?_
    refine zwv (iN .i64 j) ?_
    refine zwu (run_geq0 (k := .i64) (a := ((j : Nat) : Int)) (b := 0) true (decide_eq_true (by omega))) ?_
    refine znt ?_
    refine zct ?_
    refine wp_skip ?_
    refine then_at rfl ?_
    refine wp_seq ?_
    refine wp_block ?_
    refine zsr ?_
    refine zwv (iN .i64 j) ?_
    refine zwu (run_geq0 (k := .i64) (a := ((j : Nat) : Int)) (b := 8) true (decide_eq_true (by omega))) ?_
    refine znt ?_
    refine zct ?_
    refine wl_region ?_
    refine zwv (.string t) ?_
    refine zwu (run_cat (s := t) (t := { data := #[0] }) (by have hg := gp_leL s.size; have hz := size_of_bl hb; simp only [List.length_append, List.length_cons, List.length_replicate, bl_len, beP_len] at hz; show t.size + 1 ≤ _; omega)) ?_
    refine zwv (.string (t ++ ({ data := #[0] } : ByteArray))) ?_
    refine wl_nil ?_
    refine block_normal ?_
    refine then_at rfl ?_
    refine wl_region ?_
    refine zwv (iN .i64 j) ?_
    refine zwu (run_dec (j := j) (by omega) (by kernel_rfl) (by kernel_rfl)) ?_
    refine zwv (dnv j) ?_
    refine wl_nil ?_
    exact then_I ⟨j + 1, (by omega), t ++ ({ data := #[0] } : ByteArray), j, lku u4 [(27, iN .i64 j), (28, .bool true), (29, iN .i64 j), (30, dnv j), (31, iN .i64 j), (32, .bool true), (33, .string t), (34, .string (t ++ ({ data := #[0] } : ByteArray)))], rfl, by kernel_rfl, h6, (by omega), (by rw [bl_app, hb, be_nextL s.size j (by omega), far_zero s.size j (by omega) h8, ← List.append_assoc]; rfl)⟩
   · -- region 6
    refine wl_region ?_
    refine zwv (iN .i64 j) ?_
    refine zwu (run_geq0 (k := .i64) (a := ((j : Nat) : Int)) (b := 0) true (decide_eq_true (by omega))) ?_
    refine znt ?_
    refine zct ?_
    refine wp_skip ?_
    refine then_at rfl ?_
    refine wp_seq ?_
    refine wp_block ?_
    refine zsr ?_
    refine zwv (iN .i64 j) ?_
    refine zwu (run_geq0 (k := .i64) (a := ((j : Nat) : Int)) (b := 8) false (decide_eq_false (by omega))) ?_
    refine znt ?_
    refine zcf ?_
    refine wl_region ?_
    refine zwv (.string t) ?_
    refine zwv (iN .u64 (s.size * 8)) ?_
    refine zwv (iN .i64 j) ?_
    refine zwu (run_mul (k := .i64) (a := 8) (b := j) (by simp only [top]; omega)) ?_
    refine zwu (run_shrn (k2 := .i64) (a := s.size * 8) (b := 8 * j) (by omega) (by kernel_rfl) (by kernel_rfl)) ?_
    refine zwu (run_lown (a := (s.size * 8) / 2 ^ (8 * j)) (by kernel_rfl) Tryz.underlying34 Tryz.underlying5) ?_
    refine wl_mks (n := 1) (m := 1) h6 5 (run_build1 (u := UInt8.ofNat ((s.size * 8) / 2 ^ (8 * j))) (by kernel_rfl)) ?_
    intro q7 w8 h9
    refine zwu (run_text (q := q7) (m := 1) (c := 1) (l := [UInt8.ofNat ((s.size * 8) / 2 ^ (8 * j))]) (by kernel_rfl) (h9.get 0 rfl) (Nat.le_refl 1)) ?_
    refine zwu (run_cat (s := t) (t := (⟨#[UInt8.ofNat (s.size * 8 / 2 ^ (8 * j))]⟩ : ByteArray)) (by have hg := gp_leL s.size; have hz := size_of_bl hb; simp only [List.length_append, List.length_cons, List.length_replicate, bl_len, beP_len] at hz; show t.size + 1 ≤ _; omega)) ?_
    refine zwv (.string (t ++ (⟨#[UInt8.ofNat (s.size * 8 / 2 ^ (8 * j))]⟩ : ByteArray))) ?_
    refine wl_nil ?_
    refine block_normal ?_
    refine then_at rfl ?_
    have h10 : HA w [] w8 := h9.tl
    refine wl_region ?_
    refine zwv (iN .i64 j) ?_
    refine zwu (run_dec (j := j) (by omega) (by kernel_rfl) (by kernel_rfl)) ?_
    refine zwv (dnv j) ?_
    refine wl_nil ?_
    exact then_I ⟨j + 1, (by omega), t ++ (⟨#[UInt8.ofNat (s.size * 8 / 2 ^ (8 * j))]⟩ : ByteArray), j, lku u4 [(27, iN .i64 j), (28, .bool true), (29, iN .i64 j), (30, dnv j), (31, iN .i64 j), (32, .bool false), (35, .string t), (36, iN .u64 (s.size * 8)), (37, iN .i64 j), (38, iN .i64 (8 * j)), (39, iN .u64 ((s.size * 8) / 2 ^ (8 * j))), (40, by8 (UInt8.ofNat ((s.size * 8) / 2 ^ (8 * j)))), (41, .slice (some ⟨q7, 0, none⟩) 1 1), (42, .string (⟨#[UInt8.ofNat (s.size * 8 / 2 ^ (8 * j))]⟩)), (43, .string (t ++ (⟨#[UInt8.ofNat (s.size * 8 / 2 ^ (8 * j))]⟩ : ByteArray)))], rfl, by kernel_rfl, h10, (by omega), (by rw [bl_app, hb, be_nextL s.size j (by omega), ← List.append_assoc, Nat.mul_comm s.size 8]; rfl)⟩
end Go.Proofs.YtefjnfeckenmkaaGreatDoor.Hh

namespace Go.Proofs.YtefjnfeckenmkaaGreatDoor.Hh
open Go.RowKit
theorem getD_app {α : Type} (l m : List α) (i : Nat) (d : α) (h : i < l.length) : (l ++ m).getD i d = l.getD i d := by
 rw [List.getD_eq_getElem?_getD, List.getElem?_append_left h, ← List.getD_eq_getElem?_getD]
theorem rnds_same (K : Kd) (l m : List (BitVec K.w)) (v : V8 K.w) : ∀ i, i ≤ l.length → rndsP K (l ++ m) v i = rndsP K l v i
 | 0, _ => rfl
 | i + 1, h => by rw [rndsP, rndsP, rnds_same K l m v i (by omega), getD_app l m i 0 (by omega)]
def blkP (B : Nat) (F : List UInt8) (n : Nat) : List UInt8 := (F.drop (B * n)).take B
theorem blkP_len (B : Nat) (F : List UInt8) (n N : Nat) (hF : F.length = B * N) (hn : n < N) : (blkP B F n).length = B := by
 unfold blkP
 rw [List.length_take, List.length_drop, hF, Nat.min_def]
 have : B * n + B ≤ B * N := by rw [← Nat.mul_succ]; exact Nat.mul_le_mul_left _ hn
 split <;> omega
theorem blkP_get (B : Nat) (F : List UInt8) (n i : Nat) (hi : i < B) : (blkP B F n).getD i 0 = F.getD (B * n + i) 0 := by
 unfold blkP
 rw [List.getD_eq_getElem?_getD, List.getD_eq_getElem?_getD, List.getElem?_take_of_lt hi, List.getElem?_drop]
def rsP (K : Kd) (F : List UInt8) : Nat → List (BitVec K.w)
 | 0 => begP K.w
 | n + 1 => turnP K (rsP K F n) (blkP K.B F n)
theorem rsP_len (K : Kd) (F : List UInt8) : ∀ n, (rsP K F n).length = 8
 | 0 => begP_len _
 | n + 1 => by rw [rsP, turnP_len, rsP_len K F n]
theorem fed_rs (K : Kd) (hB : 0 < K.B) (F : List UInt8) (N : Nat) (hF : F.length = K.B * N) : ∀ n, n ≤ N → fedP K (begP K.w, []) (F.take (K.B * n)) = (rsP K F n, [])
 | 0, _ => by rw [Nat.mul_zero, List.take_zero]; rfl
 | n + 1, h => by
  have hl := blkP_len K.B F n N hF (by omega)
  have e : F.take (K.B * (n + 1)) = F.take (K.B * n) ++ blkP K.B F n := by rw [Nat.mul_succ, List.take_add]; rfl
  have h4 : blkP K.B F n ≠ [] := fun e => by rw [e, List.length_nil] at hl; omega
  have h3 : (rsP K F n, ([] : List UInt8)).2.length + (blkP K.B F n).length = K.B := by rw [hl, List.length_nil, Nat.zero_add]
  rw [e, fedP_app, fed_rs K hB F N hF n (by omega), fedP_full K _ _ h4 h3]
  rfl
theorem dig_rs (K : Kd) (hB : 0 < K.B) (l F : List UInt8) (N : Nat) (hl : F = l ++ fillP K l.length) (hF : F.length = K.B * N) : outP (rsP K F N) 8 = digP K l := by
 have h := fed_rs K hB F N hF N (Nat.le_refl _)
 rw [List.take_of_length_le (by rw [hF]; exact Nat.le_refl _)] at h
 unfold digP
 rw [← hl, h]
theorem l8_v8 {w : Nat} (l : List (BitVec w)) (h : l.length = 8) : l8 (v8 l) = l := by
 match l, h with
 | [_, _, _, _, _, _, _, _], _ => rfl
theorem fillP_len (K : Kd) (z : Nat) : (fillP K z).length = 1 + gapP K z + K.Ln := by unfold fillP; rw [List.length_append, List.length_cons, List.length_replicate, beP_len]; omega
section
variable {ops : Array Oper} {Q : Exit → Act → World → Prop} {a : Act} {w w0 : World} {L : List (Nat × TypeId × Array Value)} {rest : List Oper} {dst : Option Tmp} {ty : TypeId} {pos : String} {aft : Array Edge} {gd : Option (Nat × Bool)}
theorem wl_callt {f : FuncId} {xs : Array Operand} {ats : Array TypeId} {Pt : ByteArray → Prop} (H : HA w0 L w) (hw : Region.wanted ⟨dst, .call { callee := .value (.func f), args := xs, argTypes := ats }, ty, pos, aft, gd⟩ (yielded ops a.tmps) = true)
  (hr : ∀ args w, (callFunc f args).run Tryz.prog w = .ok (.enter f args) w) (args : Array Value) (ha : #[] ++ xs.map a.eval ++ #[] = args) (hc : Calls Tryz.prog f args w fun e w' => (∃ t, e = .returned (.string t) ∧ Pt t) ∧ Below w.heap.size w w')
  (h : ∀ t w', Pt t → HA w0 L w' → WL Tryz.prog ops Q rest (a.put dst (.string t)) w') : WL Tryz.prog ops Q (⟨dst, .call { callee := .value (.func f), args := xs, argTypes := ats }, ty, pos, aft, gd⟩ :: rest) a w := by
 refine ⟨?_⟩
 unfold wpList
 rw [if_pos hw]
 refine .inl ?_
 unfold Oper.wp
 rw [execOp_call_go, ha, hr]
 refine hc.mono ?_
 rintro e w' ⟨⟨t, rfl, ht⟩, hb⟩
 exact (h t w' ht (H.keep _ _ hb)).out
end
def rqL (st : List (BitVec 64)) (blk : List UInt8) (i : Nat) : V8 64 := rndsP KL (schP KL blk 64) (v8 st) i
def sqL (st : List (BitVec 64)) (blk : List UInt8) (i : Nat) : List (BitVec 64) := sumL st (l8 (rqL st blk 80)) i
theorem sq_endL (st : List (BitVec 64)) (blk : List UInt8) : sqL st blk 8 = turnP KL st blk := by
 unfold sqL turnP rqL sprP
 rw [← rnds_same KL (schP KL blk 64) (List.replicate (80 - 80) 0) (v8 st) 80 (by rw [schP_len]; exact Nat.le_refl _)]
 rfl
theorem sq_lenL (st : List (BitVec 64)) (hst : st.length = 8) (blk : List UInt8) (i : Nat) : (sqL st blk i).length = 8 := by unfold sqL; rw [sumL_len]; exact hst
theorem sq_putL (st : List (BitVec 64)) (blk : List UInt8) (i : Nat) : (wc .u64 (sqL st blk i)).setIfInBounds i (.int .u64 (((sqL st blk i).getD i 0 + (l8 (rqL st blk 80)).getD i 0).toNat : Int)) = wc .u64 (sqL st blk (i + 1)) := wc_put .u64 (sqL st blk i) i _
theorem l8q_lenL (v : V8 64) : (l8 v).length = 8 := rfl
theorem blocksL (s t : ByteArray) (h : bl t = bl s ++ fillP KL s.size) : t.size = 128 * (t.size / 128) := by
 have e := size_of_bl h
 rw [List.length_append, bl_len, fillP_len] at e
 have h2 := gp_yesL s.size
 have h3 : KL.Ln = 16 := rfl
 rw [h3] at e
 omega
theorem schr_lenL (blk : List UInt8) (i : Nat) (hi : i ≤ 64) : (schP KL blk i ++ List.replicate (64 - i) 0).length = 80 := by rw [pad_len, schP_len]; omega
theorem inr_lenL (blk : List UInt8) (i j : Nat) (hi : i < 16) : ((firstP 64 8 blk i ++ [segP 64 blk (i * 8) j]) ++ List.replicate (80 - (i + 1)) 0).length = 80 := by rw [pad_len, List.length_append, firstP_len]; simp; omega
theorem inr_startL (blk : List UInt8) (i : Nat) (hi : i < 16) : firstP 64 8 blk i ++ List.replicate (80 - i) 0 = (firstP 64 8 blk i ++ [segP 64 blk (i * 8) 0]) ++ List.replicate (80 - (i + 1)) 0 := by
 rw [show 80 - i = (80 - (i + 1)) + 1 by omega, List.replicate_succ, List.append_assoc]
 rfl
theorem sch_endL (blk : List UInt8) : schP KL blk 64 ++ List.replicate (64 - 64) 0 = schP KL blk 64 := List.append_nil _
theorem schq_lenL (blk : List UInt8) : (schP KL blk 64).length = 80 := by rw [schP_len]
end Go.Proofs.YtefjnfeckenmkaaGreatDoor.Hh

namespace Go.Proofs.YtefjnfeckenmkaaGreatDoor.Hh
open Go.RowKit
theorem outn (x : BitVec 64) (j : Nat) (hj : j < 8) : outW x (8 - (j + 1)) ++ [UInt8.ofNat (x >>> (8 * j)).toNat] = outW x (8 - j) := by
 rw [show 8 - j = (8 - (j + 1)) + 1 by omega, outW, show 64 - 8 * (8 - (j + 1) + 1) = 8 * j by omega]
end Go.Proofs.YtefjnfeckenmkaaGreatDoor.Hh
