/-
 The reference's Text.
-/
import Derived.Test.YtihfeoanognonaaT32
namespace Go.Proofs.Ytihfeoanognonaa
set_option linter.unusedVariables false
set_option maxRecDepth 100000
set_option maxHeartbeats 2000000
open Go.RowKit
def oneB (b : UInt8) : ByteArray := ⟨#[b]⟩
def tS1 (n : Nat) : ByteArray := hdS ++ oneB (UInt8.ofNat (n / 2 ^ 24))
def tS2 (n : Nat) : ByteArray := tS1 n ++ oneB (UInt8.ofNat (n / 2 ^ 16))
def tS3 (n : Nat) : ByteArray := tS2 n ++ oneB (UInt8.ofNat (n / 2 ^ 8))
def tS4 (n : Nat) : ByteArray := tS3 n ++ oneB (UInt8.ofNat (n / 2 ^ 0))
theorem oneB_size (b : UInt8) : (oneB b).size = 1 := rfl
theorem tS1_size (n : Nat) : (tS1 n).size = 5 := by unfold tS1; rw [ByteArray.size_append]; rfl
theorem tS2_size (n : Nat) : (tS2 n).size = 6 := by unfold tS2; rw [ByteArray.size_append, tS1_size]; rfl
theorem tS3_size (n : Nat) : (tS3 n).size = 7 := by unfold tS3; rw [ByteArray.size_append, tS2_size]; rfl
theorem bl_app (s t : ByteArray) : bl (s ++ t) = bl s ++ bl t := by simp [bl]
theorem tS4_txt (n : Nat) : tS4 n = txt n := by
 apply bl_inj
 show bl (tS4 n) = p4 hdS n
 unfold tS4 tS3 tS2 tS1 p4
 rw [bl_app, bl_app, bl_app, bl_app]
 rfl
theorem rput_any (n : Nat) (hn : n < 18446744073709551616) (w : World) :
  Calls Try.prog 30 #[.string hdS, iN .i64 4, iN .u64 n] w fun e w' => e = .returned (.string (txt n)) ∧ Below w.heap.size w w' := by
 have H0 := HA.start w
 go_enter Try.func30, Try.ntmps30
 refine zsr ?_
 refine zwv (.string ({ data := #[] })) ?_
 refine znt ?_
 refine wp_seq ?_
 refine zsr ?_
 refine zwv (iN .i64 4) ?_
 refine zwu (run_lss (k := .i64) (a := 4) (b := 1) false (by decide)) ?_
 refine znt ?_
 refine zcf ?_
 refine wp_skip ?_
 refine then_at rfl ?_
 refine wp_seq ?_
 refine zsr ?_
 refine zwv (iN .i64 4) ?_
 refine zwu (run_gtr (k := .i64) (a := 4) (b := 8) false (by decide)) ?_
 refine znt ?_
 refine zcf ?_
 refine wp_skip ?_
 refine then_at rfl ?_
 refine wp_seq ?_
 refine zsr ?_
 refine zwv (iN .i64 4) ?_
 refine zwv (iN .i64 3) ?_
 refine zwv (iN .i64 3) ?_
 refine znt ?_
 refine wp_block ?_
 refine wp_loop_rounds 5 ?_
 try rw [rounds_succ]
 refine wp_seq ?_
 refine zsr ?_
 refine zwv (iN .i64 3) ?_
 refine zwu (run_geq (k := .i64) (a := 3) (b := 0) true (by decide)) ?_
 refine znt ?_
 refine zct ?_
 refine wp_skip ?_
 refine then_at rfl ?_
 refine wp_seq ?_
 refine wp_block ?_
 refine wl_region ?_
 refine zwv (.string hdS) ?_
 refine zwv (iN .u64 n) ?_
 refine zwv (iN .i64 3) ?_
 refine zwv (iN .i64 24) ?_
 refine zwu (run_shrn (k2 := .i64) (a := n) (b := 24) hn) ?_
 refine zwu (run_lown (k := .u64) (a := n / 2 ^ 24) (by kernel_rfl) Try.underlying77 Try.underlying5) ?_
 refine wl_mks (n := 1) (m := 1) (c := bc [UInt8.ofNat (n / 2 ^ 24)]) H0 5 ?_
 intro q1 w2 (h3 : HA (bs w) [(q1, 5, bc [UInt8.ofNat (n / 2 ^ 24)])] w2)
 refine zwu (v := .string (oneB (UInt8.ofNat (n / 2 ^ 24)))) (run_text (q := q1) (m := 1) (c := 1) (l := [UInt8.ofNat (n / 2 ^ 24)]) (by kernel_rfl) (h3.get 0 rfl) (Nat.le_refl _)) ?_
 refine zwu (v := .string (tS1 n)) (run_cat (s := hdS) (t := oneB (UInt8.ofNat (n / 2 ^ 24))) (by rw [oneB_size]; decide)) ?_
 refine zwv (.string (tS1 n)) ?_
 refine wl_nil ?_
 refine block_normal ?_
 refine then_at rfl ?_
 refine wl_region ?_
 refine zwv (iN .i64 3) ?_
 refine zwv (iN .i64 2) ?_
 refine zwv (iN .i64 2) ?_
 refine wl_nil ?_
 refine zta ⟨(.string (tS1 n) :: iN .i64 4 :: iN .u64 n :: un :: un :: un :: .string ({ data := #[] }) :: iN .i64 2 :: iN .i64 4 :: .bool false :: iN .i64 4 :: .bool false :: iN .i64 4 :: iN .i64 3 :: iN .i64 3 :: .bool true :: iN .i64 3 :: iN .i64 2 :: .string hdS :: iN .u64 n :: iN .i64 3 :: iN .i64 24 :: iN .u64 (n / 2 ^ 24) :: by8 (UInt8.ofNat (n / 2 ^ 24)) :: .slice (some ⟨q1, 0, none⟩) 1 1 :: .string (oneB (UInt8.ofNat (n / 2 ^ 24))) :: .string (tS1 n) :: List.replicate 1 un).toArray, []⟩ ?_
 try rw [rounds_succ]
 refine wp_seq ?_
 refine zsr ?_
 refine zwv (iN .i64 2) ?_
 refine zwu (run_geq (k := .i64) (a := 2) (b := 0) true (by decide)) ?_
 refine znt ?_
 refine zct ?_
 refine wp_skip ?_
 refine then_at rfl ?_
 refine wp_seq ?_
 refine wp_block ?_
 refine wl_region ?_
 refine zwv (.string (tS1 n)) ?_
 refine zwv (iN .u64 n) ?_
 refine zwv (iN .i64 2) ?_
 refine zwv (iN .i64 16) ?_
 refine zwu (run_shrn (k2 := .i64) (a := n) (b := 16) hn) ?_
 refine zwu (run_lown (k := .u64) (a := n / 2 ^ 16) (by kernel_rfl) Try.underlying77 Try.underlying5) ?_
 refine wl_mks (n := 1) (m := 1) (c := bc [UInt8.ofNat (n / 2 ^ 16)]) h3 5 ?_
 intro q4 w5 (h6 : HA (bs w) [(q4, 5, bc [UInt8.ofNat (n / 2 ^ 16)]), (q1, 5, bc [UInt8.ofNat (n / 2 ^ 24)])] w5)
 refine zwu (v := .string (oneB (UInt8.ofNat (n / 2 ^ 16)))) (run_text (q := q4) (m := 1) (c := 1) (l := [UInt8.ofNat (n / 2 ^ 16)]) (by kernel_rfl) (h6.get 0 rfl) (Nat.le_refl _)) ?_
 refine zwu (v := .string (tS2 n)) (run_cat (s := tS1 n) (t := oneB (UInt8.ofNat (n / 2 ^ 16))) (by rw [tS1_size, oneB_size]; decide)) ?_
 refine zwv (.string (tS2 n)) ?_
 refine wl_nil ?_
 refine block_normal ?_
 refine then_at rfl ?_
 refine wl_region ?_
 refine zwv (iN .i64 2) ?_
 refine zwv (iN .i64 1) ?_
 refine zwv (iN .i64 1) ?_
 refine wl_nil ?_
 refine zta ⟨(.string (tS2 n) :: iN .i64 4 :: iN .u64 n :: un :: un :: un :: .string ({ data := #[] }) :: iN .i64 1 :: iN .i64 4 :: .bool false :: iN .i64 4 :: .bool false :: iN .i64 4 :: iN .i64 3 :: iN .i64 2 :: .bool true :: iN .i64 2 :: iN .i64 1 :: .string (tS1 n) :: iN .u64 n :: iN .i64 2 :: iN .i64 16 :: iN .u64 (n / 2 ^ 16) :: by8 (UInt8.ofNat (n / 2 ^ 16)) :: .slice (some ⟨q4, 0, none⟩) 1 1 :: .string (oneB (UInt8.ofNat (n / 2 ^ 16))) :: .string (tS2 n) :: List.replicate 1 un).toArray, []⟩ ?_
 try rw [rounds_succ]
 refine wp_seq ?_
 refine zsr ?_
 refine zwv (iN .i64 1) ?_
 refine zwu (run_geq (k := .i64) (a := 1) (b := 0) true (by decide)) ?_
 refine znt ?_
 refine zct ?_
 refine wp_skip ?_
 refine then_at rfl ?_
 refine wp_seq ?_
 refine wp_block ?_
 refine wl_region ?_
 refine zwv (.string (tS2 n)) ?_
 refine zwv (iN .u64 n) ?_
 refine zwv (iN .i64 1) ?_
 refine zwv (iN .i64 8) ?_
 refine zwu (run_shrn (k2 := .i64) (a := n) (b := 8) hn) ?_
 refine zwu (run_lown (k := .u64) (a := n / 2 ^ 8) (by kernel_rfl) Try.underlying77 Try.underlying5) ?_
 refine wl_mks (n := 1) (m := 1) (c := bc [UInt8.ofNat (n / 2 ^ 8)]) h6 5 ?_
 intro q7 w8 (h9 : HA (bs w) [(q7, 5, bc [UInt8.ofNat (n / 2 ^ 8)]), (q4, 5, bc [UInt8.ofNat (n / 2 ^ 16)]), (q1, 5, bc [UInt8.ofNat (n / 2 ^ 24)])] w8)
 refine zwu (v := .string (oneB (UInt8.ofNat (n / 2 ^ 8)))) (run_text (q := q7) (m := 1) (c := 1) (l := [UInt8.ofNat (n / 2 ^ 8)]) (by kernel_rfl) (h9.get 0 rfl) (Nat.le_refl _)) ?_
 refine zwu (v := .string (tS3 n)) (run_cat (s := tS2 n) (t := oneB (UInt8.ofNat (n / 2 ^ 8))) (by rw [tS2_size, oneB_size]; decide)) ?_
 refine zwv (.string (tS3 n)) ?_
 refine wl_nil ?_
 refine block_normal ?_
 refine then_at rfl ?_
 refine wl_region ?_
 refine zwv (iN .i64 1) ?_
 refine zwv (iN .i64 0) ?_
 refine zwv (iN .i64 0) ?_
 refine wl_nil ?_
 refine zta ⟨(.string (tS3 n) :: iN .i64 4 :: iN .u64 n :: un :: un :: un :: .string ({ data := #[] }) :: iN .i64 0 :: iN .i64 4 :: .bool false :: iN .i64 4 :: .bool false :: iN .i64 4 :: iN .i64 3 :: iN .i64 1 :: .bool true :: iN .i64 1 :: iN .i64 0 :: .string (tS2 n) :: iN .u64 n :: iN .i64 1 :: iN .i64 8 :: iN .u64 (n / 2 ^ 8) :: by8 (UInt8.ofNat (n / 2 ^ 8)) :: .slice (some ⟨q7, 0, none⟩) 1 1 :: .string (oneB (UInt8.ofNat (n / 2 ^ 8))) :: .string (tS3 n) :: List.replicate 1 un).toArray, []⟩ ?_
 try rw [rounds_succ]
 refine wp_seq ?_
 refine zsr ?_
 refine zwv (iN .i64 0) ?_
 refine zwu (run_geq (k := .i64) (a := 0) (b := 0) true (by decide)) ?_
 refine znt ?_
 refine zct ?_
 refine wp_skip ?_
 refine then_at rfl ?_
 refine wp_seq ?_
 refine wp_block ?_
 refine wl_region ?_
 refine zwv (.string (tS3 n)) ?_
 refine zwv (iN .u64 n) ?_
 refine zwv (iN .i64 0) ?_
 refine zwv (iN .i64 0) ?_
 refine zwu (run_shrn (k2 := .i64) (a := n) (b := 0) hn) ?_
 refine zwu (run_lown (k := .u64) (a := n / 2 ^ 0) (by kernel_rfl) Try.underlying77 Try.underlying5) ?_
 refine wl_mks (n := 1) (m := 1) (c := bc [UInt8.ofNat (n / 2 ^ 0)]) h9 5 ?_
 intro q10 w11 (h12 : HA (bs w) [(q10, 5, bc [UInt8.ofNat (n / 2 ^ 0)]), (q7, 5, bc [UInt8.ofNat (n / 2 ^ 8)]), (q4, 5, bc [UInt8.ofNat (n / 2 ^ 16)]), (q1, 5, bc [UInt8.ofNat (n / 2 ^ 24)])] w11)
 refine zwu (v := .string (oneB (UInt8.ofNat (n / 2 ^ 0)))) (run_text (q := q10) (m := 1) (c := 1) (l := [UInt8.ofNat (n / 2 ^ 0)]) (by kernel_rfl) (h12.get 0 rfl) (Nat.le_refl _)) ?_
 refine zwu (v := .string (tS4 n)) (run_cat (s := tS3 n) (t := oneB (UInt8.ofNat (n / 2 ^ 0))) (by rw [tS3_size, oneB_size]; decide)) ?_
 refine zwv (.string (tS4 n)) ?_
 refine wl_nil ?_
 refine block_normal ?_
 refine then_at rfl ?_
 refine wl_region ?_
 refine zwv (iN .i64 0) ?_
 refine zwv (.int .i64 (-1)) ?_
 refine zwv (.int .i64 (-1)) ?_
 refine wl_nil ?_
 refine zta ⟨(.string (tS4 n) :: iN .i64 4 :: iN .u64 n :: un :: un :: un :: .string ({ data := #[] }) :: .int .i64 (-1) :: iN .i64 4 :: .bool false :: iN .i64 4 :: .bool false :: iN .i64 4 :: iN .i64 3 :: iN .i64 0 :: .bool true :: iN .i64 0 :: .int .i64 (-1) :: .string (tS3 n) :: iN .u64 n :: iN .i64 0 :: iN .i64 0 :: iN .u64 (n / 2 ^ 0) :: by8 (UInt8.ofNat (n / 2 ^ 0)) :: .slice (some ⟨q10, 0, none⟩) 1 1 :: .string (oneB (UInt8.ofNat (n / 2 ^ 0))) :: .string (tS4 n) :: List.replicate 1 un).toArray, []⟩ ?_
 try rw [rounds_succ]
 refine wp_seq ?_
 refine zsr ?_
 refine zwv (.int .i64 (-1)) ?_
 refine zwv (.bool false) ?_
 refine znt ?_
 refine zcf ?_
 refine wp_exit ?_
 repeat first | refine then_exit ?_ | refine block_exit ?_ | refine block_exit_ne (by decide) ?_
 refine then_at rfl ?_
 refine zsr ?_
 refine zwv (.string (tS4 n)) ?_
 refine zwv (.string (tS4 n)) ?_
 refine znt ?_
 refine wp_ret ?_
 repeat first | refine then_ret ?_ | refine block_ret ?_
 exact bodyPost_ret (v := .string (tS4 n)) (by kernel_rfl) rfl ⟨by rw [tS4_txt], h12.old.old⟩
theorem rtext_any (n : Nat) (hn : n < 9223372036854775808) (w : World) :
  Calls Try.prog 10 #[iN .i64 n] w fun e w' => e = .returned (.string (txt n)) ∧ Below w.heap.size w w' := by
 have H0 := HA.start w
 go_enter Try.func10, Try.ntmps10
 refine zsr ?_
 refine zwv (.string ({ data := #[] })) ?_
 refine znt ?_
 refine zsr ?_
 refine zwv (iN .i64 n) ?_
 refine zwu (v := iN .u64 n) (run_conv .u64 Try.underlying3 Try.underlying77 (by simp only [top]; omega)) ?_
 refine zwc H0 enter30 (rput_any n (by omega) w) ?_
 intro w1 h2
 refine zwv (.string (txt n)) ?_
 refine znt ?_
 refine wp_ret ?_
 repeat first | refine then_ret ?_ | refine block_ret ?_
 exact bodyPost_ret (by kernel_rfl) rfl ⟨rfl, h2.old.old⟩
end Go.Proofs.Ytihfeoanognonaa

namespace Go.Proofs.Ytihfeoanognonaa
set_option linter.unusedVariables false
set_option maxRecDepth 100000
set_option maxHeartbeats 2000000
open Go.RowKit
theorem or_i64 (a b : Nat) (ha : a < 9223372036854775808) (hb : b < 9223372036854775808) : bits .or .i64 (a : Int) (b : Int) = ((a ||| b : Nat) : Int) := by
 have hx : a ||| b < 2 ^ 63 := Nat.or_lt_two_pow (by omega) (by omega)
 have h1 : (BitVec.ofInt 64 (a : Int)).toNat = a := by
  rw [BitVec.ofInt_natCast, BitVec.toNat_ofNat]; exact Nat.mod_eq_of_lt (by omega)
 have h2 : (BitVec.ofInt 64 (b : Int)).toNat = b := by
  rw [BitVec.ofInt_natCast, BitVec.toNat_ofNat]; exact Nat.mod_eq_of_lt (by omega)
 show IntKind.i64.wrap ((BitVec.ofInt 64 (a : Int) ||| BitVec.ofInt 64 (b : Int)).toNat : Int) = _
 rw [BitVec.toNat_or, h1, h2, IntKind.wrap_i64]
 omega
section
variable {P : Program} {ρ : Operand → Value} {x y : Operand} {w : World} {dst : Option Tmp} {T T2 ty : TypeId} {pos : String} {aft : Array Edge} {gd : Option (Nat × Bool)} {a b : Nat}
theorem run_ori   (ha : a < 9223372036854775808) (hb : b < 9223372036854775808) (hx : ρ x = iN .i64 a := by kernel_rfl) (hy : ρ y = iN .i64 b := by kernel_rfl) : (execOp ρ ⟨dst, .binOp .or T x y T2, ty, pos, aft, gd⟩).run P w = .ok (.value (iN .i64 (a ||| b))) w := by
 have h := or_i64 a b ha hb
 simp only [execOp, hx, hy, iN]
 simpa [binOp, go_sem] using h
end
theorem four_or (a b c d : Nat) (hb : b < 256) (hc : c < 256) (hd : d < 256) : ((a * 2 ^ 24 ||| b * 2 ^ 16) ||| c * 2 ^ 8) ||| d = ((a * 256 + b) * 256 + c) * 256 + d := by
 have e1 := Nat.two_pow_add_eq_or_of_lt (i := 24) (b := b * 2 ^ 16) (by omega) a
 have e2 := Nat.two_pow_add_eq_or_of_lt (i := 16) (b := c * 2 ^ 8) (by omega) (a * 256 + b)
 have e3 := Nat.two_pow_add_eq_or_of_lt (i := 8) (b := d) (by omega) ((a * 256 + b) * 256 + c)
 rw [Nat.mul_comm a, ← e1, show 2 ^ 24 * a + b * 2 ^ 16 = 2 ^ 16 * (a * 256 + b) by omega, ← e2, show 2 ^ 16 * (a * 256 + b) + c * 2 ^ 8 = 2 ^ 8 * ((a * 256 + b) * 256 + c) by omega, ← e3]
 omega
theorem n4_bytes (s : ByteArray) (h : s.size = 8) : n4 s = ((((s.get 4 (by omega)).toNat * 2 ^ 24 ||| (s.get 5 (by omega)).toNat * 2 ^ 16) ||| (s.get 6 (by omega)).toNat * 2 ^ 8) ||| (s.get 7 (by omega)).toNat) := by
 rw [four_or _ _ _ _ (UInt8.toNat_lt _) (UInt8.toNat_lt _) (UInt8.toNat_lt _)]
 have hl : (s.extract 4 8).data.toList = [s.get 4 (by omega), s.get 5 (by omega), s.get 6 (by omega), s.get 7 (by omega)] := by
  refine List.ext_getElem (by simp [h]) (fun i h1 h2 => ?_)
  match i, h2 with
  | 0, _ => simp [ByteArray.get]
  | 1, _ => simp [ByteArray.get]
  | 2, _ => simp [ByteArray.get]
  | 3, _ => simp [ByteArray.get]
 unfold n4
 rw [hl]
 simp [val]
def numI (m : Nat) (s : ByteArray) : Int := match numT m s with | some x => x | none => -1
theorem lt63 {a : Nat} (h : a < 2 ^ 40) : a < 9223372036854775808 := by omega
theorem rnum_a {w : World} {ov : Option Addr} {m cv : Nat} (s : ByteArray) (hm : m ≤ 1000000) (h8 : ¬ s.size = 8) :
  Calls Try.prog 31 #[.agg #[.slice ov m cv], .string s] w fun e w' => e = .returned (.int .i64 (numI m s)) ∧ Below w.heap.size w w' := by
 have H0 := HA.start w
 go_enter Try.func31, Try.ntmps31
 refine zsr ?_
 refine wl_make (c := #[.slice ov m cv]) H0 26 ?_
 intro q1 w2 (h3 : HA (bs w) [(q1, 26, #[.slice ov m cv])] w2)
 refine zwv (iN .i64 0) ?_
 refine znt ?_
 refine wp_seq ?_
 refine zsr ?_
 refine zwv (.string s) ?_
 refine zwu (run_len (s := s)) ?_
 refine zwu (run_nei (k := .i64) (a := s.size) (b := 8) true (decide_eq_true h8)) ?_
 refine zwv (.bool true) ?_
 refine wl_skip ?_
 refine wl_skip ?_
 refine wl_skip ?_
 refine zwv (.bool true) ?_
 refine znt ?_
 refine zct ?_
 refine zsr ?_
 refine zwv (.int .i64 (-1)) ?_
 refine znt ?_
 refine wp_ret ?_
 repeat first | refine then_ret ?_ | refine block_ret ?_
 exact bodyPost_ret (v := .int .i64 (-1)) (by kernel_rfl) rfl ⟨by rw [numI, numT, if_neg h8], h3.old.old⟩
theorem rnum_b {w : World} {ov : Option Addr} {m cv : Nat} (s : ByteArray) (hm : m ≤ 1000000) (h8 : s.size = 8) (hs : ¬ s.extract 0 4 = hdS) :
  Calls Try.prog 31 #[.agg #[.slice ov m cv], .string s] w fun e w' => e = .returned (.int .i64 (numI m s)) ∧ Below w.heap.size w w' := by
 have H0 := HA.start w
 go_enter Try.func31, Try.ntmps31
 refine zsr ?_
 refine wl_make (c := #[.slice ov m cv]) H0 26 ?_
 intro q1 w2 (h3 : HA (bs w) [(q1, 26, #[.slice ov m cv])] w2)
 refine zwv (iN .i64 0) ?_
 refine znt ?_
 refine wp_seq ?_
 refine zsr ?_
 refine zwv (.string s) ?_
 refine zwu (run_len (s := s)) ?_
 refine zwu (run_nei (k := .i64) (a := s.size) (b := 8) false (decide_eq_false (fun x => x h8))) ?_
 refine zwv (.bool false) ?_
 refine zwv (.string s) ?_
 refine zwu (v := .string (s.extract 0 4)) (run_cut_hi (s := s) (b := 4) (by omega)) ?_
 refine zwu (run_nes (s := s.extract 0 4) (t := { data := #[240, 84, 82, 77] }) true (decide_eq_false hs)) ?_
 refine zwv (.bool true) ?_
 refine znt ?_
 refine zct ?_
 refine zsr ?_
 refine zwv (.int .i64 (-1)) ?_
 refine znt ?_
 refine wp_ret ?_
 repeat first | refine then_ret ?_ | refine block_ret ?_
 exact bodyPost_ret (v := .int .i64 (-1)) (by kernel_rfl) rfl ⟨by rw [numI, numT, if_pos h8, firstT, if_neg (fun h => hs h.2.1)], h3.old.old⟩
theorem rnum_c {w : World} {ov : Option Addr} {m cv : Nat} (s : ByteArray) (hm : m ≤ 1000000) (h8 : s.size = 8) (hs : s.extract 0 4 = hdS) (hg : m ≤ n4 s) :
  Calls Try.prog 31 #[.agg #[.slice ov m cv], .string s] w fun e w' => e = .returned (.int .i64 (numI m s)) ∧ Below w.heap.size w w' := by
 have H0 := HA.start w
 go_enter Try.func31, Try.ntmps31
 refine zsr ?_
 refine wl_make (c := #[.slice ov m cv]) H0 26 ?_
 intro q1 w2 (h3 : HA (bs w) [(q1, 26, #[.slice ov m cv])] w2)
 refine zwv (iN .i64 0) ?_
 refine znt ?_
 refine wp_seq ?_
 refine zsr ?_
 refine zwv (.string s) ?_
 refine zwu (run_len (s := s)) ?_
 refine zwu (run_nei (k := .i64) (a := s.size) (b := 8) false (decide_eq_false (fun x => x h8))) ?_
 refine zwv (.bool false) ?_
 refine zwv (.string s) ?_
 refine zwu (v := .string (s.extract 0 4)) (run_cut_hi (s := s) (b := 4) (by omega)) ?_
 refine zwu (run_nes (s := s.extract 0 4) (t := { data := #[240, 84, 82, 77] }) false (decide_eq_true hs)) ?_
 refine zwv (.bool false) ?_
 refine znt ?_
 refine zcf ?_
 refine wp_skip ?_
 refine then_at rfl ?_
 refine wp_seq ?_
 refine zrs ⟨(.agg #[.slice ov m cv] :: .string s :: pt q1 :: un :: iN .i64 0 :: iN .i64 ((((((s.get 4 (by omega)).toNat) * 2 ^ 24) ||| (((s.get 5 (by omega)).toNat) * 2 ^ 16)) ||| (((s.get 6 (by omega)).toNat) * 2 ^ 8)) ||| ((s.get 7 (by omega)).toNat)) :: .string s :: iN .i64 s.size :: .bool false :: .bool false :: .string s :: .string (s.extract 0 4) :: .bool false :: .bool false :: .string s :: iN .u8 ((s.get 4 (by omega)).toNat) :: iN .i64 ((s.get 4 (by omega)).toNat) :: iN .i64 (((s.get 4 (by omega)).toNat) * 2 ^ 24) :: .string s :: iN .u8 ((s.get 5 (by omega)).toNat) :: iN .i64 ((s.get 5 (by omega)).toNat) :: iN .i64 (((s.get 5 (by omega)).toNat) * 2 ^ 16) :: iN .i64 ((((s.get 4 (by omega)).toNat) * 2 ^ 24) ||| (((s.get 5 (by omega)).toNat) * 2 ^ 16)) :: .string s :: iN .u8 ((s.get 6 (by omega)).toNat) :: iN .i64 ((s.get 6 (by omega)).toNat) :: iN .i64 (((s.get 6 (by omega)).toNat) * 2 ^ 8) :: iN .i64 (((((s.get 4 (by omega)).toNat) * 2 ^ 24) ||| (((s.get 5 (by omega)).toNat) * 2 ^ 16)) ||| (((s.get 6 (by omega)).toNat) * 2 ^ 8)) :: .string s :: iN .u8 ((s.get 7 (by omega)).toNat) :: iN .i64 ((s.get 7 (by omega)).toNat) :: iN .i64 ((((((s.get 4 (by omega)).toNat) * 2 ^ 24) ||| (((s.get 5 (by omega)).toNat) * 2 ^ 16)) ||| (((s.get 6 (by omega)).toNat) * 2 ^ 8)) ||| ((s.get 7 (by omega)).toNat)) :: List.replicate 6 un).toArray, []⟩ (HA (bs w) [(q1, 26, #[.slice ov m cv])]) h3.drew ?_ ?_
 ·refine zsp (.string s) ?_
  refine zst (fun _ _ => (run_index_str (s := s) (a := 4) Try.underlying9 (by omega))) ?_
  refine zst (v := iN .i64 ((s.get 4 (by omega)).toNat)) (fun _ _ => (run_conv .i64 Try.underlying5 Try.underlying3 (by have := (s.get 4 (by omega)).toNat_lt; simp only [top]; omega))) ?_
  refine zst (fun _ _ => (run_shl (k := .i64) (k2 := .u64) (a := (s.get 4 (by omega)).toNat) (b := 24) (by have := (s.get 4 (by omega)).toNat_lt; simp only [top]; omega))) ?_
  refine zsp (.string s) ?_
  refine zst (fun _ _ => (run_index_str (s := s) (a := 5) Try.underlying9 (by omega))) ?_
  refine zst (v := iN .i64 ((s.get 5 (by omega)).toNat)) (fun _ _ => (run_conv .i64 Try.underlying5 Try.underlying3 (by have := (s.get 5 (by omega)).toNat_lt; simp only [top]; omega))) ?_
  refine zst (fun _ _ => (run_shl (k := .i64) (k2 := .u64) (a := (s.get 5 (by omega)).toNat) (b := 16) (by have := (s.get 5 (by omega)).toNat_lt; simp only [top]; omega))) ?_
  refine zst (fun _ _ => (run_ori (a := ((s.get 4 (by omega)).toNat) * 2 ^ 24) (b := ((s.get 5 (by omega)).toNat) * 2 ^ 16) (lt63 (by have := (s.get 4 (by omega)).toNat_lt; omega)) (lt63 (by have := (s.get 5 (by omega)).toNat_lt; omega)))) ?_
  refine zsp (.string s) ?_
  refine zst (fun _ _ => (run_index_str (s := s) (a := 6) Try.underlying9 (by omega))) ?_
  refine zst (v := iN .i64 ((s.get 6 (by omega)).toNat)) (fun _ _ => (run_conv .i64 Try.underlying5 Try.underlying3 (by have := (s.get 6 (by omega)).toNat_lt; simp only [top]; omega))) ?_
  refine zst (fun _ _ => (run_shl (k := .i64) (k2 := .u64) (a := (s.get 6 (by omega)).toNat) (b := 8) (by have := (s.get 6 (by omega)).toNat_lt; simp only [top]; omega))) ?_
  refine zst (fun _ _ => (run_ori (a := (((s.get 4 (by omega)).toNat) * 2 ^ 24) ||| (((s.get 5 (by omega)).toNat) * 2 ^ 16)) (b := ((s.get 6 (by omega)).toNat) * 2 ^ 8) (lt63 (by have := (s.get 4 (by omega)).toNat_lt; have := (s.get 5 (by omega)).toNat_lt; repeat (first | (refine Nat.or_lt_two_pow ?_ ?_) | omega))) (lt63 (by have := (s.get 6 (by omega)).toNat_lt; omega)))) ?_
  refine zsp (.string s) ?_
  refine zst (fun _ _ => (run_index_str (s := s) (a := 7) Try.underlying9 (by omega))) ?_
  refine zst (v := iN .i64 ((s.get 7 (by omega)).toNat)) (fun _ _ => (run_conv .i64 Try.underlying5 Try.underlying3 (by have := (s.get 7 (by omega)).toNat_lt; simp only [top]; omega))) ?_
  refine zst (fun _ _ => (run_ori (a := ((((s.get 4 (by omega)).toNat) * 2 ^ 24) ||| (((s.get 5 (by omega)).toNat) * 2 ^ 16)) ||| (((s.get 6 (by omega)).toNat) * 2 ^ 8)) (b := (s.get 7 (by omega)).toNat) (lt63 (by have := (s.get 4 (by omega)).toNat_lt; have := (s.get 5 (by omega)).toNat_lt; have := (s.get 6 (by omega)).toNat_lt; repeat (first | (refine Nat.or_lt_two_pow ?_ ?_) | omega))) (lt63 (by have := (s.get 7 (by omega)).toNat_lt; omega)))) ?_
  refine zsp (iN .i64 ((((((s.get 4 (by omega)).toNat) * 2 ^ 24) ||| (((s.get 5 (by omega)).toNat) * 2 ^ 16)) ||| (((s.get 6 (by omega)).toNat) * 2 ^ 8)) ||| ((s.get 7 (by omega)).toNat))) ?_
  exact AllSure.nil
 intro w4 h5
 refine then_at rfl ?_
 refine wp_seq ?_
 refine zsr ?_
 refine zwv (iN .i64 ((((((s.get 4 (by omega)).toNat) * 2 ^ 24) ||| (((s.get 5 (by omega)).toNat) * 2 ^ 16)) ||| (((s.get 6 (by omega)).toNat) * 2 ^ 8)) ||| ((s.get 7 (by omega)).toNat))) ?_
 refine zwv (.pointer (some ⟨q1, 0, none⟩)) ?_
 refine zwu (v := .slice ov m cv) (run_load1 Try.isAgg24 (((h5.get 0 rfl).cell 0).trans rfl)) ?_
 refine zwv (iN .i64 m) ?_
 refine zwu (run_geq (k := .i64) (a := (((((s.get 4 (by omega)).toNat) * 2 ^ 24) ||| (((s.get 5 (by omega)).toNat) * 2 ^ 16)) ||| (((s.get 6 (by omega)).toNat) * 2 ^ 8)) ||| ((s.get 7 (by omega)).toNat)) (b := m) true (decide_eq_true (by rw [← n4_bytes s h8]; omega))) ?_
 refine znt ?_
 refine zct ?_
 refine zsr ?_
 refine zwv (.int .i64 (-1)) ?_
 refine znt ?_
 refine wp_ret ?_
 repeat first | refine then_ret ?_ | refine block_ret ?_
 exact bodyPost_ret (v := .int .i64 (-1)) (by kernel_rfl) rfl ⟨by rw [numI, numT, if_pos h8, firstT, if_neg (fun h => by omega)], h5.old.old⟩
theorem rnum_d {w : World} {ov : Option Addr} {m cv : Nat} (s : ByteArray) (hm : m ≤ 1000000) (h8 : s.size = 8) (hs : s.extract 0 4 = hdS) (hg : n4 s < m) :
  Calls Try.prog 31 #[.agg #[.slice ov m cv], .string s] w fun e w' => e = .returned (.int .i64 (numI m s)) ∧ Below w.heap.size w w' := by
 have H0 := HA.start w
 go_enter Try.func31, Try.ntmps31
 refine zsr ?_
 refine wl_make (c := #[.slice ov m cv]) H0 26 ?_
 intro q1 w2 (h3 : HA (bs w) [(q1, 26, #[.slice ov m cv])] w2)
 refine zwv (iN .i64 0) ?_
 refine znt ?_
 refine wp_seq ?_
 refine zsr ?_
 refine zwv (.string s) ?_
 refine zwu (run_len (s := s)) ?_
 refine zwu (run_nei (k := .i64) (a := s.size) (b := 8) false (decide_eq_false (fun x => x h8))) ?_
 refine zwv (.bool false) ?_
 refine zwv (.string s) ?_
 refine zwu (v := .string (s.extract 0 4)) (run_cut_hi (s := s) (b := 4) (by omega)) ?_
 refine zwu (run_nes (s := s.extract 0 4) (t := { data := #[240, 84, 82, 77] }) false (decide_eq_true hs)) ?_
 refine zwv (.bool false) ?_
 refine znt ?_
 refine zcf ?_
 refine wp_skip ?_
 refine then_at rfl ?_
 refine wp_seq ?_
 refine zrs ⟨(.agg #[.slice ov m cv] :: .string s :: pt q1 :: un :: iN .i64 0 :: iN .i64 ((((((s.get 4 (by omega)).toNat) * 2 ^ 24) ||| (((s.get 5 (by omega)).toNat) * 2 ^ 16)) ||| (((s.get 6 (by omega)).toNat) * 2 ^ 8)) ||| ((s.get 7 (by omega)).toNat)) :: .string s :: iN .i64 s.size :: .bool false :: .bool false :: .string s :: .string (s.extract 0 4) :: .bool false :: .bool false :: .string s :: iN .u8 ((s.get 4 (by omega)).toNat) :: iN .i64 ((s.get 4 (by omega)).toNat) :: iN .i64 (((s.get 4 (by omega)).toNat) * 2 ^ 24) :: .string s :: iN .u8 ((s.get 5 (by omega)).toNat) :: iN .i64 ((s.get 5 (by omega)).toNat) :: iN .i64 (((s.get 5 (by omega)).toNat) * 2 ^ 16) :: iN .i64 ((((s.get 4 (by omega)).toNat) * 2 ^ 24) ||| (((s.get 5 (by omega)).toNat) * 2 ^ 16)) :: .string s :: iN .u8 ((s.get 6 (by omega)).toNat) :: iN .i64 ((s.get 6 (by omega)).toNat) :: iN .i64 (((s.get 6 (by omega)).toNat) * 2 ^ 8) :: iN .i64 (((((s.get 4 (by omega)).toNat) * 2 ^ 24) ||| (((s.get 5 (by omega)).toNat) * 2 ^ 16)) ||| (((s.get 6 (by omega)).toNat) * 2 ^ 8)) :: .string s :: iN .u8 ((s.get 7 (by omega)).toNat) :: iN .i64 ((s.get 7 (by omega)).toNat) :: iN .i64 ((((((s.get 4 (by omega)).toNat) * 2 ^ 24) ||| (((s.get 5 (by omega)).toNat) * 2 ^ 16)) ||| (((s.get 6 (by omega)).toNat) * 2 ^ 8)) ||| ((s.get 7 (by omega)).toNat)) :: List.replicate 6 un).toArray, []⟩ (HA (bs w) [(q1, 26, #[.slice ov m cv])]) h3.drew ?_ ?_
 ·refine zsp (.string s) ?_
  refine zst (fun _ _ => (run_index_str (s := s) (a := 4) Try.underlying9 (by omega))) ?_
  refine zst (v := iN .i64 ((s.get 4 (by omega)).toNat)) (fun _ _ => (run_conv .i64 Try.underlying5 Try.underlying3 (by have := (s.get 4 (by omega)).toNat_lt; simp only [top]; omega))) ?_
  refine zst (fun _ _ => (run_shl (k := .i64) (k2 := .u64) (a := (s.get 4 (by omega)).toNat) (b := 24) (by have := (s.get 4 (by omega)).toNat_lt; simp only [top]; omega))) ?_
  refine zsp (.string s) ?_
  refine zst (fun _ _ => (run_index_str (s := s) (a := 5) Try.underlying9 (by omega))) ?_
  refine zst (v := iN .i64 ((s.get 5 (by omega)).toNat)) (fun _ _ => (run_conv .i64 Try.underlying5 Try.underlying3 (by have := (s.get 5 (by omega)).toNat_lt; simp only [top]; omega))) ?_
  refine zst (fun _ _ => (run_shl (k := .i64) (k2 := .u64) (a := (s.get 5 (by omega)).toNat) (b := 16) (by have := (s.get 5 (by omega)).toNat_lt; simp only [top]; omega))) ?_
  refine zst (fun _ _ => (run_ori (a := ((s.get 4 (by omega)).toNat) * 2 ^ 24) (b := ((s.get 5 (by omega)).toNat) * 2 ^ 16) (lt63 (by have := (s.get 4 (by omega)).toNat_lt; omega)) (lt63 (by have := (s.get 5 (by omega)).toNat_lt; omega)))) ?_
  refine zsp (.string s) ?_
  refine zst (fun _ _ => (run_index_str (s := s) (a := 6) Try.underlying9 (by omega))) ?_
  refine zst (v := iN .i64 ((s.get 6 (by omega)).toNat)) (fun _ _ => (run_conv .i64 Try.underlying5 Try.underlying3 (by have := (s.get 6 (by omega)).toNat_lt; simp only [top]; omega))) ?_
  refine zst (fun _ _ => (run_shl (k := .i64) (k2 := .u64) (a := (s.get 6 (by omega)).toNat) (b := 8) (by have := (s.get 6 (by omega)).toNat_lt; simp only [top]; omega))) ?_
  refine zst (fun _ _ => (run_ori (a := (((s.get 4 (by omega)).toNat) * 2 ^ 24) ||| (((s.get 5 (by omega)).toNat) * 2 ^ 16)) (b := ((s.get 6 (by omega)).toNat) * 2 ^ 8) (lt63 (by have := (s.get 4 (by omega)).toNat_lt; have := (s.get 5 (by omega)).toNat_lt; repeat (first | (refine Nat.or_lt_two_pow ?_ ?_) | omega))) (lt63 (by have := (s.get 6 (by omega)).toNat_lt; omega)))) ?_
  refine zsp (.string s) ?_
  refine zst (fun _ _ => (run_index_str (s := s) (a := 7) Try.underlying9 (by omega))) ?_
  refine zst (v := iN .i64 ((s.get 7 (by omega)).toNat)) (fun _ _ => (run_conv .i64 Try.underlying5 Try.underlying3 (by have := (s.get 7 (by omega)).toNat_lt; simp only [top]; omega))) ?_
  refine zst (fun _ _ => (run_ori (a := ((((s.get 4 (by omega)).toNat) * 2 ^ 24) ||| (((s.get 5 (by omega)).toNat) * 2 ^ 16)) ||| (((s.get 6 (by omega)).toNat) * 2 ^ 8)) (b := (s.get 7 (by omega)).toNat) (lt63 (by have := (s.get 4 (by omega)).toNat_lt; have := (s.get 5 (by omega)).toNat_lt; have := (s.get 6 (by omega)).toNat_lt; repeat (first | (refine Nat.or_lt_two_pow ?_ ?_) | omega))) (lt63 (by have := (s.get 7 (by omega)).toNat_lt; omega)))) ?_
  refine zsp (iN .i64 ((((((s.get 4 (by omega)).toNat) * 2 ^ 24) ||| (((s.get 5 (by omega)).toNat) * 2 ^ 16)) ||| (((s.get 6 (by omega)).toNat) * 2 ^ 8)) ||| ((s.get 7 (by omega)).toNat))) ?_
  exact AllSure.nil
 intro w4 h5
 refine then_at rfl ?_
 refine wp_seq ?_
 refine zsr ?_
 refine zwv (iN .i64 ((((((s.get 4 (by omega)).toNat) * 2 ^ 24) ||| (((s.get 5 (by omega)).toNat) * 2 ^ 16)) ||| (((s.get 6 (by omega)).toNat) * 2 ^ 8)) ||| ((s.get 7 (by omega)).toNat))) ?_
 refine zwv (.pointer (some ⟨q1, 0, none⟩)) ?_
 refine zwu (v := .slice ov m cv) (run_load1 Try.isAgg24 (((h5.get 0 rfl).cell 0).trans rfl)) ?_
 refine zwv (iN .i64 m) ?_
 refine zwu (run_geq (k := .i64) (a := (((((s.get 4 (by omega)).toNat) * 2 ^ 24) ||| (((s.get 5 (by omega)).toNat) * 2 ^ 16)) ||| (((s.get 6 (by omega)).toNat) * 2 ^ 8)) ||| ((s.get 7 (by omega)).toNat)) (b := m) false (decide_eq_false (by rw [← n4_bytes s h8]; omega))) ?_
 refine znt ?_
 refine zcf ?_
 refine wp_skip ?_
 refine then_at rfl ?_
 refine zsr ?_
 refine zwv (iN .i64 ((((((s.get 4 (by omega)).toNat) * 2 ^ 24) ||| (((s.get 5 (by omega)).toNat) * 2 ^ 16)) ||| (((s.get 6 (by omega)).toNat) * 2 ^ 8)) ||| ((s.get 7 (by omega)).toNat))) ?_
 refine zwv (iN .i64 ((((((s.get 4 (by omega)).toNat) * 2 ^ 24) ||| (((s.get 5 (by omega)).toNat) * 2 ^ 16)) ||| (((s.get 6 (by omega)).toNat) * 2 ^ 8)) ||| ((s.get 7 (by omega)).toNat))) ?_
 refine znt ?_
 refine wp_ret ?_
 repeat first | refine then_ret ?_ | refine block_ret ?_
 exact bodyPost_ret (v := iN .i64 (((((s.get 4 (by omega)).toNat * 2 ^ 24) ||| ((s.get 5 (by omega)).toNat * 2 ^ 16)) ||| ((s.get 6 (by omega)).toNat * 2 ^ 8)) ||| (s.get 7 (by omega)).toNat)) (by kernel_rfl) rfl ⟨by rw [numI, numT, if_pos h8, firstT, if_pos ⟨by omega, hs, hg⟩, n4_bytes s h8] <;> rfl, h5.old.old⟩
theorem rnum_any {w : World} {v : Value} {l : List Q4} (h : RT w v l) (hll : l.length ≤ 1000000) (s : ByteArray) :
  Calls Try.prog 31 #[.agg #[v], .string s] w fun e w' => e = .returned (.int .i64 (numI l.length s)) ∧ Below w.heap.size w w' := by
 obtain ⟨ov, cv, rfl⟩ := h.form
 by_cases h8 : s.size = 8
 ·by_cases hs : s.extract 0 4 = hdS
  ·by_cases hg : n4 s < l.length
   ·exact rnum_d s hll h8 hs hg
   ·exact rnum_c s hll h8 hs (by omega)
  ·exact rnum_b s hll h8 hs
 ·exact rnum_a s hll h8
end Go.Proofs.Ytihfeoanognonaa
