/-
  X25519 at two texts of 9, evaluated.
-/
import Derived.Test.YtpaendmdcdeemaaDoorCuS
namespace Go.Proofs.YtpaendmdcdeemaaDoor
open Go.RowKit Num

/-- k bits more, from the highest on -/
def go4 (n u : Nat) : Nat → Nat → Nat → Nat → Nat → (Nat × Nat) × (Nat × Nat)
  | 0, a, b, c, d => ((a, b), (c, d))
  | k + 1, a, b, c, d => if n / 2 ^ k % 2 = 1 then go4 n u k (lsx a b c d) (lsz u a b c d) (dbx c d) (dbz c d) else go4 n u k (dbx a b) (dbz a b) (lsx a b c d) (lsz u a b c d)
theorem go4_lad (s : ByteArray) (u : Nat) : ∀ k m, k + m = 256 → go4 (numS s) u k (lad s u m).1.1 (lad s u m).1.2 (lad s u m).2.1 (lad s u m).2.2 = lad s u 256
  | 0, m, h => by rw [show m = 256 by omega]; rfl
  | k + 1, m, h => by
    have e : 255 - m = k := by omega
    unfold go4
    by_cases hb : numS s / 2 ^ k % 2 = 1
    · rw [if_pos hb, ← go4_lad s u k (m + 1) (by omega), lad_one s u m (by rw [e]; exact hb)]
    · rw [if_neg hb, ← go4_lad s u k (m + 1) (by omega), lad_nil s u m (by rw [e]; exact hb)]
theorem go4_lad0 (s : ByteArray) (u : Nat) : lad s u 256 = go4 (numS s) u 256 1 0 u 1 := (go4_lad s u 256 0 rfl).symm
def nine : ByteArray := ⟨(ofT 9 0).toArray⟩
theorem nine_num : numS (clampS nine) = 28948022309329048855892746252171976963317496166410141009864396001978282409992 := by decide +kernel
theorem nine_u : numS (topS nine) % P = 9 := by decide +kernel
theorem go_nine : mulP (go4 28948022309329048855892746252171976963317496166410141009864396001978282409992 9 256 1 0 9 1).1.1 (pm P 256 (go4 28948022309329048855892746252171976963317496166410141009864396001978282409992 9 256 1 0 9 1).1.2 (P - 2)) = 54815864700279561125610391355931320566748822376190344121911385527384361806914 := by decide +kernel
theorem x_nine : xP nine nine = 54815864700279561125610391355931320566748822376190344121911385527384361806914 := by
  unfold xP
  rw [nine_u, go4_lad0, nine_num, invE_pm]
  exact go_nine
def hexc : ByteArray := { data := #[52, 50, 50, 99, 56, 101, 55, 97, 54, 50, 50, 55, 100, 55, 98, 99, 97, 49, 51, 53, 48, 98, 51, 101, 50, 98, 98, 55, 50, 55, 57, 102, 55, 56, 57, 55, 98, 56, 55, 98, 98, 54, 56, 53, 52, 98, 55, 56, 51, 99, 54, 48, 101, 56, 48, 51, 49, 49, 97, 101, 51, 48, 55, 57] }
theorem x_text : bytesOf 54815864700279561125610391355931320566748822376190344121911385527384361806914 = ⟨(hexL hexc 32).toArray⟩ := by decide +kernel
theorem hexc_ok : Hexd hexc := fun i hi => by
  have h : ∀ i : Fin 64, 48 ≤ sb hexc i.1 ∧ sb hexc i.1 < 128 ∧ halfN (sb hexc i.1) < 16 := by decide +kernel
  exact h ⟨i, hi⟩
def two2 : ByteArray := ⟨(ofT 2 0).toArray⟩
def base2 : ByteArray := ⟨(ofT 88 102).toArray⟩
theorem two_of : ofP (topS two2) = some 2 := by decide +kernel
theorem two_bit : ¬ numS two2 / 2 ^ 255 % 2 = 1 := by decide +kernel
theorem base_of : ofP (topS base2) = some bY := by decide +kernel
theorem base_bit : ¬ numS base2 / 2 ^ 255 % 2 = 1 := by decide +kernel
theorem bsq_two : bsq 2 = 43446857792565604583783486763960003913525092658904367978015407342224011949000 := by unfold bsq; rw [invE_pm]; decide +kernel
theorem bsq_base : bsq bY = 26187595835145689230469591415084376402084551887632582719101735842039498021991 := by unfold bsq; rw [invE_pm]; decide +kernel
theorem root_two2 : rootP (bsq 2) = none := by rw [bsq_two, rootP_of]; decide +kernel
theorem root_base2 : rootP (bsq bY) = some bX := by rw [bsq_base, rootP_of]; decide +kernel
theorem base_text : bytesOf (addP (subP bY 1) 1) = base2 := by decide +kernel
theorem none_text : bytesOf (addP 0 1) = ⟨(ofT 1 0).toArray⟩ := by decide +kernel
end Go.Proofs.YtpaendmdcdeemaaDoor

namespace Go.Proofs.YtpaendmdcdeemaaDoor
open Go.RowKit Num


theorem of_lit (f g : UInt8) (a b : Nat) (ha : f.toNat = a) (hb : g.toNat = b) (w : World) : Calls Tryd.prog 36 #[iN .u8 a, iN .i64 32, iN .u8 b] w fun e w' => e = .returned (.string ⟨(ofT f g).toArray⟩) ∧ Below w.heap.size w w' := by
  subst ha hb
  exact of_any f g w
def one2 : ByteArray := ⟨(ofT 1 0).toArray⟩
def hexS : ByteArray := ⟨(hexL hexc 32).toArray⟩

set_option linter.unusedVariables false in
set_option maxRecDepth 100000 in
set_option maxHeartbeats 2000000 in
theorem works_any (w : World) (VV : Vars w) :
    Calls Tryd.prog 16 #[] w fun e w' => e = .returned (.bool true) ∧ Below w.heap.size w w' := by
  have H0 := HA.start w
  go_enter Tryd.func16, Tryd.ntmps16
  refine wp_seq ?_
  -- region 0
  refine wl_region ?_
  refine wl_val (.bool false) (by kernel_rfl) (by kernel_rfl) ?_
  refine wl_nil ?_
  refine then_at (F := ⟨(.bool false :: List.replicate 49 un).toArray, []⟩) (by kernel_rfl) ?_
  refine wp_seq ?_
  -- region 1
  refine wl_region ?_
  refine wl_call (v := .string two2) H0 (by kernel_rfl) enter36 #[iN .u8 2, iN .i64 32, iN .u8 0] (by kernel_rfl) (of_lit 2 0 2 0 rfl rfl w) ?_
  intro w1 h2
  refine wl_call (v := .tuple #[.agg (pr 0 0), .bool false]) h2 (by kernel_rfl) enter12 #[.string two2] (by kernel_rfl) (POf_no_root0 two2 rfl 2 (by decide) two_of root_two2 two_bit w1 (VV.below h2.old VV.big)) ?_
  intro w3 h4
  refine wl_val (.tuple #[.agg (pr 0 0), .bool false]) (by kernel_rfl) (by kernel_rfl) ?_
  refine wl_val (.agg (pr 0 0)) (by kernel_rfl) (by kernel_rfl) ?_
  refine wl_val (.bool false) (by kernel_rfl) (by kernel_rfl) ?_
  refine wl_make h4 27 (by kernel_rfl) run_alloc27 ?_
  intro q5 w6 h7
  refine wl_fill (c' := pr 0 0) h7 0 rfl (by kernel_rfl) (by kernel_rfl) (by kernel_rfl) (pr_sz 0 0 0 0) (info27p 0 0) (one_pr 0 0) ?_
  intro w8 (h9 : HA w [(q5, 27, pr 0 0)] w8)
  refine wl_val (.bool false) (by kernel_rfl) (by kernel_rfl) ?_
  refine wl_nil ?_
  refine then_at (F := ⟨(.bool false :: pt q5 :: .bool false :: un :: un :: .tuple #[.agg (pr 0 0), .bool false] :: .string two2 :: .tuple #[.agg (pr 0 0), .bool false] :: .agg (pr 0 0) :: .bool false :: List.replicate 40 un).toArray, []⟩) (by kernel_rfl) ?_
  refine wp_seq ?_
  -- region 2
  refine wl_region ?_
  refine wl_call (v := .string base2) h9 (by kernel_rfl) enter36 #[iN .u8 88, iN .i64 32, iN .u8 102] (by kernel_rfl) (of_lit 88 102 88 102 rfl rfl w8) ?_
  intro w10 h11
  refine wl_call (v := .tuple #[.agg (pr bX (subP bY 1)), .bool true]) h11 (by kernel_rfl) enter12 #[.string base2] (by kernel_rfl) (POf_yes_even base2 rfl bY bY_lt base_of bX bX_lt root_base2 base_bit w10 (VV.below h11.old VV.big)) ?_
  intro w12 h13
  refine wl_val (.tuple #[.agg (pr bX (subP bY 1)), .bool true]) (by kernel_rfl) (by kernel_rfl) ?_
  refine wl_val (.agg (pr bX (subP bY 1))) (by kernel_rfl) (by kernel_rfl) ?_
  refine wl_val (.bool true) (by kernel_rfl) (by kernel_rfl) ?_
  refine wl_make h13 27 (by kernel_rfl) run_alloc27 ?_
  intro q14 w15 h16
  refine wl_fill (c' := pr bX (subP bY 1)) h16 0 rfl (by kernel_rfl) (by kernel_rfl) (by kernel_rfl) (pr_sz bX (subP bY 1) 0 0) (info27p bX (subP bY 1)) (one_pr bX (subP bY 1)) ?_
  intro w17 (h18 : HA w [(q14, 27, pr bX (subP bY 1)), (q5, 27, pr 0 0)] w17)
  refine wl_val (.bool true) (by kernel_rfl) (by kernel_rfl) ?_
  refine wl_nil ?_
  refine then_at (F := ⟨(.bool false :: pt q5 :: .bool false :: pt q14 :: .bool true :: .tuple #[.agg (pr 0 0), .bool false] :: .string two2 :: .tuple #[.agg (pr 0 0), .bool false] :: .agg (pr 0 0) :: .bool false :: .tuple #[.agg (pr bX (subP bY 1)), .bool true] :: .string base2 :: .tuple #[.agg (pr bX (subP bY 1)), .bool true] :: .agg (pr bX (subP bY 1)) :: .bool true :: List.replicate 35 un).toArray, []⟩) (by kernel_rfl) ?_
  refine wp_seq ?_
  -- region 3
  refine wp_region_sure ⟨(.bool true :: pt q5 :: .bool false :: pt q14 :: .bool true :: .tuple #[.agg (pr 0 0), .bool false] :: .string two2 :: .tuple #[.agg (pr 0 0), .bool false] :: .agg (pr 0 0) :: .bool false :: .tuple #[.agg (pr bX (subP bY 1)), .bool true] :: .string base2 :: .tuple #[.agg (pr bX (subP bY 1)), .bool true] :: .agg (pr bX (subP bY 1)) :: .bool true :: .agg (pr bX (subP bY 1)) :: .string base2 :: .string base2 :: .bool true :: .bool true :: .agg (pr 0 0) :: .string one2 :: .string one2 :: .bool true :: .bool true :: .bool true :: .bool false :: .bool true :: .bool true :: .bool true :: .bool true :: .bool true :: .bool true :: .agg (pr bX (subP bY 1)) :: .agg (pr bX (subP bY 1)) :: .bool true :: .bool true :: .bool true :: .agg (pr bX (subP bY 1)) :: .agg (pr 0 0) :: .bool false :: .bool true :: .bool true :: .bool true :: .string nine :: .string nine :: .string hexS :: .string hexS :: .bool true :: .bool true :: List.replicate 0 un).toArray, []⟩ (HA w [(q14, 27, pr bX (subP bY 1)), (q5, 27, pr 0 0)]) [.agg (pr bX (subP bY 1)), .string base2, .string base2, .bool true, .bool true, .agg (pr 0 0), .string one2, .string one2, .bool true, .bool true, .bool true, .bool false, .bool true, .bool true, .bool true, .bool true, .bool true, .bool true, .agg (pr bX (subP bY 1)), .agg (pr bX (subP bY 1)), .bool true, .bool true, .bool true, .agg (pr bX (subP bY 1)), .agg (pr 0 0), .bool false, .bool true, .bool true, .bool true, .string nine, .string nine, .string hexS, .string hexS, .bool true, .bool true, .bool true] (by kernel_rfl) (by kernel_rfl) (by kernel_rfl) (by kernel_rfl) (fun _ _ _ h => h) h18.drew ?_ ?_
  · refine AllSure.cons (sure_call (v := .agg (pr bX (subP bY 1))) (by kernel_rfl) (by kernel_rfl) enter32 HA.keep #[] (by kernel_rfl) (fun w' h' => Base_any w' (VV.below h'.old VV.big))) ?_
    refine AllSure.cons (sure_call (v := .string base2) (by kernel_rfl) (by kernel_rfl) enter14 HA.keep #[.agg (pr bX (subP bY 1))] (by kernel_rfl) (fun w' h' => (by have hz := PBytes_even bX (subP bY 1) bX_lt (subP_lt _ _) (by decide) w' (VV.below h'.old VV.big); rw [base_text] at hz; exact hz))) ?_
    refine AllSure.cons (sure_call (v := .string base2) (by kernel_rfl) (by kernel_rfl) enter36 HA.keep #[iN .u8 88, iN .i64 32, iN .u8 102] (by kernel_rfl) (fun w' h' => of_lit 88 102 88 102 rfl rfl w')) ?_
    refine AllSure.cons (OpSure.take (v := .bool true) (by kernel_rfl) (by kernel_rfl) (fun _ _ => (run_eqs (s := base2) (t := base2) (by kernel_rfl) (by kernel_rfl) true (decide_eq_true rfl)))) ?_
    refine AllSure.cons (OpSure.take (v := .bool true) (by kernel_rfl) (by kernel_rfl) (fun _ _ => (by kernel_rfl))) ?_
    refine AllSure.cons (sure_call (v := .agg (pr 0 0)) (by kernel_rfl) (by kernel_rfl) enter29 HA.keep #[] (by kernel_rfl) (fun w' h' => None_any w')) ?_
    refine AllSure.cons (sure_call (v := .string one2) (by kernel_rfl) (by kernel_rfl) enter14 HA.keep #[.agg (pr 0 0)] (by kernel_rfl) (fun w' h' => (by have hz := PBytes_even 0 0 (by decide) (by decide) (by decide) w' (VV.below h'.old VV.big); rw [none_text] at hz; exact hz))) ?_
    refine AllSure.cons (sure_call (v := .string one2) (by kernel_rfl) (by kernel_rfl) enter36 HA.keep #[iN .u8 1, iN .i64 32, iN .u8 0] (by kernel_rfl) (fun w' h' => of_lit 1 0 1 0 rfl rfl w')) ?_
    refine AllSure.cons (OpSure.take (v := .bool true) (by kernel_rfl) (by kernel_rfl) (fun _ _ => (run_eqs (s := one2) (t := one2) (by kernel_rfl) (by kernel_rfl) true (decide_eq_true rfl)))) ?_
    refine AllSure.cons (OpSure.take (v := .bool true) (by kernel_rfl) (by kernel_rfl) (fun _ _ => (by kernel_rfl))) ?_
    refine AllSure.cons (OpSure.take (v := .bool true) (by kernel_rfl) (by kernel_rfl) (fun _ _ => (by kernel_rfl))) ?_
    refine AllSure.cons (OpSure.take (v := .bool false) (by kernel_rfl) (by kernel_rfl) (fun _ _ => (by kernel_rfl))) ?_
    refine AllSure.cons (OpSure.take (v := .bool true) (by kernel_rfl) (by kernel_rfl) (fun _ _ => (by kernel_rfl))) ?_
    refine AllSure.cons (OpSure.take (v := .bool true) (by kernel_rfl) (by kernel_rfl) (fun _ _ => (by kernel_rfl))) ?_
    refine AllSure.cons (OpSure.take (v := .bool true) (by kernel_rfl) (by kernel_rfl) (fun _ _ => (by kernel_rfl))) ?_
    refine AllSure.cons (OpSure.take (v := .bool true) (by kernel_rfl) (by kernel_rfl) (fun _ _ => (by kernel_rfl))) ?_
    refine AllSure.cons (OpSure.take (v := .bool true) (by kernel_rfl) (by kernel_rfl) (fun _ _ => (by kernel_rfl))) ?_
    refine AllSure.cons (OpSure.take (v := .bool true) (by kernel_rfl) (by kernel_rfl) (fun _ _ => (by kernel_rfl))) ?_
    refine AllSure.cons (OpSure.take (v := .agg (pr bX (subP bY 1))) (by kernel_rfl) (by kernel_rfl) (fun _ h => run_load_blk (by kernel_rfl) (h.get 0 rfl) Tryd.underlying27 rfl (info27p bX (subP bY 1)))) ?_
    refine AllSure.cons (sure_call (v := .agg (pr bX (subP bY 1))) (by kernel_rfl) (by kernel_rfl) enter32 HA.keep #[] (by kernel_rfl) (fun w' h' => Base_any w' (VV.below h'.old VV.big))) ?_
    refine AllSure.cons (sure_call (v := .bool true) (by kernel_rfl) (by kernel_rfl) enter22 HA.keep #[.agg (pr bX (subP bY 1)), .agg (pr bX (subP bY 1))] (by kernel_rfl) (fun w' h' => psame_yes _ _ _ _ bX_lt (subP_lt _ _) bX_lt (subP_lt _ _) rfl rfl w')) ?_
    refine AllSure.cons (OpSure.take (v := .bool true) (by kernel_rfl) (by kernel_rfl) (fun _ _ => (by kernel_rfl))) ?_
    refine AllSure.cons (OpSure.take (v := .bool true) (by kernel_rfl) (by kernel_rfl) (fun _ _ => (by kernel_rfl))) ?_
    refine AllSure.cons (OpSure.take (v := .agg (pr bX (subP bY 1))) (by kernel_rfl) (by kernel_rfl) (fun _ h => run_load_blk (by kernel_rfl) (h.get 0 rfl) Tryd.underlying27 rfl (info27p bX (subP bY 1)))) ?_
    refine AllSure.cons (sure_call (v := .agg (pr 0 0)) (by kernel_rfl) (by kernel_rfl) enter29 HA.keep #[] (by kernel_rfl) (fun w' h' => None_any w')) ?_
    refine AllSure.cons (sure_call (v := .bool false) (by kernel_rfl) (by kernel_rfl) enter22 HA.keep #[.agg (pr bX (subP bY 1)), .agg (pr 0 0)] (by kernel_rfl) (fun w' h' => psame_no1 _ _ _ _ bX_lt (subP_lt _ _) (by decide) (by decide) (by decide) w')) ?_
    refine AllSure.cons (OpSure.take (v := .bool true) (by kernel_rfl) (by kernel_rfl) (fun _ _ => (by kernel_rfl))) ?_
    refine AllSure.cons (OpSure.take (v := .bool true) (by kernel_rfl) (by kernel_rfl) (fun _ _ => (by kernel_rfl))) ?_
    refine AllSure.cons (OpSure.take (v := .bool true) (by kernel_rfl) (by kernel_rfl) (fun _ _ => (by kernel_rfl))) ?_
    refine AllSure.cons (sure_call (v := .string nine) (by kernel_rfl) (by kernel_rfl) enter36 HA.keep #[iN .u8 9, iN .i64 32, iN .u8 0] (by kernel_rfl) (fun w' h' => of_lit 9 0 9 0 rfl rfl w')) ?_
    refine AllSure.cons (sure_call (v := .string nine) (by kernel_rfl) (by kernel_rfl) enter36 HA.keep #[iN .u8 9, iN .i64 32, iN .u8 0] (by kernel_rfl) (fun w' h' => of_lit 9 0 9 0 rfl rfl w')) ?_
    refine AllSure.cons (sure_call (v := .string hexS) (by kernel_rfl) (by kernel_rfl) enter26 HA.keep #[.string nine, .string nine] (by kernel_rfl) (fun w' h' => (by have hz := x25519_yes nine nine rfl rfl w' (VV.below h'.old VV.big); rw [x_nine, x_text] at hz; exact hz))) ?_
    refine AllSure.cons (sure_call (v := .string hexS) (by kernel_rfl) (by kernel_rfl) enter31 HA.keep #[.string hexc] (by kernel_rfl) (fun w' h' => hex_any hexc rfl hexc_ok w')) ?_
    refine AllSure.cons (OpSure.take (v := .bool true) (by kernel_rfl) (by kernel_rfl) (fun _ _ => (run_eqs (s := hexS) (t := hexS) (by kernel_rfl) (by kernel_rfl) true (decide_eq_true rfl)))) ?_
    refine AllSure.cons (OpSure.take (v := .bool true) (by kernel_rfl) (by kernel_rfl) (fun _ _ => (by kernel_rfl))) ?_
    refine AllSure.cons (OpSure.take (v := .bool true) (by kernel_rfl) (by kernel_rfl) (fun _ _ => (by kernel_rfl))) ?_
    exact AllSure.nil
  intro w19 h20
  refine then_at (F := ⟨(.bool true :: pt q5 :: .bool false :: pt q14 :: .bool true :: .tuple #[.agg (pr 0 0), .bool false] :: .string two2 :: .tuple #[.agg (pr 0 0), .bool false] :: .agg (pr 0 0) :: .bool false :: .tuple #[.agg (pr bX (subP bY 1)), .bool true] :: .string base2 :: .tuple #[.agg (pr bX (subP bY 1)), .bool true] :: .agg (pr bX (subP bY 1)) :: .bool true :: .agg (pr bX (subP bY 1)) :: .string base2 :: .string base2 :: .bool true :: .bool true :: .agg (pr 0 0) :: .string one2 :: .string one2 :: .bool true :: .bool true :: .bool true :: .bool false :: .bool true :: .bool true :: .bool true :: .bool true :: .bool true :: .bool true :: .agg (pr bX (subP bY 1)) :: .agg (pr bX (subP bY 1)) :: .bool true :: .bool true :: .bool true :: .agg (pr bX (subP bY 1)) :: .agg (pr 0 0) :: .bool false :: .bool true :: .bool true :: .bool true :: .string nine :: .string nine :: .string hexS :: .string hexS :: .bool true :: .bool true :: List.replicate 0 un).toArray, []⟩) (by kernel_rfl) ?_
  refine wp_ret ?_
  repeat first | refine then_ret ?_ | refine block_ret ?_
  exact bodyPost_ret (v := .bool true) (by kernel_rfl) rfl ⟨rfl, h20.old⟩
end Go.Proofs.YtpaendmdcdeemaaDoor
