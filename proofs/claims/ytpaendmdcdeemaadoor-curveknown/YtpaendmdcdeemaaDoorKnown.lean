/-
  the law of the examples.
-/
import Derived.Test.YtpaendmdcdeemaaDoorCvM
import Derived.Test.YtpaendmdcdeemaaDoorCuX3
namespace Go.Proofs.YtpaendmdcdeemaaDoor
open Go.RowKit Num


theorem run_nes {ρ : Operand → Value} {x y : Operand} {w : World} {dst : Option Tmp} {ty : TypeId} {pos : String} {aft : Array Edge} {gd : Option (Nat × Bool)} {s t : ByteArray} (hx : ρ x = .string s) (hy : ρ y = .string t) (r : Bool) (hr : decide (s ≠ t) = r) : (execOp ρ ⟨dst, .binOp .neq 9 x y 9, ty, pos, aft, gd⟩).run Tryd.prog w = .ok (.value (.bool r)) w := by
  subst hr
  simp only [execOp, hx, hy]
  by_cases h : s = t
  · subst h; simp [binOp, go_sem, Op.stringOp]
  · have h2 : ¬s.toList = t.toList := fun e => by
      rw [ByteArray.toList_eq, ByteArray.toList_eq] at e
      refine h ?_
      obtain ⟨⟨l⟩⟩ := s
      obtain ⟨⟨m⟩⟩ := t
      exact congrArg (fun l : List UInt8 => (⟨⟨l⟩⟩ : ByteArray)) e
    simp [binOp, go_sem, Op.stringOp, h, h2]

set_option linter.unusedVariables false in
set_option maxRecDepth 100000 in
set_option maxHeartbeats 2000000 in
theorem CurveKnown_any (w : World) (VV : Vars w) :
    Calls Tryd.prog 11 #[] w fun e w' => e = .returned (.bool true) ∧ Below w.heap.size w w' := by
  have H0 := HA.start w
  go_enter Tryd.func11, Tryd.ntmps11
  have nine_hi_s : bytesOf (xP (o32 9 0) kHi) = bytesOf (xP (o32 9 0) (o32 9 0)) := nine_hi
  have ab_eq : bytesOf (xP hAs hBs) = hCs := by rw [x_ab]; exact ab_text
  have two_enc2 : encP (mP bP (numS (o32 2 0))) = h2s := by rw [num2o]; exact two_enc
  refine wp_seq ?_
  -- region 0
  refine wl_region ?_
  refine wl_val (.bool false) (by kernel_rfl) (by kernel_rfl) ?_
  refine wl_nil ?_
  refine then_at (F := ⟨(.bool false :: List.replicate 136 un).toArray, []⟩) (by kernel_rfl) ?_
  refine wp_seq ?_
  -- region 1
  refine wl_region ?_
  refine wl_call (v := .string (o32 1 0)) H0 (by kernel_rfl) enter36 #[iN .u8 1, iN .i64 32, iN .u8 0] (by kernel_rfl) (of_any 1 0 w) ?_
  intro w1 h2
  refine wl_bytes (s := (o32 1 0)) h2 (by kernel_rfl) (by kernel_rfl) ?_
  intro q3 cp4 m5 w6 h7
  refine wl_val (.slice (some ⟨q3, 0, none⟩) (o32 1 0).size cp4) (by kernel_rfl) (by kernel_rfl) ?_
  refine wl_nil ?_
  refine then_at (F := ⟨(.bool false :: .slice (some ⟨q3, 0, none⟩) (o32 1 0).size cp4 :: un :: un :: un :: un :: un :: un :: un :: un :: un :: un :: un :: .string (o32 1 0) :: .slice (some ⟨q3, 0, none⟩) (o32 1 0).size cp4 :: List.replicate 122 un).toArray, []⟩) (by kernel_rfl) ?_
  refine wp_seq ?_
  -- region 2
  refine wl_region ?_
  refine wl_val (.slice (some ⟨q3, 0, none⟩) (o32 1 0).size cp4) (by kernel_rfl) (by kernel_rfl) ?_
  refine wl_val (.pointer (some ⟨q3, 31, none⟩)) (by kernel_rfl) (run_addr_slice (q := q3) (n := (o32 1 0).size) (m := cp4) (a := 31) Tryd.underlying60 (fun w => Tryd.sizeOf5 w) (by kernel_rfl) (by kernel_rfl) (show 31 < (o32 1 0).size by decide +kernel)) ?_
  refine wl_put (k := .u8) (z := ((128 : Nat) : Int)) h7 0 rfl 31 (by rw [byC_size]; exact Nat.lt_add_right _ (show 31 < (bl (o32 1 0)).length by decide +kernel)) (by kernel_rfl) (fun w => Tryd.sizeOf5 w) (by kernel_rfl) (by kernel_rfl) ?_
  intro w8 h9
  have h10 : HA w [(q3, 5, byC ((bl ((o32 1 0))).set 31 (UInt8.ofNat (128))) m5)] w8 := (by rw [← byC_put (bl ((o32 1 0))) m5 31 (128) (show 31 < (bl (o32 1 0)).length by decide +kernel) (by decide)]; exact h9)
  clear h9
  refine wl_nil ?_
  refine then_at (F := ⟨(.bool false :: .slice (some ⟨q3, 0, none⟩) (o32 1 0).size cp4 :: un :: un :: un :: un :: un :: un :: un :: un :: un :: un :: un :: .string (o32 1 0) :: .slice (some ⟨q3, 0, none⟩) (o32 1 0).size cp4 :: .slice (some ⟨q3, 0, none⟩) (o32 1 0).size cp4 :: .pointer (some ⟨q3, 31, none⟩) :: List.replicate 120 un).toArray, []⟩) (by kernel_rfl) ?_
  refine wp_seq ?_
  -- region 3
  refine wl_region ?_
  refine wl_val (.slice (some ⟨q3, 0, none⟩) (o32 1 0).size cp4) (by kernel_rfl) (by kernel_rfl) ?_
  refine wl_val (.string kOne) (by kernel_rfl) ((by rw [← kOne_is]; exact run_byText (n := (o32 1 0).size) (c := cp4) (m := m5) (l := (bl ((o32 1 0))).set 31 (UInt8.ofNat (128))) (by decide +kernel) (by kernel_rfl) (h10.get 0 rfl))) ?_
  refine wl_call (v := .tuple #[.agg (pr 0 0), .bool false]) h10 (by kernel_rfl) enter12 #[.string kOne] (by kernel_rfl) (POf_no_zero kOne rfl 1 (by decide) kOne_of 0 (by decide) kOne_rt kOne_bit rfl w8 (VV.below h10.old VV.big)) ?_
  intro w11 h12
  refine wl_val (.tuple #[.agg (pr 0 0), .bool false]) (by kernel_rfl) (by kernel_rfl) ?_
  refine wl_val (.agg (pr 0 0)) (by kernel_rfl) (by kernel_rfl) ?_
  refine wl_val (.bool false) (by kernel_rfl) (by kernel_rfl) ?_
  refine wl_make h12 27 (by kernel_rfl) run_alloc27 ?_
  intro q13 w14 h15
  refine wl_fill (c' := pr 0 0) h15 0 rfl (by kernel_rfl) (by kernel_rfl) (by kernel_rfl) (pr_sz 0 0 0 0) (info27p 0 0) (one_pr 0 0) ?_
  intro w16 (h17 : HA w [(q13, 27, pr 0 0), (q3, 5, byC ((bl ((o32 1 0))).set 31 (UInt8.ofNat (128))) m5)] w16)
  refine wl_val (.bool false) (by kernel_rfl) (by kernel_rfl) ?_
  refine wl_nil ?_
  refine then_at (F := ⟨(.bool false :: .slice (some ⟨q3, 0, none⟩) (o32 1 0).size cp4 :: pt q13 :: .bool false :: un :: un :: un :: un :: un :: un :: un :: un :: un :: .string (o32 1 0) :: .slice (some ⟨q3, 0, none⟩) (o32 1 0).size cp4 :: .slice (some ⟨q3, 0, none⟩) (o32 1 0).size cp4 :: .pointer (some ⟨q3, 31, none⟩) :: .tuple #[.agg (pr 0 0), .bool false] :: .slice (some ⟨q3, 0, none⟩) (o32 1 0).size cp4 :: .string kOne :: .tuple #[.agg (pr 0 0), .bool false] :: .agg (pr 0 0) :: .bool false :: List.replicate 114 un).toArray, []⟩) (by kernel_rfl) ?_
  refine wp_seq ?_
  -- region 4
  refine wl_region ?_
  refine wl_call (v := .string (o32 237 255)) h17 (by kernel_rfl) enter36 #[iN .u8 237, iN .i64 32, iN .u8 255] (by kernel_rfl) (of_any 237 255 w16) ?_
  intro w18 h19
  refine wl_bytes (s := (o32 237 255)) h19 (by kernel_rfl) (by kernel_rfl) ?_
  intro q20 cp21 m22 w23 h24
  refine wl_val (.slice (some ⟨q20, 0, none⟩) (o32 237 255).size cp21) (by kernel_rfl) (by kernel_rfl) ?_
  refine wl_nil ?_
  refine then_at (F := ⟨(.bool false :: .slice (some ⟨q3, 0, none⟩) (o32 1 0).size cp4 :: pt q13 :: .bool false :: .slice (some ⟨q20, 0, none⟩) (o32 237 255).size cp21 :: un :: un :: un :: un :: un :: un :: un :: un :: .string (o32 1 0) :: .slice (some ⟨q3, 0, none⟩) (o32 1 0).size cp4 :: .slice (some ⟨q3, 0, none⟩) (o32 1 0).size cp4 :: .pointer (some ⟨q3, 31, none⟩) :: .tuple #[.agg (pr 0 0), .bool false] :: .slice (some ⟨q3, 0, none⟩) (o32 1 0).size cp4 :: .string kOne :: .tuple #[.agg (pr 0 0), .bool false] :: .agg (pr 0 0) :: .bool false :: .string (o32 237 255) :: .slice (some ⟨q20, 0, none⟩) (o32 237 255).size cp21 :: List.replicate 112 un).toArray, []⟩) (by kernel_rfl) ?_
  refine wp_seq ?_
  -- region 5
  refine wl_region ?_
  refine wl_val (.slice (some ⟨q20, 0, none⟩) (o32 237 255).size cp21) (by kernel_rfl) (by kernel_rfl) ?_
  refine wl_val (.pointer (some ⟨q20, 31, none⟩)) (by kernel_rfl) (run_addr_slice (q := q20) (n := (o32 237 255).size) (m := cp21) (a := 31) Tryd.underlying60 (fun w => Tryd.sizeOf5 w) (by kernel_rfl) (by kernel_rfl) (show 31 < (o32 237 255).size by decide +kernel)) ?_
  refine wl_put (k := .u8) (z := ((127 : Nat) : Int)) h24 0 rfl 31 (by rw [byC_size]; exact Nat.lt_add_right _ (show 31 < (bl (o32 237 255)).length by decide +kernel)) (by kernel_rfl) (fun w => Tryd.sizeOf5 w) (by kernel_rfl) (by kernel_rfl) ?_
  intro w25 h26
  have h27 : HA w [(q20, 5, byC ((bl ((o32 237 255))).set 31 (UInt8.ofNat (127))) m22), (q13, 27, pr 0 0), (q3, 5, byC ((bl ((o32 1 0))).set 31 (UInt8.ofNat (128))) m5)] w25 := (by rw [← byC_put (bl ((o32 237 255))) m22 31 (127) (show 31 < (bl (o32 237 255)).length by decide +kernel) (by decide)]; exact h26)
  clear h26
  refine wl_nil ?_
  refine then_at (F := ⟨(.bool false :: .slice (some ⟨q3, 0, none⟩) (o32 1 0).size cp4 :: pt q13 :: .bool false :: .slice (some ⟨q20, 0, none⟩) (o32 237 255).size cp21 :: un :: un :: un :: un :: un :: un :: un :: un :: .string (o32 1 0) :: .slice (some ⟨q3, 0, none⟩) (o32 1 0).size cp4 :: .slice (some ⟨q3, 0, none⟩) (o32 1 0).size cp4 :: .pointer (some ⟨q3, 31, none⟩) :: .tuple #[.agg (pr 0 0), .bool false] :: .slice (some ⟨q3, 0, none⟩) (o32 1 0).size cp4 :: .string kOne :: .tuple #[.agg (pr 0 0), .bool false] :: .agg (pr 0 0) :: .bool false :: .string (o32 237 255) :: .slice (some ⟨q20, 0, none⟩) (o32 237 255).size cp21 :: .slice (some ⟨q20, 0, none⟩) (o32 237 255).size cp21 :: .pointer (some ⟨q20, 31, none⟩) :: List.replicate 110 un).toArray, []⟩) (by kernel_rfl) ?_
  refine wp_seq ?_
  -- region 6
  refine wl_region ?_
  refine wl_val (.slice (some ⟨q20, 0, none⟩) (o32 237 255).size cp21) (by kernel_rfl) (by kernel_rfl) ?_
  refine wl_val (.string kP) (by kernel_rfl) ((by rw [← kP_is]; exact run_byText (n := (o32 237 255).size) (c := cp21) (m := m22) (l := (bl ((o32 237 255))).set 31 (UInt8.ofNat (127))) (by decide +kernel) (by kernel_rfl) (h27.get 0 rfl))) ?_
  refine wl_call (v := .tuple #[.agg (pr 0 0), .bool false]) h27 (by kernel_rfl) enter12 #[.string kP] (by kernel_rfl) (POf_no_of0 kP rfl kP_of kP_bit w25 (VV.below h27.old VV.big)) ?_
  intro w28 h29
  refine wl_val (.tuple #[.agg (pr 0 0), .bool false]) (by kernel_rfl) (by kernel_rfl) ?_
  refine wl_val (.agg (pr 0 0)) (by kernel_rfl) (by kernel_rfl) ?_
  refine wl_val (.bool false) (by kernel_rfl) (by kernel_rfl) ?_
  refine wl_make h29 27 (by kernel_rfl) run_alloc27 ?_
  intro q30 w31 h32
  refine wl_fill (c' := pr 0 0) h32 0 rfl (by kernel_rfl) (by kernel_rfl) (by kernel_rfl) (pr_sz 0 0 0 0) (info27p 0 0) (one_pr 0 0) ?_
  intro w33 (h34 : HA w [(q30, 27, pr 0 0), (q20, 5, byC ((bl ((o32 237 255))).set 31 (UInt8.ofNat (127))) m22), (q13, 27, pr 0 0), (q3, 5, byC ((bl ((o32 1 0))).set 31 (UInt8.ofNat (128))) m5)] w33)
  refine wl_val (.bool false) (by kernel_rfl) (by kernel_rfl) ?_
  refine wl_nil ?_
  refine then_at (F := ⟨(.bool false :: .slice (some ⟨q3, 0, none⟩) (o32 1 0).size cp4 :: pt q13 :: .bool false :: .slice (some ⟨q20, 0, none⟩) (o32 237 255).size cp21 :: pt q30 :: .bool false :: un :: un :: un :: un :: un :: un :: .string (o32 1 0) :: .slice (some ⟨q3, 0, none⟩) (o32 1 0).size cp4 :: .slice (some ⟨q3, 0, none⟩) (o32 1 0).size cp4 :: .pointer (some ⟨q3, 31, none⟩) :: .tuple #[.agg (pr 0 0), .bool false] :: .slice (some ⟨q3, 0, none⟩) (o32 1 0).size cp4 :: .string kOne :: .tuple #[.agg (pr 0 0), .bool false] :: .agg (pr 0 0) :: .bool false :: .string (o32 237 255) :: .slice (some ⟨q20, 0, none⟩) (o32 237 255).size cp21 :: .slice (some ⟨q20, 0, none⟩) (o32 237 255).size cp21 :: .pointer (some ⟨q20, 31, none⟩) :: .tuple #[.agg (pr 0 0), .bool false] :: .slice (some ⟨q20, 0, none⟩) (o32 237 255).size cp21 :: .string kP :: .tuple #[.agg (pr 0 0), .bool false] :: .agg (pr 0 0) :: .bool false :: List.replicate 104 un).toArray, []⟩) (by kernel_rfl) ?_
  refine wp_seq ?_
  -- region 7
  refine wl_region ?_
  refine wl_call (v := .string (o31 1 0)) h34 (by kernel_rfl) enter36 #[iN .u8 1, iN .i64 31, iN .u8 0] (by kernel_rfl) (of_any31 1 0 w33) ?_
  intro w35 h36
  refine wl_call (v := .tuple #[.agg (pr 0 0), .bool false]) h36 (by kernel_rfl) enter12 #[.string (o31 1 0)] (by kernel_rfl) (of_no (o31 1 0) (by decide +kernel) w35 (VV.below h36.old VV.big)) ?_
  intro w37 h38
  refine wl_val (.tuple #[.agg (pr 0 0), .bool false]) (by kernel_rfl) (by kernel_rfl) ?_
  refine wl_val (.agg (pr 0 0)) (by kernel_rfl) (by kernel_rfl) ?_
  refine wl_val (.bool false) (by kernel_rfl) (by kernel_rfl) ?_
  refine wl_make h38 27 (by kernel_rfl) run_alloc27 ?_
  intro q39 w40 h41
  refine wl_fill (c' := pr 0 0) h41 0 rfl (by kernel_rfl) (by kernel_rfl) (by kernel_rfl) (pr_sz 0 0 0 0) (info27p 0 0) (one_pr 0 0) ?_
  intro w42 (h43 : HA w [(q39, 27, pr 0 0), (q30, 27, pr 0 0), (q20, 5, byC ((bl ((o32 237 255))).set 31 (UInt8.ofNat (127))) m22), (q13, 27, pr 0 0), (q3, 5, byC ((bl ((o32 1 0))).set 31 (UInt8.ofNat (128))) m5)] w42)
  refine wl_val (.bool false) (by kernel_rfl) (by kernel_rfl) ?_
  refine wl_nil ?_
  refine then_at (F := ⟨(.bool false :: .slice (some ⟨q3, 0, none⟩) (o32 1 0).size cp4 :: pt q13 :: .bool false :: .slice (some ⟨q20, 0, none⟩) (o32 237 255).size cp21 :: pt q30 :: .bool false :: pt q39 :: .bool false :: un :: un :: un :: un :: .string (o32 1 0) :: .slice (some ⟨q3, 0, none⟩) (o32 1 0).size cp4 :: .slice (some ⟨q3, 0, none⟩) (o32 1 0).size cp4 :: .pointer (some ⟨q3, 31, none⟩) :: .tuple #[.agg (pr 0 0), .bool false] :: .slice (some ⟨q3, 0, none⟩) (o32 1 0).size cp4 :: .string kOne :: .tuple #[.agg (pr 0 0), .bool false] :: .agg (pr 0 0) :: .bool false :: .string (o32 237 255) :: .slice (some ⟨q20, 0, none⟩) (o32 237 255).size cp21 :: .slice (some ⟨q20, 0, none⟩) (o32 237 255).size cp21 :: .pointer (some ⟨q20, 31, none⟩) :: .tuple #[.agg (pr 0 0), .bool false] :: .slice (some ⟨q20, 0, none⟩) (o32 237 255).size cp21 :: .string kP :: .tuple #[.agg (pr 0 0), .bool false] :: .agg (pr 0 0) :: .bool false :: .tuple #[.agg (pr 0 0), .bool false] :: .string (o31 1 0) :: .tuple #[.agg (pr 0 0), .bool false] :: .agg (pr 0 0) :: .bool false :: List.replicate 99 un).toArray, []⟩) (by kernel_rfl) ?_
  refine wp_seq ?_
  -- region 8
  refine wl_region ?_
  refine wl_call (v := .agg (pr bX ((subP bY 1)))) h43 (by kernel_rfl) enter32 #[] (by kernel_rfl) (Base_any w42 (VV.below h43.old VV.big)) ?_
  intro w44 h45
  refine wl_call (v := .string (o32 2 0)) h45 (by kernel_rfl) enter36 #[iN .u8 2, iN .i64 32, iN .u8 0] (by kernel_rfl) (of_any 2 0 w44) ?_
  intro w46 h47
  obtain ⟨x1, y1, n1, c1⟩ := mul_ex Pn.base (o32 2 0) (show (o32 2 0).size = 32 from rfl)
  refine wl_call (v := .agg (pr x1 y1)) h47 (by kernel_rfl) enter24 #[.agg (pr bX ((subP bY 1))), .string (o32 2 0)] (by kernel_rfl) (c1 w46 (VV.below h47.old VV.big)) ?_
  intro w48 h49
  refine wl_make h49 27 (by kernel_rfl) run_alloc27 ?_
  intro q50 w51 h52
  refine wl_fill (c' := pr x1 y1) h52 0 rfl (by kernel_rfl) (by kernel_rfl) (by kernel_rfl) (pr_sz x1 y1 0 0) (info27p x1 y1) (one_pr x1 y1) ?_
  intro w53 (h54 : HA w [(q50, 27, pr x1 y1), (q39, 27, pr 0 0), (q30, 27, pr 0 0), (q20, 5, byC ((bl ((o32 237 255))).set 31 (UInt8.ofNat (127))) m22), (q13, 27, pr 0 0), (q3, 5, byC ((bl ((o32 1 0))).set 31 (UInt8.ofNat (128))) m5)] w53)
  refine wl_nil ?_
  refine then_at (F := ⟨(.bool false :: .slice (some ⟨q3, 0, none⟩) (o32 1 0).size cp4 :: pt q13 :: .bool false :: .slice (some ⟨q20, 0, none⟩) (o32 237 255).size cp21 :: pt q30 :: .bool false :: pt q39 :: .bool false :: pt q50 :: un :: un :: un :: .string (o32 1 0) :: .slice (some ⟨q3, 0, none⟩) (o32 1 0).size cp4 :: .slice (some ⟨q3, 0, none⟩) (o32 1 0).size cp4 :: .pointer (some ⟨q3, 31, none⟩) :: .tuple #[.agg (pr 0 0), .bool false] :: .slice (some ⟨q3, 0, none⟩) (o32 1 0).size cp4 :: .string kOne :: .tuple #[.agg (pr 0 0), .bool false] :: .agg (pr 0 0) :: .bool false :: .string (o32 237 255) :: .slice (some ⟨q20, 0, none⟩) (o32 237 255).size cp21 :: .slice (some ⟨q20, 0, none⟩) (o32 237 255).size cp21 :: .pointer (some ⟨q20, 31, none⟩) :: .tuple #[.agg (pr 0 0), .bool false] :: .slice (some ⟨q20, 0, none⟩) (o32 237 255).size cp21 :: .string kP :: .tuple #[.agg (pr 0 0), .bool false] :: .agg (pr 0 0) :: .bool false :: .tuple #[.agg (pr 0 0), .bool false] :: .string (o31 1 0) :: .tuple #[.agg (pr 0 0), .bool false] :: .agg (pr 0 0) :: .bool false :: .agg (pr bX ((subP bY 1))) :: .string (o32 2 0) :: .agg (pr x1 y1) :: List.replicate 96 un).toArray, []⟩) (by kernel_rfl) ?_
  refine wp_seq ?_
  -- region 9
  refine wl_region ?_
  refine wl_call (v := .string sL) h54 (by kernel_rfl) enter31 #[.string hexl] (by kernel_rfl) (hl_hex w53) ?_
  intro w55 h56
  refine wl_val (.string sL) (by kernel_rfl) (by kernel_rfl) ?_
  refine wl_nil ?_
  refine then_at (F := ⟨(.bool false :: .slice (some ⟨q3, 0, none⟩) (o32 1 0).size cp4 :: pt q13 :: .bool false :: .slice (some ⟨q20, 0, none⟩) (o32 237 255).size cp21 :: pt q30 :: .bool false :: pt q39 :: .bool false :: pt q50 :: .string sL :: un :: un :: .string (o32 1 0) :: .slice (some ⟨q3, 0, none⟩) (o32 1 0).size cp4 :: .slice (some ⟨q3, 0, none⟩) (o32 1 0).size cp4 :: .pointer (some ⟨q3, 31, none⟩) :: .tuple #[.agg (pr 0 0), .bool false] :: .slice (some ⟨q3, 0, none⟩) (o32 1 0).size cp4 :: .string kOne :: .tuple #[.agg (pr 0 0), .bool false] :: .agg (pr 0 0) :: .bool false :: .string (o32 237 255) :: .slice (some ⟨q20, 0, none⟩) (o32 237 255).size cp21 :: .slice (some ⟨q20, 0, none⟩) (o32 237 255).size cp21 :: .pointer (some ⟨q20, 31, none⟩) :: .tuple #[.agg (pr 0 0), .bool false] :: .slice (some ⟨q20, 0, none⟩) (o32 237 255).size cp21 :: .string kP :: .tuple #[.agg (pr 0 0), .bool false] :: .agg (pr 0 0) :: .bool false :: .tuple #[.agg (pr 0 0), .bool false] :: .string (o31 1 0) :: .tuple #[.agg (pr 0 0), .bool false] :: .agg (pr 0 0) :: .bool false :: .agg (pr bX ((subP bY 1))) :: .string (o32 2 0) :: .agg (pr x1 y1) :: .string sL :: List.replicate 95 un).toArray, []⟩) (by kernel_rfl) ?_
  refine wp_seq ?_
  -- region 10
  refine wl_region ?_
  refine wl_call (v := .string (o32 246 255)) h56 (by kernel_rfl) enter36 #[iN .u8 246, iN .i64 32, iN .u8 255] (by kernel_rfl) (of_any 246 255 w55) ?_
  intro w57 h58
  refine wl_bytes (s := (o32 246 255)) h58 (by kernel_rfl) (by kernel_rfl) ?_
  intro q59 cp60 m61 w62 h63
  refine wl_val (.slice (some ⟨q59, 0, none⟩) (o32 246 255).size cp60) (by kernel_rfl) (by kernel_rfl) ?_
  refine wl_nil ?_
  refine then_at (F := ⟨(.bool false :: .slice (some ⟨q3, 0, none⟩) (o32 1 0).size cp4 :: pt q13 :: .bool false :: .slice (some ⟨q20, 0, none⟩) (o32 237 255).size cp21 :: pt q30 :: .bool false :: pt q39 :: .bool false :: pt q50 :: .string sL :: .slice (some ⟨q59, 0, none⟩) (o32 246 255).size cp60 :: un :: .string (o32 1 0) :: .slice (some ⟨q3, 0, none⟩) (o32 1 0).size cp4 :: .slice (some ⟨q3, 0, none⟩) (o32 1 0).size cp4 :: .pointer (some ⟨q3, 31, none⟩) :: .tuple #[.agg (pr 0 0), .bool false] :: .slice (some ⟨q3, 0, none⟩) (o32 1 0).size cp4 :: .string kOne :: .tuple #[.agg (pr 0 0), .bool false] :: .agg (pr 0 0) :: .bool false :: .string (o32 237 255) :: .slice (some ⟨q20, 0, none⟩) (o32 237 255).size cp21 :: .slice (some ⟨q20, 0, none⟩) (o32 237 255).size cp21 :: .pointer (some ⟨q20, 31, none⟩) :: .tuple #[.agg (pr 0 0), .bool false] :: .slice (some ⟨q20, 0, none⟩) (o32 237 255).size cp21 :: .string kP :: .tuple #[.agg (pr 0 0), .bool false] :: .agg (pr 0 0) :: .bool false :: .tuple #[.agg (pr 0 0), .bool false] :: .string (o31 1 0) :: .tuple #[.agg (pr 0 0), .bool false] :: .agg (pr 0 0) :: .bool false :: .agg (pr bX ((subP bY 1))) :: .string (o32 2 0) :: .agg (pr x1 y1) :: .string sL :: .string (o32 246 255) :: .slice (some ⟨q59, 0, none⟩) (o32 246 255).size cp60 :: List.replicate 93 un).toArray, []⟩) (by kernel_rfl) ?_
  refine wp_seq ?_
  -- region 11
  refine wl_region ?_
  refine wl_val (.slice (some ⟨q59, 0, none⟩) (o32 246 255).size cp60) (by kernel_rfl) (by kernel_rfl) ?_
  refine wl_val (.pointer (some ⟨q59, 31, none⟩)) (by kernel_rfl) (run_addr_slice (q := q59) (n := (o32 246 255).size) (m := cp60) (a := 31) Tryd.underlying60 (fun w => Tryd.sizeOf5 w) (by kernel_rfl) (by kernel_rfl) (show 31 < (o32 246 255).size by decide +kernel)) ?_
  refine wl_put (k := .u8) (z := ((127 : Nat) : Int)) h63 0 rfl 31 (by rw [byC_size]; exact Nat.lt_add_right _ (show 31 < (bl (o32 246 255)).length by decide +kernel)) (by kernel_rfl) (fun w => Tryd.sizeOf5 w) (by kernel_rfl) (by kernel_rfl) ?_
  intro w64 h65
  have h66 : HA w [(q59, 5, byC ((bl ((o32 246 255))).set 31 (UInt8.ofNat (127))) m61), (q50, 27, pr x1 y1), (q39, 27, pr 0 0), (q30, 27, pr 0 0), (q20, 5, byC ((bl ((o32 237 255))).set 31 (UInt8.ofNat (127))) m22), (q13, 27, pr 0 0), (q3, 5, byC ((bl ((o32 1 0))).set 31 (UInt8.ofNat (128))) m5)] w64 := (by rw [← byC_put (bl ((o32 246 255))) m61 31 (127) (show 31 < (bl (o32 246 255)).length by decide +kernel) (by decide)]; exact h65)
  clear h65
  refine wl_nil ?_
  refine then_at (F := ⟨(.bool false :: .slice (some ⟨q3, 0, none⟩) (o32 1 0).size cp4 :: pt q13 :: .bool false :: .slice (some ⟨q20, 0, none⟩) (o32 237 255).size cp21 :: pt q30 :: .bool false :: pt q39 :: .bool false :: pt q50 :: .string sL :: .slice (some ⟨q59, 0, none⟩) (o32 246 255).size cp60 :: un :: .string (o32 1 0) :: .slice (some ⟨q3, 0, none⟩) (o32 1 0).size cp4 :: .slice (some ⟨q3, 0, none⟩) (o32 1 0).size cp4 :: .pointer (some ⟨q3, 31, none⟩) :: .tuple #[.agg (pr 0 0), .bool false] :: .slice (some ⟨q3, 0, none⟩) (o32 1 0).size cp4 :: .string kOne :: .tuple #[.agg (pr 0 0), .bool false] :: .agg (pr 0 0) :: .bool false :: .string (o32 237 255) :: .slice (some ⟨q20, 0, none⟩) (o32 237 255).size cp21 :: .slice (some ⟨q20, 0, none⟩) (o32 237 255).size cp21 :: .pointer (some ⟨q20, 31, none⟩) :: .tuple #[.agg (pr 0 0), .bool false] :: .slice (some ⟨q20, 0, none⟩) (o32 237 255).size cp21 :: .string kP :: .tuple #[.agg (pr 0 0), .bool false] :: .agg (pr 0 0) :: .bool false :: .tuple #[.agg (pr 0 0), .bool false] :: .string (o31 1 0) :: .tuple #[.agg (pr 0 0), .bool false] :: .agg (pr 0 0) :: .bool false :: .agg (pr bX ((subP bY 1))) :: .string (o32 2 0) :: .agg (pr x1 y1) :: .string sL :: .string (o32 246 255) :: .slice (some ⟨q59, 0, none⟩) (o32 246 255).size cp60 :: .slice (some ⟨q59, 0, none⟩) (o32 246 255).size cp60 :: .pointer (some ⟨q59, 31, none⟩) :: List.replicate 91 un).toArray, []⟩) (by kernel_rfl) ?_
  refine wp_seq ?_
  refine wp_seq ?_
  -- region 12
  obtain ⟨x2, y2, n2, c2⟩ := neg_ex Pn.base
  refine wp_region_sure ⟨(.bool false :: .slice (some ⟨q3, 0, none⟩) (o32 1 0).size cp4 :: pt q13 :: .bool false :: .slice (some ⟨q20, 0, none⟩) (o32 237 255).size cp21 :: pt q30 :: .bool false :: pt q39 :: .bool false :: pt q50 :: .string sL :: .slice (some ⟨q59, 0, none⟩) (o32 246 255).size cp60 :: un :: .string (o32 1 0) :: .slice (some ⟨q3, 0, none⟩) (o32 1 0).size cp4 :: .slice (some ⟨q3, 0, none⟩) (o32 1 0).size cp4 :: .pointer (some ⟨q3, 31, none⟩) :: .tuple #[.agg (pr 0 0), .bool false] :: .slice (some ⟨q3, 0, none⟩) (o32 1 0).size cp4 :: .string kOne :: .tuple #[.agg (pr 0 0), .bool false] :: .agg (pr 0 0) :: .bool false :: .string (o32 237 255) :: .slice (some ⟨q20, 0, none⟩) (o32 237 255).size cp21 :: .slice (some ⟨q20, 0, none⟩) (o32 237 255).size cp21 :: .pointer (some ⟨q20, 31, none⟩) :: .tuple #[.agg (pr 0 0), .bool false] :: .slice (some ⟨q20, 0, none⟩) (o32 237 255).size cp21 :: .string kP :: .tuple #[.agg (pr 0 0), .bool false] :: .agg (pr 0 0) :: .bool false :: .tuple #[.agg (pr 0 0), .bool false] :: .string (o31 1 0) :: .tuple #[.agg (pr 0 0), .bool false] :: .agg (pr 0 0) :: .bool false :: .agg (pr bX ((subP bY 1))) :: .string (o32 2 0) :: .agg (pr x1 y1) :: .string sL :: .string (o32 246 255) :: .slice (some ⟨q59, 0, none⟩) (o32 246 255).size cp60 :: .slice (some ⟨q59, 0, none⟩) (o32 246 255).size cp60 :: .pointer (some ⟨q59, 31, none⟩) :: .string (o32 9 0) :: .slice (some ⟨q59, 0, none⟩) (o32 246 255).size cp60 :: .string kHi :: .string (bytesOf (xP (o32 9 0) kHi)) :: .string (o32 9 0) :: .string (o32 9 0) :: .string (bytesOf (xP (o32 9 0) (o32 9 0))) :: .bool false :: .bool false :: .agg (pr bX ((subP bY 1))) :: .agg (pr bX ((subP bY 1))) :: .agg (pr x2 y2) :: .bool false :: .bool false :: List.replicate 77 un).toArray, []⟩ (HA w [(q59, 5, byC ((bl ((o32 246 255))).set 31 (UInt8.ofNat (127))) m61), (q50, 27, pr x1 y1), (q39, 27, pr 0 0), (q30, 27, pr 0 0), (q20, 5, byC ((bl ((o32 237 255))).set 31 (UInt8.ofNat (127))) m22), (q13, 27, pr 0 0), (q3, 5, byC ((bl ((o32 1 0))).set 31 (UInt8.ofNat (128))) m5)]) [.string (o32 9 0), .slice (some ⟨q59, 0, none⟩) (o32 246 255).size cp60, .string kHi, .string (bytesOf (xP (o32 9 0) kHi)), .string (o32 9 0), .string (o32 9 0), .string (bytesOf (xP (o32 9 0) (o32 9 0))), .bool false, .bool false, .agg (pr bX ((subP bY 1))), .agg (pr bX ((subP bY 1))), .agg (pr x2 y2), .bool false, .bool false] (by kernel_rfl) (by kernel_rfl) (by kernel_rfl) (by kernel_rfl) (fun _ _ _ h => h) h66.drew ?_ ?_
  · refine AllSure.cons (sure_call (v := .string (o32 9 0)) (by kernel_rfl) (by kernel_rfl) enter36 HA.keep #[iN .u8 9, iN .i64 32, iN .u8 0] (by kernel_rfl) (fun w' h' => of_any 9 0 w')) ?_
    refine AllSure.cons (OpSure.take (v := .slice (some ⟨q59, 0, none⟩) (o32 246 255).size cp60) (by kernel_rfl) (by kernel_rfl) (fun _ _ => (by kernel_rfl))) ?_
    refine AllSure.cons (OpSure.take (v := .string kHi) (by kernel_rfl) (by kernel_rfl) (fun w' h' => (by rw [← kHi_is]; exact run_byText (n := (o32 246 255).size) (c := cp60) (m := m61) (l := (bl ((o32 246 255))).set 31 (UInt8.ofNat (127))) (by decide +kernel) (by kernel_rfl) (h'.get 0 rfl)))) ?_
    refine AllSure.cons (sure_call (v := .string (bytesOf (xP (o32 9 0) kHi))) (by kernel_rfl) (by kernel_rfl) enter26 HA.keep #[.string (o32 9 0), .string kHi] (by kernel_rfl) (fun w' h' => x25519_yes (o32 9 0) kHi rfl rfl w' (VV.below h'.old VV.big))) ?_
    refine AllSure.cons (sure_call (v := .string (o32 9 0)) (by kernel_rfl) (by kernel_rfl) enter36 HA.keep #[iN .u8 9, iN .i64 32, iN .u8 0] (by kernel_rfl) (fun w' h' => of_any 9 0 w')) ?_
    refine AllSure.cons (sure_call (v := .string (o32 9 0)) (by kernel_rfl) (by kernel_rfl) enter36 HA.keep #[iN .u8 9, iN .i64 32, iN .u8 0] (by kernel_rfl) (fun w' h' => of_any 9 0 w')) ?_
    refine AllSure.cons (sure_call (v := .string (bytesOf (xP (o32 9 0) (o32 9 0)))) (by kernel_rfl) (by kernel_rfl) enter26 HA.keep #[.string (o32 9 0), .string (o32 9 0)] (by kernel_rfl) (fun w' h' => x25519_yes (o32 9 0) (o32 9 0) rfl rfl w' (VV.below h'.old VV.big))) ?_
    refine AllSure.cons (OpSure.take (v := .bool false) (by kernel_rfl) (by kernel_rfl) (fun _ _ => (run_nes (s := (bytesOf (xP (o32 9 0) kHi))) (t := (bytesOf (xP (o32 9 0) (o32 9 0)))) (by kernel_rfl) (by kernel_rfl) false (decide_eq_false (not_not_intro nine_hi_s))))) ?_
    refine AllSure.cons (OpSure.take (v := .bool false) (by kernel_rfl) (by kernel_rfl) (fun _ _ => (by kernel_rfl))) ?_
    refine AllSure.cons (sure_call (v := .agg (pr bX ((subP bY 1)))) (by kernel_rfl) (by kernel_rfl) enter32 HA.keep #[] (by kernel_rfl) (fun w' h' => Base_any w' (VV.below h'.old VV.big))) ?_
    refine AllSure.cons (sure_call (v := .agg (pr bX ((subP bY 1)))) (by kernel_rfl) (by kernel_rfl) enter32 HA.keep #[] (by kernel_rfl) (fun w' h' => Base_any w' (VV.below h'.old VV.big))) ?_
    refine AllSure.cons (sure_call (v := .agg (pr x2 y2)) (by kernel_rfl) (by kernel_rfl) enter20 HA.keep #[.agg (pr bX ((subP bY 1)))] (by kernel_rfl) (fun w' h' => c2 w' (VV.below h'.old VV.big))) ?_
    refine AllSure.cons (sure_call (v := .bool false) (by kernel_rfl) (by kernel_rfl) enter22 HA.keep #[.agg (pr bX ((subP bY 1))), .agg (pr x2 y2)] (by kernel_rfl) (fun w' h' => same_no Pn.base n2 (base_neg) w')) ?_
    refine AllSure.cons (OpSure.take (v := .bool false) (by kernel_rfl) (by kernel_rfl) (fun _ _ => (by kernel_rfl))) ?_
    exact AllSure.nil
  intro w67 h68
  refine then_at (F := ⟨(.bool false :: .slice (some ⟨q3, 0, none⟩) (o32 1 0).size cp4 :: pt q13 :: .bool false :: .slice (some ⟨q20, 0, none⟩) (o32 237 255).size cp21 :: pt q30 :: .bool false :: pt q39 :: .bool false :: pt q50 :: .string sL :: .slice (some ⟨q59, 0, none⟩) (o32 246 255).size cp60 :: un :: .string (o32 1 0) :: .slice (some ⟨q3, 0, none⟩) (o32 1 0).size cp4 :: .slice (some ⟨q3, 0, none⟩) (o32 1 0).size cp4 :: .pointer (some ⟨q3, 31, none⟩) :: .tuple #[.agg (pr 0 0), .bool false] :: .slice (some ⟨q3, 0, none⟩) (o32 1 0).size cp4 :: .string kOne :: .tuple #[.agg (pr 0 0), .bool false] :: .agg (pr 0 0) :: .bool false :: .string (o32 237 255) :: .slice (some ⟨q20, 0, none⟩) (o32 237 255).size cp21 :: .slice (some ⟨q20, 0, none⟩) (o32 237 255).size cp21 :: .pointer (some ⟨q20, 31, none⟩) :: .tuple #[.agg (pr 0 0), .bool false] :: .slice (some ⟨q20, 0, none⟩) (o32 237 255).size cp21 :: .string kP :: .tuple #[.agg (pr 0 0), .bool false] :: .agg (pr 0 0) :: .bool false :: .tuple #[.agg (pr 0 0), .bool false] :: .string (o31 1 0) :: .tuple #[.agg (pr 0 0), .bool false] :: .agg (pr 0 0) :: .bool false :: .agg (pr bX ((subP bY 1))) :: .string (o32 2 0) :: .agg (pr x1 y1) :: .string sL :: .string (o32 246 255) :: .slice (some ⟨q59, 0, none⟩) (o32 246 255).size cp60 :: .slice (some ⟨q59, 0, none⟩) (o32 246 255).size cp60 :: .pointer (some ⟨q59, 31, none⟩) :: .string (o32 9 0) :: .slice (some ⟨q59, 0, none⟩) (o32 246 255).size cp60 :: .string kHi :: .string (bytesOf (xP (o32 9 0) kHi)) :: .string (o32 9 0) :: .string (o32 9 0) :: .string (bytesOf (xP (o32 9 0) (o32 9 0))) :: .bool false :: .bool false :: .agg (pr bX ((subP bY 1))) :: .agg (pr bX ((subP bY 1))) :: .agg (pr x2 y2) :: .bool false :: .bool false :: List.replicate 77 un).toArray, []⟩) (by kernel_rfl) ?_
  refine wp_cond_false (by kernel_rfl) ?_
  refine wp_skip ?_
  refine then_at (F := ⟨(.bool false :: .slice (some ⟨q3, 0, none⟩) (o32 1 0).size cp4 :: pt q13 :: .bool false :: .slice (some ⟨q20, 0, none⟩) (o32 237 255).size cp21 :: pt q30 :: .bool false :: pt q39 :: .bool false :: pt q50 :: .string sL :: .slice (some ⟨q59, 0, none⟩) (o32 246 255).size cp60 :: un :: .string (o32 1 0) :: .slice (some ⟨q3, 0, none⟩) (o32 1 0).size cp4 :: .slice (some ⟨q3, 0, none⟩) (o32 1 0).size cp4 :: .pointer (some ⟨q3, 31, none⟩) :: .tuple #[.agg (pr 0 0), .bool false] :: .slice (some ⟨q3, 0, none⟩) (o32 1 0).size cp4 :: .string kOne :: .tuple #[.agg (pr 0 0), .bool false] :: .agg (pr 0 0) :: .bool false :: .string (o32 237 255) :: .slice (some ⟨q20, 0, none⟩) (o32 237 255).size cp21 :: .slice (some ⟨q20, 0, none⟩) (o32 237 255).size cp21 :: .pointer (some ⟨q20, 31, none⟩) :: .tuple #[.agg (pr 0 0), .bool false] :: .slice (some ⟨q20, 0, none⟩) (o32 237 255).size cp21 :: .string kP :: .tuple #[.agg (pr 0 0), .bool false] :: .agg (pr 0 0) :: .bool false :: .tuple #[.agg (pr 0 0), .bool false] :: .string (o31 1 0) :: .tuple #[.agg (pr 0 0), .bool false] :: .agg (pr 0 0) :: .bool false :: .agg (pr bX ((subP bY 1))) :: .string (o32 2 0) :: .agg (pr x1 y1) :: .string sL :: .string (o32 246 255) :: .slice (some ⟨q59, 0, none⟩) (o32 246 255).size cp60 :: .slice (some ⟨q59, 0, none⟩) (o32 246 255).size cp60 :: .pointer (some ⟨q59, 31, none⟩) :: .string (o32 9 0) :: .slice (some ⟨q59, 0, none⟩) (o32 246 255).size cp60 :: .string kHi :: .string (bytesOf (xP (o32 9 0) kHi)) :: .string (o32 9 0) :: .string (o32 9 0) :: .string (bytesOf (xP (o32 9 0) (o32 9 0))) :: .bool false :: .bool false :: .agg (pr bX ((subP bY 1))) :: .agg (pr bX ((subP bY 1))) :: .agg (pr x2 y2) :: .bool false :: .bool false :: List.replicate 77 un).toArray, []⟩) (by kernel_rfl) ?_
  refine wp_seq ?_
  -- region 14
  refine wl_region ?_
  refine wl_make h68 27 (by kernel_rfl) run_alloc27 ?_
  intro q69 w70 h71
  refine wl_nil ?_
  refine then_at (F := ⟨(.bool false :: .slice (some ⟨q3, 0, none⟩) (o32 1 0).size cp4 :: pt q13 :: .bool false :: .slice (some ⟨q20, 0, none⟩) (o32 237 255).size cp21 :: pt q30 :: .bool false :: pt q39 :: .bool false :: pt q50 :: .string sL :: .slice (some ⟨q59, 0, none⟩) (o32 246 255).size cp60 :: pt q69 :: .string (o32 1 0) :: .slice (some ⟨q3, 0, none⟩) (o32 1 0).size cp4 :: .slice (some ⟨q3, 0, none⟩) (o32 1 0).size cp4 :: .pointer (some ⟨q3, 31, none⟩) :: .tuple #[.agg (pr 0 0), .bool false] :: .slice (some ⟨q3, 0, none⟩) (o32 1 0).size cp4 :: .string kOne :: .tuple #[.agg (pr 0 0), .bool false] :: .agg (pr 0 0) :: .bool false :: .string (o32 237 255) :: .slice (some ⟨q20, 0, none⟩) (o32 237 255).size cp21 :: .slice (some ⟨q20, 0, none⟩) (o32 237 255).size cp21 :: .pointer (some ⟨q20, 31, none⟩) :: .tuple #[.agg (pr 0 0), .bool false] :: .slice (some ⟨q20, 0, none⟩) (o32 237 255).size cp21 :: .string kP :: .tuple #[.agg (pr 0 0), .bool false] :: .agg (pr 0 0) :: .bool false :: .tuple #[.agg (pr 0 0), .bool false] :: .string (o31 1 0) :: .tuple #[.agg (pr 0 0), .bool false] :: .agg (pr 0 0) :: .bool false :: .agg (pr bX ((subP bY 1))) :: .string (o32 2 0) :: .agg (pr x1 y1) :: .string sL :: .string (o32 246 255) :: .slice (some ⟨q59, 0, none⟩) (o32 246 255).size cp60 :: .slice (some ⟨q59, 0, none⟩) (o32 246 255).size cp60 :: .pointer (some ⟨q59, 31, none⟩) :: .string (o32 9 0) :: .slice (some ⟨q59, 0, none⟩) (o32 246 255).size cp60 :: .string kHi :: .string (bytesOf (xP (o32 9 0) kHi)) :: .string (o32 9 0) :: .string (o32 9 0) :: .string (bytesOf (xP (o32 9 0) (o32 9 0))) :: .bool false :: .bool false :: .agg (pr bX ((subP bY 1))) :: .agg (pr bX ((subP bY 1))) :: .agg (pr x2 y2) :: .bool false :: .bool false :: List.replicate 77 un).toArray, []⟩) (by kernel_rfl) ?_
  refine wp_seq ?_
  -- region 15
  obtain ⟨x3, y3, n3, c3⟩ := add_ex Pn.base Pn.base
  obtain ⟨x4, y4, n4, c4⟩ := mul_ex Pn.base sL (show sL.size = 32 from rfl)
  obtain ⟨x5, y5, n5, c5⟩ := add_ex Pn.none Pn.base
  refine wp_region_sure ⟨(.bool true :: .slice (some ⟨q3, 0, none⟩) (o32 1 0).size cp4 :: pt q13 :: .bool false :: .slice (some ⟨q20, 0, none⟩) (o32 237 255).size cp21 :: pt q30 :: .bool false :: pt q39 :: .bool false :: pt q50 :: .string sL :: .slice (some ⟨q59, 0, none⟩) (o32 246 255).size cp60 :: pt q69 :: .string (o32 1 0) :: .slice (some ⟨q3, 0, none⟩) (o32 1 0).size cp4 :: .slice (some ⟨q3, 0, none⟩) (o32 1 0).size cp4 :: .pointer (some ⟨q3, 31, none⟩) :: .tuple #[.agg (pr 0 0), .bool false] :: .slice (some ⟨q3, 0, none⟩) (o32 1 0).size cp4 :: .string kOne :: .tuple #[.agg (pr 0 0), .bool false] :: .agg (pr 0 0) :: .bool false :: .string (o32 237 255) :: .slice (some ⟨q20, 0, none⟩) (o32 237 255).size cp21 :: .slice (some ⟨q20, 0, none⟩) (o32 237 255).size cp21 :: .pointer (some ⟨q20, 31, none⟩) :: .tuple #[.agg (pr 0 0), .bool false] :: .slice (some ⟨q20, 0, none⟩) (o32 237 255).size cp21 :: .string kP :: .tuple #[.agg (pr 0 0), .bool false] :: .agg (pr 0 0) :: .bool false :: .tuple #[.agg (pr 0 0), .bool false] :: .string (o31 1 0) :: .tuple #[.agg (pr 0 0), .bool false] :: .agg (pr 0 0) :: .bool false :: .agg (pr bX ((subP bY 1))) :: .string (o32 2 0) :: .agg (pr x1 y1) :: .string sL :: .string (o32 246 255) :: .slice (some ⟨q59, 0, none⟩) (o32 246 255).size cp60 :: .slice (some ⟨q59, 0, none⟩) (o32 246 255).size cp60 :: .pointer (some ⟨q59, 31, none⟩) :: .string (o32 9 0) :: .slice (some ⟨q59, 0, none⟩) (o32 246 255).size cp60 :: .string kHi :: .string (bytesOf (xP (o32 9 0) kHi)) :: .string (o32 9 0) :: .string (o32 9 0) :: .string (bytesOf (xP (o32 9 0) (o32 9 0))) :: .bool false :: .bool false :: .agg (pr bX ((subP bY 1))) :: .agg (pr bX ((subP bY 1))) :: .agg (pr x2 y2) :: .bool false :: .bool false :: .bool true :: .bool true :: .bool false :: .bool true :: .bool true :: .bool true :: .bool false :: .bool true :: .bool true :: .bool true :: .bool false :: .bool true :: .bool true :: .bool true :: .agg (pr x1 y1) :: .string (encP (mP bP (numS (o32 2 0)))) :: .string h2s :: .bool true :: .bool true :: .bool true :: .agg (pr x1 y1) :: .agg (pr bX ((subP bY 1))) :: .agg (pr bX ((subP bY 1))) :: .agg (pr x3 y3) :: .bool true :: .bool true :: .bool true :: .agg (pr bX ((subP bY 1))) :: .string sL :: .agg (pr x4 y4) :: .agg (pr 0 0) :: .bool true :: .bool true :: .bool true :: .agg (pr bX ((subP bY 1))) :: .string (o31 2 0) :: .agg (pr 0 0) :: .agg (pr 0 0) :: .bool true :: .bool true :: .bool true :: .string hAs :: .string hBs :: .string (bytesOf (xP hAs hBs)) :: .string hCs :: .bool true :: .bool true :: .bool true :: .string (o31 1 0) :: .string (o32 9 0) :: .string { data := #[] } :: .bool true :: .bool true :: .bool true :: .string (o32 1 0) :: .string (o33 9 0) :: .string { data := #[] } :: .bool true :: .bool true :: .bool true :: .agg (pr 0 0) :: .agg (pr 0 0) :: .bool true :: .bool true :: .bool true :: .agg (pr 0 0) :: .agg (pr bX ((subP bY 1))) :: .agg (pr x5 y5) :: .agg (pr bX ((subP bY 1))) :: .bool true :: .bool true :: .bool true :: .agg (pr 0 0) :: .string (encP nP) :: .string (o32 1 0) :: .bool true :: .bool true :: List.replicate 0 un).toArray, []⟩ (HA w [(q69, 27, pr 0 0), (q59, 5, byC ((bl ((o32 246 255))).set 31 (UInt8.ofNat (127))) m61), (q50, 27, pr x1 y1), (q39, 27, pr 0 0), (q30, 27, pr 0 0), (q20, 5, byC ((bl ((o32 237 255))).set 31 (UInt8.ofNat (127))) m22), (q13, 27, pr 0 0), (q3, 5, byC ((bl ((o32 1 0))).set 31 (UInt8.ofNat (128))) m5)]) [.bool true, .bool true, .bool false, .bool true, .bool true, .bool true, .bool false, .bool true, .bool true, .bool true, .bool false, .bool true, .bool true, .bool true, .agg (pr x1 y1), .string (encP (mP bP (numS (o32 2 0)))), .string h2s, .bool true, .bool true, .bool true, .agg (pr x1 y1), .agg (pr bX ((subP bY 1))), .agg (pr bX ((subP bY 1))), .agg (pr x3 y3), .bool true, .bool true, .bool true, .agg (pr bX ((subP bY 1))), .string sL, .agg (pr x4 y4), .agg (pr 0 0), .bool true, .bool true, .bool true, .agg (pr bX ((subP bY 1))), .string (o31 2 0), .agg (pr 0 0), .agg (pr 0 0), .bool true, .bool true, .bool true, .string hAs, .string hBs, .string (bytesOf (xP hAs hBs)), .string hCs, .bool true, .bool true, .bool true, .string (o31 1 0), .string (o32 9 0), .string { data := #[] }, .bool true, .bool true, .bool true, .string (o32 1 0), .string (o33 9 0), .string { data := #[] }, .bool true, .bool true, .bool true, .agg (pr 0 0), .agg (pr 0 0), .bool true, .bool true, .bool true, .agg (pr 0 0), .agg (pr bX ((subP bY 1))), .agg (pr x5 y5), .agg (pr bX ((subP bY 1))), .bool true, .bool true, .bool true, .agg (pr 0 0), .string (encP nP), .string (o32 1 0), .bool true, .bool true, .bool true] (by kernel_rfl) (by kernel_rfl) (by kernel_rfl) (by kernel_rfl) (fun _ _ _ h => h) h71.drew ?_ ?_
  · refine AllSure.cons (sure_call (v := .bool true) (by kernel_rfl) (by kernel_rfl) enter16 HA.keep #[] (by kernel_rfl) (fun w' h' => works_any w' (VV.below h'.old VV.big))) ?_
    refine AllSure.cons (OpSure.take (v := .bool true) (by kernel_rfl) (by kernel_rfl) (fun _ _ => (by kernel_rfl))) ?_
    refine AllSure.cons (OpSure.take (v := .bool false) (by kernel_rfl) (by kernel_rfl) (fun _ _ => (by kernel_rfl))) ?_
    refine AllSure.cons (OpSure.take (v := .bool true) (by kernel_rfl) (by kernel_rfl) (fun _ _ => (by kernel_rfl))) ?_
    refine AllSure.cons (OpSure.take (v := .bool true) (by kernel_rfl) (by kernel_rfl) (fun _ _ => (by kernel_rfl))) ?_
    refine AllSure.cons (OpSure.take (v := .bool true) (by kernel_rfl) (by kernel_rfl) (fun _ _ => (by kernel_rfl))) ?_
    refine AllSure.cons (OpSure.take (v := .bool false) (by kernel_rfl) (by kernel_rfl) (fun _ _ => (by kernel_rfl))) ?_
    refine AllSure.cons (OpSure.take (v := .bool true) (by kernel_rfl) (by kernel_rfl) (fun _ _ => (by kernel_rfl))) ?_
    refine AllSure.cons (OpSure.take (v := .bool true) (by kernel_rfl) (by kernel_rfl) (fun _ _ => (by kernel_rfl))) ?_
    refine AllSure.cons (OpSure.take (v := .bool true) (by kernel_rfl) (by kernel_rfl) (fun _ _ => (by kernel_rfl))) ?_
    refine AllSure.cons (OpSure.take (v := .bool false) (by kernel_rfl) (by kernel_rfl) (fun _ _ => (by kernel_rfl))) ?_
    refine AllSure.cons (OpSure.take (v := .bool true) (by kernel_rfl) (by kernel_rfl) (fun _ _ => (by kernel_rfl))) ?_
    refine AllSure.cons (OpSure.take (v := .bool true) (by kernel_rfl) (by kernel_rfl) (fun _ _ => (by kernel_rfl))) ?_
    refine AllSure.cons (OpSure.take (v := .bool true) (by kernel_rfl) (by kernel_rfl) (fun _ _ => (by kernel_rfl))) ?_
    refine AllSure.cons (OpSure.take (v := .agg (pr x1 y1)) (by kernel_rfl) (by kernel_rfl) (fun _ h => run_load_blk (by kernel_rfl) (h.get 2 rfl) Tryd.underlying27 rfl (info27p x1 y1))) ?_
    refine AllSure.cons (sure_call (v := .string (encP (mP bP (numS (o32 2 0))))) (by kernel_rfl) (by kernel_rfl) enter14 HA.keep #[.agg (pr x1 y1)] (by kernel_rfl) (fun w' h' => bytes_ex n1 w' (VV.below h'.old VV.big))) ?_
    refine AllSure.cons (sure_call (v := .string h2s) (by kernel_rfl) (by kernel_rfl) enter31 HA.keep #[.string h2x] (by kernel_rfl) (fun w' h' => h2_hex w')) ?_
    refine AllSure.cons (OpSure.take (v := .bool true) (by kernel_rfl) (by kernel_rfl) (fun _ _ => (run_eqs (s := (encP (mP bP (numS (o32 2 0))))) (t := h2s) (by kernel_rfl) (by kernel_rfl) true (decide_eq_true two_enc2)))) ?_
    refine AllSure.cons (OpSure.take (v := .bool true) (by kernel_rfl) (by kernel_rfl) (fun _ _ => (by kernel_rfl))) ?_
    refine AllSure.cons (OpSure.take (v := .bool true) (by kernel_rfl) (by kernel_rfl) (fun _ _ => (by kernel_rfl))) ?_
    refine AllSure.cons (OpSure.take (v := .agg (pr x1 y1)) (by kernel_rfl) (by kernel_rfl) (fun _ h => run_load_blk (by kernel_rfl) (h.get 2 rfl) Tryd.underlying27 rfl (info27p x1 y1))) ?_
    refine AllSure.cons (sure_call (v := .agg (pr bX ((subP bY 1)))) (by kernel_rfl) (by kernel_rfl) enter32 HA.keep #[] (by kernel_rfl) (fun w' h' => Base_any w' (VV.below h'.old VV.big))) ?_
    refine AllSure.cons (sure_call (v := .agg (pr bX ((subP bY 1)))) (by kernel_rfl) (by kernel_rfl) enter32 HA.keep #[] (by kernel_rfl) (fun w' h' => Base_any w' (VV.below h'.old VV.big))) ?_
    refine AllSure.cons (sure_call (v := .agg (pr x3 y3)) (by kernel_rfl) (by kernel_rfl) enter18 HA.keep #[.agg (pr bX ((subP bY 1))), .agg (pr bX ((subP bY 1)))] (by kernel_rfl) (fun w' h' => c3 w' (VV.below h'.old VV.big))) ?_
    refine AllSure.cons (sure_call (v := .bool true) (by kernel_rfl) (by kernel_rfl) enter22 HA.keep #[.agg (pr x1 y1), .agg (pr x3 y3)] (by kernel_rfl) (fun w' h' => same_yes n1 n3 (by rw [num2o]; exact two_sum) w')) ?_
    refine AllSure.cons (OpSure.take (v := .bool true) (by kernel_rfl) (by kernel_rfl) (fun _ _ => (by kernel_rfl))) ?_
    refine AllSure.cons (OpSure.take (v := .bool true) (by kernel_rfl) (by kernel_rfl) (fun _ _ => (by kernel_rfl))) ?_
    refine AllSure.cons (sure_call (v := .agg (pr bX ((subP bY 1)))) (by kernel_rfl) (by kernel_rfl) enter32 HA.keep #[] (by kernel_rfl) (fun w' h' => Base_any w' (VV.below h'.old VV.big))) ?_
    refine AllSure.cons (OpSure.take (v := .string sL) (by kernel_rfl) (by kernel_rfl) (fun _ _ => (by kernel_rfl))) ?_
    refine AllSure.cons (sure_call (v := .agg (pr x4 y4)) (by kernel_rfl) (by kernel_rfl) enter24 HA.keep #[.agg (pr bX ((subP bY 1))), .string sL] (by kernel_rfl) (fun w' h' => c4 w' (VV.below h'.old VV.big))) ?_
    refine AllSure.cons (sure_call (v := .agg (pr 0 0)) (by kernel_rfl) (by kernel_rfl) enter29 HA.keep #[] (by kernel_rfl) (fun w' h' => None_any w')) ?_
    refine AllSure.cons (sure_call (v := .bool true) (by kernel_rfl) (by kernel_rfl) enter22 HA.keep #[.agg (pr x4 y4), .agg (pr 0 0)] (by kernel_rfl) (fun w' h' => same_yes n4 Pn.none (by rw [sL_num]; exact base_ord) w')) ?_
    refine AllSure.cons (OpSure.take (v := .bool true) (by kernel_rfl) (by kernel_rfl) (fun _ _ => (by kernel_rfl))) ?_
    refine AllSure.cons (OpSure.take (v := .bool true) (by kernel_rfl) (by kernel_rfl) (fun _ _ => (by kernel_rfl))) ?_
    refine AllSure.cons (sure_call (v := .agg (pr bX ((subP bY 1)))) (by kernel_rfl) (by kernel_rfl) enter32 HA.keep #[] (by kernel_rfl) (fun w' h' => Base_any w' (VV.below h'.old VV.big))) ?_
    refine AllSure.cons (sure_call (v := .string (o31 2 0)) (by kernel_rfl) (by kernel_rfl) enter36 HA.keep #[iN .u8 2, iN .i64 31, iN .u8 0] (by kernel_rfl) (fun w' h' => of_any31 2 0 w')) ?_
    refine AllSure.cons (sure_call (v := .agg (pr 0 0)) (by kernel_rfl) (by kernel_rfl) enter24 HA.keep #[.agg (pr bX ((subP bY 1))), .string (o31 2 0)] (by kernel_rfl) (fun w' h' => mul_no Pn.base (o31 2 0) (by decide +kernel) w' (VV.below h'.old VV.big))) ?_
    refine AllSure.cons (sure_call (v := .agg (pr 0 0)) (by kernel_rfl) (by kernel_rfl) enter29 HA.keep #[] (by kernel_rfl) (fun w' h' => None_any w')) ?_
    refine AllSure.cons (sure_call (v := .bool true) (by kernel_rfl) (by kernel_rfl) enter22 HA.keep #[.agg (pr 0 0), .agg (pr 0 0)] (by kernel_rfl) (fun w' h' => same_yes Pn.none Pn.none (rfl) w')) ?_
    refine AllSure.cons (OpSure.take (v := .bool true) (by kernel_rfl) (by kernel_rfl) (fun _ _ => (by kernel_rfl))) ?_
    refine AllSure.cons (OpSure.take (v := .bool true) (by kernel_rfl) (by kernel_rfl) (fun _ _ => (by kernel_rfl))) ?_
    refine AllSure.cons (sure_call (v := .string hAs) (by kernel_rfl) (by kernel_rfl) enter31 HA.keep #[.string hAx] (by kernel_rfl) (fun w' h' => hA_hex w')) ?_
    refine AllSure.cons (sure_call (v := .string hBs) (by kernel_rfl) (by kernel_rfl) enter31 HA.keep #[.string hBx] (by kernel_rfl) (fun w' h' => hB_hex w')) ?_
    refine AllSure.cons (sure_call (v := .string (bytesOf (xP hAs hBs))) (by kernel_rfl) (by kernel_rfl) enter26 HA.keep #[.string hAs, .string hBs] (by kernel_rfl) (fun w' h' => x25519_yes hAs hBs rfl rfl w' (VV.below h'.old VV.big))) ?_
    refine AllSure.cons (sure_call (v := .string hCs) (by kernel_rfl) (by kernel_rfl) enter31 HA.keep #[.string hCx] (by kernel_rfl) (fun w' h' => hC_hex w')) ?_
    refine AllSure.cons (OpSure.take (v := .bool true) (by kernel_rfl) (by kernel_rfl) (fun _ _ => (run_eqs (s := (bytesOf (xP hAs hBs))) (t := hCs) (by kernel_rfl) (by kernel_rfl) true (decide_eq_true ab_eq)))) ?_
    refine AllSure.cons (OpSure.take (v := .bool true) (by kernel_rfl) (by kernel_rfl) (fun _ _ => (by kernel_rfl))) ?_
    refine AllSure.cons (OpSure.take (v := .bool true) (by kernel_rfl) (by kernel_rfl) (fun _ _ => (by kernel_rfl))) ?_
    refine AllSure.cons (sure_call (v := .string (o31 1 0)) (by kernel_rfl) (by kernel_rfl) enter36 HA.keep #[iN .u8 1, iN .i64 31, iN .u8 0] (by kernel_rfl) (fun w' h' => of_any31 1 0 w')) ?_
    refine AllSure.cons (sure_call (v := .string (o32 9 0)) (by kernel_rfl) (by kernel_rfl) enter36 HA.keep #[iN .u8 9, iN .i64 32, iN .u8 0] (by kernel_rfl) (fun w' h' => of_any 9 0 w')) ?_
    refine AllSure.cons (sure_call (v := .string { data := #[] }) (by kernel_rfl) (by kernel_rfl) enter26 HA.keep #[.string (o31 1 0), .string (o32 9 0)] (by kernel_rfl) (fun w' h' => x25519_no (o31 1 0) (o32 9 0) (by decide +kernel) w' (VV.below h'.old VV.big))) ?_
    refine AllSure.cons (OpSure.take (v := .bool true) (by kernel_rfl) (by kernel_rfl) (fun _ _ => (run_eqs (s := { data := #[] }) (t := { data := #[] }) (by kernel_rfl) (by kernel_rfl) true (decide_eq_true rfl)))) ?_
    refine AllSure.cons (OpSure.take (v := .bool true) (by kernel_rfl) (by kernel_rfl) (fun _ _ => (by kernel_rfl))) ?_
    refine AllSure.cons (OpSure.take (v := .bool true) (by kernel_rfl) (by kernel_rfl) (fun _ _ => (by kernel_rfl))) ?_
    refine AllSure.cons (sure_call (v := .string (o32 1 0)) (by kernel_rfl) (by kernel_rfl) enter36 HA.keep #[iN .u8 1, iN .i64 32, iN .u8 0] (by kernel_rfl) (fun w' h' => of_any 1 0 w')) ?_
    refine AllSure.cons (sure_call (v := .string (o33 9 0)) (by kernel_rfl) (by kernel_rfl) enter36 HA.keep #[iN .u8 9, iN .i64 33, iN .u8 0] (by kernel_rfl) (fun w' h' => of_any33 9 0 w')) ?_
    refine AllSure.cons (sure_call (v := .string { data := #[] }) (by kernel_rfl) (by kernel_rfl) enter26 HA.keep #[.string (o32 1 0), .string (o33 9 0)] (by kernel_rfl) (fun w' h' => x25519_no (o32 1 0) (o33 9 0) (by decide +kernel) w' (VV.below h'.old VV.big))) ?_
    refine AllSure.cons (OpSure.take (v := .bool true) (by kernel_rfl) (by kernel_rfl) (fun _ _ => (run_eqs (s := { data := #[] }) (t := { data := #[] }) (by kernel_rfl) (by kernel_rfl) true (decide_eq_true rfl)))) ?_
    refine AllSure.cons (OpSure.take (v := .bool true) (by kernel_rfl) (by kernel_rfl) (fun _ _ => (by kernel_rfl))) ?_
    refine AllSure.cons (OpSure.take (v := .bool true) (by kernel_rfl) (by kernel_rfl) (fun _ _ => (by kernel_rfl))) ?_
    refine AllSure.cons (OpSure.take (v := .agg (pr 0 0)) (by kernel_rfl) (by kernel_rfl) (fun _ h => run_load_blk (by kernel_rfl) (h.get 0 rfl) Tryd.underlying27 rfl (info27p 0 0))) ?_
    refine AllSure.cons (sure_call (v := .agg (pr 0 0)) (by kernel_rfl) (by kernel_rfl) enter29 HA.keep #[] (by kernel_rfl) (fun w' h' => None_any w')) ?_
    refine AllSure.cons (sure_call (v := .bool true) (by kernel_rfl) (by kernel_rfl) enter22 HA.keep #[.agg (pr 0 0), .agg (pr 0 0)] (by kernel_rfl) (fun w' h' => same_yes Pn.none Pn.none (rfl) w')) ?_
    refine AllSure.cons (OpSure.take (v := .bool true) (by kernel_rfl) (by kernel_rfl) (fun _ _ => (by kernel_rfl))) ?_
    refine AllSure.cons (OpSure.take (v := .bool true) (by kernel_rfl) (by kernel_rfl) (fun _ _ => (by kernel_rfl))) ?_
    refine AllSure.cons (OpSure.take (v := .agg (pr 0 0)) (by kernel_rfl) (by kernel_rfl) (fun _ h => run_load_blk (by kernel_rfl) (h.get 0 rfl) Tryd.underlying27 rfl (info27p 0 0))) ?_
    refine AllSure.cons (sure_call (v := .agg (pr bX ((subP bY 1)))) (by kernel_rfl) (by kernel_rfl) enter32 HA.keep #[] (by kernel_rfl) (fun w' h' => Base_any w' (VV.below h'.old VV.big))) ?_
    refine AllSure.cons (sure_call (v := .agg (pr x5 y5)) (by kernel_rfl) (by kernel_rfl) enter18 HA.keep #[.agg (pr 0 0), .agg (pr bX ((subP bY 1)))] (by kernel_rfl) (fun w' h' => c5 w' (VV.below h'.old VV.big))) ?_
    refine AllSure.cons (sure_call (v := .agg (pr bX ((subP bY 1)))) (by kernel_rfl) (by kernel_rfl) enter32 HA.keep #[] (by kernel_rfl) (fun w' h' => Base_any w' (VV.below h'.old VV.big))) ?_
    refine AllSure.cons (sure_call (v := .bool true) (by kernel_rfl) (by kernel_rfl) enter22 HA.keep #[.agg (pr x5 y5), .agg (pr bX ((subP bY 1)))] (by kernel_rfl) (fun w' h' => same_yes n5 Pn.base (none_aP _) w')) ?_
    refine AllSure.cons (OpSure.take (v := .bool true) (by kernel_rfl) (by kernel_rfl) (fun _ _ => (by kernel_rfl))) ?_
    refine AllSure.cons (OpSure.take (v := .bool true) (by kernel_rfl) (by kernel_rfl) (fun _ _ => (by kernel_rfl))) ?_
    refine AllSure.cons (OpSure.take (v := .agg (pr 0 0)) (by kernel_rfl) (by kernel_rfl) (fun _ h => run_load_blk (by kernel_rfl) (h.get 0 rfl) Tryd.underlying27 rfl (info27p 0 0))) ?_
    refine AllSure.cons (sure_call (v := .string (encP nP)) (by kernel_rfl) (by kernel_rfl) enter14 HA.keep #[.agg (pr 0 0)] (by kernel_rfl) (fun w' h' => bytes_ex Pn.none w' (VV.below h'.old VV.big))) ?_
    refine AllSure.cons (sure_call (v := .string (o32 1 0)) (by kernel_rfl) (by kernel_rfl) enter36 HA.keep #[iN .u8 1, iN .i64 32, iN .u8 0] (by kernel_rfl) (fun w' h' => of_any 1 0 w')) ?_
    refine AllSure.cons (OpSure.take (v := .bool true) (by kernel_rfl) (by kernel_rfl) (fun _ _ => (run_eqs (s := (encP nP)) (t := (o32 1 0)) (by kernel_rfl) (by kernel_rfl) true (decide_eq_true none_enc)))) ?_
    refine AllSure.cons (OpSure.take (v := .bool true) (by kernel_rfl) (by kernel_rfl) (fun _ _ => (by kernel_rfl))) ?_
    refine AllSure.cons (OpSure.take (v := .bool true) (by kernel_rfl) (by kernel_rfl) (fun _ _ => (by kernel_rfl))) ?_
    exact AllSure.nil
  intro w72 h73
  refine then_at (F := ⟨(.bool true :: .slice (some ⟨q3, 0, none⟩) (o32 1 0).size cp4 :: pt q13 :: .bool false :: .slice (some ⟨q20, 0, none⟩) (o32 237 255).size cp21 :: pt q30 :: .bool false :: pt q39 :: .bool false :: pt q50 :: .string sL :: .slice (some ⟨q59, 0, none⟩) (o32 246 255).size cp60 :: pt q69 :: .string (o32 1 0) :: .slice (some ⟨q3, 0, none⟩) (o32 1 0).size cp4 :: .slice (some ⟨q3, 0, none⟩) (o32 1 0).size cp4 :: .pointer (some ⟨q3, 31, none⟩) :: .tuple #[.agg (pr 0 0), .bool false] :: .slice (some ⟨q3, 0, none⟩) (o32 1 0).size cp4 :: .string kOne :: .tuple #[.agg (pr 0 0), .bool false] :: .agg (pr 0 0) :: .bool false :: .string (o32 237 255) :: .slice (some ⟨q20, 0, none⟩) (o32 237 255).size cp21 :: .slice (some ⟨q20, 0, none⟩) (o32 237 255).size cp21 :: .pointer (some ⟨q20, 31, none⟩) :: .tuple #[.agg (pr 0 0), .bool false] :: .slice (some ⟨q20, 0, none⟩) (o32 237 255).size cp21 :: .string kP :: .tuple #[.agg (pr 0 0), .bool false] :: .agg (pr 0 0) :: .bool false :: .tuple #[.agg (pr 0 0), .bool false] :: .string (o31 1 0) :: .tuple #[.agg (pr 0 0), .bool false] :: .agg (pr 0 0) :: .bool false :: .agg (pr bX ((subP bY 1))) :: .string (o32 2 0) :: .agg (pr x1 y1) :: .string sL :: .string (o32 246 255) :: .slice (some ⟨q59, 0, none⟩) (o32 246 255).size cp60 :: .slice (some ⟨q59, 0, none⟩) (o32 246 255).size cp60 :: .pointer (some ⟨q59, 31, none⟩) :: .string (o32 9 0) :: .slice (some ⟨q59, 0, none⟩) (o32 246 255).size cp60 :: .string kHi :: .string (bytesOf (xP (o32 9 0) kHi)) :: .string (o32 9 0) :: .string (o32 9 0) :: .string (bytesOf (xP (o32 9 0) (o32 9 0))) :: .bool false :: .bool false :: .agg (pr bX ((subP bY 1))) :: .agg (pr bX ((subP bY 1))) :: .agg (pr x2 y2) :: .bool false :: .bool false :: .bool true :: .bool true :: .bool false :: .bool true :: .bool true :: .bool true :: .bool false :: .bool true :: .bool true :: .bool true :: .bool false :: .bool true :: .bool true :: .bool true :: .agg (pr x1 y1) :: .string (encP (mP bP (numS (o32 2 0)))) :: .string h2s :: .bool true :: .bool true :: .bool true :: .agg (pr x1 y1) :: .agg (pr bX ((subP bY 1))) :: .agg (pr bX ((subP bY 1))) :: .agg (pr x3 y3) :: .bool true :: .bool true :: .bool true :: .agg (pr bX ((subP bY 1))) :: .string sL :: .agg (pr x4 y4) :: .agg (pr 0 0) :: .bool true :: .bool true :: .bool true :: .agg (pr bX ((subP bY 1))) :: .string (o31 2 0) :: .agg (pr 0 0) :: .agg (pr 0 0) :: .bool true :: .bool true :: .bool true :: .string hAs :: .string hBs :: .string (bytesOf (xP hAs hBs)) :: .string hCs :: .bool true :: .bool true :: .bool true :: .string (o31 1 0) :: .string (o32 9 0) :: .string { data := #[] } :: .bool true :: .bool true :: .bool true :: .string (o32 1 0) :: .string (o33 9 0) :: .string { data := #[] } :: .bool true :: .bool true :: .bool true :: .agg (pr 0 0) :: .agg (pr 0 0) :: .bool true :: .bool true :: .bool true :: .agg (pr 0 0) :: .agg (pr bX ((subP bY 1))) :: .agg (pr x5 y5) :: .agg (pr bX ((subP bY 1))) :: .bool true :: .bool true :: .bool true :: .agg (pr 0 0) :: .string (encP nP) :: .string (o32 1 0) :: .bool true :: .bool true :: List.replicate 0 un).toArray, []⟩) (by kernel_rfl) ?_
  refine wp_ret ?_
  repeat first | refine then_ret ?_ | refine block_ret ?_
  exact bodyPost_ret (v := .bool true) (by kernel_rfl) rfl ⟨rfl, h73.old⟩
end Go.Proofs.YtpaendmdcdeemaaDoor
