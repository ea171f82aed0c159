/-
  the reference: turns, words of the rounds, what is filled.
-/
import Derived.Test.YtmlldbkhphngeaaDoorHs7
namespace Go.Proofs.YtmlldbkhphngeaaDoor
open Go.RowKit


set_option linter.unusedVariables false in
set_option maxRecDepth 100000 in
set_option maxHeartbeats 2000000 in
theorem rotRS (x : BitVec 32) (n : Nat) (hn : n ≤ 32) (w : World) :
    Calls Tryd.prog 29 #[bv .u32 x, iN .i64 n] w fun e w' => e = .returned (bv .u32 (rotP x n)) ∧ Below w.heap.size w w' := by
  have H0 := HA.start w
  go_enter Tryd.func29, Tryd.ntmps29
  refine wp_seq ?_
  -- region 0
  refine wl_region ?_
  refine wl_val (iN .u32 0) (by kernel_rfl) (by kernel_rfl) ?_
  refine wl_nil ?_
  refine then_at (F := ⟨(bv .u32 x :: iN .i64 n :: un :: un :: iN .u32 0 :: List.replicate 8 un).toArray, []⟩) (by kernel_rfl) ?_
  refine wp_seq ?_
  -- region 1
  refine wp_region_sure ⟨(bv .u32 x :: iN .i64 n :: un :: un :: bv .u32 ((x >>> n) ||| (x <<< (32 - n))) :: bv .u32 x :: iN .i64 n :: bv .u32 (x >>> n) :: bv .u32 x :: iN .i64 n :: iN .i64 (32 - n) :: bv .u32 (x <<< (32 - n)) :: bv .u32 ((x >>> n) ||| (x <<< (32 - n))) :: List.replicate 0 un).toArray, []⟩ (HA w []) [bv .u32 x, iN .i64 n, bv .u32 (x >>> n), bv .u32 x, iN .i64 n, iN .i64 (32 - n), bv .u32 (x <<< (32 - n)), bv .u32 ((x >>> n) ||| (x <<< (32 - n))), bv .u32 ((x >>> n) ||| (x <<< (32 - n)))] (by kernel_rfl) (by kernel_rfl) (by kernel_rfl) (by kernel_rfl) (fun _ _ _ h => h) H0.drew ?_ ?_
  · refine AllSure.cons (OpSure.take (v := bv .u32 x) (by kernel_rfl) (by kernel_rfl) (fun _ _ => (by kernel_rfl))) ?_
    refine AllSure.cons (OpSure.take (v := iN .i64 n) (by kernel_rfl) (by kernel_rfl) (fun _ _ => (by kernel_rfl))) ?_
    refine AllSure.cons (OpSure.take (v := bv .u32 (x >>> n)) (by kernel_rfl) (by kernel_rfl) (fun _ _ => (run_shrv (k2 := .i64) (m := n) WK.s (a := x) (by kernel_rfl) (by kernel_rfl)))) ?_
    refine AllSure.cons (OpSure.take (v := bv .u32 x) (by kernel_rfl) (by kernel_rfl) (fun _ _ => (by kernel_rfl))) ?_
    refine AllSure.cons (OpSure.take (v := iN .i64 n) (by kernel_rfl) (by kernel_rfl) (fun _ _ => (by kernel_rfl))) ?_
    refine AllSure.cons (OpSure.take (v := iN .i64 (32 - n)) (by kernel_rfl) (by kernel_rfl) (fun _ _ => (run_sub (k := .i64) (a := 32) (b := n) (by kernel_rfl) (by kernel_rfl) (by omega) (by simp only [top]; omega)))) ?_
    refine AllSure.cons (OpSure.take (v := bv .u32 (x <<< (32 - n))) (by kernel_rfl) (by kernel_rfl) (fun _ _ => (run_shlv (k2 := .i64) (m := 32 - n) WK.s (a := x) (by kernel_rfl) (by kernel_rfl) (by omega)))) ?_
    refine AllSure.cons (OpSure.take (v := bv .u32 ((x >>> n) ||| (x <<< (32 - n)))) (by kernel_rfl) (by kernel_rfl) (fun _ _ => (run_orv WK.s (a := x >>> n) (b := x <<< (32 - n)) (by kernel_rfl) (by kernel_rfl)))) ?_
    refine AllSure.cons (OpSure.take (v := bv .u32 ((x >>> n) ||| (x <<< (32 - n)))) (by kernel_rfl) (by kernel_rfl) (fun _ _ => (by kernel_rfl))) ?_
    exact AllSure.nil
  intro w1 h2
  refine then_at (F := ⟨(bv .u32 x :: iN .i64 n :: un :: un :: bv .u32 ((x >>> n) ||| (x <<< (32 - n))) :: bv .u32 x :: iN .i64 n :: bv .u32 (x >>> n) :: bv .u32 x :: iN .i64 n :: iN .i64 (32 - n) :: bv .u32 (x <<< (32 - n)) :: bv .u32 ((x >>> n) ||| (x <<< (32 - n))) :: List.replicate 0 un).toArray, []⟩) (by kernel_rfl) ?_
  refine wp_ret ?_
  repeat first | refine then_ret ?_ | refine block_ret ?_
  exact bodyPost_ret (v := bv .u32 (rotP x n)) (by kernel_rfl) rfl ⟨rfl, h2.old⟩

def kRS : List (BitVec 32) := [1116352408#32, 1899447441#32, 3049323471#32, 3921009573#32, 961987163#32, 1508970993#32, 2453635748#32, 2870763221#32, 3624381080#32, 310598401#32, 607225278#32, 1426881987#32, 1925078388#32, 2162078206#32, 2614888103#32, 3248222580#32, 3835390401#32, 4022224774#32, 264347078#32, 604807628#32, 770255983#32, 1249150122#32, 1555081692#32, 1996064986#32, 2554220882#32, 2821834349#32, 2952996808#32, 3210313671#32, 3336571891#32, 3584528711#32, 113926993#32, 338241895#32, 666307205#32, 773529912#32, 1294757372#32, 1396182291#32, 1695183700#32, 1986661051#32, 2177026350#32, 2456956037#32, 2730485921#32, 2820302411#32, 3259730800#32, 3345764771#32, 3516065817#32, 3600352804#32, 4094571909#32, 275423344#32, 430227734#32, 506948616#32, 659060556#32, 883997877#32, 958139571#32, 1322822218#32, 1537002063#32, 1747873779#32, 1955562222#32, 2024104815#32, 2227730452#32, 2361852424#32, 2428436474#32, 2756734187#32, 3204031479#32, 3329325298#32]
theorem kRS_eq (i : Nat) (hi : i < 64) : kRS.getD i 0 = cutP 32 (rws.getD i 0) := (by decide +kernel : ∀ i : Fin 64, kRS.getD i.1 0 = cutP 32 (rws.getD i.1 0)) ⟨i, hi⟩
theorem kRS_len : kRS.length = 64 := by decide +kernel
theorem rws_len : rws.length = 80 := by decide +kernel
theorem i39 : (Tryd.prog.info? 55).map (·.size) = some 64 := by kernel_rfl
theorem info39 {n : Nat} (k : IntKind) (l : List (BitVec n)) (h : l.length = 64) : (Tryd.prog.info? 55).map (·.size) = some (wc k l).size := by rw [wc_size, h]; exact i39
theorem run_alloc39 {ρ : Operand → Value} {w : World} {dst : Option Tmp} {ty : TypeId} {pos : String} {aft : Array Edge} {gd : Option (Nat × Bool)} : (execOp ρ ⟨dst, .alloc 55, ty, pos, aft, gd⟩).run Tryd.prog w = .ok (.value (.pointer (some ⟨w.heap.size, 0, none⟩))) (w.alloc (.cells (wc .u32 (List.replicate 64 (0 : BitVec 32))) 55)) := by kernel_rfl

set_option linter.unusedVariables false in
set_option maxRecDepth 100000 in
set_option maxHeartbeats 2000000 in
theorem kwRS (i : Nat) (hi : i < 64) (w : World) :
    Calls Tryd.prog 30 #[iN .i64 i] w fun e w' => e = .returned (bv .u32 (cutP 32 (rws.getD i 0))) ∧ Below w.heap.size w w' := by
  have H0 := HA.start w
  go_enter Tryd.func30, Tryd.ntmps30
  refine wp_seq ?_
  -- region 0
  refine wl_region ?_
  refine wl_val (iN .u32 0) (by kernel_rfl) (by kernel_rfl) ?_
  refine wl_nil ?_
  refine then_at (F := ⟨(iN .i64 i :: un :: iN .u32 0 :: List.replicate 5 un).toArray, []⟩) (by kernel_rfl) ?_
  refine wp_seq ?_
  -- region 1
  refine wl_region ?_
  refine wl_val (.agg (wc .u32 kRS)) (by kernel_rfl) (by kernel_rfl) ?_
  refine wl_make H0 55 (by kernel_rfl) run_alloc39 ?_
  intro q1 w2 h3
  refine wl_fill (c' := wc .u32 kRS) h3 0 rfl (by kernel_rfl) (by kernel_rfl) (by kernel_rfl) (by rw [wc_size, wc_size, kRS_len, (List.length_replicate)]) (info39 .u32 kRS kRS_len) (one_wc .u32 kRS) ?_
  intro w4 (h5 : HA w [(q1, 55, wc .u32 kRS)] w4)
  refine wl_nil ?_
  refine then_at (F := ⟨(iN .i64 i :: un :: iN .u32 0 :: pt q1 :: .agg (wc .u32 kRS) :: List.replicate 3 un).toArray, []⟩) (by kernel_rfl) ?_
  refine wp_seq ?_
  -- region 2
  refine wl_region ?_
  refine wl_val (iN .i64 i) (by kernel_rfl) (by kernel_rfl) ?_
  refine wl_val (.pointer (some ⟨q1, i, none⟩)) (by kernel_rfl) (run_addr_arr (q := q1) (a := i) Tryd.underlying55 (fun w => Tryd.sizeOf48 w) (by kernel_rfl) (by kernel_rfl) (by omega)) ?_
  refine wl_val (bv .u32 (kRS.getD i 0)) (by kernel_rfl) (run_load1 (fun w => Tryd.isAgg48 w) (by kernel_rfl) (((h5.get 0 rfl).cell i).trans (wc_get .u32 kRS i (by rw [kRS_len]; omega)))) ?_
  refine wl_val (bv .u32 (kRS.getD i 0)) (by kernel_rfl) (by kernel_rfl) ?_
  refine wl_nil ?_
  refine then_at (F := ⟨(iN .i64 i :: un :: bv .u32 (kRS.getD i 0) :: pt q1 :: .agg (wc .u32 kRS) :: iN .i64 i :: .pointer (some ⟨q1, i, none⟩) :: bv .u32 (kRS.getD i 0) :: List.replicate 0 un).toArray, []⟩) (by kernel_rfl) ?_
  refine wp_ret ?_
  repeat first | refine then_ret ?_ | refine block_ret ?_
  exact bodyPost_ret (v := bv .u32 (kRS.getD i 0)) (by kernel_rfl) rfl ⟨by rw [kRS_eq i hi], h5.old⟩

def dnv : Nat → Value
  | 0 => .int .i64 (-1)
  | k + 1 => iN .i64 k
section
variable {ρ : Operand → Value} {x y : Operand} {w : World} {dst : Option Tmp} {T T2 ty : TypeId} {pos : String} {aft : Array Edge} {gd : Option (Nat × Bool)} {P : Program}
theorem run_geq0 {k : IntKind} {a b : Int} (hx : ρ x = .int k a) (hy : ρ y = .int k b) (t : Bool) (ht : decide (b ≤ a) = t) : (execOp ρ ⟨dst, .binOp .geq T x y T2, ty, pos, aft, gd⟩).run P w = .ok (.value (.bool t)) w := by
  subst ht
  simp only [execOp, hx, hy]
  simp [binOp, go_sem]
end
theorem run_dec {ρ : Operand → Value} {x y : Operand} {w : World} {dst : Option Tmp} {T T2 ty : TypeId} {pos : String} {aft : Array Edge} {gd : Option (Nat × Bool)} {P : Program} {j : Nat} (hj : j < 1000) (hx : ρ x = iN .i64 j) (hy : ρ y = iN .i64 1) :
    (execOp ρ ⟨dst, .binOp .sub T x y T2, ty, pos, aft, gd⟩).run P w = .ok (.value (dnv j)) w := by
  cases j with
  | zero =>
    simp only [execOp, hx, hy, iN, dnv]
    simp [binOp, go_sem, IntKind.wrap, IntKind.bits, IntKind.signed]
  | succ j =>
    have h := run_sub (ρ := ρ) (x := x) (y := y) (w := w) (dst := dst) (T := T) (T2 := T2) (ty := ty) (pos := pos) (aft := aft) (gd := gd) (P := P) (k := .i64) (a := j + 1) (b := 1) hx hy (by omega) (by simp only [top]; omega)
    exact h
section
end
theorem bl_app (s t : ByteArray) : bl (s ++ t) = bl s ++ bl t := by
  unfold bl
  rw [ByteArray.data_append, Array.toList_append]
theorem size_of_bl {t : ByteArray} {l : List UInt8} (h : bl t = l) : t.size = l.length := by rw [← h, bl_len]

theorem gp_noS (z j : Nat) (h : j < gapP KS z) : (z + (1 + j)) % 64 ≠ 56 := by
  have e : gapP KS z = 63 - (z + 9 - 1) % 64 := rfl
  rw [e] at h
  omega
theorem gp_yesS (z : Nat) : (z + (1 + gapP KS z)) % 64 = 56 := by
  have e : gapP KS z = 63 - (z + 9 - 1) % 64 := rfl
  rw [e]
  omega
theorem gp_leS (z : Nat) : gapP KS z ≤ 63 := Nat.sub_le _ _
theorem be_nextS (z j : Nat) (hj : j < 8) : beP 8 (8 * z) (8 - j) = beP 8 (8 * z) (8 - (j + 1)) ++ [UInt8.ofNat (8 * z / 2 ^ (8 * j))] := by
  rw [show 8 - j = (8 - (j + 1)) + 1 by omega, beP, show 8 - 1 - (8 - (j + 1)) = j by omega]

set_option linter.unusedVariables false in
set_option maxRecDepth 100000 in
set_option maxHeartbeats 2000000 in
theorem filRS (s : ByteArray) (hs : s.size ≤ 2251799813685248) (w : World) :
    Calls Tryd.prog 28 #[.string s, iN .i64 64, iN .i64 8] w fun e w' => (∃ t, e = .returned (.string t) ∧ bl t = bl s ++ fillP KS s.size) ∧ Below w.heap.size w w' := by
  have H0 := HA.start w
  go_enter Tryd.func28, Tryd.ntmps28
  refine wp_seq ?_
  -- region 0
  refine wl_region ?_
  refine wl_val (.string { data := #[] }) (by kernel_rfl) (by kernel_rfl) ?_
  refine wl_nil ?_
  refine then_at (F := ⟨(.string s :: iN .i64 64 :: iN .i64 8 :: un :: un :: un :: .string { data := #[] } :: List.replicate 38 un).toArray, []⟩) (by kernel_rfl) ?_
  refine wp_seq ?_
  -- region 1
  refine wl_region ?_
  refine wl_val (.string s) (by kernel_rfl) (by kernel_rfl) ?_
  refine wl_val (iN .i64 s.size) (by kernel_rfl) (run_len (s := s) (by kernel_rfl)) ?_
  refine wl_val (iN .u64 s.size) (by kernel_rfl) (run_conv .u64 Tryd.underlying3 Tryd.underlying63 (by kernel_rfl) (by simp only [top]; omega)) ?_
  refine wl_val (iN .u64 (s.size * 8)) (by kernel_rfl) (run_mul (k := .u64) (a := s.size) (b := 8) (by kernel_rfl) (by kernel_rfl) (by simp only [top]; omega)) ?_
  refine wl_val (iN .u64 (s.size * 8)) (by kernel_rfl) (by kernel_rfl) ?_
  refine wl_nil ?_
  refine then_at (F := ⟨(.string s :: iN .i64 64 :: iN .i64 8 :: un :: un :: un :: .string { data := #[] } :: iN .u64 (s.size * 8) :: un :: .string s :: iN .i64 s.size :: iN .u64 s.size :: iN .u64 (s.size * 8) :: List.replicate 32 un).toArray, []⟩) (by kernel_rfl) ?_
  refine wp_seq ?_
  -- region 2
  refine wl_region ?_
  refine wl_val (.string s) (by kernel_rfl) (by kernel_rfl) ?_
  refine wl_val (.string (s ++ ({ data := #[128] } : ByteArray))) (by kernel_rfl) (run_cat (s := s) (t := { data := #[128] }) (by kernel_rfl) (by kernel_rfl) (by show s.size + 1 ≤ _; omega)) ?_
  refine wl_val (.string (s ++ ({ data := #[128] } : ByteArray))) (by kernel_rfl) (by kernel_rfl) ?_
  refine wl_nil ?_
  refine then_at (F := ⟨(.string (s ++ ({ data := #[128] } : ByteArray)) :: iN .i64 64 :: iN .i64 8 :: un :: un :: un :: .string { data := #[] } :: iN .u64 (s.size * 8) :: un :: .string s :: iN .i64 s.size :: iN .u64 s.size :: iN .u64 (s.size * 8) :: .string s :: .string (s ++ ({ data := #[128] } : ByteArray)) :: List.replicate 30 un).toArray, []⟩) (by kernel_rfl) ?_
  refine wp_seq ?_
  refine wp_block ?_
  refine wp_while (fun mq A w' => ∃ (ta : ByteArray) (ja : Nat) (u1 : Nat → Value), mq = gapP KS s.size - ja ∧ A = ⟨(.string ta :: iN .i64 64 :: iN .i64 8 :: un :: un :: un :: .string { data := #[] } :: iN .u64 (s.size * 8) :: un :: .string s :: iN .i64 s.size :: iN .u64 s.size :: iN .u64 (s.size * 8) :: .string s :: .string (s ++ ({ data := #[128] } : ByteArray)) :: u1 15 :: u1 16 :: u1 17 :: u1 18 :: u1 19 :: u1 20 :: u1 21 :: u1 22 :: u1 23 :: u1 24 :: List.replicate 20 un).toArray, []⟩ ∧ HA w [] w' ∧ ja ≤ gapP KS s.size ∧ bl ta = bl s ++ (128 :: List.replicate ja 0)) (gapP KS s.size - 0) ?_ ?_
  · exact ⟨s ++ ({ data := #[128] } : ByteArray), 0, fun ii => (([(15, undef), (16, undef), (17, undef), (18, undef), (19, undef), (20, undef), (21, undef), (22, undef), (23, undef), (24, undef)] : List (Nat × Value)).find? (·.1 == ii)).elim undef (·.2), rfl, by kernel_rfl, H0, (Nat.zero_le _), (bl_app _ _)⟩
  rintro _ _ w2 ⟨ta, ja, u1, rfl, rfl, h3, hjla, hba⟩
  refine wp_seq ?_
  refine wp_seq ?_
  by_cases hja : ja < gapP KS s.size
  · -- region 3
    refine wl_region ?_
    refine wl_val (.string ta) (by kernel_rfl) (by kernel_rfl) ?_
    refine wl_val (iN .i64 ta.size) (by kernel_rfl) (run_len (s := ta) (by kernel_rfl)) ?_
    refine wl_val (iN .i64 64) (by kernel_rfl) (by kernel_rfl) ?_
    refine wl_val (iN .i64 (ta.size % 64)) (by kernel_rfl) (run_rem (k := .i64) (a := ta.size) (b := 64) (by kernel_rfl) (by kernel_rfl) (by omega)) ?_
    refine wl_val (iN .i64 64) (by kernel_rfl) (by kernel_rfl) ?_
    refine wl_val (iN .i64 8) (by kernel_rfl) (by kernel_rfl) ?_
    refine wl_val (iN .i64 56) (by kernel_rfl) (run_sub (k := .i64) (a := 64) (b := 8) (by kernel_rfl) (by kernel_rfl) (by decide) (by decide)) ?_
    refine wl_val (.bool true) (by kernel_rfl) (run_nei (k := .i64) (a := ta.size % 64) (b := 56) (by kernel_rfl) (by kernel_rfl) true (decide_eq_true (by rw [size_of_bl hba, List.length_append, List.length_cons, List.length_replicate, bl_len, Nat.add_comm ja 1]; exact gp_noS s.size ja hja))) ?_
    refine wl_nil ?_
    refine then_at (F := ⟨(.string ta :: iN .i64 64 :: iN .i64 8 :: un :: un :: un :: .string { data := #[] } :: iN .u64 (s.size * 8) :: un :: .string s :: iN .i64 s.size :: iN .u64 s.size :: iN .u64 (s.size * 8) :: .string s :: .string (s ++ ({ data := #[128] } : ByteArray)) :: .string ta :: iN .i64 ta.size :: iN .i64 64 :: iN .i64 (ta.size % 64) :: iN .i64 64 :: iN .i64 8 :: iN .i64 56 :: .bool true :: u1 23 :: u1 24 :: List.replicate 20 un).toArray, []⟩) (by kernel_rfl) ?_
    refine wp_cond_true (by kernel_rfl) ?_
    refine wp_skip ?_
    refine then_at (F := ⟨(.string ta :: iN .i64 64 :: iN .i64 8 :: un :: un :: un :: .string { data := #[] } :: iN .u64 (s.size * 8) :: un :: .string s :: iN .i64 s.size :: iN .u64 s.size :: iN .u64 (s.size * 8) :: .string s :: .string (s ++ ({ data := #[128] } : ByteArray)) :: .string ta :: iN .i64 ta.size :: iN .i64 64 :: iN .i64 (ta.size % 64) :: iN .i64 64 :: iN .i64 8 :: iN .i64 56 :: .bool true :: u1 23 :: u1 24 :: List.replicate 20 un).toArray, []⟩) (by kernel_rfl) ?_
    refine wp_block ?_
    -- region 4
    refine wl_region ?_
    refine wl_val (.string ta) (by kernel_rfl) (by kernel_rfl) ?_
    refine wl_val (.string (ta ++ ({ data := #[0] } : ByteArray))) (by kernel_rfl) (run_cat (s := ta) (t := { data := #[0] }) (by kernel_rfl) (by kernel_rfl) (by have hg := gp_leS s.size; have hz := size_of_bl hba; simp only [List.length_append, List.length_cons, List.length_replicate, bl_len] at hz; show ta.size + 1 ≤ _; omega)) ?_
    refine wl_val (.string (ta ++ ({ data := #[0] } : ByteArray))) (by kernel_rfl) (by kernel_rfl) ?_
    refine wl_nil ?_
    refine block_normal ?_
    exact then_I ⟨gapP KS s.size - (ja + 1), (by omega), ta ++ ({ data := #[0] } : ByteArray), ja + 1, fun ii => (([(15, .string ta), (16, iN .i64 ta.size), (17, iN .i64 64), (18, iN .i64 (ta.size % 64)), (19, iN .i64 64), (20, iN .i64 8), (21, iN .i64 56), (22, .bool true), (23, .string ta), (24, .string (ta ++ ({ data := #[0] } : ByteArray)))] : List (Nat × Value)).find? (·.1 == ii)).elim undef (·.2), rfl, by kernel_rfl, h3, hja, (by rw [bl_app, hba, List.replicate_succ', ← List.cons_append, ← List.append_assoc]; rfl)⟩
  · -- region 3
    refine wl_region ?_
    refine wl_val (.string ta) (by kernel_rfl) (by kernel_rfl) ?_
    refine wl_val (iN .i64 ta.size) (by kernel_rfl) (run_len (s := ta) (by kernel_rfl)) ?_
    refine wl_val (iN .i64 64) (by kernel_rfl) (by kernel_rfl) ?_
    refine wl_val (iN .i64 (ta.size % 64)) (by kernel_rfl) (run_rem (k := .i64) (a := ta.size) (b := 64) (by kernel_rfl) (by kernel_rfl) (by omega)) ?_
    refine wl_val (iN .i64 64) (by kernel_rfl) (by kernel_rfl) ?_
    refine wl_val (iN .i64 8) (by kernel_rfl) (by kernel_rfl) ?_
    refine wl_val (iN .i64 56) (by kernel_rfl) (run_sub (k := .i64) (a := 64) (b := 8) (by kernel_rfl) (by kernel_rfl) (by decide) (by decide)) ?_
    refine wl_val (.bool false) (by kernel_rfl) (run_nei (k := .i64) (a := ta.size % 64) (b := 56) (by kernel_rfl) (by kernel_rfl) false (decide_eq_false (fun h => h (by rw [size_of_bl hba, List.length_append, List.length_cons, List.length_replicate, bl_len, Nat.add_comm _ 1, show ja = gapP KS s.size by omega]; exact gp_yesS s.size)))) ?_
    refine wl_nil ?_
    refine then_at (F := ⟨(.string ta :: iN .i64 64 :: iN .i64 8 :: un :: un :: un :: .string { data := #[] } :: iN .u64 (s.size * 8) :: un :: .string s :: iN .i64 s.size :: iN .u64 s.size :: iN .u64 (s.size * 8) :: .string s :: .string (s ++ ({ data := #[128] } : ByteArray)) :: .string ta :: iN .i64 ta.size :: iN .i64 64 :: iN .i64 (ta.size % 64) :: iN .i64 64 :: iN .i64 8 :: iN .i64 56 :: .bool false :: u1 23 :: u1 24 :: List.replicate 20 un).toArray, []⟩) (by kernel_rfl) ?_
    refine wp_cond_false (by kernel_rfl) ?_
    refine wp_exit ?_
    repeat first | refine then_exit ?_ | refine block_exit ?_ | refine block_exit_ne (by decide) ?_
    refine then_at (F := ⟨(.string ta :: iN .i64 64 :: iN .i64 8 :: un :: un :: un :: .string { data := #[] } :: iN .u64 (s.size * 8) :: un :: .string s :: iN .i64 s.size :: iN .u64 s.size :: iN .u64 (s.size * 8) :: .string s :: .string (s ++ ({ data := #[128] } : ByteArray)) :: .string ta :: iN .i64 ta.size :: iN .i64 64 :: iN .i64 (ta.size % 64) :: iN .i64 64 :: iN .i64 8 :: iN .i64 56 :: .bool false :: u1 23 :: u1 24 :: List.replicate 20 un).toArray, []⟩) (by kernel_rfl) ?_
    refine wp_seq ?_
    refine wp_seq ?_
    -- region 5
    refine wl_region ?_
    refine wl_val (iN .i64 8) (by kernel_rfl) (by kernel_rfl) ?_
    refine wl_val (iN .i64 7) (by kernel_rfl) (run_sub (k := .i64) (a := 8) (b := 1) (by kernel_rfl) (by kernel_rfl) (by decide) (by decide)) ?_
    refine wl_val (iN .i64 7) (by kernel_rfl) (by kernel_rfl) ?_
    refine wl_nil ?_
    refine then_at (F := ⟨(.string ta :: iN .i64 64 :: iN .i64 8 :: un :: un :: un :: .string { data := #[] } :: iN .u64 (s.size * 8) :: iN .i64 7 :: .string s :: iN .i64 s.size :: iN .u64 s.size :: iN .u64 (s.size * 8) :: .string s :: .string (s ++ ({ data := #[128] } : ByteArray)) :: .string ta :: iN .i64 ta.size :: iN .i64 64 :: iN .i64 (ta.size % 64) :: iN .i64 64 :: iN .i64 8 :: iN .i64 56 :: .bool false :: u1 23 :: u1 24 :: iN .i64 8 :: iN .i64 7 :: List.replicate 18 un).toArray, []⟩) (by kernel_rfl) ?_
    refine wp_block ?_
    refine wp_while (fun mq A w' => ∃ (t : ByteArray) (j : Nat) (u4 : Nat → Value), mq = j + 1 ∧ A = ⟨(.string t :: iN .i64 64 :: iN .i64 8 :: un :: un :: un :: .string { data := #[] } :: iN .u64 (s.size * 8) :: dnv j :: .string s :: iN .i64 s.size :: iN .u64 s.size :: iN .u64 (s.size * 8) :: .string s :: .string (s ++ ({ data := #[128] } : ByteArray)) :: .string ta :: iN .i64 ta.size :: iN .i64 64 :: iN .i64 (ta.size % 64) :: iN .i64 64 :: iN .i64 8 :: iN .i64 56 :: .bool false :: u1 23 :: u1 24 :: iN .i64 8 :: iN .i64 7 :: u4 27 :: u4 28 :: u4 29 :: u4 30 :: u4 31 :: u4 32 :: u4 33 :: u4 34 :: u4 35 :: u4 36 :: u4 37 :: u4 38 :: u4 39 :: u4 40 :: u4 41 :: u4 42 :: u4 43 :: List.replicate 1 un).toArray, []⟩ ∧ HA w [] w' ∧ j ≤ 8 ∧ bl t = bl s ++ (128 :: List.replicate (gapP KS s.size) 0) ++ beP 8 (8 * s.size) (8 - j)) (8 + 1) ?_ ?_
    · exact ⟨ta, 8, fun ii => (([(27, undef), (28, undef), (29, undef), (30, undef), (31, undef), (32, undef), (33, undef), (34, undef), (35, undef), (36, undef), (37, undef), (38, undef), (39, undef), (40, undef), (41, undef), (42, undef), (43, undef)] : List (Nat × Value)).find? (·.1 == ii)).elim undef (·.2), rfl, by kernel_rfl, h3, (Nat.le_refl _), (by rw [hba, show ja = gapP KS s.size by omega]; exact (List.append_nil _).symm)⟩
    rintro _ _ w5 ⟨t, j, u4, rfl, rfl, h6, hjl, hb⟩
    refine wp_seq ?_
    refine wp_seq ?_
    rcases j with _ | j
    · -- region 6
      refine wl_region ?_
      refine wl_val (dnv 0) (by kernel_rfl) (by kernel_rfl) ?_
      refine wl_val (.bool false) (by kernel_rfl) (run_geq0 (k := .i64) (a := -1) (b := 0) (by kernel_rfl) (by kernel_rfl) false (by decide)) ?_
      refine wl_nil ?_
      refine then_at (F := ⟨(.string t :: iN .i64 64 :: iN .i64 8 :: un :: un :: un :: .string { data := #[] } :: iN .u64 (s.size * 8) :: dnv 0 :: .string s :: iN .i64 s.size :: iN .u64 s.size :: iN .u64 (s.size * 8) :: .string s :: .string (s ++ ({ data := #[128] } : ByteArray)) :: .string ta :: iN .i64 ta.size :: iN .i64 64 :: iN .i64 (ta.size % 64) :: iN .i64 64 :: iN .i64 8 :: iN .i64 56 :: .bool false :: u1 23 :: u1 24 :: iN .i64 8 :: iN .i64 7 :: dnv 0 :: .bool false :: u4 29 :: u4 30 :: u4 31 :: u4 32 :: u4 33 :: u4 34 :: u4 35 :: u4 36 :: u4 37 :: u4 38 :: u4 39 :: u4 40 :: u4 41 :: u4 42 :: u4 43 :: List.replicate 1 un).toArray, []⟩) (by kernel_rfl) ?_
      refine wp_cond_false (by kernel_rfl) ?_
      refine wp_exit ?_
      repeat first | refine then_exit ?_ | refine block_exit ?_ | refine block_exit_ne (by decide) ?_
      refine then_at (F := ⟨(.string t :: iN .i64 64 :: iN .i64 8 :: un :: un :: un :: .string { data := #[] } :: iN .u64 (s.size * 8) :: dnv 0 :: .string s :: iN .i64 s.size :: iN .u64 s.size :: iN .u64 (s.size * 8) :: .string s :: .string (s ++ ({ data := #[128] } : ByteArray)) :: .string ta :: iN .i64 ta.size :: iN .i64 64 :: iN .i64 (ta.size % 64) :: iN .i64 64 :: iN .i64 8 :: iN .i64 56 :: .bool false :: u1 23 :: u1 24 :: iN .i64 8 :: iN .i64 7 :: dnv 0 :: .bool false :: u4 29 :: u4 30 :: u4 31 :: u4 32 :: u4 33 :: u4 34 :: u4 35 :: u4 36 :: u4 37 :: u4 38 :: u4 39 :: u4 40 :: u4 41 :: u4 42 :: u4 43 :: List.replicate 1 un).toArray, []⟩) (by kernel_rfl) ?_
      refine wp_seq ?_
      -- region 11
      refine wl_region ?_
      refine wl_val (.string t) (by kernel_rfl) (by kernel_rfl) ?_
      refine wl_val (.string t) (by kernel_rfl) (by kernel_rfl) ?_
      refine wl_nil ?_
      refine then_at (F := ⟨(.string t :: iN .i64 64 :: iN .i64 8 :: un :: un :: un :: .string t :: iN .u64 (s.size * 8) :: dnv 0 :: .string s :: iN .i64 s.size :: iN .u64 s.size :: iN .u64 (s.size * 8) :: .string s :: .string (s ++ ({ data := #[128] } : ByteArray)) :: .string ta :: iN .i64 ta.size :: iN .i64 64 :: iN .i64 (ta.size % 64) :: iN .i64 64 :: iN .i64 8 :: iN .i64 56 :: .bool false :: u1 23 :: u1 24 :: iN .i64 8 :: iN .i64 7 :: dnv 0 :: .bool false :: u4 29 :: u4 30 :: u4 31 :: u4 32 :: u4 33 :: u4 34 :: u4 35 :: u4 36 :: u4 37 :: u4 38 :: u4 39 :: u4 40 :: u4 41 :: u4 42 :: u4 43 :: .string t :: List.replicate 0 un).toArray, []⟩) (by kernel_rfl) ?_
      refine wp_ret ?_
      repeat first | refine then_ret ?_ | refine block_ret ?_
      exact bodyPost_ret (v := .string t) (by kernel_rfl) rfl ⟨⟨t, rfl, by rw [hb]; exact List.append_assoc _ _ _⟩, h6.old⟩
    · -- region 6
      refine wl_region ?_
      refine wl_val (iN .i64 j) (by kernel_rfl) (by kernel_rfl) ?_
      refine wl_val (.bool true) (by kernel_rfl) (run_geq0 (k := .i64) (a := ((j : Nat) : Int)) (b := 0) (by kernel_rfl) (by kernel_rfl) true (decide_eq_true (by omega))) ?_
      refine wl_nil ?_
      refine then_at (F := ⟨(.string t :: iN .i64 64 :: iN .i64 8 :: un :: un :: un :: .string { data := #[] } :: iN .u64 (s.size * 8) :: iN .i64 j :: .string s :: iN .i64 s.size :: iN .u64 s.size :: iN .u64 (s.size * 8) :: .string s :: .string (s ++ ({ data := #[128] } : ByteArray)) :: .string ta :: iN .i64 ta.size :: iN .i64 64 :: iN .i64 (ta.size % 64) :: iN .i64 64 :: iN .i64 8 :: iN .i64 56 :: .bool false :: u1 23 :: u1 24 :: iN .i64 8 :: iN .i64 7 :: iN .i64 j :: .bool true :: u4 29 :: u4 30 :: u4 31 :: u4 32 :: u4 33 :: u4 34 :: u4 35 :: u4 36 :: u4 37 :: u4 38 :: u4 39 :: u4 40 :: u4 41 :: u4 42 :: u4 43 :: List.replicate 1 un).toArray, []⟩) (by kernel_rfl) ?_
      refine wp_cond_true (by kernel_rfl) ?_
      refine wp_skip ?_
      refine then_at (F := ⟨(.string t :: iN .i64 64 :: iN .i64 8 :: un :: un :: un :: .string { data := #[] } :: iN .u64 (s.size * 8) :: iN .i64 j :: .string s :: iN .i64 s.size :: iN .u64 s.size :: iN .u64 (s.size * 8) :: .string s :: .string (s ++ ({ data := #[128] } : ByteArray)) :: .string ta :: iN .i64 ta.size :: iN .i64 64 :: iN .i64 (ta.size % 64) :: iN .i64 64 :: iN .i64 8 :: iN .i64 56 :: .bool false :: u1 23 :: u1 24 :: iN .i64 8 :: iN .i64 7 :: iN .i64 j :: .bool true :: u4 29 :: u4 30 :: u4 31 :: u4 32 :: u4 33 :: u4 34 :: u4 35 :: u4 36 :: u4 37 :: u4 38 :: u4 39 :: u4 40 :: u4 41 :: u4 42 :: u4 43 :: List.replicate 1 un).toArray, []⟩) (by kernel_rfl) ?_
      refine wp_seq ?_
      refine wp_block ?_
      refine wp_seq ?_
      -- region 8
      refine wl_region ?_
      refine wl_val (iN .i64 j) (by kernel_rfl) (by kernel_rfl) ?_
      refine wl_val (.bool false) (by kernel_rfl) (run_geq0 (k := .i64) (a := ((j : Nat) : Int)) (b := 8) (by kernel_rfl) (by kernel_rfl) false (decide_eq_false (by omega))) ?_
      refine wl_nil ?_
      refine then_at (F := ⟨(.string t :: iN .i64 64 :: iN .i64 8 :: un :: un :: un :: .string { data := #[] } :: iN .u64 (s.size * 8) :: iN .i64 j :: .string s :: iN .i64 s.size :: iN .u64 s.size :: iN .u64 (s.size * 8) :: .string s :: .string (s ++ ({ data := #[128] } : ByteArray)) :: .string ta :: iN .i64 ta.size :: iN .i64 64 :: iN .i64 (ta.size % 64) :: iN .i64 64 :: iN .i64 8 :: iN .i64 56 :: .bool false :: u1 23 :: u1 24 :: iN .i64 8 :: iN .i64 7 :: iN .i64 j :: .bool true :: u4 29 :: u4 30 :: iN .i64 j :: .bool false :: u4 33 :: u4 34 :: u4 35 :: u4 36 :: u4 37 :: u4 38 :: u4 39 :: u4 40 :: u4 41 :: u4 42 :: u4 43 :: List.replicate 1 un).toArray, []⟩) (by kernel_rfl) ?_
      refine wp_cond_false (by kernel_rfl) ?_
      -- region 10
      refine wl_region ?_
      refine wl_val (.string t) (by kernel_rfl) (by kernel_rfl) ?_
      refine wl_val (iN .u64 (s.size * 8)) (by kernel_rfl) (by kernel_rfl) ?_
      refine wl_val (iN .i64 j) (by kernel_rfl) (by kernel_rfl) ?_
      refine wl_val (iN .i64 (8 * j)) (by kernel_rfl) (run_mul (k := .i64) (a := 8) (b := j) (by kernel_rfl) (by kernel_rfl) (by simp only [top]; omega)) ?_
      refine wl_val (iN .u64 ((s.size * 8) / 2 ^ (8 * j))) (by kernel_rfl) (run_shrn (k2 := .i64) (a := s.size * 8) (b := 8 * j) (by omega) (by kernel_rfl) (by kernel_rfl)) ?_
      refine wl_val (by8 (UInt8.ofNat ((s.size * 8) / 2 ^ (8 * j)))) (by kernel_rfl) (run_lown (a := (s.size * 8) / 2 ^ (8 * j)) (by kernel_rfl) Tryd.underlying63 Tryd.underlying5) ?_
      refine wl_mks (n := 1) (m := 1) h6 5 (by kernel_rfl) (run_build1 (u := UInt8.ofNat ((s.size * 8) / 2 ^ (8 * j))) (by kernel_rfl)) ?_
      intro q7 w8 h9
      refine wl_val (.string (⟨#[UInt8.ofNat (s.size * 8 / 2 ^ (8 * j))]⟩)) (by kernel_rfl) (run_text (q := q7) (m := 1) (c := 1) (l := [UInt8.ofNat ((s.size * 8) / 2 ^ (8 * j))]) (by kernel_rfl) (h9.get 0 rfl) (Nat.le_refl 1)) ?_
      refine wl_val (.string (t ++ (⟨#[UInt8.ofNat (s.size * 8 / 2 ^ (8 * j))]⟩ : ByteArray))) (by kernel_rfl) (run_cat (s := t) (t := (⟨#[UInt8.ofNat (s.size * 8 / 2 ^ (8 * j))]⟩ : ByteArray)) (by kernel_rfl) (by kernel_rfl) (by have hg := gp_leS s.size; have hz := size_of_bl hb; simp only [List.length_append, List.length_cons, List.length_replicate, bl_len, beP_len] at hz; show t.size + 1 ≤ _; omega)) ?_
      refine wl_val (.string (t ++ (⟨#[UInt8.ofNat (s.size * 8 / 2 ^ (8 * j))]⟩ : ByteArray))) (by kernel_rfl) (by kernel_rfl) ?_
      refine wl_nil ?_
      refine block_normal ?_
      refine then_at (F := ⟨(.string (t ++ (⟨#[UInt8.ofNat (s.size * 8 / 2 ^ (8 * j))]⟩ : ByteArray)) :: iN .i64 64 :: iN .i64 8 :: un :: un :: un :: .string { data := #[] } :: iN .u64 (s.size * 8) :: iN .i64 j :: .string s :: iN .i64 s.size :: iN .u64 s.size :: iN .u64 (s.size * 8) :: .string s :: .string (s ++ ({ data := #[128] } : ByteArray)) :: .string ta :: iN .i64 ta.size :: iN .i64 64 :: iN .i64 (ta.size % 64) :: iN .i64 64 :: iN .i64 8 :: iN .i64 56 :: .bool false :: u1 23 :: u1 24 :: iN .i64 8 :: iN .i64 7 :: iN .i64 j :: .bool true :: u4 29 :: u4 30 :: iN .i64 j :: .bool false :: u4 33 :: u4 34 :: .string t :: iN .u64 (s.size * 8) :: iN .i64 j :: iN .i64 (8 * j) :: iN .u64 ((s.size * 8) / 2 ^ (8 * j)) :: by8 (UInt8.ofNat ((s.size * 8) / 2 ^ (8 * j))) :: .slice (some ⟨q7, 0, none⟩) 1 1 :: .string (⟨#[UInt8.ofNat (s.size * 8 / 2 ^ (8 * j))]⟩) :: .string (t ++ (⟨#[UInt8.ofNat (s.size * 8 / 2 ^ (8 * j))]⟩ : ByteArray)) :: List.replicate 1 un).toArray, []⟩) (by kernel_rfl) ?_
      have h10 : HA w [] w8 := h9.tl
      -- region 7
      refine wl_region ?_
      refine wl_val (iN .i64 j) (by kernel_rfl) (by kernel_rfl) ?_
      refine wl_val (dnv j) (by kernel_rfl) (run_dec (j := j) (by omega) (by kernel_rfl) (by kernel_rfl)) ?_
      refine wl_val (dnv j) (by kernel_rfl) (by kernel_rfl) ?_
      refine wl_nil ?_
      exact then_I ⟨j + 1, (by omega), t ++ (⟨#[UInt8.ofNat (s.size * 8 / 2 ^ (8 * j))]⟩ : ByteArray), j, fun ii => (([(27, iN .i64 j), (28, .bool true), (29, iN .i64 j), (30, dnv j), (31, iN .i64 j), (32, .bool false), (33, u4 33), (34, u4 34), (35, .string t), (36, iN .u64 (s.size * 8)), (37, iN .i64 j), (38, iN .i64 (8 * j)), (39, iN .u64 ((s.size * 8) / 2 ^ (8 * j))), (40, by8 (UInt8.ofNat ((s.size * 8) / 2 ^ (8 * j)))), (41, .slice (some ⟨q7, 0, none⟩) 1 1), (42, .string (⟨#[UInt8.ofNat (s.size * 8 / 2 ^ (8 * j))]⟩)), (43, .string (t ++ (⟨#[UInt8.ofNat (s.size * 8 / 2 ^ (8 * j))]⟩ : ByteArray)))] : List (Nat × Value)).find? (·.1 == ii)).elim undef (·.2), rfl, by kernel_rfl, h10, (by omega), (by rw [bl_app, hb, be_nextS s.size j (by omega), ← List.append_assoc, Nat.mul_comm s.size 8]; rfl)⟩

theorem gp_noL (z j : Nat) (h : j < gapP KL z) : (z + (1 + j)) % 128 ≠ 112 := by
  have e : gapP KL z = 127 - (z + 17 - 1) % 128 := rfl
  rw [e] at h
  omega
theorem gp_yesL (z : Nat) : (z + (1 + gapP KL z)) % 128 = 112 := by
  have e : gapP KL z = 127 - (z + 17 - 1) % 128 := rfl
  rw [e]
  omega
theorem gp_leL (z : Nat) : gapP KL z ≤ 127 := Nat.sub_le _ _
theorem be_nextL (z j : Nat) (hj : j < 16) : beP 16 (8 * z) (16 - j) = beP 16 (8 * z) (16 - (j + 1)) ++ [UInt8.ofNat (8 * z / 2 ^ (8 * j))] := by
  rw [show 16 - j = (16 - (j + 1)) + 1 by omega, beP, show 16 - 1 - (16 - (j + 1)) = j by omega]
end Go.Proofs.YtmlldbkhphngeaaDoor
