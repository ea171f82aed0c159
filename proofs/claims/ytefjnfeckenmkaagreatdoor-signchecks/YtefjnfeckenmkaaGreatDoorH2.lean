/-
 More steps: appending in a row, slices that are built, numbers that are shifted far.
-/
import Derived.Test.YtefjnfeckenmkaaGreatDoorH0
namespace Go.Proofs.YtefjnfeckenmkaaGreatDoor.Hh
open Go.RowKit
theorem _root_.Go.Proofs.YtefjnfeckenmkaaGreatDoor.HA.tl {w0 w : World} {L : List (Nat × TypeId × Array Value)} {x : Nat × TypeId × Array Value} (h : HA w0 (x :: L) w) : HA w0 L w :=
 ⟨h.old, fun y hy => h.blk y (List.mem_cons_of_mem _ hy), fun y hy => h.own y (List.mem_cons_of_mem _ hy), by have := h.nd; rw [List.map_cons, List.nodup_cons] at this; exact this.2⟩
section
variable {ρ : Operand → Value} {x y : Operand} {w : World} {dst : Option Tmp} {T T2 ty : TypeId} {pos : String} {aft : Array Edge} {gd : Option (Nat × Bool)} {P : Program} {k : IntKind} {a b : Nat}
theorem run_leq (hx : ρ x = iN k a) (hy : ρ y = iN k b) (t : Bool) (ht : decide (a ≤ b) = t) : (execOp ρ ⟨dst, .binOp .leq T x y T2, ty, pos, aft, gd⟩).run P w = .ok (.value (.bool t)) w := by
 subst ht
 simp only [execOp, hx, hy, iN]
 simp [binOp, go_sem]
theorem run_gtr (hx : ρ x = iN k a) (hy : ρ y = iN k b) (t : Bool) (ht : decide (b < a) = t) : (execOp ρ ⟨dst, .binOp .gtr T x y T2, ty, pos, aft, gd⟩).run P w = .ok (.value (.bool t)) w := by
 subst ht
 simp only [execOp, hx, hy, iN]
 simp [binOp, go_sem]
theorem run_shrn {k2 : IntKind} (ha : a < 18446744073709551616) (hx : ρ x = iN .u64 a) (hy : ρ y = iN k2 b) : (execOp ρ ⟨dst, .binOp .shr T x y T2, ty, pos, aft, gd⟩).run P w = .ok (.value (iN .u64 (a / 2 ^ b))) w := by
 have e : a = (BitVec.ofNat 64 a).toNat := by rw [BitVec.toNat_ofNat, Nat.mod_eq_of_lt ha]
 have h := run_shrv (P := P) (w := w) (dst := dst) (T := T) (T2 := T2) (ty := ty) (pos := pos) (aft := aft) (gd := gd) (a := BitVec.ofNat 64 a) (ρ := ρ) WK.l (hx := (by unfold bv; rw [← e]; exact hx)) (hy := hy)
 rw [h]
 unfold bv
 rw [BitVec.toNat_ushiftRight, ← e, Nat.shiftRight_eq_div_pow]
theorem run_lown (hx : ρ x = iN k a) (hT : P.underlying T = some (.int k)) (hT2 : P.underlying T2 = some (.int .u8)) : (execOp ρ ⟨dst, .convert T T2 x, ty, pos, aft, gd⟩).run P w = .ok (.value (by8 (UInt8.ofNat a))) w := by
 have h : IntKind.u8.wrap (a : Int) = ((a % 256 : Nat) : Int) := by simp [IntKind.wrap, IntKind.bits, IntKind.signed]
 simp only [execOp, hx, by8, iN, UInt8.toNat_ofNat']
 simpa [go_sem, hT, hT2] using h
theorem run_build1 {u : UInt8} (hx : ρ x = by8 u) : (execOp ρ ⟨dst, .buildSlice 71 1 #[(0, x)], ty, pos, aft, gd⟩).run Tryz.prog w = .ok (.value (.slice (some ⟨w.heap.size, 0, none⟩) 1 1)) (w.alloc (.cells (bc [u]) 5)) := by
 simp only [by8, iN] at hx
 simp only [execOp]
 go_simp
 rfl
end
section
variable {ops : Array Oper} {Q : Exit → Act → World → Prop} {a : Act} {w w0 : World} {L : List (Nat × TypeId × Array Value)} {rest : List Oper} {dst : Option Tmp} {ty : TypeId} {pos : String} {aft : Array Edge} {gd : Option (Nat × Bool)} {x y : Operand}
theorem _root_.Go.Proofs.YtefjnfeckenmkaaGreatDoor.HA.app {q m : Nat} {l n l' : List UInt8} (H : HA w0 L w) (i : Nat) (hi : L[i]? = some (q, 5, bc l)) (hroom : m + n.length ≤ l.length) (he : laidOn l m n = l') : HA w0 (L.set i (q, 5, bc l')) (w.setCells q m (n.map by8)) := by
 have := H.part i hi (o := m) (vs := n.map by8) (by rw [List.length_map, bc_size]; exact hroom)
 rw [laid_bc, he] at this
 exact this
theorem wl_app {q r m c j c2 : Nat} {l n l' : List UInt8} (H : HA w0 L w) (i i' : Nat) (hi : L[i]? = some (q, 5, bc l)) (hi' : L[i']? = some (r, 5, bc n))
    
      (hj : n.length = j) (hroom : m + j ≤ c) (hl : l.length = c) (he : laidOn l m n = l')
    (h : ∀ w', HA w0 (L.set i (q, 5, bc l')) w' → WL Tryz.prog ops Q rest (a.put dst (.slice (some ⟨q, 0, none⟩) (m + j) c)) w') (hw : Region.wanted ⟨dst, .call { callee := .builtin .append, args := #[x, y], argTypes := #[71, 71] }, ty, pos, aft, gd⟩ (yielded ops a.tmps) = true := by kernel_rfl) (hx : a.eval x = .slice (some ⟨q, 0, none⟩) m c := by kernel_rfl) (hy : a.eval y = .slice (some ⟨r, 0, none⟩) j c2 := by kernel_rfl) :
    WL Tryz.prog ops Q (⟨dst, .call { callee := .builtin .append, args := #[x, y], argTypes := #[71, 71] }, ty, pos, aft, gd⟩ :: rest) a w := by
  refine ⟨?_⟩
  unfold wpList
  rw [if_pos hw]
  refine .inl ?_
  unfold Oper.wp
  rw [run_app hx hy (H.get i hi) (H.get i' hi') hj hroom hl]
  exact (h _ (H.app i hi (by omega) he)).out
theorem wl_mks {o : Oper} {n m : Nat} {c : Array Value} (H : HA w0 L w) (t : TypeId)  (hr : (execOp a.eval o).run Tryz.prog w = .ok (.value (.slice (some ⟨w.heap.size, 0, none⟩) n m)) (w.alloc (.cells c t)))
  (h : ∀ q w', HA w0 ((q, t, c) :: L) w' → WL Tryz.prog ops Q rest (a.put o.dst (.slice (some ⟨q, 0, none⟩) n m)) w') (hw : Region.wanted o (yielded ops a.tmps) = true := by kernel_rfl) : WL Tryz.prog ops Q (o :: rest) a w := by
 refine ⟨?_⟩
 unfold wpList
 rw [if_pos hw]
 refine .inl ?_
 unfold Oper.wp
 rw [hr]
 exact (h _ _ (H.make t c)).out
end
theorem padb_len (l : List UInt8) (m : Nat) : (l ++ List.replicate m 0).length = l.length + m := by simp
theorem app_pad (l : List UInt8) (m c : Nat) (e : UInt8) (hl : l.length = m) (hm : m < c) : laidOn (l ++ List.replicate (c - m) 0) m [e] = (l ++ [e]) ++ List.replicate (c - (m + 1)) 0 := by
 subst hl
 unfold laidOn
 rw [List.take_left, List.length_cons, List.length_nil, List.drop_append, List.drop_eq_nil_of_le (by omega), List.nil_append, show l.length + (0 + 1) - l.length = 1 by omega, List.drop_replicate]
 rfl
end Go.Proofs.YtefjnfeckenmkaaGreatDoor.Hh

namespace Go.Proofs.YtefjnfeckenmkaaGreatDoor.Hh
set_option linter.unusedVariables false
set_option maxRecDepth 100000
set_option maxHeartbeats 2000000
open Go.RowKit
def donL (st : List (BitVec 64)) (i j : Nat) : List UInt8 := outP st i ++ outW (st.getD i 0) j
theorem don_zeroL (st : List (BitVec 64)) (i : Nat) : donL st i 0 = outP st i := List.append_nil _
theorem don_lenL (st : List (BitVec 64)) (i j : Nat) : (donL st i j).length = 8 * i + j := by
 unfold donL
 rw [List.length_append, outP_len, outW_len, show 64 / 8 = 8 from rfl]
 omega
theorem out_lenL (st : List (BitVec 64)) (i : Nat) (hi : i ≤ 8) : (outP st i ++ List.replicate (64 - 8 * i) 0).length = 64 := by rw [padb_len, outP_len, show 64 / 8 = 8 from rfl]; omega
theorem donp_lenL (st : List (BitVec 64)) (i j : Nat) (hi : i < 8) (hj : j ≤ 8) : (donL st i j ++ List.replicate (64 - (8 * i + j)) 0).length = 64 := by rw [padb_len, don_lenL]; omega
theorem don_stepL (st : List (BitVec 64)) (i j : Nat) (hi : i < 8) (hj : j < 8) : laidOn (donL st i j ++ List.replicate (64 - (8 * i + j)) 0) (8 * i + j) [UInt8.ofNat ((st.getD i 0) >>> (64 - 8 * (j + 1))).toNat] = donL st i (j + 1) ++ List.replicate (64 - (8 * i + (j + 1))) 0 := by
 rw [app_pad _ _ _ _ (don_lenL st i j) (by omega)]
 unfold donL
 rw [outW, Nat.add_assoc]
 simp only [List.append_assoc]
theorem lay_endL (st : List (BitVec 64)) : (outP st 8 ++ List.replicate (64 - 8 * 8) 0).take (8 * 8) = outP st 8 := by
 rw [← show (outP st 8).length = 8 * 8 by rw [outP_len], List.take_left]
theorem layL (st : List (BitVec 64)) (hst : st.length = 8) (w : World) :
  Calls Tryz.prog 118 #[.agg (wc .u64 st), iN .u64 64] w fun e w' => e = .returned (.string ⟨(outP st 8).toArray⟩) ∧ Below w.heap.size w w' := by
 have H0 := HA.start w
 go_enter Tryz.func118, Tryz.ntmps118
 refine zsr ?_
 refine wl_make H0 107 (run_box43 (c := wc .u64 st) (by kernel_rfl)) ?_
 intro q1 w2 h3
 refine zwv (.string { data := #[] }) ?_
 refine znt ?_
 refine zsr ?_
 refine zwv (iN .u64 64) ?_
 refine zwu (run_mul (k := .u64) (a := 8) (b := 64) (by decide)) ?_
 refine zwu (run_quo (k := .u64) (a := 512) (b := 8) (by decide) (by decide)) ?_
 refine wl_mks (n := 0) (m := 64) h3 5 (run_mk (k := .u64) (m := 0) (c := 64) (by kernel_rfl) (by kernel_rfl) (by decide) (by decide)) ?_
 intro q4 w5 h6
 refine zwv (.slice (some ⟨q4, 0, none⟩) 0 64) ?_
 refine znt ?_
 refine wp_seq ?_
 refine zsr ?_
 refine wl_load h6 1 rfl Tryz.underlying107 rfl (info43 .u64 st hst) ?_
 refine zwv (iN .i64 0) ?_
 refine znt ?_
 refine wp_block ?_
 refine wp_count (fun k A w' => ∃ u7 : Nat → Value, A = ⟨(.agg (wc .u64 st) :: iN .u64 64 :: pt q1 :: un :: .string { data := #[] } :: .slice (some ⟨q4, 0, none⟩) (8 * k) 64 :: un :: u7 7 :: u7 8 :: iN .u64 64 :: iN .u64 512 :: iN .u64 64 :: .slice (some ⟨q4, 0, none⟩) 0 64 :: .agg (wc .u64 st) :: iN .i64 k :: u7 15 :: u7 16 :: u7 17 :: u7 18 :: u7 19 :: u7 20 :: u7 21 :: u7 22 :: u7 23 :: u7 24 :: u7 25 :: u7 26 :: u7 27 :: u7 28 :: u7 29 :: u7 30 :: u7 31 :: List.replicate 2 un).toArray, []⟩ ∧ HA w [(q4, 5, bc (outP st k ++ List.replicate (64 - 8 * k) 0)), (q1, 107, wc .u64 st)] w') 8 ?_ ?_ ?_
 ·exact zex h6
 ·rintro k hk _ w8 ⟨u7, rfl, h9⟩
  refine zsr ?_
  refine zwu (run_lss (k := .i64) (a := k) (b := 8) true (decide_eq_true hk)) ?_
  refine znt ?_
  refine zit ?_
  refine wp_seq ?_
  refine wp_block ?_
  refine zsr ?_
  refine zwu (run_index43 (i := k) (by kernel_rfl) (by kernel_rfl) (by omega) (wc_get .u64 st k (by rw [hst]; omega))) ?_
  refine zwv (bv .u64 (st.getD k 0)) ?_
  refine znt ?_
  refine zsr ?_
  refine zwv (iN .u64 8) ?_
  refine znt ?_
  refine wp_block ?_
  refine wp_count (fun j A w' => ∃ u10 : Nat → Value, A = ⟨(.agg (wc .u64 st) :: iN .u64 64 :: pt q1 :: un :: .string { data := #[] } :: .slice (some ⟨q4, 0, none⟩) (8 * k + j) 64 :: un :: bv .u64 (st.getD k 0) :: iN .u64 (8 * (j + 1)) :: iN .u64 64 :: iN .u64 512 :: iN .u64 64 :: .slice (some ⟨q4, 0, none⟩) 0 64 :: .agg (wc .u64 st) :: iN .i64 k :: .bool true :: bv .u64 (st.getD k 0) :: u10 17 :: u10 18 :: u10 19 :: u10 20 :: u10 21 :: u10 22 :: u10 23 :: u10 24 :: u10 25 :: u10 26 :: u10 27 :: u10 28 :: u10 29 :: u10 30 :: u7 31 :: List.replicate 2 un).toArray, []⟩ ∧ HA w [(q4, 5, bc (donL st k j ++ List.replicate (64 - (8 * k + j)) 0)), (q1, 107, wc .u64 st)] w') 8 ?_ ?_ ?_
  ·exact zex ((by rw [don_zeroL st k]; exact h9))
  ·rintro j hj _ w11 ⟨u10, rfl, h12⟩
   refine wp_seq ?_
   refine zsr ?_
   refine zwv (iN .u64 (8 * (j + 1))) ?_
   refine zwv (iN .u64 64) ?_
   refine zwu (run_leq (k := .u64) (a := 8 * (j + 1)) (b := 64) (by kernel_rfl) (by kernel_rfl) true (decide_eq_true (by omega))) ?_
   refine znt ?_
   refine zct ?_
   refine wp_skip ?_
   refine then_at rfl ?_
   refine wp_seq ?_
   refine wp_block ?_
   refine wl_region ?_
   refine zwv (.slice (some ⟨q4, 0, none⟩) (8 * k + j) 64) ?_
   refine zwv (bv .u64 (st.getD k 0)) ?_
   refine zwv (iN .u64 64) ?_
   refine zwv (iN .u64 (8 * (j + 1))) ?_
   refine zwu (run_sub (k := .u64) (a := 64) (b := 8 * (j + 1)) (by omega) (by simp only [top]; omega)) ?_
   refine zwu (run_shrv (k2 := .u64) (m := 64 - (8 * (j + 1))) WK.l (a := st.getD k 0)) ?_
   refine zwu (run_low (a := (st.getD k 0) >>> (64 - (8 * (j + 1)))) (by kernel_rfl) Tryz.underlying34 Tryz.underlying5) ?_
   refine wl_mks (n := 1) (m := 1) h12 5 (run_build1 (u := UInt8.ofNat ((st.getD k 0) >>> (64 - (8 * (j + 1)))).toNat) (by kernel_rfl)) ?_
   intro q13 w14 h15
   refine wl_app (q := q4) (r := q13) (m := 8 * k + j) (c := 64) (j := 1) (c2 := 1) (l := donL st k j ++ List.replicate (64 - (8 * k + j)) 0) (n := [UInt8.ofNat ((st.getD k 0) >>> (64 - (8 * (j + 1)))).toNat]) (l' := donL st k (j + 1) ++ List.replicate (64 - (8 * k + (j + 1))) 0) h15 1 0 rfl rfl rfl (by omega) (donp_lenL st k j hk (by omega)) (don_stepL st k j hk hj) ?_
   intro w16 (h17 : HA w [(q13, 5, bc ([UInt8.ofNat ((st.getD k 0) >>> (64 - (8 * (j + 1)))).toNat])), (q4, 5, bc (donL st k (j + 1) ++ List.replicate (64 - (8 * k + (j + 1))) 0)), (q1, 107, wc .u64 st)] w16)
   have h18 : HA w [(q4, 5, bc (donL st k (j + 1) ++ List.replicate (64 - (8 * k + (j + 1))) 0)), (q1, 107, wc .u64 st)] w16 := h17.tl
   clear h17
   refine zwv (.slice (some ⟨q4, 0, none⟩) (8 * k + j + 1) 64) ?_
   refine wl_nil ?_
   refine block_normal ?_
   refine then_at rfl ?_
   refine wl_region ?_
   refine zwv (iN .u64 (8 * (j + 1))) ?_
   refine zwu (run_add (k := .u64) (a := 8 * (j + 1)) (b := 8) (by simp only [top]; omega)) ?_
   refine zwv (iN .u64 ((8 * (j + 1)) + 8)) ?_
   refine wl_nil ?_
   exact then_I (zex h18)
  ·rintro _ w19 ⟨u10, rfl, h20⟩
   refine wp_seq ?_
   refine zsr ?_
   refine zwv (iN .u64 (8 * (8 + 1))) ?_
   refine zwv (iN .u64 64) ?_
   refine zwu (run_leq (k := .u64) (a := 8 * (8 + 1)) (b := 64) (by kernel_rfl) (by kernel_rfl) false (by decide)) ?_
   refine znt ?_
   refine zcf ?_
   refine wp_exit ?_
   repeat first | refine then_exit ?_ | refine block_exit ?_ | refine block_exit_ne (by decide) ?_
   refine block_normal ?_
   refine then_at rfl ?_
   refine wl_region ?_
   refine zwu (run_add (k := .i64) (a := k) (b := 1) (by simp only [top]; omega)) ?_
   refine zwv (iN .i64 (k + 1)) ?_
   refine wl_nil ?_
   exact then_I (zex h20)
 ·rintro _ w21 ⟨u7, rfl, h22⟩
  refine zsr ?_
  refine zwu (run_lss (k := .i64) (a := 8) (b := 8) false (by decide)) ?_
  refine znt ?_
  refine wp_seq ?_
  refine zcf ?_
  refine wp_exit ?_
  repeat first | refine then_exit ?_ | refine block_exit ?_ | refine block_exit_ne (by decide) ?_
  refine then_at rfl ?_
  refine zsr ?_
  refine zwv (.slice (some ⟨q4, 0, none⟩) (8 * 8) 64) ?_
  refine zwu (run_text (q := q4) (m := 8 * 8) (c := 64) (l := outP st 8 ++ List.replicate (64 - 8 * 8) 0) (by kernel_rfl) (h22.get 0 rfl) (by rw [(out_lenL st 8 (by omega))]; omega)) ?_
  refine zwv (.string (⟨((outP st 8 ++ List.replicate (64 - 8 * 8) 0).take (8 * 8)).toArray⟩)) ?_
  refine znt ?_
  refine wp_ret ?_
  repeat first | refine then_ret ?_ | refine block_ret ?_
  exact bodyPost_ret (v := .string ⟨((outP st 8 ++ List.replicate (64 - 8 * 8) 0).take (8 * 8)).toArray⟩) (by kernel_rfl) rfl ⟨by rw [lay_endL st], h22.old⟩
theorem gap_leL (size : Nat) : gapP KL size ≤ 127 := Nat.sub_le _ _
def fpL (size i : Nat) : List UInt8 := (128 :: List.replicate (gapP KL size) 0) ++ beP 16 (8 * size) i
theorem fp_lenL (size i : Nat) : (fpL size i).length = 1 + gapP KL size + i := by unfold fpL; rw [List.length_append, List.length_cons, List.length_replicate, beP_len]; omega
theorem fpp_lenL (size i : Nat) (hi : i ≤ 16) : (fpL size i ++ List.replicate (17 + gapP KL size - (1 + gapP KL size + i)) 0).length = 17 + gapP KL size := by rw [padb_len, fp_lenL]; omega
theorem fp_startL (size : Nat) : (bc (List.replicate (17 + gapP KL size) 0)).setIfInBounds 0 (.int .u8 ((128 : Nat) : Int)) = bc (fpL size 0 ++ List.replicate (17 + gapP KL size - (1 + gapP KL size + 0)) 0) := by
 have e : List.replicate (17 + gapP KL size) (0 : UInt8) = 0 :: (List.replicate (gapP KL size) 0 ++ List.replicate 16 0) := by
  rw [List.replicate_append_replicate, ← List.replicate_succ]; congr 1; omega
 rw [e, show 17 + gapP KL size - (1 + gapP KL size + 0) = 16 by omega]
 unfold bc fpL beP
 simp only [List.map_cons, List.setIfInBounds_toArray, List.set_cons_zero, List.append_nil, List.cons_append]
 rfl
theorem fp_stepL (size i : Nat) (hi : i < 16) : laidOn (fpL size i ++ List.replicate (17 + gapP KL size - (1 + gapP KL size + i)) 0) (1 + gapP KL size + i) [UInt8.ofNat (8 * size / 2 ^ (8 * (15 - i)))] = fpL size (i + 1) ++ List.replicate (17 + gapP KL size - (1 + gapP KL size + (i + 1))) 0 := by
 rw [app_pad _ _ _ _ (fp_lenL size i) (by omega)]
 unfold fpL
 rw [beP, Nat.add_assoc]
 simp only [List.append_assoc, Nat.reduceSub]
theorem fp_endL (size : Nat) : (fpL size 16 ++ List.replicate (17 + gapP KL size - (1 + gapP KL size + 16)) 0).take (1 + gapP KL size + 16) = fillP KL size := by
 rw [← fp_lenL size 16, List.take_left]
 rfl
theorem fillL (size : Nat) (hs : size ≤ 2251799813685248) (w : World) :
  Calls Tryz.prog 117 #[.agg kcL, iN .i64 size] w fun e w' => e = .returned (.string ⟨(fillP KL size).toArray⟩) ∧ Below w.heap.size w w' := by
 have hg := gap_leL size
 have H0 := HA.start w
 go_enter Tryz.func117, Tryz.ntmps117
 refine zsr ?_
 refine wl_make H0 103 (run_box36 (c := kcL) (by kernel_rfl)) ?_
 intro q1 w2 h3
 refine zwv (.string { data := #[] }) ?_
 refine znt ?_
 refine zsr ?_
 refine zwv (.pointer (some ⟨q1, 3, none⟩)) ?_
 refine zwu (v := iN .i64 16) (run_load1 Tryz.isAgg3 (((h3.get 0 rfl).cell 3).trans (by kernel_rfl))) ?_
 refine zwu (run_add (k := .i64) (a := 1) (b := 16) (by decide)) ?_
 refine zwv (iN .i64 17) ?_
 refine znt ?_
 refine wp_seq ?_
 refine zrs ⟨(.agg kcL :: iN .i64 size :: pt q1 :: un :: .string { data := #[] } :: iN .i64 17 :: iN .i64 (gapP KL size) :: un :: un :: un :: .pointer (some ⟨q1, 3, none⟩) :: iN .i64 16 :: iN .i64 17 :: .pointer (some ⟨q1, 1, none⟩) :: iN .i64 128 :: iN .i64 127 :: iN .i64 size :: iN .i64 17 :: iN .i64 (size + 17) :: iN .i64 ((size + 17) - 1) :: .pointer (some ⟨q1, 1, none⟩) :: iN .i64 128 :: iN .i64 (((size + 17) - 1) % 128) :: iN .i64 (gapP KL size) :: List.replicate 31 un).toArray, []⟩ (HA w [(q1, 103, kcL)]) h3.drew ?_ ?_
 ·refine zsp (.pointer (some ⟨q1, 1, none⟩)) ?_
  refine zst (v := iN .i64 128) (fun _ h => run_load1 Tryz.isAgg3 (((h.get 0 rfl).cell 1).trans (by kernel_rfl))) ?_
  refine zst (fun _ _ => (run_sub (k := .i64) (a := 128) (b := 1) (by decide) (by decide))) ?_
  refine zsp (iN .i64 size) ?_
  refine zsp (iN .i64 17) ?_
  refine zst (fun _ _ => (run_add (k := .i64) (a := size) (b := 17) (by simp only [top]; omega))) ?_
  refine zst (fun _ _ => (run_sub (k := .i64) (a := size + 17) (b := 1) (by omega) (by simp only [top]; omega))) ?_
  refine zsp (.pointer (some ⟨q1, 1, none⟩)) ?_
  refine zst (v := iN .i64 128) (fun _ h => run_load1 Tryz.isAgg3 (((h.get 0 rfl).cell 1).trans (by kernel_rfl))) ?_
  refine zst (fun _ _ => (run_rem (k := .i64) (a := (size + 17) - 1) (b := 128) (by omega))) ?_
  refine zst (fun _ _ => (run_sub (k := .i64) (a := 127) (b := (size + 17 - 1) % 128) (by omega) (by decide))) ?_
  refine zsp (iN .i64 (gapP KL size)) ?_
  exact AllSure.nil
 intro w4 h5
 refine then_at rfl ?_
 refine zsr ?_
 refine zwv (iN .i64 (gapP KL size)) ?_
 refine zwu (run_add (k := .i64) (a := 1) (b := gapP KL size) (by simp only [top]; omega)) ?_
 refine zwv (iN .i64 17) ?_
 refine zwv (iN .i64 (gapP KL size)) ?_
 refine zwu (run_add (k := .i64) (a := 17) (b := gapP KL size) (by simp only [top]; omega)) ?_
 refine wl_mks (n := 1 + (gapP KL size)) (m := 17 + (gapP KL size)) h5 5 (run_mk (k := .i64) (m := 1 + (gapP KL size)) (c := 17 + (gapP KL size)) (by kernel_rfl) (by kernel_rfl) (by omega) (by omega)) ?_
 intro q6 w7 h8
 refine zwv (.slice (some ⟨q6, 0, none⟩) (1 + (gapP KL size)) (17 + (gapP KL size))) ?_
 refine znt ?_
 refine zsr ?_
 refine zwv (.slice (some ⟨q6, 0, none⟩) (1 + (gapP KL size)) (17 + (gapP KL size))) ?_
 refine zwu (run_addr_slice (q := q6) (n := 1 + (gapP KL size)) (m := 17 + (gapP KL size)) (a := 0) Tryz.underlying71 Tryz.sizeOf5 (by omega)) ?_
 refine wl_put (k := .u8) (z := ((128 : Nat) : Int)) h8 0 rfl 0 (by rw [bc_size, (List.length_replicate)]; omega) Tryz.sizeOf5 ?_
 intro w9 h10
 have h11 : HA w [(q6, 5, bc (fpL size 0 ++ List.replicate (17 + gapP KL size - (1 + gapP KL size + 0)) 0)), (q1, 103, kcL)] w9 := by
  have e : (bc (List.replicate (17 + (gapP KL size)) 0)).setIfInBounds 0 (.int .u8 ((128 : Nat) : Int)) = bc (fpL size 0 ++ List.replicate (17 + gapP KL size - (1 + gapP KL size + 0)) 0) := (fp_startL size)
  rw [← e]; exact h10
 clear h10
 refine znt ?_
 refine zsr ?_
 refine zwv (iN .i64 size) ?_
 refine zwu (v := iN .u64 size) (run_conv .u64 Tryz.underlying3 Tryz.underlying34 (by simp only [top]; omega)) ?_
 refine zwu (run_mul (k := .u64) (a := 8) (b := size) (by simp only [top]; omega)) ?_
 refine zwv (iN .u64 (8 * size)) ?_
 refine znt ?_
 refine wp_seq ?_
 refine zsr ?_
 refine zwv (.pointer (some ⟨q1, 3, none⟩)) ?_
 refine zwu (v := iN .i64 16) (run_load1 Tryz.isAgg3 (((h11.get 1 rfl).cell 3).trans (by kernel_rfl))) ?_
 refine zwv (iN .i64 0) ?_
 refine znt ?_
 refine wp_block ?_
 refine wp_count (fun k A w' => ∃ u12 : Nat → Value, A = ⟨(.agg kcL :: iN .i64 size :: pt q1 :: un :: .string { data := #[] } :: iN .i64 17 :: iN .i64 (gapP KL size) :: .slice (some ⟨q6, 0, none⟩) (1 + gapP KL size + k) (17 + gapP KL size) :: iN .u64 (8 * size) :: u12 9 :: .pointer (some ⟨q1, 3, none⟩) :: iN .i64 16 :: iN .i64 17 :: .pointer (some ⟨q1, 1, none⟩) :: iN .i64 128 :: iN .i64 127 :: iN .i64 size :: iN .i64 17 :: iN .i64 (size + 17) :: iN .i64 ((size + 17) - 1) :: .pointer (some ⟨q1, 1, none⟩) :: iN .i64 128 :: iN .i64 (((size + 17) - 1) % 128) :: iN .i64 (gapP KL size) :: iN .i64 (gapP KL size) :: iN .i64 (1 + (gapP KL size)) :: iN .i64 17 :: iN .i64 (gapP KL size) :: iN .i64 (17 + (gapP KL size)) :: .slice (some ⟨q6, 0, none⟩) (1 + (gapP KL size)) (17 + (gapP KL size)) :: .slice (some ⟨q6, 0, none⟩) (1 + (gapP KL size)) (17 + (gapP KL size)) :: pt q6 :: iN .i64 size :: iN .u64 size :: iN .u64 (8 * size) :: .pointer (some ⟨q1, 3, none⟩) :: iN .i64 16 :: iN .i64 k :: u12 38 :: u12 39 :: u12 40 :: u12 41 :: u12 42 :: u12 43 :: u12 44 :: u12 45 :: u12 46 :: u12 47 :: u12 48 :: u12 49 :: u12 50 :: u12 51 :: u12 52 :: List.replicate 2 un).toArray, []⟩ ∧ HA w [(q6, 5, bc (fpL size k ++ List.replicate (17 + gapP KL size - (1 + gapP KL size + k)) 0)), (q1, 103, kcL)] w') 16 ?_ ?_ ?_
 ·exact zex h11
 ·rintro k hk _ w13 ⟨u12, rfl, h14⟩
  refine zsr ?_
  refine zwu (run_lss (k := .i64) (a := k) (b := 16) true (decide_eq_true hk)) ?_
  refine znt ?_
  refine zit ?_
  refine wp_seq ?_
  refine wp_block ?_
  refine zsr ?_
  refine zwv (iN .i64 k) ?_
  refine zwv (iN .i64 k) ?_
  refine znt ?_
  refine wl_region ?_
  refine zwv (.slice (some ⟨q6, 0, none⟩) (1 + gapP KL size + k) (17 + gapP KL size)) ?_
  refine zwv (iN .u64 (8 * size)) ?_
  refine zwv (.pointer (some ⟨q1, 3, none⟩)) ?_
  refine zwu (v := iN .i64 16) (run_load1 Tryz.isAgg3 (((h14.get 1 rfl).cell 3).trans (by kernel_rfl))) ?_
  refine zwu (run_sub (k := .i64) (a := 16) (b := 1) (by decide) (by decide)) ?_
  refine zwv (iN .i64 k) ?_
  refine zwu (run_sub (k := .i64) (a := 15) (b := k) (by omega) (by simp only [top]; omega)) ?_
  refine zwu (run_mul (k := .i64) (a := 8) (b := 15 - k) (by simp only [top]; omega)) ?_
  refine zwu (run_shrn (k2 := .i64) (a := 8 * size) (b := 8 * (15 - k)) (by omega) (by kernel_rfl) (by kernel_rfl)) ?_
  refine zwu (run_lown (a := (8 * size) / 2 ^ (8 * (15 - k))) (by kernel_rfl) Tryz.underlying34 Tryz.underlying5) ?_
  refine wl_mks (n := 1) (m := 1) h14 5 (run_build1 (u := UInt8.ofNat ((8 * size) / 2 ^ (8 * (15 - k)))) (by kernel_rfl)) ?_
  intro q15 w16 h17
  refine wl_app (q := q6) (r := q15) (m := 1 + gapP KL size + k) (c := 17 + gapP KL size) (j := 1) (c2 := 1) (l := fpL size k ++ List.replicate (17 + gapP KL size - (1 + gapP KL size + k)) 0) (n := [UInt8.ofNat ((8 * size) / 2 ^ (8 * (15 - k)))]) (l' := fpL size (k + 1) ++ List.replicate (17 + gapP KL size - (1 + gapP KL size + (k + 1))) 0) h17 1 0 rfl rfl rfl (by omega) (fpp_lenL size k (by omega)) (fp_stepL size k hk) ?_
  intro w18 (h19 : HA w [(q15, 5, bc ([UInt8.ofNat ((8 * size) / 2 ^ (8 * (15 - k)))])), (q6, 5, bc (fpL size (k + 1) ++ List.replicate (17 + gapP KL size - (1 + gapP KL size + (k + 1))) 0)), (q1, 103, kcL)] w18)
  have h20 : HA w [(q6, 5, bc (fpL size (k + 1) ++ List.replicate (17 + gapP KL size - (1 + gapP KL size + (k + 1))) 0)), (q1, 103, kcL)] w18 := h19.tl
  clear h19
  refine zwv (.slice (some ⟨q6, 0, none⟩) (1 + gapP KL size + k + 1) (17 + gapP KL size)) ?_
  refine wl_nil ?_
  refine block_normal ?_
  refine then_at rfl ?_
  refine wl_region ?_
  refine zwu (run_add (k := .i64) (a := k) (b := 1) (by simp only [top]; omega)) ?_
  refine zwv (iN .i64 (k + 1)) ?_
  refine wl_nil ?_
  exact then_I (zex h20)
 ·rintro _ w21 ⟨u12, rfl, h22⟩
  refine zsr ?_
  refine zwu (run_lss (k := .i64) (a := 16) (b := 16) false (by decide)) ?_
  refine znt ?_
  refine wp_seq ?_
  refine zcf ?_
  refine wp_exit ?_
  repeat first | refine then_exit ?_ | refine block_exit ?_ | refine block_exit_ne (by decide) ?_
  refine then_at rfl ?_
  refine zsr ?_
  refine zwv (.slice (some ⟨q6, 0, none⟩) (1 + gapP KL size + 16) (17 + gapP KL size)) ?_
  refine zwu (run_text (q := q6) (m := 1 + gapP KL size + 16) (c := 17 + gapP KL size) (l := fpL size 16 ++ List.replicate (17 + gapP KL size - (1 + gapP KL size + 16)) 0) (by kernel_rfl) (h22.get 0 rfl) (by rw [(fpp_lenL size 16 (by omega))]; omega)) ?_
  refine zwv (.string (⟨((fpL size 16 ++ List.replicate (17 + gapP KL size - (1 + gapP KL size + 16)) 0).take (1 + gapP KL size + 16)).toArray⟩)) ?_
  refine znt ?_
  refine wp_ret ?_
  repeat first | refine then_ret ?_ | refine block_ret ?_
  exact bodyPost_ret (v := .string ⟨((fpL size 16 ++ List.replicate (17 + gapP KL size - (1 + gapP KL size + 16)) 0).take (1 + gapP KL size + 16)).toArray⟩) (by kernel_rfl) rfl ⟨by rw [fp_endL size], h22.old⟩
end Go.Proofs.YtefjnfeckenmkaaGreatDoor.Hh

namespace Go.Proofs.YtefjnfeckenmkaaGreatDoor.Hh
open Go.RowKit
theorem bl_extract (t : ByteArray) (a b : Nat) : bl (t.extract a b) = ((bl t).drop a).take (b - a) := by
 unfold bl
 rw [ByteArray.data_extract, Array.toList_extract, List.extract_eq_take_drop]
theorem bl_inj {s t : ByteArray} (h : bl s = bl t) : s = t := by
 cases s; cases t
 congr 1
 exact Array.toList_inj.1 h
theorem extract_size (t : ByteArray) (a : Nat) (h : a ≤ t.size) : (t.extract 0 a).size = a := by
 rw [← bl_len, bl_extract, List.length_take, List.length_drop, bl_len]; omega
theorem extract_size2 (t : ByteArray) (a : Nat) : (t.extract a t.size).size = t.size - a := by
 rw [← bl_len, bl_extract, List.length_take, List.length_drop, bl_len]; omega
theorem bl_split (t : ByteArray) (a : Nat) : bl t = bl (t.extract 0 a) ++ bl (t.extract a t.size) := by
 rw [bl_extract, bl_extract, List.drop_zero, Nat.sub_zero, List.take_of_length_le (i := t.size - a) (by rw [List.length_drop, bl_len]; omega), List.take_append_drop]
theorem take_round (K : Kd) (t : ByteArray) (n : Nat) (buf : List UInt8) (st : List (BitVec K.w)) (ht : 0 < t.size) (hn : n < K.B) (hbuf : buf.length = K.B) (m2 : Nat) (b2 : List UInt8) (t2 : ByteArray)
  (hm2 : m2 = n + (t.extract 0 (min t.size (K.B - n))).size) (hb2 : b2 = laidOn buf n (bl (t.extract 0 (min t.size (K.B - n))))) (ht2 : t2 = t.extract (min t.size (K.B - n)) t.size) :
  m2 ≤ K.B ∧ b2.length = K.B ∧ t2.size < t.size ∧ n + (bl (t.extract 0 (min t.size (K.B - n)))).length ≤ buf.length ∧
   (m2 ≠ K.B → fedP K (st, buf.take n) (bl t) = fedP K (st, b2.take m2) (bl t2)) ∧ (m2 = K.B → fedP K (st, buf.take n) (bl t) = fedP K (turnP K st b2, []) (bl t2)) := by
 have e1 : (t.extract 0 (min t.size (K.B - n))).size = min t.size (K.B - n) := extract_size _ _ (Nat.min_le_left _ _)
 have e2 : (bl (t.extract 0 (min t.size (K.B - n)))).length = min t.size (K.B - n) := by rw [bl_len, e1]
 have hr : n + (bl (t.extract 0 (min t.size (K.B - n)))).length ≤ buf.length := by rw [e2, hbuf]; omega
 have hl : (buf.take n).length = n := by rw [List.length_take]; omega
 have hp : ((st, buf.take n) : List (BitVec K.w) × List UInt8).2.length = n := hl
 have htk : b2.take m2 = buf.take n ++ bl (t.extract 0 (min t.size (K.B - n))) := by
  rw [hb2, hm2, ← bl_len]; exact laidOn_take _ _ _ hr
 have hfe : fedP K (st, buf.take n) (bl t) = fedP K (fedP K (st, buf.take n) (bl (t.extract 0 (min t.size (K.B - n))))) (bl t2) := by
  rw [ht2, ← fedP_app, ← bl_split]
 have hb2l : b2.length = K.B := by rw [hb2, laidOn_len _ _ _ hr, hbuf]
 refine ⟨by rw [hm2, e1]; omega, hb2l, ?_, hr, fun h => ?_, fun h => ?_⟩
 ·rw [ht2, extract_size2]; omega
 ·have h3 : (st, buf.take n).2.length + (bl (t.extract 0 (min t.size (K.B - n)))).length < K.B := by rw [hp, e2]; rw [hm2, e1] at h; omega
  rw [hfe, fedP_less K _ _ h3, htk]
 ·have h3 : (st, buf.take n).2.length + (bl (t.extract 0 (min t.size (K.B - n)))).length = K.B := by rw [hp, e2]; rw [hm2, e1] at h; exact h
  have h4 : bl (t.extract 0 (min t.size (K.B - n))) ≠ [] := fun e => by rw [e, List.length_nil] at e2; omega
  have h5 : b2.take m2 = b2 := List.take_of_length_le (by omega)
  rw [hfe, fedP_full K _ _ h4 h3, ← htk, h5]
section
variable {ρ : Operand → Value} {x y : Operand} {w : World} {dst : Option Tmp} {T T2 ty : TypeId} {pos : String} {aft : Array Edge} {gd : Option (Nat × Bool)}
theorem run_store_sl {q i n m : Nat} {o : Option Addr} (hx : ρ x = .pointer (some ⟨q, i, none⟩)) (hy : ρ y = .slice o n m) (h : (w.cell? ⟨q, i, none⟩).isSome = true) (hf : w.frozen? ⟨q, i, none⟩ = false) :
  (execOp ρ ⟨dst, .store 71 x y, ty, pos, aft, gd⟩).run Tryz.prog w = .ok .skip (w.setCell ⟨q, i, none⟩ (.slice o n m)) := by
 obtain ⟨u, hu⟩ := Option.isSome_iff_exists.1 h
 simp only [execOp, hx, hy]
 simp [go_sem, hu, Tryz.sizeOf71, hf]
end
section
variable {ops : Array Oper} {Q : Exit → Act → World → Prop} {a : Act} {w w0 : World} {L : List (Nat × TypeId × Array Value)} {rest : List Oper} {dst : Option Tmp} {ty : TypeId} {pos : String} {aft : Array Edge} {gd : Option (Nat × Bool)} {x y : Operand}
theorem _root_.Go.Proofs.YtefjnfeckenmkaaGreatDoor.HA.putsl {q n m : Nat} {o : Option Addr} {v : Value} (H : HA w0 L w) (i : Nat) (hi : L[i]? = some (q, 71, #[v])) : HA w0 (L.set i (q, 71, #[.slice o n m])) (w.setCell ⟨q, 0, none⟩ (.slice o n m)) := H.put i hi 0 (.slice o n m)
theorem wl_putsl {q n m : Nat} {o : Option Addr} {v : Value} (H : HA w0 L w) (i : Nat) (hi : L[i]? = some (q, 71, #[v])) (hw : Region.wanted ⟨dst, .store 71 x y, ty, pos, aft, gd⟩ (yielded ops a.tmps) = true) (hx : a.eval x = .pointer (some ⟨q, 0, none⟩)) (hy : a.eval y = .slice o n m)
  (h : ∀ w', HA w0 (L.set i (q, 71, #[.slice o n m])) w' → WL Tryz.prog ops Q rest (a.put dst undef) w') : WL Tryz.prog ops Q (⟨dst, .store 71 x y, ty, pos, aft, gd⟩ :: rest) a w := by
 refine ⟨?_⟩
 unfold wpList
 rw [if_pos hw]
 refine .inl ?_
 unfold Oper.wp
 rw [run_store_sl hx hy (by rw [(H.get i hi).cell 0]; rfl) ((H.get i hi).free 0 (Nat.zero_lt_one))]
 exact (h _ (H.putsl i hi)).out
end
end Go.Proofs.YtefjnfeckenmkaaGreatDoor.Hh
