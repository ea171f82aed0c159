/-
 turns, moves and the first state.
-/
import Derived.Test.YtefjnfeckenmkaaGreatDoorH0
namespace Go.Proofs.YtefjnfeckenmkaaGreatDoor.Hh
set_option linter.unusedVariables false
set_option maxRecDepth 100000
set_option maxHeartbeats 2000000
open Go.RowKit
theorem rotL (x : BitVec 64) (n : Nat) (hn : n ≤ 64) (w : World) :
  Calls Tryz.prog 140 #[bv .u64 x, iN .u64 n, iN .u64 64] w fun e w' => e = .returned (bv .u64 (rotP x n)) ∧ Below w.heap.size w w' := by
 have H0 := HA.start w
 go_enter Tryz.func140, Tryz.ntmps140
 refine zsr ?_
 refine zwv (iN .u64 0) ?_
 refine znt ?_
 refine zsr ?_
 refine zwv (bv .u64 x) ?_
 refine zwv (iN .u64 n) ?_
 refine zwu (run_shrv (k2 := .u64) (m := n) WK.l (a := x)) ?_
 refine zwv (bv .u64 x) ?_
 refine zwv (iN .u64 64) ?_
 refine zwv (iN .u64 n) ?_
 refine zwu (run_sub (k := .u64) (a := 64) (b := n) (by omega) (by simp only [top]; omega)) ?_
 refine zwu (run_shlv (k2 := .u64) (m := 64 - n) WK.l (a := x) (by kernel_rfl) (by kernel_rfl) (by omega)) ?_
 refine zwu (run_orv WK.l (a := x >>> n) (b := x <<< (64 - n)) (by kernel_rfl) (by kernel_rfl)) ?_
 refine zwv (bv .u64 ((x >>> n) ||| (x <<< (64 - n)))) ?_
 refine znt ?_
 refine wp_ret ?_
 repeat first | refine then_ret ?_ | refine block_ret ?_
 exact bodyPost_ret (by kernel_rfl) rfl ⟨rfl, H0.old⟩
theorem cutL (r : BitVec 64) (w : World) :
  Calls Tryz.prog 134 #[bv .u64 r, iN .u64 64] w fun e w' => e = .returned (bv .u64 (cutP 64 r)) ∧ Below w.heap.size w w' := by
 have H0 := HA.start w
 go_enter Tryz.func134, Tryz.ntmps134
 refine zsr ?_
 refine zwv (iN .u64 0) ?_
 refine znt ?_
 refine zsr ?_
 refine zwv (bv .u64 r) ?_
 refine zwv (iN .u64 64) ?_
 refine zwu (run_sub (k := .u64) (a := 64) (b := 64) (by decide) (by decide)) ?_
 refine zwu (run_shrv (k2 := .u64) (m := 0) WK.l (a := r)) ?_
 refine zwv (bv .u64 (r >>> 0)) ?_
 refine znt ?_
 refine wp_ret ?_
 repeat first | refine then_ret ?_ | refine block_ret ?_
 exact bodyPost_ret (v := bv .u64 (r >>> 0)) (by kernel_rfl) rfl ⟨by unfold cutP; rw [BitVec.setWidth_eq], H0.old⟩
theorem tbL (x : BitVec 64) (a b c : Nat) (ha : a ≤ 64) (hb : b ≤ 64) (hc : c ≤ 64) (w : World) :
  Calls Tryz.prog 136 #[bv .u64 x, .agg (tc a b c), iN .u64 64] w fun e w' => e = .returned (bv .u64 (turP x (a, b, c))) ∧ Below w.heap.size w w' := by
 have H0 := HA.start w
 go_enter Tryz.func136, Tryz.ntmps136
 refine zsr ?_
 refine wl_make H0 101 (run_box34 (c := tc a b c) (by kernel_rfl)) ?_
 intro q1 w2 h3
 refine zwv (iN .u64 0) ?_
 refine znt ?_
 refine wp_seq ?_
 refine zrs ⟨(bv .u64 x :: .agg (tc a b c) :: iN .u64 64 :: un :: pt q1 :: un :: bv .u64 (((rotP x a) ^^^ (rotP x b)) ^^^ (rotP x c)) :: bv .u64 x :: pt q1 :: iN .u64 a :: iN .u64 64 :: bv .u64 (rotP x a) :: bv .u64 x :: .pointer (some ⟨q1, 1, none⟩) :: iN .u64 b :: iN .u64 64 :: bv .u64 (rotP x b) :: bv .u64 ((rotP x a) ^^^ (rotP x b)) :: bv .u64 x :: .pointer (some ⟨q1, 2, none⟩) :: iN .u64 c :: iN .u64 64 :: bv .u64 (rotP x c) :: bv .u64 (((rotP x a) ^^^ (rotP x b)) ^^^ (rotP x c)) :: List.replicate 0 un).toArray, []⟩ (HA w [(q1, 101, tc a b c)]) h3.drew ?_ ?_
 ·refine zsp (bv .u64 x) ?_
  refine zsp (.pointer (some ⟨q1, 0, none⟩)) ?_
  refine zst (v := iN .u64 a) (fun _ h => run_load1 Tryz.isAgg86 (((h.get 0 rfl).cell 0).trans (by kernel_rfl))) ?_
  refine zsp (iN .u64 64) ?_
  refine zsc enter38 HA.keep (fun w' h' => rotL x a (by omega) w') ?_
  refine zsp (bv .u64 x) ?_
  refine zsp (.pointer (some ⟨q1, 1, none⟩)) ?_
  refine zst (v := iN .u64 b) (fun _ h => run_load1 Tryz.isAgg86 (((h.get 0 rfl).cell 1).trans (by kernel_rfl))) ?_
  refine zsp (iN .u64 64) ?_
  refine zsc enter38 HA.keep (fun w' h' => rotL x b (by omega) w') ?_
  refine zst (fun _ _ => (run_xorv WK.l (a := rotP x a) (b := rotP x b))) ?_
  refine zsp (bv .u64 x) ?_
  refine zsp (.pointer (some ⟨q1, 2, none⟩)) ?_
  refine zst (v := iN .u64 c) (fun _ h => run_load1 Tryz.isAgg86 (((h.get 0 rfl).cell 2).trans (by kernel_rfl))) ?_
  refine zsp (iN .u64 64) ?_
  refine zsc enter38 HA.keep (fun w' h' => rotL x c (by omega) w') ?_
  refine zst (fun _ _ => (run_xorv WK.l (a := (rotP x a) ^^^ (rotP x b)) (b := rotP x c))) ?_
  refine zsp (bv .u64 (((rotP x a) ^^^ (rotP x b)) ^^^ (rotP x c))) ?_
  exact AllSure.nil
 intro w4 h5
 refine then_at rfl ?_
 exact wp_ret (zb h5.old)
theorem mbL (x : BitVec 64) (a b c : Nat) (ha : a ≤ 64) (hb : b ≤ 64) (hc : c ≤ 64) (w : World) :
  Calls Tryz.prog 139 #[bv .u64 x, .agg (tc a b c), iN .u64 64] w fun e w' => e = .returned (bv .u64 (movP x (a, b, c))) ∧ Below w.heap.size w w' := by
 have H0 := HA.start w
 go_enter Tryz.func139, Tryz.ntmps139
 refine zsr ?_
 refine wl_make H0 101 (run_box34 (c := tc a b c) (by kernel_rfl)) ?_
 intro q1 w2 h3
 refine zwv (iN .u64 0) ?_
 refine znt ?_
 refine wp_seq ?_
 refine zrs ⟨(bv .u64 x :: .agg (tc a b c) :: iN .u64 64 :: un :: pt q1 :: un :: bv .u64 (((rotP x a) ^^^ (rotP x b)) ^^^ (x >>> c)) :: bv .u64 x :: pt q1 :: iN .u64 a :: iN .u64 64 :: bv .u64 (rotP x a) :: bv .u64 x :: .pointer (some ⟨q1, 1, none⟩) :: iN .u64 b :: iN .u64 64 :: bv .u64 (rotP x b) :: bv .u64 ((rotP x a) ^^^ (rotP x b)) :: bv .u64 x :: .pointer (some ⟨q1, 2, none⟩) :: iN .u64 c :: bv .u64 (x >>> c) :: bv .u64 (((rotP x a) ^^^ (rotP x b)) ^^^ (x >>> c)) :: List.replicate 0 un).toArray, []⟩ (HA w [(q1, 101, tc a b c)]) h3.drew ?_ ?_
 ·refine zsp (bv .u64 x) ?_
  refine zsp (.pointer (some ⟨q1, 0, none⟩)) ?_
  refine zst (v := iN .u64 a) (fun _ h => run_load1 Tryz.isAgg86 (((h.get 0 rfl).cell 0).trans (by kernel_rfl))) ?_
  refine zsp (iN .u64 64) ?_
  refine zsc enter38 HA.keep (fun w' h' => rotL x a (by omega) w') ?_
  refine zsp (bv .u64 x) ?_
  refine zsp (.pointer (some ⟨q1, 1, none⟩)) ?_
  refine zst (v := iN .u64 b) (fun _ h => run_load1 Tryz.isAgg86 (((h.get 0 rfl).cell 1).trans (by kernel_rfl))) ?_
  refine zsp (iN .u64 64) ?_
  refine zsc enter38 HA.keep (fun w' h' => rotL x b (by omega) w') ?_
  refine zst (fun _ _ => (run_xorv WK.l (a := rotP x a) (b := rotP x b))) ?_
  refine zsp (bv .u64 x) ?_
  refine zsp (.pointer (some ⟨q1, 2, none⟩)) ?_
  refine zst (v := iN .u64 c) (fun _ h => run_load1 Tryz.isAgg86 (((h.get 0 rfl).cell 2).trans (by kernel_rfl))) ?_
  refine zst (fun _ _ => (run_shrv (k2 := .u64) (m := c) WK.l (a := x))) ?_
  refine zst (fun _ _ => (run_xorv WK.l (a := (rotP x a) ^^^ (rotP x b)) (b := x >>> c))) ?_
  refine zsp (bv .u64 (((rotP x a) ^^^ (rotP x b)) ^^^ (x >>> c))) ?_
  exact AllSure.nil
 intro w4 h5
 refine then_at rfl ?_
 exact wp_ret (zb h5.old)
theorem beg_stepL (k : Nat) (hk : k < 8) : (begP 64).take (k + 1) = (begP 64).take k ++ [cutP 64 (fws.getD k 0)] :=
 (by decide +kernel : ∀ k : Fin 8, (begP 64).take (k.1 + 1) = (begP 64).take k.1 ++ [cutP 64 (fws.getD k.1 0)]) ⟨k, hk⟩
theorem beg_lenL (k : Nat) (hk : k ≤ 8) : ((begP 64).take k ++ List.replicate (8 - k) 0).length = 8 := by
 rw [pad_len, List.length_take, begP_len]; omega
theorem begL (w : World) (VV : Vars w) :
  Calls Tryz.prog 114 #[iN .u64 64] w fun e w' => e = .returned (.agg (wc .u64 (begP 64))) ∧ Below w.heap.size w w' := by
 have H0 := HA.start w
 go_enter Tryz.func114, Tryz.ntmps114
 refine zsr ?_
 refine wl_make H0 107 run_alloc43 ?_
 intro q1 w2 h3
 refine znt ?_
 refine zsr ?_
 refine wl_make h3 107 run_alloc43 ?_
 intro q4 w5 h6
 refine znt ?_
 refine wp_seq ?_
 refine zsr ?_
 refine zwu (run_load_range (q := 7) (by kernel_rfl) (VV.below h6.old VV.big).f Tryz.underlying107 rfl (info43 .u64 fws (show fws.length = 8 from rfl))) ?_
 refine zwv (iN .i64 0) ?_
 refine znt ?_
 refine wp_block ?_
 refine wp_count (fun k A w' => ∃ u7 : Nat → Value, A = ⟨(iN .u64 64 :: un :: pt q1 :: pt q4 :: u7 4 :: u7 5 :: .agg (wc .u64 fws) :: iN .i64 k :: u7 8 :: u7 9 :: u7 10 :: u7 11 :: u7 12 :: u7 13 :: u7 14 :: u7 15 :: u7 16 :: List.replicate 1 un).toArray, []⟩ ∧ HA w [(q4, 107, wc .u64 ((begP 64).take k ++ List.replicate (8 - k) 0)), (q1, 107, wc .u64 (List.replicate 8 (0 : BitVec 64)))] w') 8 ?_ ?_ ?_
 ·exact zex ((by have h := h6; exact h))
 ·rintro k hk _ w8 ⟨u7, rfl, h9⟩
  refine zsr ?_
  refine zwu (run_lss (k := .i64) (a := k) (b := 8) true (decide_eq_true hk)) ?_
  refine znt ?_
  refine zit ?_
  refine wp_seq ?_
  refine wp_block ?_
  refine zsr ?_
  refine zwv (iN .i64 k) ?_
  refine zwu (run_index43 (i := k) (by kernel_rfl) (by kernel_rfl) (by omega) (wc_get .u64 fws k (by rw [(show fws.length = 8 from rfl)]; omega))) ?_
  refine zwv (iN .i64 k) ?_
  refine zwv (bv .u64 (fws.getD k 0)) ?_
  refine znt ?_
  refine wl_region ?_
  refine zwv (iN .i64 k) ?_
  refine zwv (bv .u64 (fws.getD k 0)) ?_
  refine zwv (iN .u64 64) ?_
  refine zwc h9 enter32 (cutL (fws.getD k 0) w8) ?_
  intro w10 h11
  refine zwu (run_addr_arr (q := q4) (a := k) Tryz.underlying107 Tryz.sizeOf34 (by omega)) ?_
  refine wl_put (k := .u64) (z := (((cutP 64 (fws.getD k 0)).toNat : Nat) : Int)) h11 0 rfl k (by rw [wc_size, (beg_lenL k (by omega))]; omega) Tryz.sizeOf34 ?_
  intro w12 h13
  have h14 : HA w [(q4, 107, wc .u64 ((begP 64).take (k + 1) ++ List.replicate (8 - (k + 1)) 0)), (q1, 107, wc .u64 (List.replicate 8 (0 : BitVec 64)))] w12 := by
   have e : (wc .u64 ((begP 64).take k ++ List.replicate (8 - k) 0)).setIfInBounds k (.int .u64 (((cutP 64 (fws.getD k 0)).toNat : Nat) : Int)) = wc .u64 ((begP 64).take (k + 1) ++ List.replicate (8 - (k + 1)) 0) := (by rw [beg_stepL k hk]; exact pad_put .u64 ((begP 64).take k) (8 - k) (8 - (k + 1)) k (cutP 64 (fws.getD k 0)) (by rw [List.length_take, begP_len]; omega) (by omega))
   rw [← e]; exact h13
  clear h13
  refine wl_nil ?_
  refine block_normal ?_
  refine then_at rfl ?_
  refine wl_region ?_
  refine zwu (run_add (k := .i64) (a := k) (b := 1) (by simp only [top]; omega)) ?_
  refine zwv (iN .i64 (k + 1)) ?_
  refine wl_nil ?_
  exact then_I (zex h14)
 ·rintro _ w15 ⟨u7, rfl, h16⟩
  refine zsr ?_
  refine zwu (run_lss (k := .i64) (a := 8) (b := 8) false (by decide)) ?_
  refine znt ?_
  refine wp_seq ?_
  refine zcf ?_
  refine wp_exit ?_
  repeat first | refine then_exit ?_ | refine block_exit ?_ | refine block_exit_ne (by decide) ?_
  refine then_at rfl ?_
  refine zsr ?_
  refine wl_load h16 0 rfl Tryz.underlying107 rfl (info43 .u64 ((begP 64).take 8 ++ List.replicate (8 - 8) 0) (beg_lenL 8 (by omega))) ?_
  refine wl_fill (c' := wc .u64 ((begP 64).take 8 ++ List.replicate (8 - 8) 0)) h16 1 rfl (by rw [wc_size, wc_size, (beg_lenL 8 (by omega)), (List.length_replicate)]) (info43 .u64 ((begP 64).take 8 ++ List.replicate (8 - 8) 0) (beg_lenL 8 (by omega))) (one_wc .u64 ((begP 64).take 8 ++ List.replicate (8 - 8) 0)) ?_
  intro w17 (h18 : HA w [(q4, 107, wc .u64 ((begP 64).take 8 ++ List.replicate (8 - 8) 0)), (q1, 107, wc .u64 ((begP 64).take 8 ++ List.replicate (8 - 8) 0))] w17)
  refine znt ?_
  refine wp_ret ?_
  repeat first | refine then_ret ?_ | refine block_ret ?_
  exact bodyPost_ret (res_cell (p := 2) (by kernel_rfl) (by kernel_rfl) (h18.get 1 rfl) Tryz.underlying107 rfl (info43 .u64 _ (begP_len 64))) rfl ⟨rfl, h18.old⟩
end Go.Proofs.YtefjnfeckenmkaaGreatDoor.Hh

namespace Go.Proofs.YtefjnfeckenmkaaGreatDoor.Hh
set_option linter.unusedVariables false
set_option maxRecDepth 100000
set_option maxHeartbeats 2000000
open Go.RowKit
section
variable {ρ : Operand → Value} {x y : Operand} {w : World} {dst : Option Tmp} {T T2 ty : TypeId} {pos : String} {aft : Array Edge} {gd : Option (Nat × Bool)}
theorem run_cutn {z : Operand} {q m c a b n : Nat} (hx : ρ x = .slice (some ⟨q, 0, none⟩) m c) (hz : ρ z = iN .i64 a) (hy : ρ y = iN .i64 b) (ha : a ≤ b) (hb : b ≤ c) (hac : a < c) (hn : b - a = n) : (execOp ρ ⟨dst, .slice 71 x (some z) (some y) none, ty, pos, aft, gd⟩).run Tryz.prog w = .ok (.value (.slice (some ⟨q, a, none⟩) n (c - a))) w := by
 rw [← hn]; exact run_cutb hx hz hy ha hb hac
end
def segP (w : Nat) (blk : List UInt8) (a j : Nat) : BitVec w := wordP w ((blk.drop a).take j)
theorem seg_step (w : Nat) (blk : List UInt8) (a j : Nat) (h : a + j < blk.length) : segP w blk a (j + 1) = (segP w blk a j <<< 8) ||| BitVec.ofNat w (blk.getD (a + j) 0).toNat := by
 unfold segP wordP
 have h2 : j < (blk.drop a).length := by rw [List.length_drop]; omega
 rw [List.take_succ_eq_append_getElem h2, List.foldl_append, List.getElem_drop, List.getD_eq_getElem?_getD, List.getElem?_eq_getElem h]
 rfl
theorem in_startL (blk : List UInt8) (i : Nat) (hi : i < 16) : firstP 64 8 blk i ++ List.replicate (80 - i) 0 = (firstP 64 8 blk i ++ [segP 64 blk (i * 8) 0]) ++ List.replicate (80 - (i + 1)) 0 := by
 rw [show 80 - i = (80 - (i + 1)) + 1 by omega, List.replicate_succ, List.append_assoc]
 rfl
theorem in_lenL (blk : List UInt8) (i j : Nat) (hi : i < 16) : ((firstP 64 8 blk i ++ [segP 64 blk (i * 8) j]) ++ List.replicate (80 - (i + 1)) 0).length = 80 := by rw [pad_len, List.length_append, firstP_len]; simp; omega
theorem sch_lenL (blk : List UInt8) (i : Nat) (hi : i ≤ 64) : (schP KL blk i ++ List.replicate (64 - i) 0).length = 80 := by rw [pad_len, schP_len]; omega
theorem spr_eqL (blk : List UInt8) : schP KL blk 64 ++ List.replicate (64 - 64) 0 = sprP KL blk := rfl
theorem spr_lenL (blk : List UInt8) : (sprP KL blk).length = 80 := sch_lenL blk 64 (by decide)
def zHs2_0 (qb : Nat) q1 q4 q7 (u10 : Nat → Value) (zx11 zx12 zx13 : Value) (zt : List Value) := (.agg kcL :: .slice (some ⟨qb, 0, none⟩) 128 128 :: pt q1 :: un :: pt q4 :: pt q7 :: iN .i64 8 :: u10 7 :: un :: u10 9 :: iN .u64 64 :: zx11 :: zx12 :: zx13 :: .pointer (some ⟨q1, 1, none⟩) :: iN .i64 128 :: iN .i64 8 :: iN .i64 16 :: .bool false :: u10 19 :: u10 20 :: u10 21 :: u10 22 :: u10 23 :: u10 24 :: u10 25 :: u10 26 :: u10 27 :: u10 28 :: u10 29 :: u10 30 :: u10 31 :: u10 32 :: u10 33 :: u10 34 :: u10 35 :: u10 36 :: u10 37 :: u10 38 :: u10 39 :: u10 40 :: u10 41 :: u10 42 :: u10 43 :: u10 44 :: pt q1 :: iN .u64 64 :: .pointer (some ⟨q1, 10, none⟩) :: .agg (tc 1 8 7) :: .pointer (some ⟨q1, 13, none⟩) :: .agg (tc 19 61 6) :: zt : List Value)
theorem sprL (blk : List UInt8) (hl : blk.length = 128) (qb : Nat) (w : World) (hb : Blk w qb 5 (bc blk)) :
  Calls Tryz.prog 135 #[.agg kcL, .slice (some ⟨qb, 0, none⟩) 128 128] w fun e w' => e = .returned (.agg (wc .u64 (sprP KL blk))) ∧ Below w.heap.size w w' := by
 have H0 := HA.start w
 go_enter Tryz.func135, Tryz.ntmps135
 refine zsr ?_
 refine wl_make H0 103 (run_box36 (c := kcL) (by kernel_rfl)) ?_
 intro q1 w2 h3
 refine wl_make h3 109 run_alloc44 ?_
 intro q4 w5 h6
 refine znt ?_
 refine zsr ?_
 refine wl_make h6 109 run_alloc44 ?_
 intro q7 w8 h9
 refine znt ?_
 refine zsr ?_
 refine zwv (.pointer (some ⟨q1, 1, none⟩)) ?_
 refine zwu (v := iN .i64 128) (run_load1 Tryz.isAgg3 (((h9.get 2 rfl).cell 1).trans (by kernel_rfl))) ?_
 refine zwu (run_quo (k := .i64) (a := 128) (b := 16) (by decide) (by decide)) ?_
 refine zwv (iN .i64 8) ?_
 refine znt ?_
 refine wp_seq ?_
 refine zsr ?_
 refine zwv (iN .i64 0) ?_
 refine znt ?_
 refine wp_block ?_
 refine wp_count (fun k A w' => ∃ u10 : Nat → Value, A = ⟨(.agg kcL :: .slice (some ⟨qb, 0, none⟩) 128 128 :: pt q1 :: un :: pt q4 :: pt q7 :: iN .i64 8 :: u10 7 :: un :: u10 9 :: un :: un :: un :: un :: .pointer (some ⟨q1, 1, none⟩) :: iN .i64 128 :: iN .i64 8 :: iN .i64 k :: u10 18 :: u10 19 :: u10 20 :: u10 21 :: u10 22 :: u10 23 :: u10 24 :: u10 25 :: u10 26 :: u10 27 :: u10 28 :: u10 29 :: u10 30 :: u10 31 :: u10 32 :: u10 33 :: u10 34 :: u10 35 :: u10 36 :: u10 37 :: u10 38 :: u10 39 :: u10 40 :: u10 41 :: u10 42 :: u10 43 :: u10 44 :: List.replicate 40 un).toArray, []⟩ ∧ HA w [(q7, 109, wc .u64 (firstP 64 8 blk k ++ List.replicate (80 - k) 0)), (q4, 109, wc .u64 (List.replicate 80 (0 : BitVec 64))), (q1, 103, kcL)] w') 16 ?_ ?_ ?_
 ·exact zex h9
 ·rintro k hk _ w11 ⟨u10, rfl, h12⟩
  refine zsr ?_
  refine zwu (run_lss (k := .i64) (a := k) (b := 16) true (decide_eq_true hk)) ?_
  refine znt ?_
  refine zit ?_
  refine wp_seq ?_
  refine wp_block ?_
  refine zsr ?_
  refine zwv (iN .i64 k) ?_
  refine zwv (iN .i64 k) ?_
  refine znt ?_
  refine zsr ?_
  refine zwv (.slice (some ⟨qb, 0, none⟩) 128 128) ?_
  refine zwv (iN .i64 k) ?_
  refine zwv (iN .i64 8) ?_
  refine zwu (run_mul (k := .i64) (a := k) (b := 8) (by simp only [top]; omega)) ?_
  refine zwv (iN .i64 k) ?_
  refine zwu (run_add (k := .i64) (a := k) (b := 1) (by simp only [top]; omega)) ?_
  refine zwv (iN .i64 8) ?_
  refine zwu (run_mul (k := .i64) (a := k + 1) (b := 8) (by simp only [top]; omega)) ?_
  refine zwu (run_cutn (q := qb) (m := 128) (c := 128) (a := k * 8) (b := (k + 1) * 8) (n := 8) (by kernel_rfl) (by kernel_rfl) (by kernel_rfl) (by omega) (by omega) (by omega) (by omega)) ?_
  refine zwu (run_len28 (q := some ⟨qb, k * 8, none⟩) (m := 8) (c := 128 - (k * 8)) (by kernel_rfl)) ?_
  refine zwv (iN .i64 0) ?_
  refine znt ?_
  refine wp_block ?_
  refine wp_count (fun j A w' => ∃ u13 : Nat → Value, A = ⟨(.agg kcL :: .slice (some ⟨qb, 0, none⟩) 128 128 :: pt q1 :: un :: pt q4 :: pt q7 :: iN .i64 8 :: iN .i64 k :: un :: u13 9 :: un :: un :: un :: un :: .pointer (some ⟨q1, 1, none⟩) :: iN .i64 128 :: iN .i64 8 :: iN .i64 k :: .bool true :: iN .i64 k :: .slice (some ⟨qb, 0, none⟩) 128 128 :: iN .i64 k :: iN .i64 8 :: iN .i64 (k * 8) :: iN .i64 k :: iN .i64 (k + 1) :: iN .i64 8 :: iN .i64 ((k + 1) * 8) :: .slice (some ⟨qb, k * 8, none⟩) 8 (128 - (k * 8)) :: iN .i64 8 :: iN .i64 j :: u13 31 :: u13 32 :: u13 33 :: u13 34 :: u13 35 :: u13 36 :: u13 37 :: u13 38 :: u13 39 :: u13 40 :: u13 41 :: u13 42 :: u13 43 :: u10 44 :: List.replicate 40 un).toArray, []⟩ ∧ HA w [(q7, 109, wc .u64 ((firstP 64 8 blk k ++ [segP 64 blk (k * 8) j]) ++ List.replicate (80 - (k + 1)) 0)), (q4, 109, wc .u64 (List.replicate 80 (0 : BitVec 64))), (q1, 103, kcL)] w') 8 ?_ ?_ ?_
  ·exact zex ((by rw [← in_startL blk k hk]; exact h12))
  ·rintro j hj _ w14 ⟨u13, rfl, h15⟩
   refine zsr ?_
   refine zwu (run_lss (k := .i64) (a := j) (b := 8) true (decide_eq_true hj)) ?_
   refine znt ?_
   refine zit ?_
   refine wp_seq ?_
   refine wp_block ?_
   refine zsr ?_
   refine zwu (run_addr_part (q := qb) (o := k * 8) (m := 8) (c := 128 - (k * 8)) (i := j) (by kernel_rfl) (by kernel_rfl) (by omega)) ?_
   refine zwu (run_load1 Tryz.isAgg5 (((hb.keep h15.old).cell (k * 8 + j)).trans (bc_get blk (k * 8 + j) (by rw [hl]; omega)))) ?_
   refine zwv (by8 (blk.getD (k * 8 + j) 0)) ?_
   refine znt ?_
   refine wl_region ?_
   refine zwv (iN .i64 k) ?_
   refine zwv (iN .i64 k) ?_
   refine zwu (run_addr_arr (q := q7) (a := k) Tryz.underlying109 Tryz.sizeOf34 (by omega)) ?_
   refine zwu (run_load1 Tryz.isAgg34 (((h15.get 0 rfl).cell k).trans (last_get .u64 (firstP 64 8 blk k) _ (80 - (k + 1)) k (firstP_len 64 8 blk k)))) ?_
   refine zwu (run_shlv (k2 := .u64) (m := 8) WK.l (a := segP 64 blk (k * 8) j) (by kernel_rfl) (by kernel_rfl) (by decide)) ?_
   refine zwv (by8 (blk.getD (k * 8 + j) 0)) ?_
   refine zwu (run_wide (u := blk.getD (k * 8 + j) 0) WK.l (by kernel_rfl) Tryz.underlying5 Tryz.underlying34) ?_
   refine zwu (run_orv WK.l (a := (segP 64 blk (k * 8) j) <<< 8) (b := BitVec.ofNat 64 (blk.getD (k * 8 + j) 0).toNat) (by kernel_rfl) (by kernel_rfl)) ?_
   refine zwu (run_addr_arr (q := q7) (a := k) Tryz.underlying109 Tryz.sizeOf34 (by omega)) ?_
   refine wl_put (k := .u64) (z := (((((segP 64 blk (k * 8) j) <<< 8) ||| (BitVec.ofNat 64 (blk.getD (k * 8 + j) 0).toNat)).toNat : Nat) : Int)) h15 0 rfl k (by rw [wc_size, (in_lenL blk k j hk)]; omega) Tryz.sizeOf34 ?_
   intro w16 h17
   have h18 : HA w [(q7, 109, wc .u64 ((firstP 64 8 blk k ++ [segP 64 blk (k * 8) (j + 1)]) ++ List.replicate (80 - (k + 1)) 0)), (q4, 109, wc .u64 (List.replicate 80 (0 : BitVec 64))), (q1, 103, kcL)] w16 := by
    have e : (wc .u64 ((firstP 64 8 blk k ++ [segP 64 blk (k * 8) j]) ++ List.replicate (80 - (k + 1)) 0)).setIfInBounds k (.int .u64 (((((segP 64 blk (k * 8) j) <<< 8) ||| (BitVec.ofNat 64 (blk.getD (k * 8 + j) 0).toNat)).toNat : Nat) : Int)) = wc .u64 ((firstP 64 8 blk k ++ [segP 64 blk (k * 8) (j + 1)]) ++ List.replicate (80 - (k + 1)) 0) := (by rw [seg_step 64 blk (k * 8) j (by omega)]; exact last_put .u64 (firstP 64 8 blk k) _ (((segP 64 blk (k * 8) j) <<< 8) ||| (BitVec.ofNat 64 (blk.getD (k * 8 + j) 0).toNat)) (80 - (k + 1)) k (firstP_len 64 8 blk k))
    rw [← e]; exact h17
   clear h17
   refine wl_nil ?_
   refine block_normal ?_
   refine then_at rfl ?_
   refine wl_region ?_
   refine zwu (run_add (k := .i64) (a := j) (b := 1) (by simp only [top]; omega)) ?_
   refine zwv (iN .i64 (j + 1)) ?_
   refine wl_nil ?_
   exact then_I (zex h18)
  ·rintro _ w19 ⟨u13, rfl, h20⟩
   refine zsr ?_
   refine zwu (run_lss (k := .i64) (a := 8) (b := 8) false (by decide)) ?_
   refine znt ?_
   refine wp_seq ?_
   refine zcf ?_
   refine wp_exit ?_
   repeat first | refine then_exit ?_ | refine block_exit ?_ | refine block_exit_ne (by decide) ?_
   refine block_normal ?_
   refine then_at rfl ?_
   refine wl_region ?_
   refine zwu (run_add (k := .i64) (a := k) (b := 1) (by simp only [top]; omega)) ?_
   refine zwv (iN .i64 (k + 1)) ?_
   refine wl_nil ?_
   exact then_I (zex h20)
 ·rintro _ w21 ⟨u10, rfl, h22⟩
  refine zsr ?_
  refine zwu (run_lss (k := .i64) (a := 16) (b := 16) false (by decide)) ?_
  refine znt ?_
  refine wp_seq ?_
  refine zcf ?_
  refine wp_exit ?_
  repeat first | refine then_exit ?_ | refine block_exit ?_ | refine block_exit_ne (by decide) ?_
  refine then_at rfl ?_
  refine wp_seq ?_
  obtain ⟨B23, eB23⟩ : ∃ B, B = w21.heap.size := ⟨_, rfl⟩
  refine zrg (fun g : Nat → Nat => (⟨(zHs2_0 qb q1 q4 q7 u10 (pt (g 6)) (pt (g 7)) un (List.replicate 34 un)).toArray, []⟩ : Act)) (GS w [(q7, 109, wc .u64 (firstP 64 8 blk 16 ++ List.replicate (80 - 16) 0)), (q4, 109, wc .u64 (List.replicate 80 (0 : BitVec 64))), (q1, 103, kcL)] B23 2 6 9 101 (tc 0 0 0) (fun j => match j with | 0 => tc 1 8 7 | _ => tc 19 61 6)) (fun d hd => GS.start h22.drew eB23 (by decide) (fun j _ => by rcases j with _ | j <;> exact rfl) (fun j hj => hd j (Nat.lt_of_lt_of_le hj (by decide)))) ?_ ?_
  ·refine zg (ghost_plain (v := .pointer (some ⟨q1, 0, none⟩))) ?_
   refine zg (ghost_held (v := iN .u64 64) (fun _ w' h' => run_load1 Tryz.isAgg86 (((h'.get 2 rfl).cell 0).trans (by kernel_rfl)))) ?_
   refine zg (ghost_plain (v := .pointer (some ⟨q1, 10, none⟩))) ?_
   refine zg (ghost_held (v := .agg (tc 1 8 7)) (fun _ w' h' => run_part34 (q := q1) (off := 10) (a := 1) (b := 8) (d := 7) (by kernel_rfl) (h'.get 2 rfl) (by kernel_rfl))) ?_
   refine zg (ghost_plain (v := .pointer (some ⟨q1, 13, none⟩))) ?_
   refine zg (ghost_held (v := .agg (tc 19 61 6)) (fun _ w' h' => run_part34 (q := q1) (off := 13) (a := 19) (b := 61) (d := 6) (by kernel_rfl) (h'.get 2 rfl) (by kernel_rfl))) ?_
   refine zg (ghost_make 0 rfl (fun _ _ => run_alloc34)) ?_
   refine zg (ghost_make 1 rfl (fun _ _ => run_alloc34)) ?_
   refine zg (ghost_plain (v := iN .u64 64)) ?_
   refine zg (ghost_fill 0 rfl (info34 1 8 7) (one_tc 1 8 7)) ?_
   refine zg (ghost_fill 1 rfl (info34 19 61 6) (one_tc 19 61 6)) ?_
   exact AllGhost.nil
  intro g w24 g25
  have h26 : HA w [(g 7, 101, tc 19 61 6), (g 6, 101, tc 1 8 7), (q7, 109, wc .u64 (firstP 64 8 blk 16 ++ List.replicate (80 - 16) 0)), (q4, 109, wc .u64 (List.replicate 80 (0 : BitVec 64))), (q1, 103, kcL)] w24 := g25.two
  clear g25 eB23
  generalize g 6 = q27 at h26 ⊢
  generalize g 7 = q28 at h26 ⊢
  clear g
  refine then_at rfl ?_
  refine wp_seq ?_
  refine zsr ?_
  refine zwv (iN .i64 16) ?_
  refine znt ?_
  refine wp_block ?_
  refine wp_count (fun k A w' => ∃ u29 : Nat → Value, A = ⟨(zHs2_0 qb q1 q4 q7 u10 (pt q27) (pt q28) (iN .i64 (16 + k)) (u29 51 :: u29 52 :: u29 53 :: u29 54 :: u29 55 :: u29 56 :: u29 57 :: u29 58 :: u29 59 :: u29 60 :: u29 61 :: u29 62 :: u29 63 :: u29 64 :: u29 65 :: u29 66 :: u29 67 :: u29 68 :: u29 69 :: u29 70 :: u29 71 :: u29 72 :: u29 73 :: u29 74 :: u29 75 :: u29 76 :: u29 77 :: u29 78 :: u29 79 :: u29 80 :: u29 81 :: u29 82 :: u29 83 :: un :: [])).toArray, []⟩ ∧ HA w [(q28, 101, tc 19 61 6), (q27, 101, tc 1 8 7), (q7, 109, wc .u64 (schP KL blk k ++ List.replicate (64 - k) 0)), (q4, 109, wc .u64 (List.replicate 80 (0 : BitVec 64))), (q1, 103, kcL)] w') 64 ?_ ?_ ?_
  ·exact zex h26
  ·rintro k hk _ w30 ⟨u29, rfl, h31⟩
   refine wp_seq ?_
   refine zsr ?_
   refine zwv (iN .i64 (16 + k)) ?_
   refine zwv (.pointer (some ⟨q1, 2, none⟩)) ?_
   refine zwu (v := iN .i64 80) (run_load1 Tryz.isAgg3 (((h31.get 4 rfl).cell 2).trans (by kernel_rfl))) ?_
   refine zwu (run_lss (k := .i64) (a := 16 + k) (b := 80) true (decide_eq_true (by omega))) ?_
   refine znt ?_
   refine zct ?_
   refine wp_skip ?_
   refine then_at rfl ?_
   refine wp_seq ?_
   refine wp_block ?_
   refine zrg (fun _ : Nat → Nat => (⟨(zHs2_0 qb q1 q4 q7 u10 (pt q27) (pt q28) (iN .i64 (16 + k)) (iN .i64 (16 + k) :: .pointer (some ⟨q1, 2, none⟩) :: iN .i64 80 :: .bool true :: u29 55 :: u29 56 :: iN .i64 (16 + k) :: iN .i64 (16 + k) :: iN .i64 ((16 + k) - 2) :: .pointer (some ⟨q7, (16 + k) - 2, none⟩) :: bv .u64 ((schP KL blk k).getD ((16 + k) - 2) 0) :: .agg (tc 19 61 6) :: iN .u64 64 :: bv .u64 (movP ((schP KL blk k).getD ((16 + k) - 2) 0) (19, 61, 6)) :: iN .i64 (16 + k) :: iN .i64 ((16 + k) - 7) :: .pointer (some ⟨q7, (16 + k) - 7, none⟩) :: bv .u64 ((schP KL blk k).getD ((16 + k) - 7) 0) :: bv .u64 ((movP ((schP KL blk k).getD ((16 + k) - 2) 0) (19, 61, 6)) + ((schP KL blk k).getD ((16 + k) - 7) 0)) :: iN .i64 (16 + k) :: iN .i64 ((16 + k) - 15) :: .pointer (some ⟨q7, (16 + k) - 15, none⟩) :: bv .u64 ((schP KL blk k).getD ((16 + k) - 15) 0) :: .agg (tc 1 8 7) :: iN .u64 64 :: bv .u64 (movP ((schP KL blk k).getD ((16 + k) - 15) 0) (1, 8, 7)) :: bv .u64 (((movP ((schP KL blk k).getD ((16 + k) - 2) 0) (19, 61, 6)) + ((schP KL blk k).getD ((16 + k) - 7) 0)) + (movP ((schP KL blk k).getD ((16 + k) - 15) 0) (1, 8, 7))) :: iN .i64 (16 + k) :: iN .i64 ((16 + k) - 16) :: .pointer (some ⟨q7, (16 + k) - 16, none⟩) :: bv .u64 ((schP KL blk k).getD ((16 + k) - 16) 0) :: bv .u64 ((((movP ((schP KL blk k).getD ((16 + k) - 2) 0) (19, 61, 6)) + ((schP KL blk k).getD ((16 + k) - 7) 0)) + (movP ((schP KL blk k).getD ((16 + k) - 15) 0) (1, 8, 7))) + ((schP KL blk k).getD ((16 + k) - 16) 0)) :: .pointer (some ⟨q7, 16 + k, none⟩) :: un :: [])).toArray, []⟩ : Act)) (GQ w [(q28, 101, tc 19 61 6), (q27, 101, tc 1 8 7), (q7, 109, wc .u64 (schP KL blk k ++ List.replicate (64 - k) 0)), (q4, 109, wc .u64 (List.replicate 80 (0 : BitVec 64))), (q1, 103, kcL)] (fun i => ([[], [], [1], [2], [3], [], [], [4, 5, 6], [], [8], [9], [10], [7, 11], [], [13], [14], [15], [], [], [16, 17, 18], [12, 19], [], [21], [22], [23], [20, 24], [0], [26, 25]] : List (List Nat)).getD i []) 27 2 q7 109 (wc .u64 (schP KL blk (k + 1) ++ List.replicate (64 - (k + 1)) 0))) (fun d hd => GQ.start h31.drew (hd 27 (by decide)) (Cl.start (n := 28) hd (by decide))) ?_ ?_
   ·refine zg (gq_plain (v := iN .i64 (16 + k)) (fun _ _ => (by kernel_rfl))) ?_
    refine zg (gq_plain (v := iN .i64 (16 + k)) (fun _ _ => (by kernel_rfl))) ?_
    refine zg (gq_plain (v := iN .i64 ((16 + k) - 2)) (fun _ _ => (run_sub (k := .i64) (a := 16 + k) (b := 2) (by omega) (by simp only [top]; omega)))) ?_
    refine zg (gq_plain (v := .pointer (some ⟨q7, (16 + k) - 2, none⟩)) (fun _ _ => (run_addr_arr (q := q7) (a := (16 + k) - 2) Tryz.underlying109 Tryz.sizeOf34 (by omega)))) ?_
    refine zg (gq_read (v := bv .u64 ((schP KL blk k).getD ((16 + k) - 2) 0)) 2 rfl (.inr (fun d C h => (C 7 (C 12 (C 20 (C 25 (C 27 h 25 (by decide)) 20 (by decide)) 12 (by decide)) 7 (by decide)) 4 (by decide)))) (fun _ _ hb => run_load1 Tryz.isAgg34 ((hb.cell ((16 + k) - 2)).trans (pad_get .u64 (schP KL blk k) (64 - k) ((16 + k) - 2) (by rw [schP_len]; omega))))) ?_
    refine zg (gq_read (v := .agg (tc 19 61 6)) 0 rfl (.inl (by decide)) (fun _ _ hb => run_load_blk hb Tryz.underlying101 rfl (info34 19 61 6))) ?_
    refine zg (gq_plain (v := iN .u64 64) (fun _ _ => (by kernel_rfl))) ?_
    refine zg (gq_call (v := bv .u64 (movP ((schP KL blk k).getD ((16 + k) - 2) 0) (19, 61, 6))) enter37 #[bv .u64 ((schP KL blk k).getD ((16 + k) - 2) 0), .agg (tc 19 61 6), iN .u64 64] (fun w' ho => mbL ((schP KL blk k).getD ((16 + k) - 2) 0) 19 61 6 (by decide) (by decide) (by decide) w')) ?_
    refine zg (gq_plain (v := iN .i64 (16 + k)) (fun _ _ => (by kernel_rfl))) ?_
    refine zg (gq_plain (v := iN .i64 ((16 + k) - 7)) (fun _ _ => (run_sub (k := .i64) (a := 16 + k) (b := 7) (by omega) (by simp only [top]; omega)))) ?_
    refine zg (gq_plain (v := .pointer (some ⟨q7, (16 + k) - 7, none⟩)) (fun _ _ => (run_addr_arr (q := q7) (a := (16 + k) - 7) Tryz.underlying109 Tryz.sizeOf34 (by omega)))) ?_
    refine zg (gq_read (v := bv .u64 ((schP KL blk k).getD ((16 + k) - 7) 0)) 2 rfl (.inr (fun d C h => (C 12 (C 20 (C 25 (C 27 h 25 (by decide)) 20 (by decide)) 12 (by decide)) 11 (by decide)))) (fun _ _ hb => run_load1 Tryz.isAgg34 ((hb.cell ((16 + k) - 7)).trans (pad_get .u64 (schP KL blk k) (64 - k) ((16 + k) - 7) (by rw [schP_len]; omega))))) ?_
    refine zg (gq_plain (v := bv .u64 ((movP ((schP KL blk k).getD ((16 + k) - 2) 0) (19, 61, 6)) + ((schP KL blk k).getD ((16 + k) - 7) 0))) (fun _ _ => (run_addv WK.l (a := movP ((schP KL blk k).getD ((16 + k) - 2) 0) (19, 61, 6)) (b := (schP KL blk k).getD ((16 + k) - 7) 0)))) ?_
    refine zg (gq_plain (v := iN .i64 (16 + k)) (fun _ _ => (by kernel_rfl))) ?_
    refine zg (gq_plain (v := iN .i64 ((16 + k) - 15)) (fun _ _ => (run_sub (k := .i64) (a := 16 + k) (b := 15) (by omega) (by simp only [top]; omega)))) ?_
    refine zg (gq_plain (v := .pointer (some ⟨q7, (16 + k) - 15, none⟩)) (fun _ _ => (run_addr_arr (q := q7) (a := (16 + k) - 15) Tryz.underlying109 Tryz.sizeOf34 (by omega)))) ?_
    refine zg (gq_read (v := bv .u64 ((schP KL blk k).getD ((16 + k) - 15) 0)) 2 rfl (.inr (fun d C h => (C 19 (C 20 (C 25 (C 27 h 25 (by decide)) 20 (by decide)) 19 (by decide)) 16 (by decide)))) (fun _ _ hb => run_load1 Tryz.isAgg34 ((hb.cell ((16 + k) - 15)).trans (pad_get .u64 (schP KL blk k) (64 - k) ((16 + k) - 15) (by rw [schP_len]; omega))))) ?_
    refine zg (gq_read (v := .agg (tc 1 8 7)) 1 rfl (.inl (by decide)) (fun _ _ hb => run_load_blk hb Tryz.underlying101 rfl (info34 1 8 7))) ?_
    refine zg (gq_plain (v := iN .u64 64) (fun _ _ => (by kernel_rfl))) ?_
    refine zg (gq_call (v := bv .u64 (movP ((schP KL blk k).getD ((16 + k) - 15) 0) (1, 8, 7))) enter37 #[bv .u64 ((schP KL blk k).getD ((16 + k) - 15) 0), .agg (tc 1 8 7), iN .u64 64] (fun w' ho => mbL ((schP KL blk k).getD ((16 + k) - 15) 0) 1 8 7 (by decide) (by decide) (by decide) w')) ?_
    refine zg (gq_plain (v := bv .u64 (((movP ((schP KL blk k).getD ((16 + k) - 2) 0) (19, 61, 6)) + ((schP KL blk k).getD ((16 + k) - 7) 0)) + (movP ((schP KL blk k).getD ((16 + k) - 15) 0) (1, 8, 7)))) (fun _ _ => (run_addv WK.l (a := (movP ((schP KL blk k).getD ((16 + k) - 2) 0) (19, 61, 6)) + ((schP KL blk k).getD ((16 + k) - 7) 0)) (b := movP ((schP KL blk k).getD ((16 + k) - 15) 0) (1, 8, 7))))) ?_
    refine zg (gq_plain (v := iN .i64 (16 + k)) (fun _ _ => (by kernel_rfl))) ?_
    refine zg (gq_plain (v := iN .i64 ((16 + k) - 16)) (fun _ _ => (run_sub (k := .i64) (a := 16 + k) (b := 16) (by omega) (by simp only [top]; omega)))) ?_
    refine zg (gq_plain (v := .pointer (some ⟨q7, (16 + k) - 16, none⟩)) (fun _ _ => (run_addr_arr (q := q7) (a := (16 + k) - 16) Tryz.underlying109 Tryz.sizeOf34 (by omega)))) ?_
    refine zg (gq_read (v := bv .u64 ((schP KL blk k).getD ((16 + k) - 16) 0)) 2 rfl (.inr (fun d C h => (C 25 (C 27 h 25 (by decide)) 24 (by decide)))) (fun _ _ hb => run_load1 Tryz.isAgg34 ((hb.cell ((16 + k) - 16)).trans (pad_get .u64 (schP KL blk k) (64 - k) ((16 + k) - 16) (by rw [schP_len]; omega))))) ?_
    refine zg (gq_plain (v := bv .u64 ((((movP ((schP KL blk k).getD ((16 + k) - 2) 0) (19, 61, 6)) + ((schP KL blk k).getD ((16 + k) - 7) 0)) + (movP ((schP KL blk k).getD ((16 + k) - 15) 0) (1, 8, 7))) + ((schP KL blk k).getD ((16 + k) - 16) 0))) (fun _ _ => (run_addv WK.l (a := ((movP ((schP KL blk k).getD ((16 + k) - 2) 0) (19, 61, 6)) + ((schP KL blk k).getD ((16 + k) - 7) 0)) + (movP ((schP KL blk k).getD ((16 + k) - 15) 0) (1, 8, 7))) (b := (schP KL blk k).getD ((16 + k) - 16) 0)))) ?_
    refine zg (gq_plain (v := .pointer (some ⟨q7, 16 + k, none⟩)) (fun _ _ => (run_addr_arr (q := q7) (a := 16 + k) Tryz.underlying109 Tryz.sizeOf34 (by omega)))) ?_
    refine zg (gq_put (k := .u64) (z := ((((((movP ((schP KL blk k).getD ((16 + k) - 2) 0) (19, 61, 6)) + ((schP KL blk k).getD ((16 + k) - 7) 0)) + (movP ((schP KL blk k).getD ((16 + k) - 15) 0) (1, 8, 7))) + ((schP KL blk k).getD ((16 + k) - 16) 0)).toNat : Nat) : Int)) (off := 16 + k) rfl (by rw [wc_size, (sch_lenL blk k (by omega))]; omega) ((pad_put .u64 (schP KL blk k) (64 - k) (64 - (k + 1)) (16 + k) ((((movP ((schP KL blk k).getD ((16 + k) - 2) 0) (19, 61, 6)) + ((schP KL blk k).getD ((16 + k) - 7) 0)) + (movP ((schP KL blk k).getD ((16 + k) - 15) 0) (1, 8, 7))) + ((schP KL blk k).getD ((16 + k) - 16) 0)) (schP_len KL blk k) (by omega))) Tryz.sizeOf34) ?_
    exact AllGhost.nil
   intro _ w32 g33
   have h34 : HA w [(q28, 101, tc 19 61 6), (q27, 101, tc 1 8 7), (q7, 109, wc .u64 (schP KL blk (k + 1) ++ List.replicate (64 - (k + 1)) 0)), (q4, 109, wc .u64 (List.replicate 80 (0 : BitVec 64))), (q1, 103, kcL)] w32 := g33.held
   clear g33
   refine block_normal ?_
   refine then_at rfl ?_
   refine wl_region ?_
   refine zwv (iN .i64 (16 + k)) ?_
   refine zwu (run_add (k := .i64) (a := 16 + k) (b := 1) (by simp only [top]; omega)) ?_
   refine zwv (iN .i64 ((16 + k) + 1)) ?_
   refine wl_nil ?_
   exact then_I (zex h34)
  ·rintro _ w35 ⟨u29, rfl, h36⟩
   refine wp_seq ?_
   refine zsr ?_
   refine zwv (iN .i64 (16 + 64)) ?_
   refine zwv (.pointer (some ⟨q1, 2, none⟩)) ?_
   refine zwu (v := iN .i64 80) (run_load1 Tryz.isAgg3 (((h36.get 4 rfl).cell 2).trans (by kernel_rfl))) ?_
   refine zwu (run_lss (k := .i64) (a := 16 + 64) (b := 80) false (by decide)) ?_
   refine znt ?_
   refine zcf ?_
   refine wp_exit ?_
   repeat first | refine then_exit ?_ | refine block_exit ?_ | refine block_exit_ne (by decide) ?_
   refine then_at rfl ?_
   refine zsr ?_
   refine wl_load h36 2 rfl Tryz.underlying109 rfl (info44 .u64 (schP KL blk 64 ++ List.replicate (64 - 64) 0) (sch_lenL blk 64 (by omega))) ?_
   refine wl_fill (c' := wc .u64 (schP KL blk 64 ++ List.replicate (64 - 64) 0)) h36 3 rfl (by rw [wc_size, wc_size, (sch_lenL blk 64 (by omega)), (List.length_replicate)]) (info44 .u64 (schP KL blk 64 ++ List.replicate (64 - 64) 0) (sch_lenL blk 64 (by omega))) (one_wc .u64 (schP KL blk 64 ++ List.replicate (64 - 64) 0)) ?_
   intro w37 (h38 : HA w [(q28, 101, tc 19 61 6), (q27, 101, tc 1 8 7), (q7, 109, wc .u64 (schP KL blk 64 ++ List.replicate (64 - 64) 0)), (q4, 109, wc .u64 (schP KL blk 64 ++ List.replicate (64 - 64) 0)), (q1, 103, kcL)] w37)
   refine znt ?_
   refine wp_ret ?_
   repeat first | refine then_ret ?_ | refine block_ret ?_
   exact bodyPost_ret (v := .agg (wc .u64 (schP KL blk 64 ++ List.replicate (64 - 64) 0))) (res_cell (p := 4) (by kernel_rfl) (by kernel_rfl) (h38.get 3 rfl) Tryz.underlying109 rfl (info44 .u64 _ (sch_lenL blk 64 (by decide)))) rfl ⟨by rw [spr_eqL blk], h38.old⟩
end Go.Proofs.YtefjnfeckenmkaaGreatDoor.Hh
