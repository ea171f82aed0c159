/-
 Chunk: the keys by pieces.
-/
import Derived.Test.YtckmlaempffpjaaGreatSP
namespace Go.Proofs.YtckmlaempffpjaaGreat
set_option linter.unusedVariables false
set_option maxRecDepth 100000
set_option maxHeartbeats 4000000
open Go.RowKit Go.Shelf Go.Proofs.Tryz
attribute [local go_sem] Oper.semAt_some
section
variable {ρ : Operand → Value} {x y z u : Operand} {w : World} {dst : Option Tmp} {ty : TypeId} {pos : String} {aft : Array Edge} {gd : Option (Nat × Bool)}
theorem run_slo {a : Option Addr} {n cap i : Nat} (hx : ρ x = .slice a n cap) (hz : ρ z = i6 i) (hi : i ≤ n) : (execOp ρ ⟨dst, .slice 39 x (some z) none none, ty, pos, aft, gd⟩).run prog w = .ok (.value (.slice (if cap = i then a else a.map (·.add i)) (n - i) (cap - i))) w := by
 simp only [execOp, hx, iN] at hz ⊢
 simp [Instr.sliceAt, Instr.slice, Instr.sliceBounds, Instr.sliceBound, run_underlying underlying39, sizeOf9, hz, asIntOf, hi]
theorem run_sl3 {a : Option Addr} {n cap i e : Nat} (hx : ρ x = .slice a n cap) (hz : ρ z = i6 i) (hy : ρ y = i6 e) (hu : ρ u = i6 e) (hi : i < e) (he : e ≤ cap) : (execOp ρ ⟨dst, .slice 39 x (some z) (some y) (some u), ty, pos, aft, gd⟩).run prog w = .ok (.value (.slice (a.map (·.add i)) (e - i) (e - i))) w := by
 simp only [execOp, hx, iN] at hz hy hu ⊢
 have h0 : e ≠ i := by omega
 simp [Instr.sliceAt, Instr.slice, Instr.sliceBounds, Instr.sliceBound, run_underlying underlying39, sizeOf9, hz, hy, hu, asIntOf, he, Nat.le_of_lt hi, h0]
end
def encC (po : Option Addr) (n j : Nat) : Array Value := #[.slice (po.map (·.add (64 * j))) (min 64 (n - 64 * j)) (min 64 (n - 64 * j))]
theorem chunk_calls {po : Option Addr} {pc n b2 b3 : Nat} {w : World} {B l : Nat} {J Jx : List Nat → World → Prop} (hJ : AbidesFrom B J) (hB2 : Blk w b2 39 #[.slice po n pc]) (hB3 : Blk w b3 3 #[i6 64]) (hn : n ≤ 1000000000) (hpc : n ≤ pc) (hY : ∀ x W1, J (List.range x) W1 → 64 * x < n → YieldAt Fence.wide 7 prog l (encC po n x) W1 fun e W' => (e = .returned (.bool true) ∧ J (List.range (x + 1)) W' ∧ KpL [(b2, 39, #[.slice po n pc]), (b3, 3, #[i6 64])] W1 W') ∨ (e = .returned (.bool false) ∧ Jx (List.range (x + 1)) W')) (h0 : J [] w) :
  Calls prog 131 #[.func (.yield l) #[] #[], pt b2, pt b3] w fun e w' => (∃ v, e = .returned v) ∧ ((∃ xs, xs = List.range ((n + 63) / 64) ∧ J xs w') ∨ ∃ pre, Jx pre w') := by
 have H0 := HA.start w
 go_enter Tryz.func131, Tryz.ntmps131
 refine zsr ?_;refine zwv (i6 0) ?_;refine znt ?_;refine wp_block ?_;refine wp_count (fun k A w' => ∃ u1 : Nat → Value, A = ⟨(.func (.yield l) #[] #[] :: pt b2 :: pt b3 :: un :: i6 (64 * k) :: u1 5 :: u1 6 :: u1 7 :: u1 8 :: u1 9 :: u1 10 :: u1 11 :: u1 12 :: u1 13 :: u1 14 :: u1 15 :: u1 16 :: u1 17 :: u1 18 :: u1 19 :: u1 20 :: u1 21 :: u1 22 :: u1 23 :: u1 24 :: u1 25 :: u1 26 :: u1 27 :: u1 28 :: u1 29 :: u1 30 :: List.replicate 0 un).toArray, []⟩ ∧ J (List.range k) w' ∧ Blk w' b2 39 #[.slice po n pc] ∧ Blk w' b3 3 #[i6 64]) ((n + 63) / 64) ?_ ?_ ?_
 ·exact zey [] ⟨abides hJ h0 H0.old.old, hB2.keep H0.old.old, hB3.keep H0.old.old⟩
 ·rintro k hk _ w2 ⟨u1, rfl, hJk, hBk2, hBk3⟩;have hL := HA.start w2;have hk6 : 64 * k < n := by omega
  refine wp_seq ?_;refine zsr ?_;refine zwv (i6 (64 * k)) ?_;refine zwu (v := .slice po n pc) (run_load1 isAgg39 (((hBk2.keep hL.old.old).cell 0).trans rfl)) ?_;refine zwv (i6 n) ?_;refine zwu (run_lss (k := .i64) (a := 64 * k) (b := n) true (dt (by omega))) ?_;refine znt ?_;refine zct ?_;refine wp_skip ?_;refine zt ?_;refine wp_seq ?_;refine wp_block ?_;refine wp_seq ?_;refine zrs ⟨(.func (.yield l) #[] #[] :: pt b2 :: pt b3 :: un :: i6 (64 * k) :: i6 (min 64 (n - 64 * k)) :: i6 (64 * k) :: .slice po n pc :: i6 n :: .bool true :: u1 10 :: u1 11 :: u1 12 :: i6 64 :: .slice po n pc :: i6 (64 * k) :: .slice (if pc = 64 * k then po else po.map (·.add (64 * k))) (n - 64 * k) (pc - 64 * k) :: i6 (n - 64 * k) :: i6 (min 64 (n - 64 * k)) :: u1 19 :: u1 20 :: u1 21 :: u1 22 :: u1 23 :: u1 24 :: u1 25 :: u1 26 :: u1 27 :: u1 28 :: u1 29 :: u1 30 :: List.replicate 0 un).toArray, []⟩ (HA (bs w2) []) hL.drew ?_ ?_
  ·refine zst (v := i6 64) (fun w' h' => run_load1 isAgg3 (((hBk3.keep h'.old.old).cell 0).trans rfl)) ?_;refine zst (v := .slice po n pc) (fun w' h' => run_load1 isAgg39 (((hBk2.keep h'.old.old).cell 0).trans rfl)) ?_;refine zsp (i6 (64 * k)) ?_;refine zst (fun _ _ => (run_slo (a := po) (n := n) (cap := pc) (i := 64 * k) (by kernel_rfl) (by kernel_rfl) (by omega))) ?_;refine zsp (i6 (n - 64 * k)) ?_;refine zst (v := i6 (min 64 (n - 64 * k))) (fun _ _ => (run_min)) ?_;refine zsp (i6 (min 64 (n - 64 * k))) ?_;exact AllSure.nil
  intro w3 h4;refine zt ?_;refine wp_seq ?_;have hJy := abides hJ hJk h4.old.old;have hBy2 := hBk2.keep h4.old.old;have hBy3 := hBk3.keep h4.old.old;obtain ⟨fnY, tmpsY, asgY, bodyY, hy, hRY⟩ := hY k _ hJy hk6;have hy9 := hy;rw [encC, show min 64 (n - 64 * k) = 64 * k + min 64 (n - 64 * k) - 64 * k by omega] at hy9;clear hy;refine wn_region ?_;refine wn_val (.func (.yield l) #[] #[]) (by kernel_rfl) (by kernel_rfl) ?_;refine wn_val (.slice po n pc) (by kernel_rfl) (run_load1 isAgg39 (((hBk2.keep h4.old.old).cell 0).trans rfl)) ?_;refine wn_val (i6 (64 * k)) (by kernel_rfl) (by kernel_rfl) ?_;refine wn_val (i6 (64 * k)) (by kernel_rfl) (by kernel_rfl) ?_;refine wn_val (i6 (min 64 (n - 64 * k))) (by kernel_rfl) (by kernel_rfl) ?_;refine wn_val (i6 ((64 * k) + (min 64 (n - 64 * k)))) (by kernel_rfl) (run_add (k := .i64) (a := 64 * k) (b := min 64 (n - 64 * k)) (by first | omega | (simp only [top]; omega))) ?_;refine wn_val (i6 (64 * k)) (by kernel_rfl) (by kernel_rfl) ?_;refine wn_val (i6 (min 64 (n - 64 * k))) (by kernel_rfl) (by kernel_rfl) ?_;refine wn_val (i6 ((64 * k) + (min 64 (n - 64 * k)))) (by kernel_rfl) (run_add (k := .i64) (a := 64 * k) (b := min 64 (n - 64 * k)) (by first | omega | (simp only [top]; omega))) ?_;refine wn_val (.slice (po.map (·.add (64 * k))) (64 * k + min 64 (n - 64 * k) - 64 * k) (64 * k + min 64 (n - 64 * k) - 64 * k)) (by kernel_rfl) (run_sl3 (a := po) (n := n) (cap := pc) (i := 64 * k) (e := 64 * k + min 64 (n - 64 * k)) (by kernel_rfl) (by kernel_rfl) (by kernel_rfl) (by kernel_rfl) (by omega) (by omega)) ?_;refine wn_yield (l := l) (by kernel_rfl) (by kernel_rfl) (by kernel_rfl) hy9 (hRY.mono ?_);rintro e W3 (⟨rfl, hJ3, hk3⟩ | ⟨rfl, hJx3⟩)
  ·have hs3 := HA.start W3;refine ⟨_, rfl, ?_⟩;refine wn_val (.bool false) (by kernel_rfl) (by kernel_rfl) ?_;refine wn_nil ?_;have hkk := hk3 (fun x hx => by rcases List.mem_cons.1 hx with rfl | hx; exact hBy2; obtain rfl := List.mem_singleton.1 hx; exact hBy3);have hBz2 := hkk _ (List.mem_cons_self ..);have hBz3 := hkk _ (mc (List.mem_cons_self ..));refine zt ?_;refine zcf ?_;refine wp_skip ?_;refine block_normal ?_;refine zt ?_;refine wl_region ?_;refine zwv (i6 (64 * k)) ?_;refine zwu (v := i6 64) (run_load1 isAgg3 (((hBz3.keep hs3.old.old).cell 0).trans rfl)) ?_;refine zwu (run_add (k := .i64) (a := 64 * k) (b := 64) (by first | omega | (simp only [top]; omega))) ?_;refine zwv (i6 ((64 * k) + 64)) ?_;refine wl_nil ?_;exact then_I (zey [] ⟨abides hJ hJ3 hs3.old.old, hBz2.keep hs3.old.old, hBz3.keep hs3.old.old⟩)
  ·have hs3 := HA.start W3;refine ⟨_, rfl, ?_⟩;refine wn_val (.bool true) (by kernel_rfl) (by kernel_rfl) ?_;refine wn_nil ?_;refine zt ?_;refine zct ?_;refine wp_ret ?_
   repeat first|refine zrt ?_|refine block_ret ?_
   exact zb (v := .tuple #[]) ⟨⟨_, rfl⟩, .inr ⟨_, hJx3⟩⟩
 ·rintro _ w5 ⟨u1, rfl, hJk, hBk2, hBk3⟩;have hL := HA.start w5;refine wp_seq ?_;refine zsr ?_;refine zwv (i6 (64 * ((n + 63) / 64))) ?_;refine zwu (v := .slice po n pc) (run_load1 isAgg39 (((hBk2.keep hL.old.old).cell 0).trans rfl)) ?_;refine zwv (i6 n) ?_;refine zwu (run_lss (k := .i64) (a := 64 * ((n + 63) / 64)) (b := n) false (df (by omega))) ?_;refine znt ?_;refine zcf ?_;refine wp_exit ?_
  repeat first | refine then_exit ?_ | refine block_exit ?_ | refine block_exit_ne (by decide) ?_
  exact bodyPost_end (v := .tuple #[]) (by kernel_rfl) rfl ⟨⟨_, rfl⟩, .inl ⟨_, rfl, hJk⟩⟩
theorem range_snoc {pre : List Nat} {x m : Nat} (h : pre ++ [x] = List.range (m + 1)) : pre = List.range x ∧ x = m := by
 rw [List.range_succ] at h;obtain ⟨h1, h2⟩ := List.append_inj' h rfl;obtain rfl : x = m := by simpa using h2
 exact ⟨h1, rfl⟩
theorem chunk_seq {po : Option Addr} {pc n b2 b3 : Nat} {w : World} (hB2 : Blk w b2 39 #[.slice po n pc]) (hB3 : Blk w b3 3 #[i6 64]) (hn : n ≤ 1000000000) (hpc : n ≤ pc) :
  SeqR prog 131 #[] #[pt b2, pt b3] (encC po n) (KpL [(b2, 39, #[.slice po n pc]), (b3, 3, #[i6 64])]) (fun xs => xs = List.range ((n + 63) / 64)) (fun xs => ∃ m, xs = List.range (m + 1) ∧ 64 * m < n) w := fun l J Jx W hW hJ hJx hY h0 =>
 callsIn_wide.2 (chunk_calls hJ (hB2.keep hW) (hB3.keep hW) hn hpc (fun x W1 hj hx => by
  have h := hY (List.range x) x W1 hj ⟨x, List.range_succ.symm, hx⟩;rw [← List.range_succ] at h;exact h) h0)
theorem chunk_any {po : Option Addr} {pc n : Nat} {z : Base} {L : BL} {w : World} (H0 : HA z L w) :
  Calls prog 96 #[.slice po n pc, i6 64] w fun e w' => ∃ b2 b3, e = .returned (.func (.func 131) #[] #[pt b2, pt b3]) ∧ HA z ((b3, 3, #[i6 64]) :: (b2, 39, #[.slice po n pc]) :: L) w' := by
 go_enter Tryz.func96, Tryz.ntmps96
 refine zsr ?_;refine wl_make (c := #[.slice po n pc]) H0 39 ?_;intro q1 w2 (h3 : HA z ((q1, 39, #[.slice po n pc]) :: L) w2);refine wl_make (c := #[i6 64]) h3 3 ?_;intro q4 w5 (h6 : HA z ((q4, 3, #[i6 64]) :: (q1, 39, #[.slice po n pc]) :: L) w5);refine zwv (.nilFunc) ?_;refine znt ?_;refine wp_seq ?_;refine zsr ?_;refine zwu (v := i6 64) (run_load1 isAgg3 (((h6.get 0 rfl).cell 0).trans rfl)) ?_;refine zwu (run_lss (k := .i64) (a := 64) (b := 1) false (by decide)) ?_;refine znt ?_;refine zcf ?_;refine wp_skip ?_;refine zt ?_;refine zsr ?_;refine zwv (.func (.func 131) #[] #[pq q1, pq q4]) ?_;refine zwv (.func (.func 131) #[] #[pq q1, pq q4]) ?_;refine znt ?_;refine wp_ret ?_
 repeat first|refine zrt ?_|refine block_ret ?_
 exact zb (v := .func (.func 131) #[] #[pt q1, pt q4]) ⟨q1, q4, rfl, h6⟩
end Go.Proofs.YtckmlaempffpjaaGreat
