/-
 Passes of carries, as reduced makes them.
-/
import Derived.Test.YtefjnfeckenmkaaGreatDoorR0
namespace Go.Proofs.YtefjnfeckenmkaaGreatDoor
open Go.RowKit Num
def ul (l : List Nat) : Array Value := cl .u64 l
theorem ul_size (l : List Nat) : (ul l).size = l.length := cl_size _ _
theorem info116 : (Tryz.prog.info? 148).map (·.size) = some 16 := by kernel_rfl
theorem run_box116 {ρ : Operand → Value} {x : Operand} {c : Array Value} {w : World} {dst : Option Tmp} {ty : TypeId} {pos : String} {aft : Array Edge} {gd : Option (Nat × Bool)} (hx : ρ x = .agg c) :
  (execOp ρ ⟨dst, .box 148 x, ty, pos, aft, gd⟩).run Tryz.prog w = .ok (.value (.pointer (some ⟨w.heap.size, 0, none⟩))) (w.alloc (.cells c 148)) := by
 simp only [execOp, hx]
 go_simp
theorem run_alloc116 {ρ : Operand → Value} {w : World} {dst : Option Tmp} {ty : TypeId} {pos : String} {aft : Array Edge} {gd : Option (Nat × Bool)} :
  (execOp ρ ⟨dst, .alloc 148, ty, pos, aft, gd⟩).run Tryz.prog w = .ok (.value (.pointer (some ⟨w.heap.size, 0, none⟩))) (w.alloc (.cells (ul (List.replicate 16 0)) 148)) := by
 simp only [execOp]
 go_simp
 rfl
def dg (l : List Nat) (k : Nat) : Nat := l.getD k 0
theorem dg_get (l : List Nat) (k : Nat) (h : k < l.length) : dg l k = l[k] := by unfold dg; rw [List.getD_eq_getElem?_getD, List.getElem?_eq_getElem h]; rfl
def crr (l : List Nat) : Nat → Nat
 | 0 => 0
 | k + 1 => num 65536 (l.take (k + 1)) / 65536 ^ (k + 1)
theorem crr_eq (l : List Nat) (k : Nat) : crr l k = num 65536 (l.take k) / 65536 ^ k := by
 cases k with
 | zero => rw [List.take_zero]; rfl
 | succ k => rfl
def pc (l : List Nat) (k : Nat) : List Nat := mix 65536 k (num 65536 (l.take k)) l
theorem pc_len (l : List Nat) (hl : l.length = 16) (k : Nat) (hk : k ≤ 16) : (pc l k).length = 16 := by unfold pc; rw [mix_length _ _ _ _ (by omega), hl]
theorem pc_dg (l : List Nat) (hl : l.length = 16) (k : Nat) (hk : k < 16) : dg (pc l k) k = dg l k := by
 rw [dg_get _ _ (by rw [pc_len l hl k (by omega)]; exact hk), dg_get l k (by omega)]
 exact mix_get _ _ _ _ (by omega)
theorem ul_get (l : List Nat) (k : Nat) (h : k < l.length) : (ul l)[k]? = some (iN .u64 (dg l k)) := by
 unfold ul
 rw [cl_get .u64 l k h, dg_get l k h]
 rfl
theorem ul_put (l : List Nat) (k x : Nat) : (ul l).setIfInBounds k (.int .u64 (x : Int)) = ul (l.set k x) := by
 unfold ul
 simp [cl, List.map_set]
theorem pc_get (l : List Nat) (hl : l.length = 16) (k : Nat) (hk : k < 16) : (ul (pc l k))[k]? = some (iN .u64 (dg l k)) := by
 rw [ul_get _ _ (by rw [pc_len l hl k (by omega)]; exact hk), pc_dg l hl k hk]
theorem set_get (l : List Nat) (k x : Nat) (h : k < l.length) : (ul (l.set k x))[k]? = some (iN .u64 x) := by
 rw [ul_get _ _ (by rw [List.length_set]; exact h), dg_get _ _ (by rw [List.length_set]; exact h), List.getElem_set_self]
theorem pc_step (l : List Nat) (hl : l.length = 16) (k : Nat) (hk : k < 16) : ((pc l k).set k (dg l k + crr l k)).set k ((dg l k + crr l k) &&& 65535) = pc l (k + 1) ∧ (dg l k + crr l k) / 2 ^ 16 = crr l (k + 1) := by
 have h := pass_step 65536 k l (by decide) (by omega)
 rw [List.set_set, and16, crr_eq, dg_get l k (by omega)]
 exact ⟨h.1, h.2.symm⟩
theorem pc_end (l : List Nat) (hl : l.length = 16) : pc l 16 = digs 65536 16 (num 65536 l) := by
 unfold pc mix
 rw [List.take_of_length_le (by omega), List.drop_eq_nil_of_le (by omega), List.append_nil]
theorem crr_le (l : List Nat) (hb : ∀ x ∈ l, x < 4398046511104) (k : Nat) : crr l k ≤ 134217728 := by
 rw [crr_eq]
 exact num_take_le 65536 134217728 k (by decide) l fun x hx => by have := hb x hx; omega
theorem dg_lt (l : List Nat) (hl : l.length = 16) (hb : ∀ x ∈ l, x < 4398046511104) (k : Nat) (hk : k < 16) : dg l k < 4398046511104 := by
 rw [dg_get l k (by omega)]
 exact hb _ (List.getElem_mem _)
def again (l : List Nat) : List Nat := (digs 65536 16 (num 65536 l)).set 0 (dg (digs 65536 16 (num 65536 l)) 0 + 38 * crr l 16)
theorem again_len (l : List Nat) : (again l).length = 16 := by unfold again; rw [List.length_set, digs_length]
theorem crr16 (l : List Nat) (hl : l.length = 16) : crr l 16 = num 65536 l / 65536 ^ 16 := by rw [crr_eq, List.take_of_length_le (by omega)]
theorem again_num (l : List Nat) (hl : l.length = 16) : num 65536 (again l) = num 65536 l % 65536 ^ 16 + 38 * (num 65536 l / 65536 ^ 16) := by
 unfold again
 rw [dg_get _ 0 (by rw [digs_length]; decide), num_more 65536 _ 0 _ (by rw [digs_length]; decide), num_digs, crr16 l hl, Nat.pow_zero, Nat.mul_one]
theorem again_less (l : List Nat) (hl : l.length = 16) (h : crr l 16 ≠ 0) : num 65536 (again l) < num 65536 l := by
 rw [again_num l hl]
 rw [crr16 l hl] at h
 have h1 := Nat.mod_add_div (num 65536 l) (65536 ^ 16)
 have e : (65536 : Nat) ^ 16 = 115792089237316195423570985008687907853269984665640564039457584007913129639936 := by decide
 rw [e] at *
 omega
theorem again_mod (l : List Nat) (hl : l.length = 16) : num 65536 (again l) % P = num 65536 l % P := by
 rw [again_num l hl]
 have h1 := Nat.mod_add_div (num 65536 l) (65536 ^ 16)
 have e : (65536 : Nat) ^ 16 % P = 38 := by decide
 conv => rhs; rw [← h1]
 rw [Nat.add_mod, Nat.mul_mod 38, Nat.add_mod (num 65536 l % 65536 ^ 16) (65536 ^ 16 * _), Nat.mul_mod (65536 ^ 16), e]
 rfl
theorem again_bound (l : List Nat) (hb : ∀ x ∈ l, x < 4398046511104) : ∀ x ∈ again l, x < 4398046511104 := fun x hx => by
 unfold again at hx
 have h1 := digs_lt 65536 (by decide) 16 (num 65536 l)
 rcases List.mem_or_eq_of_mem_set hx with h | h
 ·have := h1 x h; omega
 ·have h2 := crr_le l hb 16
  have h3 : dg (digs 65536 16 (num 65536 l)) 0 < 65536 := by
   rw [dg_get _ 0 (by rw [digs_length]; decide)]
   exact h1 _ (List.getElem_mem _)
  omega
end Go.Proofs.YtefjnfeckenmkaaGreatDoor

namespace Go.Proofs.YtefjnfeckenmkaaGreatDoor
open Go.RowKit Num
structure GF (w0 : World) (L : List (Nat × TypeId × Array Value)) (i0 i1 j q : Nat) (t : TypeId) (c : Array Value) (g : Nat → Nat) (d : Nat → Bool) (w : World) : Prop where
 held : HA w0 (if d i0 = true then L.set j (q, t, c) else L) w
 seen : d i0 = true → d i1 = true
section
variable {ops : Array Oper} {Q : Exit → Act → World → Prop} {F : (Nat → Nat) → Act} {i i0 i1 j q : Nat} {dst : Option Tmp} {T ty : TypeId} {pos : String} {aft : Array Edge} {gd : Option (Nat × Bool)}
 {w0 : World} {L : List (Nat × TypeId × Array Value)} {t : TypeId} {c : Array Value}
theorem GF.keep {g : Nat → Nat} {d : Nat → Bool} {w w' : World} (h : GF w0 L i0 i1 j q t c g d w) (hi : i ≠ i0) (hb : Below w.heap.size w w') : GF w0 L i0 i1 j q t c g (up d i true) w' :=
 ⟨by rw [up_ne _ _ (Ne.symm hi)]; exact h.held.keep _ _ hb, fun h0 => by
  rw [up_ne _ _ (Ne.symm hi)] at h0
  by_cases hii : i1 = i
  ·rw [hii]; exact up_at _ _ _
  ·rw [up_ne _ _ hii]; exact h.seen h0⟩
theorem gf_plain {o : Oper} {v : Value}   
     (hi : i ≠ i0 := by decide) (hw : ∀ g, Region.wanted o (yielded ops (F g).tmps) = true := by intro _; kernel_rfl) (hp : ∀ g, (F g).put o.dst v = F g := by intro _; kernel_rfl) (hr : ∀ g w, (execOp (F g).eval o).run Tryz.prog w = .ok (.value v) w := by intro _ _; kernel_rfl) : OpGhost Tryz.prog .any ops Q (GF w0 L i0 i1 j q t c) F i o :=
  OpGhost.take (v := fun _ => v) hw hp (fun g _ w h _ => ⟨hr g w, h.keep hi (Below.refl _ w)⟩)
theorem gf_load {x : Operand} {D : TypeDesc} {e : Nat × TypeId × Array Value} (m : Nat) (hm : L[m]? = some e) 
   
  (hu : Tryz.prog.underlying T = some D) (hd : D.isRow = true) (hz : (Tryz.prog.info? T).map (·.size) = some e.2.2.size) (hi : i1 ≠ i0 := by decide) (hw : ∀ g, Region.wanted ⟨dst, .load T x, ty, pos, aft, gd⟩ (yielded ops (F g).tmps) = true := by intro _; kernel_rfl) (hp : ∀ g, (F g).put dst (.agg e.2.2) = F g := by intro _; kernel_rfl) (hx : ∀ g, (F g).eval x = .pointer (some ⟨e.1, 0, none⟩) := by intro _; kernel_rfl) :
  OpGhost Tryz.prog .any ops Q (GF w0 L i0 i1 j q t c) F i1 ⟨dst, .load T x, ty, pos, aft, gd⟩ := fun g d w h hdi _ => by
 rw [if_pos (hw g)]
 unfold Oper.wp
 have h0 : d i0 = false := by
  cases h0 : d i0 with
  | false => rfl
  | true => rw [h.seen h0] at hdi; cases hdi
 have hH := h.held
 rw [h0, if_neg (by decide)] at hH
 rw [run_load_blk (hx := (hx g)) (hH.get m hm) hu hd hz]
 exact ⟨g i1, by rw [up_self]; exact hp g, by rw [up_self]; exact h.keep hi (Below.refl _ w)⟩
theorem gf_load2 {x : Operand} {D : TypeDesc} {e : Nat × TypeId × Array Value} (m : Nat)  (hm : L[m]? = some e) 
   
  (hu : Tryz.prog.underlying T = some D) (hd : D.isRow = true) (hz : (Tryz.prog.info? T).map (·.size) = some e.2.2.size) (hjm : j ≠ m := by decide) (hi : i ≠ i0 := by decide) (hw : ∀ g, Region.wanted ⟨dst, .load T x, ty, pos, aft, gd⟩ (yielded ops (F g).tmps) = true := by intro _; kernel_rfl) (hp : ∀ g, (F g).put dst (.agg e.2.2) = F g := by intro _; kernel_rfl) (hx : ∀ g, (F g).eval x = .pointer (some ⟨e.1, 0, none⟩) := by intro _; kernel_rfl) :
  OpGhost Tryz.prog .any ops Q (GF w0 L i0 i1 j q t c) F i ⟨dst, .load T x, ty, pos, aft, gd⟩ :=
 OpGhost.take (v := fun _ => .agg e.2.2) hw hp (fun g d w h _ => by
  have hB : Blk w e.1 e.2.1 e.2.2 := by
   have hH := h.held
   split at hH
   ·exact hH.get m (by rw [List.getElem?_set_ne hjm]; exact hm)
   ·exact hH.get m hm
  exact ⟨run_load_blk (hx := (hx g)) hB hu hd hz, h.keep hi (Below.refl _ w)⟩)
theorem gf_call {f : FuncId} {xs : Array Operand} {ats : Array TypeId} {v : Value} 
  
  (hr : ∀ args w, (callFunc f args).run Tryz.prog w = .ok (.enter f args) w) (args : Array Value) 
  (hc : ∀ w, Calls Tryz.prog f args w fun e w' => e = .returned v ∧ Below w.heap.size w w') (hi : i ≠ i0 := by decide) (hw : ∀ g, Region.wanted ⟨dst, .call { callee := .value (.func f), args := xs, argTypes := ats }, ty, pos, aft, gd⟩ (yielded ops (F g).tmps) = true := by intro _; kernel_rfl) (hp : ∀ g, (F g).put dst v = F g := by intro _; kernel_rfl) (ha : ∀ g, #[] ++ xs.map (F g).eval ++ #[] = args := by intro _; kernel_rfl) :
  OpGhost Tryz.prog .any ops Q (GF w0 L i0 i1 j q t c) F i ⟨dst, .call { callee := .value (.func f), args := xs, argTypes := ats }, ty, pos, aft, gd⟩ :=
 OpGhost.call (v := fun _ => v) (args := fun _ => args) hw hp (fun g w => by rw [execOp_call_go, ha g]; exact hr _ w) (fun _ _ w hS _ => (hc w).mono fun _ _ h => ⟨h.1, hS.keep hi h.2⟩)
theorem gf_fill {x y : Operand} {c0 : Array Value} (hL : L[j]? = some (q, t, c0)) (hs : c.size = c0.size)  
      (hz : (Tryz.prog.info? T).map (·.size) = some c.size) (h1 : c.all (·.oneCell') = true) 
     (hw : ∀ g, Region.wanted ⟨dst, .store T x y, ty, pos, aft, gd⟩ (yielded ops (F g).tmps) = true := by intro _; kernel_rfl) (hp : ∀ g, (F g).put dst undef = F g := by intro _; kernel_rfl) (hx : ∀ g, (F g).eval x = .pointer (some ⟨q, 0, none⟩) := by intro _; kernel_rfl) (hy : ∀ g, (F g).eval y = .agg c := by intro _; kernel_rfl) (hi : i1 ≠ i0 := by decide) (he : (aft.any fun e => Region.binds .any e && e.on == i1) = true := by kernel_rfl) :
    OpGhost Tryz.prog .any ops Q (GF w0 L i0 i1 j q t c) F i0 ⟨dst, .store T x y, ty, pos, aft, gd⟩ :=
  OpGhost.skips (W := fun _ w => w.setCells q 0 c.toList) hw hp (fun g d w h hd haft => by
    obtain ⟨m, hm, h3⟩ := Array.any_eq_true.1 he
    rw [Bool.and_eq_true, beq_iff_eq] at h3
    have ha : d i1 = true := by rw [← h3.2]; exact haft _ (Array.getElem_mem hm) h3.1
    have hH := h.held
    rw [hd, if_neg (by decide)] at hH
    exact ⟨run_store_blk (hx g) (hy g) (hH.get j hL) hs hz h1, by rw [up_at, if_pos rfl]; exact hH.fill j hL hs, fun _ => by rw [up_ne _ _ hi]; exact ha⟩)
theorem GF.start {g : Nat → Nat} {d : Nat → Bool} {w : World} (h : HA w0 L w) (hd : d i0 = false) : GF w0 L i0 i1 j q t c g d w := ⟨by rw [hd]; exact h, fun h0 => by rw [hd] at h0; cases h0⟩
end
end Go.Proofs.YtefjnfeckenmkaaGreatDoor

namespace Go.Proofs.YtefjnfeckenmkaaGreatDoor
set_option linter.unusedVariables false
set_option maxRecDepth 100000
set_option maxHeartbeats 2000000
open Go.RowKit Num
theorem dgD_lt (l : List Nat) (k : Nat) (hk : k < 16) : dg (digs 65536 16 (num 65536 l)) k < 65536 := by
 rw [dg_get _ k (by rw [digs_length]; exact hk)]
 exact digs_lt 65536 (by decide) 16 _ _ (List.getElem_mem _)
theorem copy_put (l : List Nat) (k : Nat) (hk : k < 16) : (rl (num 65536 l % 65536 ^ k)).setIfInBounds k (.int .u32 ((dg (digs 65536 16 (num 65536 l)) k : Nat) : Int)) = rl (num 65536 l % 65536 ^ (k + 1)) := by
 have h := dgD_lt l k hk
 rw [rl_put _ k _ (Nat.mod_lt _ (Nat.pow_pos (by decide))) hk h, dg_get _ k (by rw [digs_length]; exact hk), digs_get]
 congr 1
 rw [Nat.pow_succ, Nat.mod_mul, Nat.mul_comm (65536 ^ k)]
def zRefE_0 (l0 : List Nat) q1 q4 (u10 : Nat → Value) (u7 : Nat → Value) (zx3 zx4 zx7 zx8 : Value) (zt : List Value) := (.agg (ul l0) :: pt q1 :: pt q4 :: zx3 :: zx4 :: un :: un :: zx7 :: zx8 :: u10 9 :: u10 10 :: u10 11 :: u10 12 :: u10 13 :: u10 14 :: u10 15 :: u10 16 :: u10 17 :: u10 18 :: u10 19 :: u10 20 :: u10 21 :: u10 22 :: u10 23 :: u10 24 :: u10 25 :: u10 26 :: u10 27 :: u7 28 :: u7 29 :: u7 30 :: u7 31 :: u7 32 :: u7 33 :: u7 34 :: u7 35 :: zt : List Value)
def zRefE_1 (l0 : List Nat) q1 q4 l q22 (u10 : Nat → Value) (u7 : Nat → Value) (u25 : Nat → Value) (zx6 zx36 zx37 : Value) (zt : List Value) := (.agg (ul l0) :: pt q1 :: pt q4 :: iN .u64 (crr l 16) :: iN .i64 16 :: pt q22 :: zx6 :: iN .i64 16 :: .bool false :: u10 9 :: u10 10 :: u10 11 :: u10 12 :: u10 13 :: u10 14 :: u10 15 :: u10 16 :: u10 17 :: u10 18 :: u10 19 :: u10 20 :: u10 21 :: u10 22 :: u10 23 :: u10 24 :: u10 25 :: u10 26 :: u10 27 :: iN .u64 (crr l 16) :: .bool true :: u7 30 :: u7 31 :: u7 32 :: u7 33 :: u7 34 :: u7 35 :: zx36 :: zx37 :: u25 38 :: u25 39 :: u25 40 :: u25 41 :: u25 42 :: u25 43 :: u25 44 :: u25 45 :: zt : List Value)
theorem reduced_any (l0 : List Nat) (hl0 : l0.length = 16) (hb0 : ∀ x ∈ l0, x < 4398046511104) (w : World) : Calls Tryz.prog 133 #[.agg (ul l0)] w fun e w' => e = .returned (rarr (num 65536 l0 % P)) ∧ Below w.heap.size w w' := by
 have H0 := HA.start w
 go_enter Tryz.func133, Tryz.ntmps133
 refine zsr ?_
 refine wl_make H0 148 (run_box116 (c := ul l0) (by kernel_rfl)) ?_
 intro q1 w2 h3
 refine wl_make h3 51 run_alloc32 ?_
 intro q4 w5 h6
 refine znt ?_
 refine wp_seq ?_
 refine wp_block ?_
 refine wp_while (fun m A w' => ∃ (l : List Nat) (u7 : Nat → Value), m = num 65536 l ∧ A = ⟨(.agg (ul l0) :: pt q1 :: pt q4 :: u7 3 :: u7 4 :: un :: un :: u7 7 :: u7 8 :: u7 9 :: u7 10 :: u7 11 :: u7 12 :: u7 13 :: u7 14 :: u7 15 :: u7 16 :: u7 17 :: u7 18 :: u7 19 :: u7 20 :: u7 21 :: u7 22 :: u7 23 :: u7 24 :: u7 25 :: u7 26 :: u7 27 :: u7 28 :: u7 29 :: u7 30 :: u7 31 :: u7 32 :: u7 33 :: u7 34 :: u7 35 :: List.replicate 18 un).toArray, []⟩ ∧ HA w [(q4, 51, rl 0), (q1, 148, ul l)] w' ∧ l.length = 16 ∧ (∀ x ∈ l, x < 4398046511104) ∧ num 65536 l % P = num 65536 l0 % P) (num 65536 l0) ?_ ?_
 ·exact ⟨l0, fun i => (([(3, undef), (4, undef), (7, undef), (8, undef), (9, undef), (10, undef), (11, undef), (12, undef), (13, undef), (14, undef), (15, undef), (16, undef), (17, undef), (18, undef), (19, undef), (20, undef), (21, undef), (22, undef), (23, undef), (24, undef), (25, undef), (26, undef), (27, undef), (28, undef), (29, undef), (30, undef), (31, undef), (32, undef), (33, undef), (34, undef), (35, undef)] : List (Nat × Value)).find? (·.1 == i)).elim undef (·.2), rfl, by kernel_rfl, h6, hl0, hb0, rfl⟩
 rintro _ _ w8 ⟨l, u7, rfl, rfl, h9, hl, hb, hN⟩
 refine wp_block ?_
 refine zsr ?_
 refine zwv (iN .u64 0) ?_
 refine znt ?_
 refine wp_seq ?_
 refine zsr ?_
 refine zwv (iN .i64 0) ?_
 refine znt ?_
 refine wp_block ?_
 refine wp_count (fun k A w' => ∃ u10 : Nat → Value, A = ⟨(zRefE_0 l0 q1 q4 u10 u7 (iN .u64 (crr l k)) (iN .i64 k) (u10 7) (u10 8) (List.replicate 18 un)).toArray, []⟩ ∧ HA w [(q4, 51, rl 0), (q1, 148, ul (pc l k))] w') 16 ?_ ?_ ?_
 ·exact ⟨fun i => (([(7, u7 7), (8, u7 8), (9, u7 9), (10, u7 10), (11, u7 11), (12, u7 12), (13, u7 13), (14, u7 14), (15, u7 15), (16, u7 16), (17, u7 17), (18, u7 18), (19, u7 19), (20, u7 20), (21, u7 21), (22, u7 22), (23, u7 23), (24, u7 24), (25, u7 25), (26, u7 26), (27, u7 27)] : List (Nat × Value)).find? (·.1 == i)).elim undef (·.2), by kernel_rfl, h9⟩
 ·rintro k hk _ w11 ⟨u10, rfl, h12⟩
  have hps := pc_step l hl k hk
  have hcl := crr_le l hb k
  have hdl := dg_lt l hl hb k hk
  refine wp_seq ?_
  refine zsr ?_
  refine zwv (iN .i64 k) ?_
  refine zwu (run_lss (k := .i64) (a := k) (b := 16) true (decide_eq_true hk)) ?_
  refine znt ?_
  refine zct ?_
  refine wp_skip ?_
  refine then_at rfl ?_
  refine wp_seq ?_
  refine wp_block ?_
  refine zsr ?_
  refine zwv (iN .i64 k) ?_
  refine zwv (iN .i64 k) ?_
  refine zwu (run_addr_arr (q := q1) (a := k) Tryz.underlying148 Tryz.sizeOf34 (by omega)) ?_
  refine zwu (run_load1 Tryz.isAgg34 (((h12.get 1 rfl).cell k).trans (pc_get l hl k hk))) ?_
  refine zwv (iN .u64 (crr l k)) ?_
  refine zwu (run_add (k := .u64) (a := dg l k) (b := crr l k) (by simp only [top]; omega)) ?_
  refine zwu (run_addr_arr (q := q1) (a := k) Tryz.underlying148 Tryz.sizeOf34 (by omega)) ?_
  refine wl_put (k := .u64) (z := (((dg l k) + (crr l k) : Nat) : Int)) h12 1 rfl k (by rw [ul_size, pc_len l hl k (by omega)]; exact hk) Tryz.sizeOf34 ?_
  intro w13 h14
  have h15 : HA w [(q4, 51, rl 0), (q1, 148, ul ((pc l k).set k (dg l k + crr l k)))] w13 := (by rw [← ul_put]; exact h14)
  clear h14
  refine znt ?_
  refine zsr ?_
  refine zwv (iN .i64 k) ?_
  refine zwu (run_addr_arr (q := q1) (a := k) Tryz.underlying148 Tryz.sizeOf34 (by omega)) ?_
  refine zwu (v := iN .u64 (dg l k + crr l k)) (run_load1 Tryz.isAgg34 (((h15.get 1 rfl).cell k).trans (set_get (pc l k) k _ (by rw [pc_len l hl k (by omega)]; exact hk)))) ?_
  refine zwu (run_shr (k2 := .u64) (k := .u64) (a := dg l k + crr l k) (b := 16) (by decide)) ?_
  refine zwv (iN .u64 ((dg l k + crr l k) / 2 ^ 16)) ?_
  refine znt ?_
  refine wl_region ?_
  refine zwv (iN .i64 k) ?_
  refine zwv (iN .i64 k) ?_
  refine zwu (run_addr_arr (q := q1) (a := k) Tryz.underlying148 Tryz.sizeOf34 (by omega)) ?_
  refine zwu (v := iN .u64 (dg l k + crr l k)) (run_load1 Tryz.isAgg34 (((h15.get 1 rfl).cell k).trans (set_get (pc l k) k _ (by rw [pc_len l hl k (by omega)]; exact hk)))) ?_
  refine zwu (run_and64 (a := dg l k + crr l k) (b := 65535) (by kernel_rfl) (by kernel_rfl) (by omega) (by decide)) ?_
  refine zwu (run_addr_arr (q := q1) (a := k) Tryz.underlying148 Tryz.sizeOf34 (by omega)) ?_
  refine wl_put (k := .u64) (z := (((dg l k + crr l k) &&& 65535 : Nat) : Int)) h15 1 rfl k (by rw [ul_size, List.length_set, pc_len l hl k (by omega)]; exact hk) Tryz.sizeOf34 ?_
  intro w16 h17
  have h18 : HA w [(q4, 51, rl 0), (q1, 148, ul (pc l (k + 1)))] w16 := (by rw [← hps.1, ← ul_put]; exact h17)
  clear h17
  refine wl_nil ?_
  refine block_normal ?_
  refine then_at rfl ?_
  refine wl_region ?_
  refine zwv (iN .i64 k) ?_
  refine zwu (run_add (k := .i64) (a := k) (b := 1) (by simp only [top]; omega)) ?_
  refine zwv (iN .i64 (k + 1)) ?_
  refine wl_nil ?_
  rw [← hps.2]
  exact then_I ⟨fun i => (([(7, iN .i64 k), (8, .bool true), (9, iN .i64 k), (10, iN .i64 (k + 1)), (11, iN .i64 k), (12, iN .i64 k), (13, .pointer (some ⟨q1, k, none⟩)), (14, iN .u64 (dg l k)), (15, iN .u64 (crr l k)), (16, iN .u64 ((dg l k) + (crr l k))), (17, .pointer (some ⟨q1, k, none⟩)), (18, iN .i64 k), (19, .pointer (some ⟨q1, k, none⟩)), (20, iN .u64 (dg l k + crr l k)), (21, iN .u64 ((dg l k + crr l k) / 2 ^ 16)), (22, iN .i64 k), (23, iN .i64 k), (24, .pointer (some ⟨q1, k, none⟩)), (25, iN .u64 (dg l k + crr l k)), (26, iN .u64 ((dg l k + crr l k) &&& 65535)), (27, .pointer (some ⟨q1, k, none⟩))] : List (Nat × Value)).find? (·.1 == i)).elim undef (·.2), by kernel_rfl, h18⟩
 ·rintro _ w19 ⟨u10, rfl, h20⟩
  refine wp_seq ?_
  refine zsr ?_
  refine zwv (iN .i64 16) ?_
  refine zwu (run_lss (k := .i64) (a := 16) (b := 16) false (by decide)) ?_
  refine zna ⟨(zRefE_0 l0 q1 q4 u10 u7 (iN .u64 (crr l 16)) (iN .i64 16) (iN .i64 16) (.bool false) (List.replicate 18 un)).toArray, []⟩ ?_
  refine zcf ?_
  refine wp_exit ?_
  repeat first | refine then_exit ?_ | refine block_exit ?_ | refine block_exit_ne (by decide) ?_
  have h21 : HA w [(q4, 51, rl 0), (q1, 148, ul (digs 65536 16 (num 65536 l)))] w19 := by rw [← pc_end l hl]; exact h20
  have hc16 := crr_le l hb 16
  have hd0 := dgD_lt l 0 (by decide)
  refine then_at rfl ?_
  refine wp_seq ?_
  refine wp_seq ?_
  by_cases hc : crr l 16 = 0
  · -- region 8
   refine wl_region ?_
   refine zwv (iN .u64 (crr l 16)) ?_
   refine zwu (run_eqi (k := .u64) (a := crr l 16) (b := 0) true (decide_eq_true hc)) ?_
   refine znt ?_
   refine zct ?_
   refine wp_exit ?_
   repeat first | refine then_exit ?_ | refine block_exit ?_ | refine block_exit_ne (by decide) ?_
   refine then_at rfl ?_
   refine zsr ?_
   refine wl_make h21 51 run_alloc32 ?_
   intro q22 w23 h24
   refine znt ?_
   refine wp_seq ?_
   refine zsr ?_
   refine zwv (iN .i64 0) ?_
   refine znt ?_
   refine wp_block ?_
   refine wp_count (fun k A w' => ∃ u25 : Nat → Value, A = ⟨(zRefE_1 l0 q1 q4 l q22 u10 u7 u25 (iN .i64 k) (u25 36) (u25 37) (List.replicate 8 un)).toArray, []⟩ ∧ HA w [(q22, 51, rl (num 65536 l % 65536 ^ k)), (q4, 51, rl 0), (q1, 148, ul (digs 65536 16 (num 65536 l)))] w') 16 ?_ ?_ ?_
   ·exact ⟨fun i => (([(36, undef), (37, undef), (38, undef), (39, undef), (40, undef), (41, undef), (42, undef), (43, undef), (44, undef), (45, undef)] : List (Nat × Value)).find? (·.1 == i)).elim undef (·.2), by kernel_rfl, (by rw [Nat.pow_zero, Nat.mod_one]; exact h24)⟩
   ·rintro k hk _ w26 ⟨u25, rfl, h27⟩
    refine wp_seq ?_
    refine zsr ?_
    refine zwv (iN .i64 k) ?_
    refine zwu (run_lss (k := .i64) (a := k) (b := 16) true (decide_eq_true hk)) ?_
    refine znt ?_
    refine zct ?_
    refine wp_skip ?_
    refine then_at rfl ?_
    refine wp_seq ?_
    refine wp_block ?_
    refine wl_region ?_
    refine zwv (iN .i64 k) ?_
    refine zwv (iN .i64 k) ?_
    refine zwu (run_addr_arr (q := q1) (a := k) Tryz.underlying148 Tryz.sizeOf34 (by omega)) ?_
    refine zwu (v := iN .u64 (dg (digs 65536 16 (num 65536 l)) k)) (run_load1 Tryz.isAgg34 (((h27.get 2 rfl).cell k).trans (ul_get _ k (by rw [digs_length]; exact hk)))) ?_
    refine zwu (v := iN .u32 (dg (digs 65536 16 (num 65536 l)) k)) (run_conv (k := .u64) (a := dg (digs 65536 16 (num 65536 l)) k) .u32 Tryz.underlying34 Tryz.underlying49 (by simp only [top]; exact Nat.lt_trans (dgD_lt l k hk) (by decide))) ?_
    refine zwu (run_addr_arr (q := q22) (a := k) Tryz.underlying51 Tryz.sizeOf49 (by omega)) ?_
    refine wl_put (k := .u32) (z := ((dg (digs 65536 16 (num 65536 l)) k : Nat) : Int)) h27 0 rfl k (by rw [rl_size]; exact hk) Tryz.sizeOf49 ?_
    intro w28 h29
    have h30 : HA w [(q22, 51, rl (num 65536 l % 65536 ^ (k + 1))), (q4, 51, rl 0), (q1, 148, ul (digs 65536 16 (num 65536 l)))] w28 := (by rw [← copy_put l k hk]; exact h29)
    clear h29
    refine wl_nil ?_
    refine block_normal ?_
    refine then_at rfl ?_
    refine wl_region ?_
    refine zwv (iN .i64 k) ?_
    refine zwu (run_add (k := .i64) (a := k) (b := 1) (by simp only [top]; omega)) ?_
    refine zwv (iN .i64 (k + 1)) ?_
    refine wl_nil ?_
    exact then_I ⟨fun i => (([(36, iN .i64 k), (37, .bool true), (38, iN .i64 k), (39, iN .i64 (k + 1)), (40, iN .i64 k), (41, iN .i64 k), (42, .pointer (some ⟨q1, k, none⟩)), (43, iN .u64 (dg (digs 65536 16 (num 65536 l)) k)), (44, iN .u32 (dg (digs 65536 16 (num 65536 l)) k)), (45, .pointer (some ⟨q22, k, none⟩))] : List (Nat × Value)).find? (·.1 == i)).elim undef (·.2), by kernel_rfl, h30⟩
   ·rintro _ w31 ⟨u25, rfl, h32⟩
    refine wp_seq ?_
    refine zsr ?_
    refine zwv (iN .i64 16) ?_
    refine zwu (run_lss (k := .i64) (a := 16) (b := 16) false (by decide)) ?_
    refine znt ?_
    refine zcf ?_
    refine wp_exit ?_
    repeat first | refine then_exit ?_ | refine block_exit ?_ | refine block_exit_ne (by decide) ?_
    have hlow : num 65536 l < 65536 ^ 16 := by rw [crr16 l hl] at hc; exact (Nat.div_eq_zero_iff_lt (by decide)).1 hc
    have h33 : HA w [(q22, 51, rl (num 65536 l)), (q4, 51, rl 0), (q1, 148, ul (digs 65536 16 (num 65536 l)))] w31 := by have h9 := h32; rw [Nat.mod_eq_of_lt hlow] at h9; exact h9
    refine then_at rfl ?_
    refine wp_seq ?_
    refine wp_block ?_
    refine wp_while (fun m A w' => ∃ (v : Nat) (u34 : Nat → Value), m = v ∧ A = ⟨(zRefE_1 l0 q1 q4 l q22 u10 u7 u25 (iN .i64 16) (iN .i64 16) (.bool false) (u34 46 :: u34 47 :: u34 48 :: u34 49 :: u34 50 :: u34 51 :: u34 52 :: un :: [])).toArray, []⟩ ∧ HA w [(q22, 51, rl v), (q4, 51, rl 0), (q1, 148, ul (digs 65536 16 (num 65536 l)))] w' ∧ v < 65536 ^ 16 ∧ v % P = num 65536 l0 % P) (num 65536 l) ?_ ?_
    ·exact ⟨num 65536 l, fun i => (([(46, undef), (47, undef), (48, undef), (49, undef), (50, undef), (51, undef), (52, undef)] : List (Nat × Value)).find? (·.1 == i)).elim undef (·.2), rfl, by kernel_rfl, h33, hlow, hN⟩
    rintro v _ w35 ⟨_, u34, rfl, rfl, h36, hv16, hvN⟩
    refine wp_seq ?_
    refine wp_seq ?_
    by_cases hlt : v < P
    · -- region 15
     refine zrs ⟨(zRefE_1 l0 q1 q4 l q22 u10 u7 u25 (iN .i64 16) (iN .i64 16) (.bool false) (rarr v :: rarr P :: .bool true :: .bool false :: u34 50 :: u34 51 :: u34 52 :: un :: [])).toArray, []⟩ (HA w [(q22, 51, rl v), (q4, 51, rl 0), (q1, 148, ul (digs 65536 16 (num 65536 l)))]) h36.drew ?_ ?_
     ·refine zst (v := rarr v) (fun _ h => run_load_blk (h.get 0 rfl) Tryz.underlying51 rfl (info_rl _)) ?_
      refine zsc enter85 HA.keep (fun w' h' => rprime_any w') ?_
      refine zsc enter84 HA.keep (fun w' h' => rless_yes v P hv16 (by decide) hlt w') ?_
      refine zsp (.bool false) ?_
      exact AllSure.nil
     intro w37 h38
     refine then_at rfl ?_
     refine zcf ?_
     refine wp_exit ?_
     repeat first | refine then_exit ?_ | refine block_exit ?_ | refine block_exit_ne (by decide) ?_
     refine then_at rfl ?_
     refine zsr ?_
     refine wl_load h38 0 rfl Tryz.underlying51 rfl (info_rl _) ?_
     refine wl_fill (c' := rl v) h38 1 rfl (rl_sz _ _) (info_rl _) (one_rl _) ?_
     intro w39 (h40 : HA w [(q22, 51, rl v), (q4, 51, rl v), (q1, 148, ul (digs 65536 16 (num 65536 l)))] w39)
     refine znt ?_
     refine wp_ret ?_
     repeat first | refine then_ret ?_ | refine block_ret ?_
     exact bodyPost_ret (v := rarr v) (res_cell (p := 2) (by kernel_rfl) (by kernel_rfl) (h40.get 1 rfl) Tryz.underlying51 rfl (info_rl _)) rfl ⟨by rw [← hvN, Nat.mod_eq_of_lt hlt], h40.old⟩
    · -- region 15
     refine zrs ⟨(zRefE_1 l0 q1 q4 l q22 u10 u7 u25 (iN .i64 16) (iN .i64 16) (.bool false) (rarr v :: rarr P :: .bool false :: .bool true :: u34 50 :: u34 51 :: u34 52 :: un :: [])).toArray, []⟩ (HA w [(q22, 51, rl v), (q4, 51, rl 0), (q1, 148, ul (digs 65536 16 (num 65536 l)))]) h36.drew ?_ ?_
     ·refine zst (v := rarr v) (fun _ h => run_load_blk (h.get 0 rfl) Tryz.underlying51 rfl (info_rl _)) ?_
      refine zsc enter85 HA.keep (fun w' h' => rprime_any w') ?_
      refine zsc enter84 HA.keep (fun w' h' => rless_no v P hv16 (by decide) hlt w') ?_
      refine zsp (.bool true) ?_
      exact AllSure.nil
     intro w41 h42
     refine then_at rfl ?_
     refine zct ?_
     refine wp_skip ?_
     refine then_at rfl ?_
     refine wp_block ?_
     refine zrg (fun _ : Nat → Nat => (⟨(zRefE_1 l0 q1 q4 l q22 u10 u7 u25 (iN .i64 16) (iN .i64 16) (.bool false) (rarr v :: rarr P :: .bool false :: .bool true :: rarr v :: rarr P :: rarr (v - P) :: un :: [])).toArray, []⟩ : Act)) (GF w [(q22, 51, rl v), (q4, 51, rl 0), (q1, 148, ul (digs 65536 16 (num 65536 l)))] 3 0 0 q22 51 (rl (v - P))) (fun d hd => GF.start h42.drew (hd 3 (by decide))) ?_ ?_
     ·refine zg (gf_load 0 rfl Tryz.underlying51 rfl (info_rl _)) ?_
      refine zg (gf_call (v := rarr P) enter85 #[] (fun w' => rprime_any w')) ?_
      refine zg (gf_call (v := rarr (v - P)) enter93 #[rarr v, rarr P] (fun w' => rminus_any v P hv16 (Nat.le_of_not_lt hlt) w')) ?_
      refine zg (gf_fill rfl (rl_sz _ _) (info_rl _) (one_rl _)) ?_
      exact AllGhost.nil
     intro _ w43 g44
     have h45 : HA w [(q22, 51, rl (v - P)), (q4, 51, rl 0), (q1, 148, ul (digs 65536 16 (num 65536 l)))] w43 := g44.held
     clear g44
     refine block_normal ?_
     exact then_I ⟨v - P, (Nat.sub_lt (Nat.lt_of_lt_of_le P_pos (Nat.le_of_not_lt hlt)) P_pos), v - P, fun i => (([(46, rarr v), (47, rarr P), (48, .bool false), (49, .bool true), (50, rarr v), (51, rarr P), (52, rarr (v - P))] : List (Nat × Value)).find? (·.1 == i)).elim undef (·.2), rfl, by kernel_rfl, h45, Nat.lt_of_le_of_lt (Nat.sub_le v P) hv16, (by rw [← hvN]; exact (Nat.mod_eq_sub_mod (Nat.le_of_not_lt hlt)).symm)⟩
  · -- region 8
   refine wl_region ?_
   refine zwv (iN .u64 (crr l 16)) ?_
   refine zwu (run_eqi (k := .u64) (a := crr l 16) (b := 0) false (decide_eq_false hc)) ?_
   refine znt ?_
   refine zcf ?_
   refine wp_skip ?_
   refine then_at rfl ?_
   refine wl_region ?_
   refine zwu (run_addr_arr (q := q1) (a := 0) Tryz.underlying148 Tryz.sizeOf34 (by decide)) ?_
   refine zwu (run_load1 Tryz.isAgg34 (((h21.get 1 rfl).cell 0).trans (ul_get _ 0 (by rw [digs_length]; decide)))) ?_
   refine zwv (iN .u64 (crr l 16)) ?_
   refine zwu (run_mul (k := .u64) (a := 38) (b := crr l 16) (by simp only [top]; omega)) ?_
   refine zwu (run_add (k := .u64) (a := dg (digs 65536 16 (num 65536 l)) 0) (b := 38 * (crr l 16)) (by simp only [top]; omega)) ?_
   refine zwu (run_addr_arr (q := q1) (a := 0) Tryz.underlying148 Tryz.sizeOf34 (by decide)) ?_
   refine wl_put (k := .u64) (z := (((dg (digs 65536 16 (num 65536 l)) 0) + (38 * (crr l 16)) : Nat) : Int)) h21 1 rfl 0 (by rw [ul_size, digs_length]; decide) Tryz.sizeOf34 ?_
   intro w46 h47
   have h48 : HA w [(q4, 51, rl 0), (q1, 148, ul (again l))] w46 := (by unfold again; rw [← ul_put]; exact h47)
   clear h47
   refine wl_nil ?_
   refine block_normal ?_
   exact then_I ⟨num 65536 (again l), again_less l hl hc, again l, fun i => (([(3, iN .u64 (crr l 16)), (4, iN .i64 16), (7, iN .i64 16), (8, .bool false), (9, u10 9), (10, u10 10), (11, u10 11), (12, u10 12), (13, u10 13), (14, u10 14), (15, u10 15), (16, u10 16), (17, u10 17), (18, u10 18), (19, u10 19), (20, u10 20), (21, u10 21), (22, u10 22), (23, u10 23), (24, u10 24), (25, u10 25), (26, u10 26), (27, u10 27), (28, iN .u64 (crr l 16)), (29, .bool false), (30, .pointer (some ⟨q1, 0, none⟩)), (31, iN .u64 (dg (digs 65536 16 (num 65536 l)) 0)), (32, iN .u64 (crr l 16)), (33, iN .u64 (38 * (crr l 16))), (34, iN .u64 ((dg (digs 65536 16 (num 65536 l)) 0) + (38 * (crr l 16)))), (35, .pointer (some ⟨q1, 0, none⟩))] : List (Nat × Value)).find? (·.1 == i)).elim undef (·.2), rfl, by kernel_rfl, h48, again_len l, again_bound l hb, (again_mod l hl).trans hN⟩
end Go.Proofs.YtefjnfeckenmkaaGreatDoor

namespace Go.Proofs.YtefjnfeckenmkaaGreatDoor
open Go.RowKit Num
def fillL (S : List Nat) (k : Nat) : List Nat := S.take k ++ List.replicate (16 - k) 0
theorem fill_len (S : List Nat) (hS : S.length = 16) (k : Nat) (hk : k ≤ 16) : (fillL S k).length = 16 := by unfold fillL; simp; omega
theorem fill_put (S : List Nat) (hS : S.length = 16) (k : Nat) (hk : k < 16) : (fillL S k).set k (dg S k) = fillL S (k + 1) := by
 unfold fillL
 have hlen : (S.take k).length = k := by simp; omega
 rw [List.set_append_right _ _ (by omega), hlen, Nat.sub_self, show 16 - k = (16 - (k + 1)) + 1 by omega, List.replicate_succ, List.set_cons_zero, dg_get S k (by omega), List.take_add_one, List.getElem?_eq_getElem (by omega), List.append_assoc]
 rfl
theorem fill_end (S : List Nat) (hS : S.length = 16) : fillL S 16 = S := by unfold fillL; rw [List.take_of_length_le (by omega)]; simp
theorem num_zip (B : Nat) : ∀ (l m : List Nat), l.length = m.length → num B (List.zipWith (· + ·) l m) = num B l + num B m
 | [], [], _ => rfl
 | x :: l, y :: m, h => by
  have := num_zip B l m (by simpa using h)
  simp only [List.zipWith_cons_cons, num]
  rw [this, Nat.mul_add]
  omega
def addD (a b : Nat) : List Nat := List.zipWith (· + ·) (digs 65536 16 a) (digs 65536 16 b)
theorem addD_len (a b : Nat) : (addD a b).length = 16 := by unfold addD; rw [List.length_zipWith, digs_length, digs_length]; rfl
theorem addD_dg (a b k : Nat) (hk : k < 16) : dg (addD a b) k = a / 65536 ^ k % 65536 + b / 65536 ^ k % 65536 := by
 rw [dg_get _ k (by rw [addD_len]; exact hk)]
 unfold addD
 rw [List.getElem_zipWith, digs_get, digs_get]
theorem addD_num (a b : Nat) (ha : a < 65536 ^ 16) (hb : b < 65536 ^ 16) : num 65536 (addD a b) = a + b := by
 unfold addD
 rw [num_zip _ _ _ (by rw [digs_length, digs_length]), num_digs, num_digs, Nat.mod_eq_of_lt ha, Nat.mod_eq_of_lt hb]
theorem addD_bound (a b : Nat) : ∀ x ∈ addD a b, x < 4398046511104 := fun x hx => by
 obtain ⟨k, hk, rfl⟩ := List.mem_iff_getElem.1 hx
 rw [addD_len] at hk
 rw [← dg_get _ k (by rw [addD_len]; exact hk), addD_dg a b k hk]
 have h1 : a / 65536 ^ k % 65536 < 65536 := Nat.mod_lt _ (by decide)
 have h2 : b / 65536 ^ k % 65536 < 65536 := Nat.mod_lt _ (by decide)
 omega
theorem fill_cells (S : List Nat) (hS : S.length = 16) (k : Nat) (hk : k < 16) (x : Nat) (hx : x = dg S k) : (ul (fillL S k)).setIfInBounds k (.int .u64 (x : Int)) = ul (fillL S (k + 1)) := by
 rw [ul_put, hx, fill_put S hS k hk]
theorem neg16 (a : Nat) (ha : a < P) (h : a ≠ 0) : P - a = negP a := by
 unfold negP
 exact (Nat.mod_eq_of_lt (by omega)).symm
theorem sub16 (a b : Nat) (hb : b < P) : addP a (negP b) = subP a b := by
 unfold addP negP subP
 rw [Nat.add_mod_mod, Nat.add_sub_assoc (Nat.le_of_lt hb)]
end Go.Proofs.YtefjnfeckenmkaaGreatDoor

namespace Go.Proofs.YtefjnfeckenmkaaGreatDoor
open Go.RowKit Num
theorem eq32 (w : World) (l m : List Nat) (hl : l.length = 16) (hm : m.length = 16) : (Op.equalIn 10000 51 (.agg (cl .u32 l)) (.agg (cl .u32 m))).run Tryz.prog w = .ok (decide (l = m)) w :=
 run_eq_array w 9998 51 49 16 .u32 .u32 l m hl hm (by kernel_rfl) (by kernel_rfl) (fun _ => by simp [go_sem]) (fun c i v w h => by simp [go_sem, part, h])
theorem digs_eq (a b : Nat) (ha : a < 65536 ^ 16) (hb : b < 65536 ^ 16) : (digs 65536 16 a = digs 65536 16 b) ↔ a = b := by
 refine ⟨fun h => ?_, fun h => by rw [h]⟩
 have := congrArg (num 65536) h
 rwa [num_digs, num_digs, Nat.mod_eq_of_lt ha, Nat.mod_eq_of_lt hb] at this
theorem run_eq32 {ρ : Operand → Value} {x y : Operand} (a b : Nat) {w : World} {dst : Option Tmp} {ty : TypeId} {pos : String} {aft : Array Edge} {gd : Option (Nat × Bool)} (ha : a < 65536 ^ 16) (hb : b < 65536 ^ 16)   (t : Bool) (ht : decide (a = b) = t) (hx : ρ x = rarr a := by kernel_rfl) (hy : ρ y = rarr b := by kernel_rfl) :
  (execOp ρ ⟨dst, .binOp .eql 51 x y 51, ty, pos, aft, gd⟩).run Tryz.prog w = .ok (.value (.bool t)) w := by
 have h := eq32 w (digs 65536 16 a) (digs 65536 16 b) (digs_length _ _ _) (digs_length _ _ _)
 rw [decide_eq_decide.2 (digs_eq a b ha hb), ht] at h
 simp only [execOp, hx, hy, rarr, rl]
 have h2 : (Op.equalIn Op.maxDepth 51 (.agg (cl .u32 (digs 65536 16 a))) (.agg (cl .u32 (digs 65536 16 b)))).run Tryz.prog w = .ok t w := h
 simp [binOp, go_sem, Op.equal, h2]
end Go.Proofs.YtefjnfeckenmkaaGreatDoor

namespace Go.Proofs.YtefjnfeckenmkaaGreatDoor
set_option linter.unusedVariables false
set_option maxRecDepth 100000
set_option maxHeartbeats 2000000
open Go.RowKit Num
theorem radd_any (a b : Nat) (ha : a < 65536 ^ 16) (hb : b < 65536 ^ 16) (w : World) : Calls Tryz.prog 131 #[rarr a, rarr b] w fun e w' => e = .returned (rarr (addP a b)) ∧ Below w.heap.size w w' := by
 have H0 := HA.start w
 go_enter Tryz.func131, Tryz.ntmps131
 refine zsr ?_
 refine wl_make H0 51 (run_box32 (c := rl a)) ?_
 intro q1 w2 h3
 refine wl_make h3 51 (run_box32 (c := rl b)) ?_
 intro q4 w5 h6
 refine wl_make h6 51 run_alloc32 ?_
 intro q7 w8 h9
 refine znt ?_
 refine zsr ?_
 refine wl_make h9 148 run_alloc116 ?_
 intro q10 w11 h12
 refine znt ?_
 refine wp_seq ?_
 refine zsr ?_
 refine zwv (iN .i64 0) ?_
 refine znt ?_
 refine wp_block ?_
 refine wp_count (fun k A w' => ∃ u13 : Nat → Value, A = ⟨(rarr a :: rarr b :: pt q1 :: pt q4 :: pt q7 :: pt q10 :: iN .i64 k :: u13 7 :: u13 8 :: u13 9 :: u13 10 :: u13 11 :: u13 12 :: u13 13 :: u13 14 :: u13 15 :: u13 16 :: u13 17 :: u13 18 :: u13 19 :: u13 20 :: u13 21 :: List.replicate 2 un).toArray, []⟩ ∧ HA w [(q10, 148, ul (fillL (addD a b) k)), (q7, 51, rl 0), (q4, 51, rl b), (q1, 51, rl a)] w') 16 ?_ ?_ ?_
 ·exact zex h12
 ·rintro k hk _ w14 ⟨u13, rfl, h15⟩
  have hx : a / 65536 ^ k % 65536 < 65536 := Nat.mod_lt _ (by decide)
  have hy : b / 65536 ^ k % 65536 < 65536 := Nat.mod_lt _ (by decide)
  refine wp_seq ?_
  refine zsr ?_
  refine zwv (iN .i64 k) ?_
  refine zwu (run_lss (k := .i64) (a := k) (b := 16) true (decide_eq_true hk)) ?_
  refine znt ?_
  refine zct ?_
  refine wp_skip ?_
  refine then_at rfl ?_
  refine wp_seq ?_
  refine wp_block ?_
  refine zrg (fun _ : Nat → Nat => (⟨(rarr a :: rarr b :: pt q1 :: pt q4 :: pt q7 :: pt q10 :: iN .i64 k :: iN .i64 k :: .bool true :: u13 9 :: u13 10 :: iN .i64 k :: iN .i64 k :: .pointer (some ⟨q1, k, none⟩) :: iN .u32 (a / 65536 ^ k % 65536) :: iN .u64 (a / 65536 ^ k % 65536) :: iN .i64 k :: .pointer (some ⟨q4, k, none⟩) :: iN .u32 (b / 65536 ^ k % 65536) :: iN .u64 (b / 65536 ^ k % 65536) :: iN .u64 ((a / 65536 ^ k % 65536) + (b / 65536 ^ k % 65536)) :: .pointer (some ⟨q10, k, none⟩) :: List.replicate 2 un).toArray, []⟩ : Act)) (GP w [(q10, 148, ul (fillL (addD a b) k)), (q7, 51, rl 0), (q4, 51, rl b), (q1, 51, rl a)] 11 0 q10 148 (ul (fillL (addD a b) (k + 1)))) (fun d hd => GP.start h15.drew (hd 11 (by decide))) ?_ ?_
  ·refine zg (gp_plain (v := iN .i64 k) (fun _ _ => (by kernel_rfl))) ?_
   refine zg (gp_plain (v := iN .i64 k) (fun _ _ => (by kernel_rfl))) ?_
   refine zg (gp_plain (v := .pointer (some ⟨q1, k, none⟩)) (fun _ _ => (run_addr_arr (q := q1) (a := k) Tryz.underlying51 Tryz.sizeOf49 (by omega)))) ?_
   refine zg (gp_cell (v := iN .u32 (a / 65536 ^ k % 65536)) 3 rfl k (rl_get a k (by omega)) Tryz.isAgg49) ?_
   refine zg (gp_plain (v := iN .u64 (a / 65536 ^ k % 65536)) (fun _ _ => (run_conv (k := .u32) (a := a / 65536 ^ k % 65536) .u64 Tryz.underlying49 Tryz.underlying34 (Nat.lt_trans (Nat.mod_lt _ (by decide)) (by decide))))) ?_
   refine zg (gp_plain (v := iN .i64 k) (fun _ _ => (by kernel_rfl))) ?_
   refine zg (gp_plain (v := .pointer (some ⟨q4, k, none⟩)) (fun _ _ => (run_addr_arr (q := q4) (a := k) Tryz.underlying51 Tryz.sizeOf49 (by omega)))) ?_
   refine zg (gp_cell (v := iN .u32 (b / 65536 ^ k % 65536)) 2 rfl k (rl_get b k (by omega)) Tryz.isAgg49) ?_
   refine zg (gp_plain (v := iN .u64 (b / 65536 ^ k % 65536)) (fun _ _ => (run_conv (k := .u32) (a := b / 65536 ^ k % 65536) .u64 Tryz.underlying49 Tryz.underlying34 (Nat.lt_trans (Nat.mod_lt _ (by decide)) (by decide))))) ?_
   refine zg (gp_plain (v := iN .u64 ((a / 65536 ^ k % 65536) + (b / 65536 ^ k % 65536))) (fun _ _ => (run_add (k := .u64) (a := a / 65536 ^ k % 65536) (b := b / 65536 ^ k % 65536) (by simp only [top]; omega)))) ?_
   refine zg (gp_plain (v := .pointer (some ⟨q10, k, none⟩)) (fun _ _ => (run_addr_arr (q := q10) (a := k) Tryz.underlying148 Tryz.sizeOf34 (by omega)))) ?_
   refine zg (gp_put (k := .u64) (z := (((a / 65536 ^ k % 65536) + (b / 65536 ^ k % 65536) : Nat) : Int)) (off := k) rfl (by rw [ul_size, fill_len _ (addD_len a b) k (by omega)]; exact hk) (fill_cells _ (addD_len a b) k hk _ (addD_dg a b k hk).symm) Tryz.sizeOf34) ?_
   exact AllGhost.nil
  intro _ w16 g17
  have h18 : HA w [(q10, 148, ul (fillL (addD a b) (k + 1))), (q7, 51, rl 0), (q4, 51, rl b), (q1, 51, rl a)] w16 := g17
  clear g17
  refine block_normal ?_
  refine then_at rfl ?_
  refine wl_region ?_
  refine zwv (iN .i64 k) ?_
  refine zwu (run_add (k := .i64) (a := k) (b := 1) (by simp only [top]; omega)) ?_
  refine zwv (iN .i64 (k + 1)) ?_
  refine wl_nil ?_
  exact then_I (zex h18)
 ·rintro _ w19 ⟨u13, rfl, h20⟩
  refine wp_seq ?_
  refine zsr ?_
  refine zwv (iN .i64 16) ?_
  refine zwu (run_lss (k := .i64) (a := 16) (b := 16) false (by decide)) ?_
  refine znt ?_
  refine zcf ?_
  refine wp_exit ?_
  repeat first | refine then_exit ?_ | refine block_exit ?_ | refine block_exit_ne (by decide) ?_
  have h21 : HA w [(q10, 148, ul (addD a b)), (q7, 51, rl 0), (q4, 51, rl b), (q1, 51, rl a)] w19 := by have h9 := h20; rw [fill_end _ (addD_len a b)] at h9; exact h9
  refine then_at rfl ?_
  refine zsr ?_
  refine wl_load h21 0 rfl Tryz.underlying148 rfl (by rw [ul_size, addD_len]; exact info116) ?_
  refine zwc (v := rarr (num 65536 (addD a b) % P)) (args := #[.agg (ul (addD a b))]) h21 enter96 (reduced_any _ (addD_len a b) (addD_bound a b) w19) ?_
  intro w22 h23
  refine wl_fill (c' := rl (num 65536 (addD a b) % P)) h23 1 rfl (rl_sz _ _) (info_rl _) (one_rl _) ?_
  intro w24 (h25 : HA w [(q10, 148, ul (addD a b)), (q7, 51, rl (num 65536 (addD a b) % P)), (q4, 51, rl b), (q1, 51, rl a)] w24)
  refine znt ?_
  refine wp_ret ?_
  repeat first | refine then_ret ?_ | refine block_ret ?_
  exact bodyPost_ret (v := rarr (num 65536 (addD a b) % P)) (res_cell (p := 4) (by kernel_rfl) (by kernel_rfl) (h25.get 1 rfl) Tryz.underlying51 rfl (info_rl _)) rfl ⟨by rw [addD_num a b ha hb]; rfl, h25.old⟩
theorem rneg_nil (a : Nat) (ha : a < P) (h0 : a = 0) (w : World) : Calls Tryz.prog 111 #[rarr a] w fun e w' => e = .returned (rarr (negP a)) ∧ Below w.heap.size w w' := by
 have H0 := HA.start w
 go_enter Tryz.func111, Tryz.ntmps111
 refine zsr ?_
 refine wl_make H0 51 (run_box32 (c := rl a)) ?_
 intro q1 w2 h3
 refine wl_make h3 51 run_alloc32 ?_
 intro q4 w5 h6
 refine znt ?_
 refine wp_seq ?_
 refine zsr ?_
 refine wl_load h6 1 rfl Tryz.underlying51 rfl (info_rl _) ?_
 refine zwu run_build0 ?_
 refine zwu (run_eq32 a 0 (Nat.lt_trans ha (by decide)) (by decide) true (decide_eq_true h0)) ?_
 refine znt ?_
 refine zct ?_
 refine zsr ?_
 refine wl_load h6 1 rfl Tryz.underlying51 rfl (info_rl _) ?_
 refine wl_fill (c' := rl a) h6 0 rfl (rl_sz _ _) (info_rl _) (one_rl _) ?_
 intro w7 (h8 : HA w [(q4, 51, rl a), (q1, 51, rl a)] w7)
 refine znt ?_
 refine wp_ret ?_
 repeat first | refine then_ret ?_ | refine block_ret ?_
 exact bodyPost_ret (v := rarr a) (res_cell (p := 2) (by kernel_rfl) (by kernel_rfl) (h8.get 0 rfl) Tryz.underlying51 rfl (info_rl _)) rfl ⟨by rw [h0]; rfl, h8.old⟩
theorem rneg_not (a : Nat) (ha : a < P) (h0 : a ≠ 0) (w : World) : Calls Tryz.prog 111 #[rarr a] w fun e w' => e = .returned (rarr (negP a)) ∧ Below w.heap.size w w' := by
 have H0 := HA.start w
 go_enter Tryz.func111, Tryz.ntmps111
 refine zsr ?_
 refine wl_make H0 51 (run_box32 (c := rl a)) ?_
 intro q1 w2 h3
 refine wl_make h3 51 run_alloc32 ?_
 intro q4 w5 h6
 refine znt ?_
 refine wp_seq ?_
 refine zsr ?_
 refine wl_load h6 1 rfl Tryz.underlying51 rfl (info_rl _) ?_
 refine zwu run_build0 ?_
 refine zwu (run_eq32 a 0 (Nat.lt_trans ha (by decide)) (by decide) false (decide_eq_false h0)) ?_
 refine znt ?_
 refine zcf ?_
 refine wp_skip ?_
 refine then_at rfl ?_
 refine wp_seq ?_
 refine zrg (fun _ : Nat → Nat => (⟨(rarr a :: pt q1 :: pt q4 :: rarr a :: rarr 0 :: .bool false :: un :: rarr P :: rarr a :: rarr (P - a) :: List.replicate 0 un).toArray, []⟩ : Act)) (GF w [(q4, 51, rl 0), (q1, 51, rl a)] 3 2 0 q4 51 (rl (P - a))) (fun d hd => GF.start h6.drew (hd 3 (by decide))) ?_ ?_
 ·refine zg (gf_call (v := rarr P) enter85 #[] (fun w' => rprime_any w')) ?_
  refine zg (gf_load2 1 rfl Tryz.underlying51 rfl (info_rl _)) ?_
  refine zg (gf_call (v := rarr (P - a)) enter93 #[rarr P, rarr a] (fun w' => rminus_any P a (by decide) (Nat.le_of_lt ha) w')) ?_
  refine zg (gf_fill rfl (rl_sz _ _) (info_rl _) (one_rl _)) ?_
  exact AllGhost.nil
 intro _ w7 g8
 have h9 : HA w [(q4, 51, rl (P - a)), (q1, 51, rl a)] w7 := g8.held
 clear g8
 refine then_at rfl ?_
 refine wp_ret ?_
 repeat first | refine then_ret ?_ | refine block_ret ?_
 exact bodyPost_ret (v := rarr (P - a)) (res_cell (p := 2) (by kernel_rfl) (by kernel_rfl) (h9.get 0 rfl) Tryz.underlying51 rfl (info_rl _)) rfl ⟨by rw [neg16 a ha h0], h9.old⟩
theorem rneg_any (a : Nat) (ha : a < P) (w : World) : Calls Tryz.prog 111 #[rarr a] w fun e w' => e = .returned (rarr (negP a)) ∧ Below w.heap.size w w' := by
 by_cases h : a = 0
 ·exact rneg_nil a ha h w
 ·exact rneg_not a ha h w
theorem rsub_any (a b : Nat) (ha : a < P) (hb : b < P) (w : World) : Calls Tryz.prog 130 #[rarr a, rarr b] w fun e w' => e = .returned (rarr (subP a b)) ∧ Below w.heap.size w w' := by
 have H0 := HA.start w
 go_enter Tryz.func130, Tryz.ntmps130
 refine zsr ?_
 refine wl_make H0 51 (run_box32 (c := rl a)) ?_
 intro q1 w2 h3
 refine wl_make h3 51 (run_box32 (c := rl b)) ?_
 intro q4 w5 h6
 refine wl_make h6 51 run_alloc32 ?_
 intro q7 w8 h9
 refine znt ?_
 refine wp_seq ?_
 refine zrg (fun _ : Nat → Nat => (⟨(rarr a :: rarr b :: pt q1 :: pt q4 :: pt q7 :: rarr a :: rarr b :: rarr (negP b) :: rarr (addP a (negP b)) :: List.replicate 0 un).toArray, []⟩ : Act)) (GF w [(q7, 51, rl 0), (q4, 51, rl b), (q1, 51, rl a)] 4 3 0 q7 51 (rl (addP a (negP b)))) (fun d hd => GF.start h9.drew (hd 4 (by decide))) ?_ ?_
 ·refine zg (gf_load2 2 rfl Tryz.underlying51 rfl (info_rl _)) ?_
  refine zg (gf_load2 1 rfl Tryz.underlying51 rfl (info_rl _)) ?_
  refine zg (gf_call (v := rarr (negP b)) enter60 #[rarr b] (fun w' => rneg_any b hb w')) ?_
  refine zg (gf_call (v := rarr (addP a (negP b))) enter98 #[rarr a, rarr (negP b)] (fun w' => radd_any a (negP b) (Nat.lt_trans ha (by decide)) (Nat.lt_trans (negP_lt b) (by decide)) w')) ?_
  refine zg (gf_fill rfl (rl_sz _ _) (info_rl _) (one_rl _)) ?_
  exact AllGhost.nil
 intro _ w10 g11
 have h12 : HA w [(q7, 51, rl (addP a (negP b))), (q4, 51, rl b), (q1, 51, rl a)] w10 := g11.held
 clear g11
 refine then_at rfl ?_
 refine wp_ret ?_
 repeat first | refine then_ret ?_ | refine block_ret ?_
 exact bodyPost_ret (v := rarr (addP a (negP b))) (res_cell (p := 4) (by kernel_rfl) (by kernel_rfl) (h12.get 0 rfl) Tryz.underlying51 rfl (info_rl _)) rfl ⟨by rw [sub16 a b hb], h12.old⟩
end Go.Proofs.YtefjnfeckenmkaaGreatDoor

namespace Go.Proofs.YtefjnfeckenmkaaGreatDoor
open Go.RowKit Num
def bump (l : List Nat) (j x : Nat) : List Nat := l.set j (dg l j + x)
theorem bump_len (l : List Nat) (j x : Nat) : (bump l j x).length = l.length := List.length_set ..
theorem bump_num (l : List Nat) (j x : Nat) (h : j < l.length) : num 65536 (bump l j x) = num 65536 l + x * 65536 ^ j := by
 unfold bump
 rw [dg_get l j h]
 exact num_more 65536 l j x h
theorem bump_dg (l : List Nat) (j x m : Nat) (h : j < l.length) : dg (bump l j x) m = if m = j then dg l j + x else dg l m := by
 unfold bump dg
 rw [List.getD_eq_getElem?_getD, List.getD_eq_getElem?_getD, List.getD_eq_getElem?_getD]
 by_cases hm : m = j
 ·subst hm
  rw [if_pos rfl, List.getElem?_set_self h]
  rfl
 ·rw [if_neg hm, List.getElem?_set_ne (Ne.symm hm)]
def dd (a b i k : Nat) : Nat := a / 65536 ^ i % 65536 * (b / 65536 ^ k % 65536)
theorem dd_le (a b i k : Nat) : dd a b i k ≤ 4294836225 := by
 have h1 : a / 65536 ^ i % 65536 ≤ 65535 := by omega
 have h2 : b / 65536 ^ k % 65536 ≤ 65535 := by omega
 exact Nat.mul_le_mul h1 h2
def rowL (a b : Nat) (l : List Nat) (i : Nat) : Nat → List Nat
 | 0 => l
 | k + 1 => bump (rowL a b l i k) (i + k) (dd a b i k)
theorem rowL_len (a b : Nat) (l : List Nat) (i : Nat) : ∀ k, (rowL a b l i k).length = l.length
 | 0 => rfl
 | k + 1 => by rw [rowL, bump_len, rowL_len a b l i k]
theorem rowL_num (a b : Nat) (l : List Nat) (i : Nat) (hl : l.length = 32) (hi : i < 16) : ∀ k, k ≤ 16 → num 65536 (rowL a b l i k) = num 65536 l + a / 65536 ^ i % 65536 * 65536 ^ i * (b % 65536 ^ k)
 | 0, _ => by rw [rowL, Nat.pow_zero, Nat.mod_one, Nat.mul_zero, Nat.add_zero]
 | k + 1, hk => by
  rw [rowL, bump_num _ _ _ (by rw [rowL_len, hl]; omega), rowL_num a b l i hl hi k (by omega), mod_step 65536 b k]
  unfold dd
  rw [Nat.pow_add, Nat.mul_add, Nat.add_assoc]
  congr 2
  generalize a / 65536 ^ i % 65536 = x
  generalize b / 65536 ^ k % 65536 = y
  rw [Nat.mul_assoc, Nat.mul_assoc, Nat.mul_left_comm y]
theorem rowL_bound (a b : Nat) (l : List Nat) (i : Nat) (hl : l.length = 32) (hi : i < 16) : ∀ k, k ≤ 16 → (∀ m, i + k ≤ m → dg (rowL a b l i k) m = dg l m) ∧ ∀ m, dg (rowL a b l i k) m ≤ dg l m + 4294836225
 | 0, _ => ⟨fun _ _ => rfl, fun m => Nat.le_add_right _ _⟩
 | k + 1, hk => by
  obtain ⟨h1, h2⟩ := rowL_bound a b l i hl hi k (by omega)
  have hj : i + k < (rowL a b l i k).length := by rw [rowL_len, hl]; omega
  refine ⟨fun m hm => ?_, fun m => ?_⟩
  ·rw [rowL, bump_dg _ _ _ _ hj, if_neg (by omega), h1 m (by omega)]
  ·rw [rowL, bump_dg _ _ _ _ hj]
   split
   ·rename_i hm
    subst hm
    rw [h1 _ (Nat.le_refl _)]
    have := dd_le a b i k
    omega
   ·exact h2 m
def wide (a b : Nat) : Nat → List Nat
 | 0 => List.replicate 32 0
 | i + 1 => rowL a b (wide a b i) i 16
theorem wide_len (a b : Nat) : ∀ i, (wide a b i).length = 32
 | 0 => rfl
 | i + 1 => by rw [wide, rowL_len, wide_len a b i]
theorem wide_num (a b : Nat) (hb : b < 65536 ^ 16) : ∀ i, i ≤ 16 → num 65536 (wide a b i) = a % 65536 ^ i * b
 | 0, _ => by rw [wide, num_zeros, Nat.pow_zero, Nat.mod_one, Nat.zero_mul]
 | i + 1, hi => by
  rw [wide, rowL_num a b _ i (wide_len a b i) (by omega) 16 (Nat.le_refl _), wide_num a b hb i (by omega), Nat.mod_eq_of_lt hb, mod_step 65536 a i, Nat.add_mul]
theorem wide_bound (a b : Nat) : ∀ i, i ≤ 16 → ∀ m, dg (wide a b i) m ≤ i * 4294836225
 | 0, _, m => by
  unfold dg wide
  rw [List.getD_eq_getElem?_getD]
  by_cases hm : m < 32
  ·rw [List.getElem?_replicate, if_pos hm]; exact Nat.zero_le _
  ·rw [List.getElem?_replicate, if_neg hm]; exact Nat.zero_le _
 | i + 1, hi, m => by
  have h1 := (rowL_bound a b (wide a b i) i (wide_len a b i) (by omega) 16 (Nat.le_refl _)).2 m
  have h2 := wide_bound a b i (by omega) m
  rw [wide]
  omega
theorem row_bound (a b i k : Nat) (hi : i < 16) (hk : k ≤ 16) (m : Nat) : dg (rowL a b (wide a b i) i k) m < 73014444032 := by
 have h1 := (rowL_bound a b (wide a b i) i (wide_len a b i) hi k hk).2 m
 have h2 := wide_bound a b i (by omega) m
 omega
def halves (W : List Nat) : List Nat := List.zipWith (fun x y => x + 38 * y) (W.take 16) (W.drop 16)
theorem halves_len (W : List Nat) (hW : W.length = 32) : (halves W).length = 16 := by unfold halves; rw [List.length_zipWith, List.length_take, List.length_drop, hW]; rfl
theorem halves_dg (W : List Nat) (hW : W.length = 32) (k : Nat) (hk : k < 16) : dg (halves W) k = dg W k + 38 * dg W (k + 16) := by
 rw [dg_get _ k (by rw [halves_len W hW]; exact hk), dg_get W k (by omega), dg_get W (k + 16) (by omega)]
 unfold halves
 rw [List.getElem_zipWith, List.getElem_take, List.getElem_drop]
 simp only [Nat.add_comm 16 k]
theorem num_zip38 : ∀ (l m : List Nat), l.length = m.length → num 65536 (List.zipWith (fun x y => x + 38 * y) l m) = num 65536 l + 38 * num 65536 m
 | [], [], _ => rfl
 | x :: l, y :: m, h => by
  have := num_zip38 l m (by simpa using h)
  simp only [List.zipWith_cons_cons, num]
  rw [this, Nat.mul_add]
  omega
theorem halves_mod (W : List Nat) (hW : W.length = 32) : num 65536 (halves W) % P = num 65536 W % P := by
 unfold halves
 rw [num_zip38 _ _ (by rw [List.length_take, List.length_drop, hW]; rfl)]
 conv => rhs; rw [num_cut 65536 W 16 (by omega)]
 have e : (65536 : Nat) ^ 16 % P = 38 := by decide
 rw [Nat.add_mod, Nat.mul_mod 38, Nat.add_mod (num 65536 (W.take 16)) (65536 ^ 16 * _), Nat.mul_mod (65536 ^ 16), e]
 rfl
theorem halves_bound (a b : Nat) : ∀ x ∈ halves (wide a b 16), x < 4398046511104 := fun x hx => by
 obtain ⟨k, hk, rfl⟩ := List.mem_iff_getElem.1 hx
 rw [halves_len _ (wide_len a b 16)] at hk
 rw [← dg_get _ k (by rw [halves_len _ (wide_len a b 16)]; exact hk), halves_dg _ (wide_len a b 16) k hk]
 have h1 := wide_bound a b 16 (Nat.le_refl _) k
 have h2 := wide_bound a b 16 (Nat.le_refl _) (k + 16)
 omega
theorem mul_num (a b : Nat) (ha : a < 65536 ^ 16) (hb : b < 65536 ^ 16) : num 65536 (halves (wide a b 16)) % P = mulP a b := by
 rw [halves_mod _ (wide_len a b 16), wide_num a b hb 16 (Nat.le_refl _), Nat.mod_eq_of_lt ha]
 rfl
theorem run_alloc132 {ρ : Operand → Value} {w : World} {dst : Option Tmp} {ty : TypeId} {pos : String} {aft : Array Edge} {gd : Option (Nat × Bool)} :
  (execOp ρ ⟨dst, .alloc 147, ty, pos, aft, gd⟩).run Tryz.prog w = .ok (.value (.pointer (some ⟨w.heap.size, 0, none⟩))) (w.alloc (.cells (ul (List.replicate 32 0)) 147)) := by
 simp only [execOp]
 go_simp
 rfl
section
variable {ops : Array Oper} {Q : Exit → Act → World → Prop} {F : (Nat → Nat) → Act} {i i0 i1 j q : Nat} {dst : Option Tmp} {T ty : TypeId} {pos : String} {aft : Array Edge} {gd : Option (Nat × Bool)}
 {w0 : World} {L : List (Nat × TypeId × Array Value)} {t : TypeId} {c : Array Value}
theorem gf_cell {x : Operand} {v : Value} {e : Nat × TypeId × Array Value} (m : Nat) (hm : L[m]? = some e) (hi : i1 ≠ i0) (off : Nat) (hv : e.2.2[off]? = some v) (hg : ∀ w, (isAgg T).run Tryz.prog w = .ok false w)
  (hw : ∀ g, Region.wanted ⟨dst, .load T x, ty, pos, aft, gd⟩ (yielded ops (F g).tmps) = true) (hp : ∀ g, (F g).put dst v = F g) (hx : ∀ g, (F g).eval x = .pointer (some ⟨e.1, off, none⟩)) :
  OpGhost Tryz.prog .any ops Q (GF w0 L i0 i1 j q t c) F i1 ⟨dst, .load T x, ty, pos, aft, gd⟩ := fun g d w h hdi _ => by
 rw [if_pos (hw g)]
 unfold Oper.wp
 have h0 : d i0 = false := by
  cases h0 : d i0 with
  | false => rfl
  | true => rw [h.seen h0] at hdi; cases hdi
 have hH := h.held
 rw [h0, if_neg (by decide)] at hH
 rw [run_load1 hg (hx := (hx g)) (((hH.get m hm).cell off).trans hv)]
 exact ⟨g i1, by rw [up_self]; exact hp g, by rw [up_self]; exact h.keep hi (Below.refl _ w)⟩
theorem gf_cell2 {x : Operand} {v : Value} {e : Nat × TypeId × Array Value} (m : Nat)  (hm : L[m]? = some e)  (off : Nat) (hv : e.2.2[off]? = some v) (hg : ∀ w, (isAgg T).run Tryz.prog w = .ok false w)
       (hjm : j ≠ m := by decide) (hi : i ≠ i0 := by decide) (hw : ∀ g, Region.wanted ⟨dst, .load T x, ty, pos, aft, gd⟩ (yielded ops (F g).tmps) = true := by intro _; kernel_rfl) (hp : ∀ g, (F g).put dst v = F g := by intro _; kernel_rfl) (hx : ∀ g, (F g).eval x = .pointer (some ⟨e.1, off, none⟩) := by intro _; kernel_rfl) :
    OpGhost Tryz.prog .any ops Q (GF w0 L i0 i1 j q t c) F i ⟨dst, .load T x, ty, pos, aft, gd⟩ :=
  OpGhost.take (v := fun _ => v) hw hp (fun g d w h _ => by
    have hB : Blk w e.1 e.2.1 e.2.2 := by
      have hH := h.held
      split at hH
      · exact hH.get m (by rw [List.getElem?_set_ne hjm]; exact hm)
      · exact hH.get m hm
    exact ⟨run_load1 hg (hx := (hx g)) ((hB.cell off).trans hv), h.keep hi (Below.refl _ w)⟩)
theorem gf_put {x y : Operand} {k : IntKind} {z : Int} {c0 : Array Value} {off : Nat} (hL : L[j]? = some (q, t, c0)) (hoff : off < c0.size) (hc : c0.setIfInBounds off (.int k z) = c) (hs : ∀ w, (sizeOf T).run Tryz.prog w = .ok 1 w)
  (hw : ∀ g, Region.wanted ⟨dst, .store T x y, ty, pos, aft, gd⟩ (yielded ops (F g).tmps) = true) (hp : ∀ g, (F g).put dst undef = F g) (hx : ∀ g, (F g).eval x = .pointer (some ⟨q, off, none⟩)) (hy : ∀ g, (F g).eval y = .int k z) (hi : i1 ≠ i0)
  (he : (aft.any fun e => Region.binds .any e && e.on == i1) = true) :
  OpGhost Tryz.prog .any ops Q (GF w0 L i0 i1 j q t c) F i0 ⟨dst, .store T x y, ty, pos, aft, gd⟩ :=
 OpGhost.skips (W := fun _ w => w.setCell ⟨q, off, none⟩ (.int k z)) hw hp (fun g d w h hd haft => by
  obtain ⟨m, hm, h3⟩ := Array.any_eq_true.1 he
  rw [Bool.and_eq_true, beq_iff_eq] at h3
  have ha : d i1 = true := by rw [← h3.2]; exact haft _ (Array.getElem_mem hm) h3.1
  have hH := h.held
  rw [hd, if_neg (by decide)] at hH
  refine ⟨run_store1 hs (hx g) (hy g) (by rw [(hH.get j hL).cell off]; simp [hoff]) ((hH.get j hL).free off hoff), ?_, fun _ => by rw [up_ne _ _ hi]; exact ha⟩
  rw [up_at, if_pos rfl]
  have := hH.put j hL off (.int k z)
  rw [hc] at this
  exact this)
end
end Go.Proofs.YtefjnfeckenmkaaGreatDoor

namespace Go.Proofs.YtefjnfeckenmkaaGreatDoor
set_option linter.unusedVariables false
set_option maxRecDepth 100000
set_option maxHeartbeats 2000000
open Go.RowKit Num
theorem rmul_any (a b : Nat) (ha : a < 65536 ^ 16) (hb : b < 65536 ^ 16) (w : World) : Calls Tryz.prog 113 #[rarr a, rarr b] w fun e w' => e = .returned (rarr (mulP a b)) ∧ Below w.heap.size w w' := by
 have H0 := HA.start w
 go_enter Tryz.func113, Tryz.ntmps113
 refine zsr ?_
 refine wl_make H0 51 (run_box32 (c := rl a)) ?_
 intro q1 w2 h3
 refine wl_make h3 51 (run_box32 (c := rl b)) ?_
 intro q4 w5 h6
 refine wl_make h6 51 run_alloc32 ?_
 intro q7 w8 h9
 refine znt ?_
 refine zsr ?_
 refine wl_make h9 147 run_alloc132 ?_
 intro q10 w11 h12
 refine znt ?_
 refine wp_seq ?_
 refine zsr ?_
 refine zwv (iN .i64 0) ?_
 refine znt ?_
 refine wp_block ?_
 refine wp_count (fun i A w' => ∃ u13 : Nat → Value, A = ⟨(rarr a :: rarr b :: pt q1 :: pt q4 :: pt q7 :: pt q10 :: iN .i64 i :: u13 7 :: un :: un :: u13 10 :: u13 11 :: u13 12 :: u13 13 :: u13 14 :: u13 15 :: u13 16 :: u13 17 :: u13 18 :: u13 19 :: u13 20 :: u13 21 :: u13 22 :: u13 23 :: u13 24 :: u13 25 :: u13 26 :: u13 27 :: u13 28 :: u13 29 :: u13 30 :: u13 31 :: u13 32 :: u13 33 :: u13 34 :: u13 35 :: u13 36 :: List.replicate 17 un).toArray, []⟩ ∧ HA w [(q10, 147, ul (wide a b i)), (q7, 51, rl 0), (q4, 51, rl b), (q1, 51, rl a)] w') 16 ?_ ?_ ?_
 ·exact zex h12
 ·rintro i hi _ w14 ⟨u13, rfl, h15⟩
  refine wp_seq ?_
  refine zsr ?_
  refine zwv (iN .i64 i) ?_
  refine zwu (run_lss (k := .i64) (a := i) (b := 16) true (decide_eq_true hi)) ?_
  refine znt ?_
  refine zct ?_
  refine wp_skip ?_
  refine then_at rfl ?_
  refine wp_seq ?_
  refine wp_block ?_
  refine zsr ?_
  refine zwv (iN .i64 0) ?_
  refine znt ?_
  refine wp_block ?_
  refine wp_count (fun k A w' => ∃ u16 : Nat → Value, A = ⟨(rarr a :: rarr b :: pt q1 :: pt q4 :: pt q7 :: pt q10 :: iN .i64 i :: iN .i64 k :: un :: un :: iN .i64 i :: .bool true :: u13 12 :: u13 13 :: u16 14 :: u16 15 :: u16 16 :: u16 17 :: u16 18 :: u16 19 :: u16 20 :: u16 21 :: u16 22 :: u16 23 :: u16 24 :: u16 25 :: u16 26 :: u16 27 :: u16 28 :: u16 29 :: u16 30 :: u16 31 :: u16 32 :: u16 33 :: u16 34 :: u16 35 :: u16 36 :: List.replicate 17 un).toArray, []⟩ ∧ HA w [(q10, 147, ul (rowL a b (wide a b i) i k)), (q7, 51, rl 0), (q4, 51, rl b), (q1, 51, rl a)] w') 16 ?_ ?_ ?_
  ·exact zex h15
  ·rintro k hk _ w17 ⟨u16, rfl, h18⟩
   have hrb := row_bound a b i k hi (Nat.le_of_lt hk) (i + k)
   have hdd := dd_le a b i k
   refine wp_seq ?_
   refine zsr ?_
   refine zwv (iN .i64 k) ?_
   refine zwu (run_lss (k := .i64) (a := k) (b := 16) true (decide_eq_true hk)) ?_
   refine znt ?_
   refine zct ?_
   refine wp_skip ?_
   refine then_at rfl ?_
   refine wp_seq ?_
   refine wp_block ?_
   refine zrg (fun _ : Nat → Nat => (⟨(rarr a :: rarr b :: pt q1 :: pt q4 :: pt q7 :: pt q10 :: iN .i64 i :: iN .i64 k :: un :: un :: iN .i64 i :: .bool true :: u13 12 :: u13 13 :: iN .i64 k :: .bool true :: u16 16 :: u16 17 :: iN .i64 i :: iN .i64 k :: iN .i64 (i + k) :: iN .i64 i :: iN .i64 k :: iN .i64 (i + k) :: .pointer (some ⟨q10, i + k, none⟩) :: iN .u64 (dg (rowL a b (wide a b i) i k) (i + k)) :: iN .i64 i :: .pointer (some ⟨q1, i, none⟩) :: iN .u32 (a / 65536 ^ i % 65536) :: iN .u64 (a / 65536 ^ i % 65536) :: iN .i64 k :: .pointer (some ⟨q4, k, none⟩) :: iN .u32 (b / 65536 ^ k % 65536) :: iN .u64 (b / 65536 ^ k % 65536) :: iN .u64 (dd a b i k) :: iN .u64 ((dg (rowL a b (wide a b i) i k) (i + k)) + (dd a b i k)) :: .pointer (some ⟨q10, i + k, none⟩) :: List.replicate 17 un).toArray, []⟩ : Act)) (GF w [(q10, 147, ul (rowL a b (wide a b i) i k)), (q7, 51, rl 0), (q4, 51, rl b), (q1, 51, rl a)] 19 7 0 q10 147 (ul (rowL a b (wide a b i) i (k + 1)))) (fun d hd => GF.start h18.drew (hd 19 (by decide))) ?_ ?_
   ·refine zg (gf_plain (v := iN .i64 i)) ?_
    refine zg (gf_plain (v := iN .i64 k)) ?_
    refine zg (gf_plain (v := iN .i64 (i + k)) (hr := (fun _ _ => (run_add (k := .i64) (a := i) (b := k) (by simp only [top]; omega))))) ?_
    refine zg (gf_plain (v := iN .i64 i)) ?_
    refine zg (gf_plain (v := iN .i64 k)) ?_
    refine zg (gf_plain (v := iN .i64 (i + k)) (hr := (fun _ _ => (run_add (k := .i64) (a := i) (b := k) (by simp only [top]; omega))))) ?_
    refine zg (gf_plain (v := .pointer (some ⟨q10, i + k, none⟩)) (hr := (fun _ _ => (run_addr_arr (q := q10) (a := i + k) Tryz.underlying147 Tryz.sizeOf34 (by omega))))) ?_
    refine zg (gf_cell (v := iN .u64 (dg (rowL a b (wide a b i) i k) (i + k))) 0 rfl (by decide) (i + k) (ul_get _ (i + k) (by rw [rowL_len, wide_len]; omega)) Tryz.isAgg34 (fun _ => by kernel_rfl) (fun _ => by kernel_rfl) (fun _ => by kernel_rfl)) ?_
    refine zg (gf_plain (v := iN .i64 i)) ?_
    refine zg (gf_plain (v := .pointer (some ⟨q1, i, none⟩)) (hr := (fun _ _ => (run_addr_arr (q := q1) (a := i) Tryz.underlying51 Tryz.sizeOf49 (by omega))))) ?_
    refine zg (gf_cell2 (v := iN .u32 (a / 65536 ^ i % 65536)) 3 rfl i (rl_get a i (by omega)) Tryz.isAgg49) ?_
    refine zg (gf_plain (v := iN .u64 (a / 65536 ^ i % 65536)) (hr := (fun _ _ => (run_conv (k := .u32) (a := a / 65536 ^ i % 65536) .u64 Tryz.underlying49 Tryz.underlying34 (Nat.lt_trans (Nat.mod_lt _ (by decide)) (by decide)))))) ?_
    refine zg (gf_plain (v := iN .i64 k)) ?_
    refine zg (gf_plain (v := .pointer (some ⟨q4, k, none⟩)) (hr := (fun _ _ => (run_addr_arr (q := q4) (a := k) Tryz.underlying51 Tryz.sizeOf49 (by omega))))) ?_
    refine zg (gf_cell2 (v := iN .u32 (b / 65536 ^ k % 65536)) 2 rfl k (rl_get b k (by omega)) Tryz.isAgg49) ?_
    refine zg (gf_plain (v := iN .u64 (b / 65536 ^ k % 65536)) (hr := (fun _ _ => (run_conv (k := .u32) (a := b / 65536 ^ k % 65536) .u64 Tryz.underlying49 Tryz.underlying34 (Nat.lt_trans (Nat.mod_lt _ (by decide)) (by decide)))))) ?_
    refine zg (gf_plain (v := iN .u64 (dd a b i k)) (hr := (fun _ _ => (run_mul (k := .u64) (a := a / 65536 ^ i % 65536) (b := b / 65536 ^ k % 65536) (Nat.lt_of_le_of_lt (dd_le a b i k) (by decide)))))) ?_
    refine zg (gf_plain (v := iN .u64 ((dg (rowL a b (wide a b i) i k) (i + k)) + (dd a b i k))) (hr := (fun _ _ => (run_add (k := .u64) (a := dg (rowL a b (wide a b i) i k) (i + k)) (b := dd a b i k) (by simp only [top]; omega))))) ?_
    refine zg (gf_plain (v := .pointer (some ⟨q10, i + k, none⟩)) (hr := (fun _ _ => (run_addr_arr (q := q10) (a := i + k) Tryz.underlying147 Tryz.sizeOf34 (by omega))))) ?_
    refine zg (gf_put (k := .u64) (z := (((dg (rowL a b (wide a b i) i k) (i + k)) + (dd a b i k) : Nat) : Int)) (off := i + k) rfl (by rw [ul_size, rowL_len, wide_len]; omega) (ul_put (rowL a b (wide a b i) i k) (i + k) _) Tryz.sizeOf34 (fun _ => by kernel_rfl) (fun _ => by kernel_rfl) (fun _ => by kernel_rfl) (fun _ => by kernel_rfl) (by decide) (by kernel_rfl)) ?_
    exact AllGhost.nil
   intro _ w19 g20
   have h21 : HA w [(q10, 147, ul (rowL a b (wide a b i) i (k + 1))), (q7, 51, rl 0), (q4, 51, rl b), (q1, 51, rl a)] w19 := g20.held
   clear g20
   refine block_normal ?_
   refine then_at rfl ?_
   refine wl_region ?_
   refine zwv (iN .i64 k) ?_
   refine zwu (run_add (k := .i64) (a := k) (b := 1) (by simp only [top]; omega)) ?_
   refine zwv (iN .i64 (k + 1)) ?_
   refine wl_nil ?_
   exact then_I (zex h21)
  ·rintro _ w22 ⟨u16, rfl, h23⟩
   refine wp_seq ?_
   refine zsr ?_
   refine zwv (iN .i64 16) ?_
   refine zwu (run_lss (k := .i64) (a := 16) (b := 16) false (by decide)) ?_
   refine znt ?_
   refine zcf ?_
   refine wp_exit ?_
   repeat first | refine then_exit ?_ | refine block_exit ?_ | refine block_exit_ne (by decide) ?_
   have h24 : HA w [(q10, 147, ul (wide a b (i + 1))), (q7, 51, rl 0), (q4, 51, rl b), (q1, 51, rl a)] w22 := h23
   refine block_normal ?_
   refine then_at rfl ?_
   refine wl_region ?_
   refine zwv (iN .i64 i) ?_
   refine zwu (run_add (k := .i64) (a := i) (b := 1) (by simp only [top]; omega)) ?_
   refine zwv (iN .i64 (i + 1)) ?_
   refine wl_nil ?_
   exact then_I (zex h24)
 ·rintro _ w25 ⟨u13, rfl, h26⟩
  refine wp_seq ?_
  refine zsr ?_
  refine zwv (iN .i64 16) ?_
  refine zwu (run_lss (k := .i64) (a := 16) (b := 16) false (by decide)) ?_
  refine znt ?_
  refine zcf ?_
  refine wp_exit ?_
  repeat first | refine then_exit ?_ | refine block_exit ?_ | refine block_exit_ne (by decide) ?_
  refine then_at rfl ?_
  refine zsr ?_
  refine wl_make h26 148 run_alloc116 ?_
  intro q27 w28 h29
  refine znt ?_
  refine wp_seq ?_
  refine zsr ?_
  refine zwv (iN .i64 0) ?_
  refine znt ?_
  refine wp_block ?_
  refine wp_count (fun k A w' => ∃ u30 : Nat → Value, A = ⟨(rarr a :: rarr b :: pt q1 :: pt q4 :: pt q7 :: pt q10 :: iN .i64 16 :: u13 7 :: pt q27 :: iN .i64 k :: iN .i64 16 :: .bool false :: u13 12 :: u13 13 :: u13 14 :: u13 15 :: u13 16 :: u13 17 :: u13 18 :: u13 19 :: u13 20 :: u13 21 :: u13 22 :: u13 23 :: u13 24 :: u13 25 :: u13 26 :: u13 27 :: u13 28 :: u13 29 :: u13 30 :: u13 31 :: u13 32 :: u13 33 :: u13 34 :: u13 35 :: u13 36 :: u30 37 :: u30 38 :: u30 39 :: u30 40 :: u30 41 :: u30 42 :: u30 43 :: u30 44 :: u30 45 :: u30 46 :: u30 47 :: u30 48 :: u30 49 :: u30 50 :: u30 51 :: List.replicate 2 un).toArray, []⟩ ∧ HA w [(q27, 148, ul (fillL (halves (wide a b 16)) k)), (q10, 147, ul (wide a b 16)), (q7, 51, rl 0), (q4, 51, rl b), (q1, 51, rl a)] w') 16 ?_ ?_ ?_
  ·exact zex h29
  ·rintro k hk _ w31 ⟨u30, rfl, h32⟩
   have hw1 := wide_bound a b 16 (Nat.le_refl _) k
   have hw2 := wide_bound a b 16 (Nat.le_refl _) (k + 16)
   refine wp_seq ?_
   refine zsr ?_
   refine zwv (iN .i64 k) ?_
   refine zwu (run_lss (k := .i64) (a := k) (b := 16) true (decide_eq_true hk)) ?_
   refine znt ?_
   refine zct ?_
   refine wp_skip ?_
   refine then_at rfl ?_
   refine wp_seq ?_
   refine wp_block ?_
   refine zrg (fun _ : Nat → Nat => (⟨(rarr a :: rarr b :: pt q1 :: pt q4 :: pt q7 :: pt q10 :: iN .i64 16 :: u13 7 :: pt q27 :: iN .i64 k :: iN .i64 16 :: .bool false :: u13 12 :: u13 13 :: u13 14 :: u13 15 :: u13 16 :: u13 17 :: u13 18 :: u13 19 :: u13 20 :: u13 21 :: u13 22 :: u13 23 :: u13 24 :: u13 25 :: u13 26 :: u13 27 :: u13 28 :: u13 29 :: u13 30 :: u13 31 :: u13 32 :: u13 33 :: u13 34 :: u13 35 :: u13 36 :: iN .i64 k :: .bool true :: u30 39 :: u30 40 :: iN .i64 k :: iN .i64 k :: .pointer (some ⟨q10, k, none⟩) :: iN .u64 (dg (wide a b 16) k) :: iN .i64 k :: iN .i64 (k + 16) :: .pointer (some ⟨q10, k + 16, none⟩) :: iN .u64 (dg (wide a b 16) (k + 16)) :: iN .u64 (38 * (dg (wide a b 16) (k + 16))) :: iN .u64 ((dg (wide a b 16) k) + (38 * (dg (wide a b 16) (k + 16)))) :: .pointer (some ⟨q27, k, none⟩) :: List.replicate 2 un).toArray, []⟩ : Act)) (GP w [(q27, 148, ul (fillL (halves (wide a b 16)) k)), (q10, 147, ul (wide a b 16)), (q7, 51, rl 0), (q4, 51, rl b), (q1, 51, rl a)] 11 0 q27 148 (ul (fillL (halves (wide a b 16)) (k + 1)))) (fun d hd => GP.start h32.drew (hd 11 (by decide))) ?_ ?_
   ·refine zg (gp_plain (v := iN .i64 k) (fun _ _ => (by kernel_rfl))) ?_
    refine zg (gp_plain (v := iN .i64 k) (fun _ _ => (by kernel_rfl))) ?_
    refine zg (gp_plain (v := .pointer (some ⟨q10, k, none⟩)) (fun _ _ => (run_addr_arr (q := q10) (a := k) Tryz.underlying147 Tryz.sizeOf34 (by omega)))) ?_
    refine zg (gp_cell (v := iN .u64 (dg (wide a b 16) k)) 1 rfl k (ul_get _ k (by rw [wide_len]; omega)) Tryz.isAgg34) ?_
    refine zg (gp_plain (v := iN .i64 k) (fun _ _ => (by kernel_rfl))) ?_
    refine zg (gp_plain (v := iN .i64 (k + 16)) (fun _ _ => (run_add (k := .i64) (a := k) (b := 16) (by simp only [top]; omega)))) ?_
    refine zg (gp_plain (v := .pointer (some ⟨q10, k + 16, none⟩)) (fun _ _ => (run_addr_arr (q := q10) (a := k + 16) Tryz.underlying147 Tryz.sizeOf34 (by omega)))) ?_
    refine zg (gp_cell (v := iN .u64 (dg (wide a b 16) (k + 16))) 1 rfl (k + 16) (ul_get _ (k + 16) (by rw [wide_len]; omega)) Tryz.isAgg34) ?_
    refine zg (gp_plain (v := iN .u64 (38 * (dg (wide a b 16) (k + 16)))) (fun _ _ => (run_mul (k := .u64) (a := 38) (b := dg (wide a b 16) (k + 16)) (by simp only [top]; omega)))) ?_
    refine zg (gp_plain (v := iN .u64 ((dg (wide a b 16) k) + (38 * (dg (wide a b 16) (k + 16))))) (fun _ _ => (run_add (k := .u64) (a := dg (wide a b 16) k) (b := 38 * (dg (wide a b 16) (k + 16))) (by simp only [top]; omega)))) ?_
    refine zg (gp_plain (v := .pointer (some ⟨q27, k, none⟩)) (fun _ _ => (run_addr_arr (q := q27) (a := k) Tryz.underlying148 Tryz.sizeOf34 (by omega)))) ?_
    refine zg (gp_put (k := .u64) (z := (((dg (wide a b 16) k) + (38 * (dg (wide a b 16) (k + 16))) : Nat) : Int)) (off := k) rfl (by rw [ul_size, fill_len _ (halves_len _ (wide_len a b 16)) k (by omega)]; exact hk) (fill_cells _ (halves_len _ (wide_len a b 16)) k hk _ (halves_dg _ (wide_len a b 16) k hk).symm) Tryz.sizeOf34) ?_
    exact AllGhost.nil
   intro _ w33 g34
   have h35 : HA w [(q27, 148, ul (fillL (halves (wide a b 16)) (k + 1))), (q10, 147, ul (wide a b 16)), (q7, 51, rl 0), (q4, 51, rl b), (q1, 51, rl a)] w33 := g34
   clear g34
   refine block_normal ?_
   refine then_at rfl ?_
   refine wl_region ?_
   refine zwv (iN .i64 k) ?_
   refine zwu (run_add (k := .i64) (a := k) (b := 1) (by simp only [top]; omega)) ?_
   refine zwv (iN .i64 (k + 1)) ?_
   refine wl_nil ?_
   exact then_I (zex h35)
  ·rintro _ w36 ⟨u30, rfl, h37⟩
   refine wp_seq ?_
   refine zsr ?_
   refine zwv (iN .i64 16) ?_
   refine zwu (run_lss (k := .i64) (a := 16) (b := 16) false (by decide)) ?_
   refine znt ?_
   refine zcf ?_
   refine wp_exit ?_
   repeat first | refine then_exit ?_ | refine block_exit ?_ | refine block_exit_ne (by decide) ?_
   have h38 : HA w [(q27, 148, ul (halves (wide a b 16))), (q10, 147, ul (wide a b 16)), (q7, 51, rl 0), (q4, 51, rl b), (q1, 51, rl a)] w36 := by have h9 := h37; rw [fill_end _ (halves_len _ (wide_len a b 16))] at h9; exact h9
   refine then_at rfl ?_
   refine zsr ?_
   refine wl_load h38 0 rfl Tryz.underlying148 rfl (by rw [ul_size, halves_len _ (wide_len a b 16)]; exact info116) ?_
   refine zwc (v := rarr (num 65536 (halves (wide a b 16)) % P)) (args := #[.agg (ul (halves (wide a b 16)))]) h38 enter96 (reduced_any _ (halves_len _ (wide_len a b 16)) (halves_bound a b) w36) ?_
   intro w39 h40
   refine wl_fill (c' := rl (num 65536 (halves (wide a b 16)) % P)) h40 2 rfl (rl_sz _ _) (info_rl _) (one_rl _) ?_
   intro w41 (h42 : HA w [(q27, 148, ul (halves (wide a b 16))), (q10, 147, ul (wide a b 16)), (q7, 51, rl (num 65536 (halves (wide a b 16)) % P)), (q4, 51, rl b), (q1, 51, rl a)] w41)
   refine znt ?_
   refine wp_ret ?_
   repeat first | refine then_ret ?_ | refine block_ret ?_
   exact bodyPost_ret (v := rarr (num 65536 (halves (wide a b 16)) % P)) (res_cell (p := 4) (by kernel_rfl) (by kernel_rfl) (h42.get 2 rfl) Tryz.underlying51 rfl (info_rl _)) rfl ⟨by rw [mul_num a b ha hb], h42.old⟩
end Go.Proofs.YtefjnfeckenmkaaGreatDoor
