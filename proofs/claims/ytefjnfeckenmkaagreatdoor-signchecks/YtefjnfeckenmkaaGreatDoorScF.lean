/-
 scalar, in the curve's seat: Clos Down Mod0 Modulo.
-/
import Derived.Test.YtefjnfeckenmkaaGreatDoorScE
import Derived.RangeFuncNested
import Derived.RangeFuncBound
import Derived.RangeFuncCalls
import Derived.RangeFuncLeaves
import Derived.Shelf.Abstract
import Derived.Shelf.RegionOpen
import Derived.OwnWalkIn
import Derived.TacticsInMore
import Derived.LoopNIn
import Derived.LoopIn
namespace Go.Proofs.YtefjnfeckenmkaaGreatDoor.Sc
set_option linter.unusedVariables false
set_option maxRecDepth 100000
set_option maxHeartbeats 4000000
open Go.RowKit Num
attribute [local go_sem] Oper.semAt_some
section
variable {P : Program} {ops : Array Oper} {Q : Exit → Act → World → Prop} {a : Act} {w : World} {rest : List Oper} {dst : Option Tmp} {ty ty' : TypeId} {pos : String} {aft : Array Edge} {gd : Option (Nat × Bool)}
theorem wl_callb {f : FuncId} {xs : Array Operand} {ats : Array TypeId} {R : Ending → World → Prop} (hw : Region.wanted ⟨dst, .call { callee := .value (.func f), args := xs, argTypes := ats }, ty, pos, aft, gd⟩ (yielded ops a.tmps) = true)
  (hr : ∀ args w, (callFunc f args).run P w = .ok (.enter f args) w) (args : Array Value) (ha : #[] ++ xs.map a.eval ++ #[] = args) (hc : Calls P f args w R)
  (h : ∀ e w', R e w' → ∃ v, e = .returned v ∧ WL P ops Q rest (a.put dst v) w') : WL P ops Q (⟨dst, .call { callee := .value (.func f), args := xs, argTypes := ats }, ty, pos, aft, gd⟩ :: rest) a w := by
 refine ⟨?_⟩
 unfold wpList
 rw [if_pos hw]
 refine .inl ?_
 unfold Oper.wp
 rw [execOp_call_go, ha, hr]
 refine hc.mono ?_
 intro e w' he
 obtain ⟨v, rfl, hl⟩ := h e w' he
 exact hl.out
theorem wl_world {o : Oper} {w' : World} (v : Value) (hw : Region.wanted o (yielded ops a.tmps) = true) (hr : (execOp a.eval o).run P w = .ok (.value v) w') (h : WL P ops Q rest (a.put o.dst v) w') : WL P ops Q (o :: rest) a w := by
 refine ⟨?_⟩
 unfold wpList
 rw [if_pos hw]
 refine .inl ?_
 unfold Oper.wp
 rw [hr]
 exact h.out
theorem wl_skips {o : Oper} {w' : World} (hw : Region.wanted o (yielded ops a.tmps) = true) (hr : (execOp a.eval o).run P w = .ok .skip w') (h : WL P ops Q rest (a.put o.dst undef) w') : WL P ops Q (o :: rest) a w := by
 refine ⟨?_⟩
 unfold wpList
 rw [if_pos hw]
 refine .inl ?_
 unfold Oper.wp
 rw [hr]
 exact h.out
end
def lowb (z : Int) : Nat := (z % 4294967296).toNat
theorem lowb_lt (z : Int) : lowb z < 2 ^ 32 := by unfold lowb; omega
theorem run_bits {ρ : Operand → Value} {x : Operand} {z : Int} {w : World} {dst : Option Tmp} {ty : TypeId} {pos : String} {aft : Array Edge} {gd : Option (Nat × Bool)} (hx : ρ x = .int .i32 z) :
  (execOp ρ ⟨dst, .convert 21 49 x, ty, pos, aft, gd⟩).run Tryz.prog w = .ok (.value (iN .u32 (lowb z))) w := by
 have h : IntKind.u32.wrap z = (lowb z : Int) := by unfold lowb; rw [IntKind.wrap_u32']; omega
 simp only [execOp, hx, iN]
 simpa [go_sem, Tryz.underlying21, Tryz.underlying49] using h
theorem grown_set {w w1 : World} {q : Nat} {vs : List Value} (hb : Below w.heap.size w w1) : w.grownBy (w1.setCells q 0 vs) (some q) := by
 have key : ∀ (vs : List Value) (o : Nat) (w2 : World), w.grownBy w2 (some q) → w.grownBy (w2.setCells q o vs) (some q) := by
  intro vs
  induction vs with
  | nil => intro o w2 h; exact h
  | cons v r ih =>
   intro o w2 h
   refine ih (o + 1) _ ⟨h.os, h.tape, h.output, by simpa using h.size, fun k hk hne => ?_⟩
   rw [Below.heap_setCell w2 ⟨q, o, none⟩ v k (fun e => hne (by rw [e]))]
   exact h.block k hk hne
 exact key vs 0 w1 ⟨hb.os, hb.tape, hb.output, hb.size, fun k hk _ => hb.block k hk⟩
theorem move_any (q v : Nat) (z : Int) (hv : v < Lq) (w : World) (VV : Vars w) (hB : Blk w q 73 (el v)) :
  Calls Tryz.prog 96 #[.int .i32 z, .pointer (some ⟨q, 0, none⟩)] w fun e w' => (∃ x, e = .returned x) ∧ Blk w' q 73 (el ((v * 2 ^ 32 + lowb z) % Lq)) ∧ w.grownBy w' (some q) := by
 go_enter Tryz.func96, Tryz.ntmps96
 refine wl_region ?_
 refine zwu (v := arr v) (run_load_blk hB Tryz.underlying73 rfl info34) ?_
 refine zwv (.int .i32 z) ?_
 refine zwu (v := iN .u32 (lowb z)) (run_bits (by kernel_rfl)) ?_
 refine wl_callb (by kernel_rfl) enter103 #[arr v, iN .u32 (lowb z)] (by kernel_rfl) (moved_any v (lowb z) hv (lowb_lt z) w VV) ?_
 rintro e w1 ⟨rfl, hb⟩
 refine ⟨_, rfl, ?_⟩
 have hB1 := hB.keep hb
 refine wl_skips (by kernel_rfl) (run_store_blk (c' := el ((v * 2 ^ 32 + lowb z) % Lq)) (by kernel_rfl) (by kernel_rfl) hB1 (el_sz _ _) info34 (one_el _)) ?_
 refine wl_nil ?_
 exact ⟨rfl, .tuple #[], by kernel_rfl, ⟨_, rfl⟩, hB1.whole (el_sz _ _), grown_set hb⟩
theorem downward_any (n : Nat) (w : World) :
  Calls Tryz.prog 98 #[arr n] w fun e w' => ∃ q, e = .returned (.func (.func 128) #[] #[.pointer (some ⟨q, 0, none⟩)]) ∧ q = w.heap.size ∧ w' = w.alloc (.cells (el n) 73) := by
 go_enter Tryz.func98, Tryz.ntmps98
 refine zsr ?_
 refine wl_world (.pointer (some ⟨w.heap.size, 0, none⟩)) (by kernel_rfl) (run_box34 (c := el n) (by kernel_rfl)) ?_
 refine zwv .nilFunc ?_
 refine znt ?_
 refine zsr ?_
 refine zwv (.func (.func 128) #[] #[.pointer (some ⟨w.heap.size, 0, none⟩)]) ?_
 refine zwv (.func (.func 128) #[] #[.pointer (some ⟨w.heap.size, 0, none⟩)]) ?_
 refine znt ?_
 refine wp_ret ?_
 exact bodyPost_ret (v := .func (.func 128) #[] #[.pointer (some ⟨w.heap.size, 0, none⟩)]) (by kernel_rfl) rfl ⟨_, rfl, rfl, rfl⟩
attribute [local go_sem] Oper.semAt_some
abbrev Wd := { x : Nat // x < K }
def wd (n j : Nat) : Wd := ⟨n / K ^ j % K, Nat.mod_lt _ (by decide)⟩
def upto (n k : Nat) : List Wd := (List.range k).map fun j => wd n (3 - j)
theorem upto_succ (n k : Nat) : upto n (k + 1) = upto n k ++ [wd n (3 - k)] := by
 unfold upto
 rw [List.range_succ, List.map_append]
 rfl
theorem upto_len (n k : Nat) : (upto n k).length = k := by simp [upto]
def encW (x : Wd) : Array Value := #[.int .u64 (x.1 : Int)]
theorem down_stops (m bv n : Nat) (w : World) (hB : Blk w bv 73 (el n)) :
  SeqStopsK Fence.wide m Tryz.prog 128 #[.pointer (some ⟨bv, 0, none⟩)] encW (fun W W' => W'.heap[bv]? = W.heap[bv]?) (fun xs => xs = upto n 4) (fun _ => True) 4 w := by
 intro l J Jx W hW hJ hJx hY h0
 have hBW : Blk W bv 73 (el n) := by
  unfold Blk
  rw [hW.block bv hB.lt]
  exact hB
 refine callsIn_of_wp Tryz.func128 rfl trivial ?_
 simp only [Tryz.ntmps128, List.size_toArray, List.length_cons, List.length_nil, Nat.reduceAdd, Nat.reduceSub, Array.replicate_succ, Array.replicate_zero, List.push_toArray, List.append_toArray, List.nil_append, List.cons_append]
 gi_wp2
 gi_loopw [4] (fun i wr => ∃ k : Nat, k ≤ 4 ∧ i = .int .i64 (k : Int) ∧ J (upto n k) wr ∧ Blk wr bv 73 (el n)) (fun i _ => 4 - (intOf i).toNat)
 case atStart => exact ⟨0, by omega, rfl, h0, hBW⟩
 case round =>
  obtain ⟨k, hk, rfl, hJk, hBk⟩ := hrel
  by_cases hlt : k < 4
  ·obtain ⟨fn, tmps, assign, body, hy, hR⟩ := hY (upto n k) (wd n (3 - k)) wr hJk (by rw [upto_len]; exact hlt)
   have hcell := (hBk.cell (3 - k)).trans (el_get n (3 - k) (by omega))
   rw [← upto_succ] at hR
   have hx : encW (wd n (3 - k)) = #[.int .u64 ((n / K ^ (3 - k) % K : Nat) : Int)] := rfl
   rw [hx] at hy
   generalize n / K ^ (3 - k) % K = x at hcell hy
   have hk0 : (0 : Int) ≤ (k : Int) := by omega
   have hk1 : (k : Int) < 4 := by omega
   simp only [iN] at hcell
   gi_wp2
   refine ⟨fun h => absurd h (by simp [Fence.wide]), hR.mono ?_⟩
   rintro e W3 (⟨rfl, hJ3, hk3⟩ | ⟨rfl, hJx3⟩)
   ·have hB3 : Blk W3 bv 73 (el n) := by unfold Blk; rw [hk3]; exact hBk
    gi_wp2
    go_roundw
    case rel => exact ⟨k + 1, by omega, int_eq (by omega), hJ3, hB3⟩
    case measure => simp [intOf]; omega
   ·gi_wp2
    refine bodyPost_ret (results_none rfl _ _ _) rfl ?_
    exact ⟨⟨_, rfl⟩, .inr ⟨_, trivial, hJx3⟩⟩
  ·obtain rfl : k = 4 := by omega
   gi_wp2
   go_end0
   exact ⟨⟨_, rfl⟩, .inl ⟨_, rfl, hJk⟩⟩
structure Parts (w : World) (q : Nat) (ps : List Nat) : Prop where
 lt : q < w.heap.size
 at' : ∀ k n, ps[k]? = some n → w.rangeAt q (4 * k) (el n).toList
theorem Parts.below {w w' : World} {q B : Nat} {ps : List Nat} (h : Parts w q ps) (hb : Below B w w') (hB : q < B) : Parts w' q ps :=
 ⟨Nat.lt_of_lt_of_le h.lt hb.size, fun k n hk j v hv => by
  have := h.at' k n hk j v hv
  rw [hb.cell (p := ⟨q, 4 * k + j, none⟩) hB]
  exact this⟩
section
variable {ρ : Operand → Value} {x y : Operand} {w : World} {dst : Option Tmp} {ty : TypeId} {pos : String} {aft : Array Edge} {gd : Option (Nat × Bool)}
theorem run_part_addr {q n k : Nat} (hx : ρ x = .slice (some ⟨q, 0, none⟩) n n) (hy : ρ y = iN .i64 k) (hk : k < n) : (execOp ρ ⟨dst, .indexAddr 118 x y, ty, pos, aft, gd⟩).run Tryz.prog w = .ok (.value (.pointer (some ⟨q, 4 * k, none⟩))) w := by
 simp only [execOp, hx, hy, iN]
 have hu : ∀ w, (underlying 118).run Tryz.prog w = .ok (.slice 73) w := fun w => by simp [underlying, go_sem, Tryz.underlying118]
 simp [go_sem, Instr.indexAt, hu, Tryz.sizeOf73, hk, Addr.add, Nat.mul_comm]
 intro h
 omega
theorem run_part_load {q k n : Nat} {ps : List Nat} (hx : ρ x = .pointer (some ⟨q, 4 * k, none⟩)) (h : Parts w q ps) (hk : ps[k]? = some n) : (execOp ρ ⟨dst, .load 73 x, ty, pos, aft, gd⟩).run Tryz.prog w = .ok (.value (arr n)) w := by
 simp only [execOp, hx, Instr.loadAt, Instr.sureAddr, Sem.run_bind, Sem.run_pure, Result.andThen_ok, run_loadVar_mid w q (4 * k) 73 (el n).toList _ (h.at' k n hk) Tryz.underlying73 rfl (by rw [Array.length_toList]; exact info34)]
 rfl
theorem run_len_parts {q n : Nat} (hx : ρ x = .slice (some ⟨q, 0, none⟩) n n) : (execOp ρ ⟨dst, .call { callee := .builtin .len, args := #[x], argTypes := #[118] }, ty, pos, aft, gd⟩).run Tryz.prog w = .ok (.value (iN .i64 n)) w := by
 simp only [execOp, iN]
 go_simp
theorem run_alloc50 : (execOp ρ ⟨dst, .alloc 120, ty, pos, aft, gd⟩).run Tryz.prog w = .ok (.value (.pointer (some ⟨w.heap.size, 0, none⟩))) (w.alloc (.cells #[.nilFunc] 120)) := by
 simp only [execOp]
 go_simp
theorem wl_putf {P : Program} {ops : Array Oper} {Q : Exit → Act → World → Prop} {a : Act} {rest : List Oper} {w0 : World} {L : List (Nat × TypeId × Array Value)} {T : TypeId} {q : Nat} {t : TypeId} {c : Array Value} {f : Fn} {b c' : Array Value} (H : HA w0 L w) (i : Nat) (hi : L[i]? = some (q, t, c)) (hj : 0 < c.size)
  (hw : Region.wanted ⟨dst, .store T x y, ty, pos, aft, gd⟩ (yielded ops a.tmps) = true) (hs : ∀ w, (sizeOf T).run P w = .ok 1 w) (hx : a.eval x = .pointer (some ⟨q, 0, none⟩)) (hy : a.eval y = .func f b c')
  (h : ∀ w', HA w0 (L.set i (q, t, c.setIfInBounds 0 (.func f b c'))) w' → WL P ops Q rest (a.put dst undef) w') : WL P ops Q (⟨dst, .store T x y, ty, pos, aft, gd⟩ :: rest) a w := by
 have hc : (w.cell? ⟨q, 0, none⟩).isSome = true := by rw [(H.get i hi).cell 0]; simp [hj]
 have hf := (H.get i hi).free 0 hj
 obtain ⟨u, hu⟩ := Option.isSome_iff_exists.1 hc
 have e : (execOp a.eval ⟨dst, .store T x y, ty, pos, aft, gd⟩).run P w = .ok .skip (w.setCell ⟨q, 0, none⟩ (.func f b c')) := by
  simp only [execOp, hx, hy]
  simp [go_sem, hs, run_store P w ⟨q, 0, none⟩ (.func f b c') .plain rfl, hu, hf]
 refine wl_skips hw e (h _ ?_)
 exact H.put i hi 0 _
end
theorem _root_.Go.Proofs.YtefjnfeckenmkaaGreatDoor.HA.grown {w0 A B : World} {L : List (Nat × TypeId × Array Value)} {row : Option Nat} (h : HA w0 L A) (hg : A.grownBy B row) (hr : ∀ r, row = some r → w0.heap.size ≤ r ∧ ∃ o : Obj, A.heap[r]? = some o ∧ o.isCells = false) : HA w0 L B :=
 ⟨h.old.grown hg h.old.size (fun k hk => (hr k hk).1), fun x hx => by
  have hb := h.blk x hx
  unfold Blk
  rw [hg.block x.1 hb.lt (fun e => by
   obtain ⟨_, o, ho, hc⟩ := hr x.1 e.symm
   obtain ⟨f, hf, _⟩ := hb
   rw [hf] at ho
   cases ho
   cases hc)]
  exact hb, h.own, h.nd⟩
theorem _root_.Go.Proofs.YtefjnfeckenmkaaGreatDoor.HA.turn {w0 A B : World} {L : List (Nat × TypeId × Array Value)} {q : Nat} {t : TypeId} {c c' : Array Value} (h : HA w0 L A) (i : Nat) (hi : L[i]? = some (q, t, c)) (hg : A.grownBy B (some q)) (hb : Blk B q t c') : HA w0 (L.set i (q, t, c')) B := by
 have hlt : i < L.length := (List.getElem?_eq_some_iff.1 hi).1
 have hmap : (L.set i (q, t, c')).map (·.1) = L.map (·.1) := by
  rw [List.map_set]
  refine List.ext_getElem? fun m => ?_
  by_cases hm : i = m
  ·subst hm
   rw [List.getElem?_set_self (by simpa using hlt), List.getElem?_map, hi]
   rfl
  ·rw [List.getElem?_set_ne hm]
 have hq := h.own _ (List.mem_of_getElem? hi)
 refine ⟨h.old.grown hg h.old.size (fun k hk => by cases hk; exact hq), fun x hx => ?_, fun x hx => ?_, by rw [hmap]; exact h.nd⟩
 ·obtain ⟨m, hm⟩ := List.mem_iff_getElem?.1 hx
  by_cases him : i = m
  ·subst him
   rw [List.getElem?_set_self hlt] at hm
   obtain rfl := Option.some.inj hm
   exact hb
  ·rw [List.getElem?_set_ne him] at hm
   have hx1 := h.get m hm
   unfold Blk
   rw [hg.block x.1 hx1.lt (fun e => him ?_)]
   ·exact hx1
   ·have h1 : (L.map (·.1))[i]? = some q := by rw [List.getElem?_map, hi]; rfl
    have h2 : (L.map (·.1))[m]? = some q := by rw [List.getElem?_map, hm]; exact e
    exact (List.getElem?_inj (by simpa using hlt) h.nd).1 (h1.trans h2.symm)
 ·have : x.1 ∈ L.map (·.1) := by rw [← hmap]; exact List.mem_map.2 ⟨x, hx, rfl⟩
  obtain ⟨y, hy, e⟩ := List.mem_map.1 this
  rw [← e]
  exact h.own y hy
theorem _root_.Go.Proofs.YtefjnfeckenmkaaGreatDoor.HA.tail {w0 w : World} {x : Nat × TypeId × Array Value} {L : List (Nat × TypeId × Array Value)} (h : HA w0 (x :: L) w) : HA w0 L w :=
 ⟨h.old, fun y hy => h.blk y (.tail _ hy), fun y hy => h.own y (.tail _ hy), (List.nodup_cons.1 h.nd).2⟩
structure Marks (w0 : World) (rs : List Nat) (w : World) : Prop where
 nd : rs.Nodup
 own : ∀ r ∈ rs, w0.heap.size ≤ r
 is : ∀ r ∈ rs, w.heap[r]? = some (.deferred (some []))
def mkd (rs : List Nat) : List Deferred := rs.map fun r => { target := .collected r, args := #[] }
theorem Marks.nil (w0 w : World) : Marks w0 [] w := ⟨List.nodup_nil, fun _ h => (by cases h), fun _ h => (by cases h)⟩
theorem Marks.lt {w0 w : World} {rs : List Nat} (h : Marks w0 rs w) {r : Nat} (hr : r ∈ rs) : r < w.heap.size := (Array.getElem?_eq_some_iff.1 (h.is r hr)).1
theorem Marks.keep {w0 w w' : World} {rs : List Nat} (h : Marks w0 rs w) (hb : ∀ r ∈ rs, w'.heap[r]? = w.heap[r]?) : Marks w0 rs w' := ⟨h.nd, h.own, fun r hr => (hb r hr).trans (h.is r hr)⟩
theorem Marks.below {w0 w w' : World} {rs : List Nat} (h : Marks w0 rs w) (hb : Below w.heap.size w w') : Marks w0 rs w' := h.keep fun r hr => hb.block r (h.lt hr)
theorem _root_.Go.Proofs.YtefjnfeckenmkaaGreatDoor.HA.apart {w0 w : World} {L : List (Nat × TypeId × Array Value)} (h : HA w0 L w) {rs : List Nat} (hm : Marks w0 rs w) {r : Nat} (hr : r ∈ rs) {x : Nat × TypeId × Array Value} (hx : x ∈ L) : r ≠ x.1 := fun e => by
 have h1 := hm.is r hr
 obtain ⟨f, hf, _⟩ := h.blk x hx
 rw [e, hf] at h1
 cases h1
theorem Marks.turn {w0 w w' : World} {rs : List Nat} {L : List (Nat × TypeId × Array Value)} {q : Nat} {t : TypeId} {c : Array Value} (h : Marks w0 rs w) (H : HA w0 L w) (i : Nat) (hi : L[i]? = some (q, t, c)) (hg : w.grownBy w' (some q)) : Marks w0 rs w' :=
 h.keep fun r hr => hg.block r (h.lt hr) (fun e => H.apart h hr (List.mem_of_getElem? hi) (Option.some.inj e))
theorem Marks.more {w0 w : World} {rs : List Nat} {D B : Nat} (h : Marks w0 rs w) (hB : ∀ r ∈ rs, r < B) (hD : B ≤ D) (h0 : w0.heap.size ≤ B) (hd : w.heap[D]? = some (.deferred (some []))) : Marks w0 (D :: rs) w :=
 ⟨List.nodup_cons.2 ⟨fun hm => by have := hB D hm; omega, h.nd⟩, fun r hr => by
  rcases List.mem_cons.1 hr with rfl | hr
  ·omega
  ·exact h.own r hr, fun r hr => by
  rcases List.mem_cons.1 hr with rfl | hr
  ·exact hd
  ·exact h.is r hr⟩
theorem leaves_marks {F : Fence} {n : Nat} {P : Program} {fn : Func} {tmps : Array Value} {R : Ending → World → Prop} {w0 : World} {L : List (Nat × TypeId × Array Value)} (hR : ∀ w, HA w0 L w → ∃ v, (results fn tmps).run P w = .ok v w ∧ R (.returned v) w) :
  ∀ (rs : List Nat) (w : World), HA w0 L w → Marks w0 rs w → LeavesInM F n P fn tmps R (mkd rs) .returning w := by
 intro rs
 induction rs with
 | nil => intro w H _; exact hR w H
 | cons r rs ih =>
  intro w H M
  have hr := M.is r (.head _)
  have hnd := List.nodup_cons.1 M.nd
  refine ⟨by simp, .inl ⟨r, _, rfl, run_takeDeferred hr, ih _ ?_ ?_⟩⟩
  ·exact H.grown (grownBy_putObj' w r _) (fun k hk => by cases hk; exact ⟨M.own r (.head _), _, hr, rfl⟩)
  ·exact ⟨hnd.2, fun k hk => M.own k (.tail _ hk), fun k hk => by
    rw [World.putObj_heap_other (fun e => hnd.1 (by rw [← e]; exact hk))]
    exact M.is k (.tail _ hk)⟩
section
variable {P : Program} {ops : Array Oper} {Q : Exit → Act → World → Prop} {a : Act} {rest : List Oper} {w w0 : World} {L : List (Nat × TypeId × Array Value)} {rs : List Nat} {dst : Option Tmp} {ty ty' : TypeId} {pos : String} {aft : Array Edge} {gd : Option (Nat × Bool)}
theorem wl_makeM {c : Array Value} {o : Oper} (H : HA w0 L w) (M : Marks w0 rs w) (t : TypeId) (hw : Region.wanted o (yielded ops a.tmps) = true) (hr : (execOp a.eval o).run P w = .ok (.value (.pointer (some ⟨w.heap.size, 0, none⟩))) (w.alloc (.cells c t)))
  (h : ∀ q w', HA w0 ((q, t, c) :: L) w' → Marks w0 rs w' → WL P ops Q rest (a.put o.dst (.pointer (some ⟨q, 0, none⟩))) w') : WL P ops Q (o :: rest) a w :=
 wl_world _ hw hr (h _ _ (H.make t c) (M.below ((Below.refl _ _).alloc (Nat.le_refl _) _)))
theorem wl_fillM {x y : Operand} {q : Nat} {t : TypeId} {c c' : Array Value} (H : HA w0 L w) (M : Marks w0 rs w) (i : Nat) (hi : L[i]? = some (q, t, c)) (hw : Region.wanted ⟨dst, .store ty x y, ty', pos, aft, gd⟩ (yielded ops a.tmps) = true)
  (hx : a.eval x = .pointer (some ⟨q, 0, none⟩)) (hy : a.eval y = .agg c') (hs : c'.size = c.size) (hz : (P.info? ty).map (·.size) = some c'.size) (h1 : c'.all (·.oneCell') = true)
  (h : ∀ w', HA w0 (L.set i (q, t, c')) w' → Marks w0 rs w' → WL P ops Q rest (a.put dst undef) w') : WL P ops Q (⟨dst, .store ty x y, ty', pos, aft, gd⟩ :: rest) a w :=
 wl_skips hw (run_store_blk hx hy (H.get i hi) hs hz h1) (h _ (H.fill i hi hs) (M.turn H i hi (grown_set (Below.refl _ _))))
end
def stt (v : Nat) (xs : List Wd) : Nat := xs.foldl (fun v x => (v * K + x.1) % Lq) v
theorem stt_snoc (v : Nat) (xs : List Wd) (x : Wd) : stt v (xs ++ [x]) = (stt v xs * K + x.1) % Lq := by
 unfold stt
 rw [List.foldl_append, List.foldl_cons, List.foldl_nil]
theorem foldl_lt {α : Type} (f : Nat → α → Nat) (M : Nat) (hf : ∀ v x, f v x < M) : ∀ (l : List α) (v : Nat), v < M → l.foldl f v < M
 | [], _, h => h
 | x :: l, v, _ => foldl_lt f M hf l (f v x) (hf v x)
theorem stt_lt (v : Nat) (hv : v < Lq) (xs : List Wd) : stt v xs < Lq := foldl_lt _ Lq (fun _ _ => Nat.mod_lt _ Lq_pos) xs v hv
theorem mod_in (M a B b : Nat) : (a % M * B + b) % M = (a * B + b) % M := by rw [Nat.add_mod, Nat.mod_mul_mod, ← Nat.add_mod]
theorem mod_four (M B v a b c d : Nat) : (((((v * B + a) % M) * B + b) % M * B + c) % M * B + d) % M = ((((v * B + a) * B + b) * B + c) * B + d) % M := by
 rw [mod_in M (((v * B + a) % M) * B + b) B c, mod_in M (((v * B + a) % M * B + b) * B + c) B d]
 have h1 : (((v * B + a) % M * B + b) * B + c) % M = (((v * B + a) * B + b) * B + c) % M := by
  rw [← mod_in M ((v * B + a) % M * B + b) B c, mod_in M (v * B + a) B b, mod_in]
 rw [← mod_in M (((v * B + a) % M * B + b) * B + c) B d, h1, mod_in]
theorem low_hi (x : Nat) (hx : x < 18446744073709551616) : lowb (wrap32 ((x : Int) / 4294967296)) = x / 4294967296 := by
 unfold lowb wrap32
 omega
theorem low_lo (x : Nat) : lowb (wrap32 (x : Int)) = x % 4294967296 := by
 unfold lowb wrap32
 omega
theorem two_moves (v x : Nat) (hx : x < 18446744073709551616) : ((v * 2 ^ 32 + lowb (wrap32 ((x : Int) / 4294967296))) % Lq * 2 ^ 32 + lowb (wrap32 (x : Int))) % Lq = (v * K + x) % Lq := by
 rw [low_hi x hx, low_lo x, mod_in]
 have e : (v * 2 ^ 32 + x / 4294967296) * 2 ^ 32 + x % 4294967296 = v * K + x := by show _ = v * 18446744073709551616 + x; omega
 rw [e]
theorem four_digits (B v p : Nat) (hB : 0 < B) (hp : p < B ^ 4) : (((v * B + p / B ^ 3 % B) * B + p / B ^ 2 % B) * B + p / B ^ 1 % B) * B + p / B ^ 0 % B = v * B ^ 4 + p := by
 have h3 : p / B ^ 3 % B = p / B ^ 3 := Nat.mod_eq_of_lt (by rw [Nat.div_lt_iff_lt_mul (Nat.pow_pos hB), Nat.mul_comm, ← Nat.pow_succ]; exact hp)
 have e1 := Nat.mod_add_div p (B ^ 3)
 have e2 := mod_step B p 2
 have e3 := mod_step B p 1
 have e4 := mod_step B p 0
 rw [Nat.pow_zero, Nat.mod_one, Nat.mul_one, Nat.zero_add] at e4
 rw [e4] at e3
 rw [e3] at e2
 rw [e2] at e1
 rw [h3, Nat.pow_zero]
 generalize p / B ^ 3 = a at *
 generalize p / B ^ 2 % B = b at *
 generalize p / B ^ 1 % B = c at *
 generalize p / 1 % B = d at *
 have f4 : B ^ 4 = B * B * B * B := by simp [Nat.pow_succ]
 have f3 : B ^ 3 = B * B * B := by simp [Nat.pow_succ]
 have f2 : B ^ 2 = B * B := by simp [Nat.pow_succ]
 rw [f3, f2, Nat.pow_one] at e1
 rw [f4, ← e1]
 simp only [Nat.add_mul, Nat.mul_assoc, Nat.add_assoc]
 have g1 : B * (B * (B * a)) = a * (B * (B * B)) := by rw [Nat.mul_comm a]; simp only [Nat.mul_assoc]
 omega
theorem stt_part (v p : Nat) (hp : p < K ^ 4) : stt v (upto p 4) = (v * K ^ 4 + p) % Lq := by
 rw [upto_succ, upto_succ, upto_succ, upto_succ, stt_snoc, stt_snoc, stt_snoc, stt_snoc]
 have e0 : stt v (upto p 0) = v := rfl
 rw [e0, mod_four, ← four_digits K v p (by decide) hp]
 rfl
def mval (ps : List Nat) : Nat := ps.foldl (fun v p => (v * K ^ 4 + p) % Lq) 0
theorem mval_take (ps : List Nat) (k n : Nat) (h : ps[k]? = some n) : mval (ps.take (k + 1)) = (mval (ps.take k) * K ^ 4 + n) % Lq := by
 unfold mval
 rw [List.take_add_one, h, List.foldl_append, Option.toList_some, List.foldl_cons, List.foldl_nil]
theorem mval_lt (ps : List Nat) : mval ps < Lq := foldl_lt _ Lq (fun _ _ => Nat.mod_lt _ Lq_pos) ps 0 Lq_pos
attribute [local go_sem] Oper.semAt_some
theorem own_parts {w0 w : World} {L : List Wd → List (Nat × TypeId × Array Value)} {M : List (Nat × TypeId × Array Value)} {rs : List Nat} (h : HA w0 M w) (m : Marks w0 rs w) : OwnFrom w.heap.size (fun pre W => HA w0 (L pre) W ∧ Marks w0 rs W) :=
 fun s A B row hs hg hr => ⟨hs.1.grown hg (fun r e => ⟨Nat.le_trans h.old.size (hr r e).1, (hr r e).2⟩), hs.2.keep fun r hrs => hg.block r (hs.2.lt hrs) (fun e => by
  have h1 := (hr r e.symm).1
  have h2 := m.lt hrs
  omega)⟩
theorem modulo_any (ps : List Nat) (hps : ∀ p ∈ ps, p < K ^ 4) (hlen : ps.length < 1000) (qs : Nat) (w : World) (VV : Vars w) (hP : Parts w qs ps) :
  Calls Tryz.prog 57 #[.slice (some ⟨qs, 0, none⟩) ps.length ps.length] w fun e w' => e = .returned (arr (mval ps)) ∧ Below w.heap.size w w' := by
 have H0 := HA.start w
 refine (callsIn_wide (n := 9)).1 (callsIn_of_wp_marks (F := Fence.wide) Tryz.func57 rfl trivial ?_)
 refine wpIn_wide.2 ?_
 refine wp_seq ?_
 refine wl_region ?_
 refine wl_make H0 73 run_alloc34 ?_
 intro q1 w2 h3
 refine wl_nil ?_
 refine zta ⟨#[.slice (some ⟨qs, 0, none⟩) ps.length ps.length, undef, .pointer (some ⟨q1, 0, none⟩), undef, undef, undef, undef, undef, undef, undef, undef, undef, undef, undef, undef, undef, undef, undef, undef, undef, undef, undef, undef, undef, undef, undef, undef, undef, undef], []⟩ ?_
 refine wp_seq ?_
 refine wl_region ?_
 refine wl_make h3 73 run_alloc34 ?_
 intro q4 w5 h6
 refine wl_nil ?_
 refine zta ⟨#[.slice (some ⟨qs, 0, none⟩) ps.length ps.length, undef, .pointer (some ⟨q1, 0, none⟩), .pointer (some ⟨q4, 0, none⟩), undef, undef, undef, undef, undef, undef, undef, undef, undef, undef, undef, undef, undef, undef, undef, undef, undef, undef, undef, undef, undef, undef, undef, undef, undef], []⟩ ?_
 refine wp_seq ?_
 refine wl_region ?_
 refine zwv (.func (.func 96) #[] #[.pointer (some ⟨q4, 0, none⟩)]) ?_
 refine wl_make h6 120 run_alloc50 ?_
 intro q7 w8 h9
 refine wl_putf (f := .func 96) (b := #[]) (c' := #[.pointer (some ⟨q4, 0, none⟩)]) h9 0 rfl (by decide) (by kernel_rfl) Tryz.sizeOf120 (by kernel_rfl) (by kernel_rfl) ?_
 intro w10 (h11 : HA w [(q7, 120, #[.func (.func 96) #[] #[.pointer (some ⟨q4, 0, none⟩)]]), (q4, 73, el 0), (q1, 73, el 0)] w10)
 refine wl_nil ?_
 refine zta ⟨#[.slice (some ⟨qs, 0, none⟩) ps.length ps.length, undef, .pointer (some ⟨q1, 0, none⟩), .pointer (some ⟨q4, 0, none⟩), .pointer (some ⟨q7, 0, none⟩), undef, undef, undef, .func (.func 96) #[] #[.pointer (some ⟨q4, 0, none⟩)], undef, undef, undef, undef, undef, undef, undef, undef, undef, undef, undef, undef, undef, undef, undef, undef, undef, undef, undef, undef], []⟩ ?_
 refine wp_seq ?_
 refine wp_seq ?_
 refine wl_region ?_
 refine zwv (.slice (some ⟨qs, 0, none⟩) ps.length ps.length) ?_
 refine zwu (v := iN .i64 ps.length) (run_len_parts (q := qs) (by kernel_rfl)) ?_
 refine zwv (iN .i64 0) ?_
 refine wl_nil ?_
 refine zta ⟨#[.slice (some ⟨qs, 0, none⟩) ps.length ps.length, undef, .pointer (some ⟨q1, 0, none⟩), .pointer (some ⟨q4, 0, none⟩), .pointer (some ⟨q7, 0, none⟩), undef, undef, undef, .func (.func 96) #[] #[.pointer (some ⟨q4, 0, none⟩)], .slice (some ⟨qs, 0, none⟩) ps.length ps.length, iN .i64 ps.length, iN .i64 0, undef, undef, undef, undef, undef, undef, undef, undef, undef, undef, undef, undef, undef, undef, undef, undef, undef], []⟩ ?_
 refine wp_block ?_
 refine wp_count (fun k A w' => ∃ (u : Nat → Value) (rs : List Nat), A = ⟨#[.slice (some ⟨qs, 0, none⟩) ps.length ps.length, undef, .pointer (some ⟨q1, 0, none⟩), .pointer (some ⟨q4, 0, none⟩), .pointer (some ⟨q7, 0, none⟩), undef, u 6, u 7, .func (.func 96) #[] #[.pointer (some ⟨q4, 0, none⟩)], .slice (some ⟨qs, 0, none⟩) ps.length ps.length, iN .i64 ps.length, iN .i64 k, u 12, u 13, u 14, u 15, u 16, u 17, u 18, u 19, u 20, u 21, u 22, u 23, u 24, u 25, u 26, u 27, undef], mkd rs⟩ ∧ HA w [(q7, 120, #[.func (.func 96) #[] #[.pointer (some ⟨q4, 0, none⟩)]]), (q4, 73, el (mval (ps.take k))), (q1, 73, el 0)] w' ∧ Marks w rs w') ps.length ?_ ?_ ?_
 ·exact ⟨lku (fun _ => undef) [], [], by kernel_rfl, h11, Marks.nil _ _⟩
 ·rintro k hk _ w1 ⟨u, rs, rfl, g1, m1⟩
  obtain ⟨p, hp⟩ : ∃ p, ps[k]? = some p := ⟨ps[k], List.getElem?_eq_getElem hk⟩
  have hpK := hps p (List.mem_of_getElem? hp)
  have hvt := mval_lt (ps.take k)
  have hvn := mval_take ps k p hp
  refine wp_seq ?_
  refine wl_region ?_
  refine zwu (run_lss (k := .i64) (a := k) (b := ps.length) true (decide_eq_true hk)) ?_
  refine wl_nil ?_
  refine zta ⟨#[.slice (some ⟨qs, 0, none⟩) ps.length ps.length, undef, .pointer (some ⟨q1, 0, none⟩), .pointer (some ⟨q4, 0, none⟩), .pointer (some ⟨q7, 0, none⟩), undef, u 6, u 7, .func (.func 96) #[] #[.pointer (some ⟨q4, 0, none⟩)], .slice (some ⟨qs, 0, none⟩) ps.length ps.length, iN .i64 ps.length, iN .i64 k, .bool true, u 13, u 14, u 15, u 16, u 17, u 18, u 19, u 20, u 21, u 22, u 23, u 24, u 25, u 26, u 27, undef], mkd rs⟩ ?_
  refine wp_seq ?_
  refine zct ?_
  refine wp_skip ?_
  refine zta ⟨#[.slice (some ⟨qs, 0, none⟩) ps.length ps.length, undef, .pointer (some ⟨q1, 0, none⟩), .pointer (some ⟨q4, 0, none⟩), .pointer (some ⟨q7, 0, none⟩), undef, u 6, u 7, .func (.func 96) #[] #[.pointer (some ⟨q4, 0, none⟩)], .slice (some ⟨qs, 0, none⟩) ps.length ps.length, iN .i64 ps.length, iN .i64 k, .bool true, u 13, u 14, u 15, u 16, u 17, u 18, u 19, u 20, u 21, u 22, u 23, u 24, u 25, u 26, u 27, undef], mkd rs⟩ ?_
  refine wp_seq ?_
  refine wp_block ?_
  refine wp_seq ?_
  refine wl_region ?_
  refine zwu (v := .pointer (some ⟨qs, 4 * k, none⟩)) (run_part_addr (q := qs) (n := ps.length) (k := k) (by kernel_rfl) (by kernel_rfl) hk) ?_
  refine zwu (v := arr p) (run_part_load (q := qs) (k := k) (by kernel_rfl) (hP.below g1.old hP.lt) hp) ?_
  refine wl_makeM g1 m1 73 (by kernel_rfl) run_alloc34 ?_
  intro q12 w13 h14 m15
  refine wl_fillM (c' := el p) h14 m15 0 rfl (by kernel_rfl) (by kernel_rfl) (by kernel_rfl) (el_sz _ _) info34 (one_cl _ _) ?_
  intro w16 (h17 : HA w [(q12, 73, el p), (q7, 120, #[.func (.func 96) #[] #[.pointer (some ⟨q4, 0, none⟩)]]), (q4, 73, el (mval (ps.take k))), (q1, 73, el 0)] w16) m18
  refine wl_nil ?_
  refine zta ⟨#[.slice (some ⟨qs, 0, none⟩) ps.length ps.length, undef, .pointer (some ⟨q1, 0, none⟩), .pointer (some ⟨q4, 0, none⟩), .pointer (some ⟨q7, 0, none⟩), undef, .pointer (some ⟨q12, 0, none⟩), u 7, .func (.func 96) #[] #[.pointer (some ⟨q4, 0, none⟩)], .slice (some ⟨qs, 0, none⟩) ps.length ps.length, iN .i64 ps.length, iN .i64 k, .bool true, .pointer (some ⟨qs, 4 * k, none⟩), arr p, u 15, u 16, u 17, u 18, u 19, u 20, u 21, u 22, u 23, u 24, u 25, u 26, u 27, undef], mkd rs⟩ ?_
  refine wp_seq ?_
  refine wl_region ?_
  refine wl_load h17 0 rfl Tryz.underlying73 rfl info34 ?_
  refine wl_callb (by kernel_rfl) enter104 #[arr p] (by kernel_rfl) (downward_any p w16) ?_
  rintro e w5 ⟨bv, rfl, hbq, rfl⟩
  refine ⟨_, rfl, ?_⟩
  refine wl_nil ?_
  have g5 : HA w [(bv, 73, el p), (q12, 73, el p), (q7, 120, #[.func (.func 96) #[] #[.pointer (some ⟨q4, 0, none⟩)]]), (q4, 73, el (mval (ps.take k))), (q1, 73, el 0)] (w16.alloc (.cells (el p) 73)) := by rw [hbq]; exact h17.make 73 (el p)
  have m5 : Marks w rs (w16.alloc (.cells (el p) 73)) := m18.below ((Below.refl _ _).alloc (Nat.le_refl _) _)
  refine zta ⟨#[.slice (some ⟨qs, 0, none⟩) ps.length ps.length, undef, .pointer (some ⟨q1, 0, none⟩), .pointer (some ⟨q4, 0, none⟩), .pointer (some ⟨q7, 0, none⟩), undef, .pointer (some ⟨q12, 0, none⟩), u 7, .func (.func 96) #[] #[.pointer (some ⟨q4, 0, none⟩)], .slice (some ⟨qs, 0, none⟩) ps.length ps.length, iN .i64 ps.length, iN .i64 k, .bool true, .pointer (some ⟨qs, 4 * k, none⟩), arr p, arr p, .func (.func 128) #[] #[.pointer (some ⟨bv, 0, none⟩)], u 17, u 18, u 19, u 20, u 21, u 22, u 23, u 24, u 25, u 26, u 27, undef], mkd rs⟩ ?_
  generalize w16.alloc (.cells (el p) 73) = w6 at g5 m5 ⊢
  clear hbq
  refine wp_block ?_
  generalize hv : mval (ps.take k) = v at *
  refine (wpIn_wide (n := 9)).1 (wpIn_rangeFunc_ownG (α := Wd) rfl (by decide) (gf := 128) (lb := #[.pointer (some ⟨bv, 0, none⟩)]) (by kernel_rfl) trivial (enters_of Tryz.func128 (by kernel_rfl) rfl) (down_stops _ bv p w6 (g5.get 0 rfl)) (fun h k => k.trans h) ?_ (Below.refl _ _) (fun _ => rfl)
   (fun pre W => HA w [(bv, 73, el p), (q12, 73, el p), (q7, 120, #[.func (.func 96) #[] #[.pointer (some ⟨q4, 0, none⟩)]]), (q4, 73, el (stt v pre)), (q1, 73, el 0)] W ∧ Marks w rs W) (fun _ _ _ => False) ?_ (fun _ _ _ _ _ hs _ _ => hs) ⟨g5, m5⟩ (fun x => ⟨#[.slice (some ⟨qs, 0, none⟩) ps.length ps.length, undef, .pointer (some ⟨q1, 0, none⟩), .pointer (some ⟨q4, 0, none⟩), .pointer (some ⟨q7, 0, none⟩), undef, .pointer (some ⟨q12, 0, none⟩), .int .u64 (x.1 : Int), .func (.func 96) #[] #[.pointer (some ⟨q4, 0, none⟩)], .slice (some ⟨qs, 0, none⟩) ps.length ps.length, iN .i64 ps.length, iN .i64 k, .bool true, .pointer (some ⟨qs, 4 * k, none⟩), arr p, arr p, .func (.func 128) #[] #[.pointer (some ⟨bv, 0, none⟩)], .int .u64 (x.1 : Int), u 18, u 19, u 20, u 21, u 22, u 23, u 24, u 25, u 26, u 27, undef], []⟩) ?_ ?_ ?_ ?_)
  ·exact fun W l o o' hl _ _ _ => World.putObj_heap_other (by have := (g5.get 0 rfl).lt; omega)
  ·exact own_parts g5 m5
  ·intro l x W K hK; dsimp only [encW]; gi_wp2; exact hK
  ·rintro l pre x W ⟨hH, hM⟩ hlen
   have hc4 := (hH.get 2 rfl).cell 0
   have hB3 := hH.get 3 rfl
   have hx := x.2
   have hst := stt_lt v hvt pre
   gi_wp2
   refine ⟨trivial, (CallsIn.inRound l (callsIn_wide.2 (move_any q4 (stt v pre) _ hst W (VV.below hH.old VV.big) hB3))).mono ?_⟩
   rintro e W1 ⟨⟨y1, rfl⟩, hB1, hg1⟩
   have hH1 : HA w [(bv, 73, el p), (q12, 73, el p), (q7, 120, #[.func (.func 96) #[] #[.pointer (some ⟨q4, 0, none⟩)]]), (q4, 73, el ((stt v pre * 2 ^ 32 + lowb (wrap32 ((x.1 : Int) / 4294967296))) % Lq)), (q1, 73, el 0)] W1 := hH.turn 3 rfl hg1 hB1
   have hM1 := hM.turn hH 3 rfl hg1
   have hc41 := (hH1.get 2 rfl).cell 0
   clear hc4 hB3
   gi_wp2
   refine ⟨trivial, (CallsIn.inRound l (callsIn_wide.2 (move_any q4 _ _ (Nat.mod_lt _ Lq_pos) W1 (VV.below hH1.old VV.big) hB1))).mono ?_⟩
   rintro e W2 ⟨⟨y2, rfl⟩, hB2, hg2⟩
   have hH2 : HA w [(bv, 73, el p), (q12, 73, el p), (q7, 120, #[.func (.func 96) #[] #[.pointer (some ⟨q4, 0, none⟩)]]), (q4, 73, el (stt v (pre ++ [x]))), (q1, 73, el 0)] W2 := by
    rw [stt_snoc, ← two_moves _ _ hx]
    exact hH1.turn 3 rfl hg2 hB2
   have hM2 := hM1.turn hH1 3 rfl hg2
   clear hc41
   gi_wp2
   have hq3 : q4 < w6.heap.size := (g5.get 3 rfl).lt
   exact ⟨(KeepsFrom.of_grownBy hg1 (fun j e => by cases e; exact hq3)).trans (KeepsFrom.of_grownBy hg2 (fun j e => by cases e; exact hq3)), (hg2.block bv (hH1.get 0 rfl).lt (fun e => by have h := hH.nd; obtain rfl := Option.some.inj e; simp at h)).trans (hg1.block bv (hH.get 0 rfl).lt (fun e => by have h := hH.nd; obtain rfl := Option.some.inj e; simp at h)), hH2, hM2⟩
  ·rintro D xs W hD rfl ⟨hH, hM⟩ hK
   have mD := hM.more (fun r hr => m5.lt hr) hD g5.old.size hK
   rw [stt_part v p hpK, ← hvn] at hH
   refine block_normal ?_
   refine block_normal ?_
   refine zta ⟨#[.slice (some ⟨qs, 0, none⟩) ps.length ps.length, undef, .pointer (some ⟨q1, 0, none⟩), .pointer (some ⟨q4, 0, none⟩), .pointer (some ⟨q7, 0, none⟩), undef, .pointer (some ⟨q12, 0, none⟩), u 7, .func (.func 96) #[] #[.pointer (some ⟨q4, 0, none⟩)], .slice (some ⟨qs, 0, none⟩) ps.length ps.length, iN .i64 ps.length, iN .i64 k, .bool true, .pointer (some ⟨qs, 4 * k, none⟩), arr p, arr p, .func (.func 128) #[] #[.pointer (some ⟨bv, 0, none⟩)], u 17, u 18, u 19, u 20, u 21, u 22, u 23, u 24, u 25, u 26, u 27, undef], mkd (D :: rs)⟩ ?_
   have hT : HA w [(q7, 120, #[.func (.func 96) #[] #[.pointer (some ⟨q4, 0, none⟩)]]), (q4, 73, el (mval (ps.take (k + 1)))), (q1, 73, el 0)] W := hH.tail.tail
   refine wl_region ?_
   refine zwu (run_add (k := .i64) (a := k) (b := 1) (by simp only [top]; omega)) ?_
   refine zwv (iN .i64 (k + 1)) ?_
   refine wl_nil ?_
   exact then_I ⟨lku u [(6, .pointer (some ⟨q12, 0, none⟩)), (12, .bool true), (13, .pointer (some ⟨qs, 4 * k, none⟩)), (14, arr p), (15, arr p), (16, .func (.func 128) #[] #[.pointer (some ⟨bv, 0, none⟩)]), (27, iN .i64 (k + 1))], D :: rs, by kernel_rfl, hT, mD⟩
  ·intro _ _ _ _ _ _ h _; exact h.elim
 ·rintro _ w1 ⟨u, rs, rfl, g1, m1⟩
  rw [List.take_length] at g1
  refine wp_seq ?_
  refine wl_region ?_
  refine zwu (run_lss (k := .i64) (a := ps.length) (b := ps.length) false (decide_eq_false (Nat.lt_irrefl _))) ?_
  refine wl_nil ?_
  refine zta ⟨#[.slice (some ⟨qs, 0, none⟩) ps.length ps.length, undef, .pointer (some ⟨q1, 0, none⟩), .pointer (some ⟨q4, 0, none⟩), .pointer (some ⟨q7, 0, none⟩), undef, u 6, u 7, .func (.func 96) #[] #[.pointer (some ⟨q4, 0, none⟩)], .slice (some ⟨qs, 0, none⟩) ps.length ps.length, iN .i64 ps.length, iN .i64 ps.length, .bool false, u 13, u 14, u 15, u 16, u 17, u 18, u 19, u 20, u 21, u 22, u 23, u 24, u 25, u 26, u 27, undef], mkd rs⟩ ?_
  refine wp_seq ?_
  refine zcf ?_
  refine wp_exit ?_
  repeat first | refine then_exit ?_ | refine block_exit ?_ | refine block_exit_ne (by decide) ?_
  refine zta ⟨#[.slice (some ⟨qs, 0, none⟩) ps.length ps.length, undef, .pointer (some ⟨q1, 0, none⟩), .pointer (some ⟨q4, 0, none⟩), .pointer (some ⟨q7, 0, none⟩), undef, u 6, u 7, .func (.func 96) #[] #[.pointer (some ⟨q4, 0, none⟩)], .slice (some ⟨qs, 0, none⟩) ps.length ps.length, iN .i64 ps.length, iN .i64 ps.length, .bool false, u 13, u 14, u 15, u 16, u 17, u 18, u 19, u 20, u 21, u 22, u 23, u 24, u 25, u 26, u 27, undef], mkd rs⟩ ?_
  refine wp_seq ?_
  refine wl_region ?_
  refine wl_load g1 1 rfl Tryz.underlying73 rfl info34 ?_
  refine wl_fillM (c' := el (mval ps)) g1 m1 2 rfl (by kernel_rfl) (by kernel_rfl) (by kernel_rfl) (el_sz _ _) info34 (one_cl _ _) ?_
  intro w19 (h20 : HA w [(q7, 120, #[.func (.func 96) #[] #[.pointer (some ⟨q4, 0, none⟩)]]), (q4, 73, el (mval ps)), (q1, 73, el (mval ps))] w19) m21
  refine wl_nil ?_
  refine zta ⟨#[.slice (some ⟨qs, 0, none⟩) ps.length ps.length, undef, .pointer (some ⟨q1, 0, none⟩), .pointer (some ⟨q4, 0, none⟩), .pointer (some ⟨q7, 0, none⟩), undef, u 6, u 7, .func (.func 96) #[] #[.pointer (some ⟨q4, 0, none⟩)], .slice (some ⟨qs, 0, none⟩) ps.length ps.length, iN .i64 ps.length, iN .i64 ps.length, .bool false, u 13, u 14, u 15, u 16, u 17, u 18, u 19, u 20, u 21, u 22, u 23, u 24, u 25, u 26, u 27, arr (mval ps)], mkd rs⟩ ?_
  refine wp_ret ?_
  exact leaves_marks (fun w9 h9 => ⟨arr (mval ps), res_cell (p := 2) (by kernel_rfl) (by kernel_rfl) (h9.get 2 rfl) Tryz.underlying73 rfl info34, rfl, h9.old⟩) rs _ h20 m21
end Go.Proofs.YtefjnfeckenmkaaGreatDoor.Sc
