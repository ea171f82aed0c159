/-
 The reference's table: find.
-/
import Derived.Test.YtihfeoanognonaaGreatT30
namespace Go.Proofs.YtihfeoanognonaaGreat
set_option linter.unusedVariables false
set_option maxRecDepth 100000
set_option maxHeartbeats 2000000
open Go.RowKit
structure Q4 where
 k : Nat
 n : Nat
 s : ByteArray
 ps : List Nat
instance : DecidableEq Q4 := fun a b => decidable_of_iff (a.k = b.k ∧ a.n = b.n ∧ a.s = b.s ∧ a.ps = b.ps) ⟨fun ⟨h1, h2, h3, h4⟩ => by cases a; cases b; simp_all, fun h => by rw [h]; exact ⟨rfl, rfl, rfl, rfl⟩⟩
theorem q4_eq (a b : Q4) : a = b ↔ a.k = b.k ∧ a.n = b.n ∧ a.s = b.s ∧ a.ps = b.ps := ⟨fun h => by rw [h]; exact ⟨rfl, rfl, rfl, rfl⟩, fun ⟨h1, h2, h3, h4⟩ => by cases a; cases b; simp_all⟩
def tcl : List Q4 → List (Option Addr × Nat) → List Value
 | q :: l, p :: pl => iN .i64 q.k :: iN .i64 q.n :: .string q.s :: .slice p.1 q.ps.length p.2 :: tcl l pl
 | _, _ => []
def RT (w : World) (v : Value) (l : List Q4) : Prop :=
 (v = .slice none 0 0 ∧ l = []) ∨ ∃ g cap cur pl, 0 < l.length ∧ v = .slice (some ⟨g, 0, none⟩) l.length cap ∧ Blk w g 74 cur ∧ pl.length = l.length ∧ cur.toList.take (l.length * 4) = tcl l pl ∧ ∀ (i : Nat) q p, l[i]? = some q → pl[i]? = some p → RI 0 w p.1 q.ps
theorem RT.keep {w w' : World} {v : Value} {l : List Q4} (h : RT w v l) (hb : Below w.heap.size w w') : RT w' v l := by
 rcases h with h | ⟨g, cap, cur, pl, h0, h1, h2, h3, h4, h5⟩
 ·exact .inl h
 ·exact .inr ⟨g, cap, cur, pl, h0, h1, h2.keep hb, h3, h4, fun i q p hq hp => (h5 i q p hq hp).keep hb⟩
theorem tcl_len : ∀ (l : List Q4) (pl : List (Option Addr × Nat)), pl.length = l.length → (tcl l pl).length = l.length * 4
 | [], [], _ => rfl
 | q :: l, p :: pl, h => by
  have := tcl_len l pl (by simpa using h)
  simp only [tcl, List.length_cons, this]
  omega
theorem tcl_get : ∀ (l : List Q4) (pl : List (Option Addr × Nat)) (i : Nat) (q : Q4) (p : Option Addr × Nat), l[i]? = some q → pl[i]? = some p → ∀ j, j < 4 → (tcl l pl)[4 * i + j]? = (tmc q.k q.n q.s p.1 q.ps.length p.2)[j]?
 | [], _, i, _, _, h, _, _, _ => by simp at h
 | _ :: _, [], i, _, _, _, h, _, _ => by simp at h
 | a :: l, b :: pl, 0, q, p, h, h', j, hj => by
  simp only [List.getElem?_cons_zero, Option.some.injEq] at h h'
  subst h h'
  match j, hj with
  | 0, _ => rfl
  | 1, _ => rfl
  | 2, _ => rfl
  | 3, _ => rfl
 | a :: l, b :: pl, i + 1, q, p, h, h', j, hj => by
  have := tcl_get l pl i q p (by simpa using h) (by simpa using h') j hj
  rw [show 4 * (i + 1) + j = (4 * i + j) + 4 by omega]
  simpa [tcl] using this
theorem RT.at {w : World} {v : Value} {l : List Q4} (h : RT w v l) {i : Nat} (hi : i < l.length) : ∃ g cap cur o c, v = .slice (some ⟨g, 0, none⟩) l.length cap ∧ Blk w g 74 cur ∧ (∀ j u, (tmc l[i].k l[i].n l[i].s o l[i].ps.length c)[j]? = some u → cur[4 * i + j]? = some u) ∧ RI 0 w o l[i].ps := by
 rcases h with ⟨_, rfl⟩ | ⟨g, cap, cur, pl, _, h1, h2, h3, h4, h5⟩
 ·simp at hi
 ·have hq : l[i]? = some l[i] := List.getElem?_eq_getElem hi
  have hp : pl[i]? = some pl[i] := List.getElem?_eq_getElem (by omega)
  refine ⟨g, cap, cur, pl[i].1, pl[i].2, h1, h2, fun j u hu => ?_, h5 i _ _ hq hp⟩
  have hj : j < 4 := (Array.getElem?_eq_some_iff.1 hu).1
  rw [← hu, ← tcl_get l pl i _ _ hq hp j hj, ← h4, List.getElem?_take, if_pos (by omega)]
  simp
theorem RT.form {w : World} {v : Value} {l : List Q4} (h : RT w v l) : ∃ o c, v = .slice o l.length c := by
 rcases h with ⟨h, rfl⟩ | ⟨g, cap, cur, pl, _, h1, _⟩
 ·exact ⟨_, _, h⟩
 ·exact ⟨_, _, h1⟩
def fdI (l : List Q4) (x : Q4) : Int := match l.idxOf? x with | some i => i | none => -1
section
variable {ρ : Operand → Value} {x y : Operand} {w : World} {dst : Option Tmp} {T T2 ty : TypeId} {pos : String} {aft : Array Edge} {gd : Option (Nat × Bool)}
theorem run_addr24 {q n m a : Nat}   (ha : a < n) (hx : ρ x = .slice (some ⟨q, 0, none⟩) n m := by kernel_rfl) (hy : ρ y = iN .i64 a := by kernel_rfl) : (execOp ρ ⟨dst, .indexAddr 25 x y, ty, pos, aft, gd⟩).run Tryz.prog w = .ok (.value (.pointer (some ⟨q, 4 * a, none⟩))) w := by
 simp only [execOp, hx, hy, iN]
 go_simp
end
theorem idxOf_at {l : List Q4} {x : Q4} {i : Nat} (hi : i < l.length) (h : l[i] = x) (hno : ∀ j (hj : j < l.length), j < i → l[j] ≠ x) : l.idxOf? x = some i := by
 rw [List.idxOf?, List.findIdx?_eq_some_iff_getElem]
 exact ⟨hi, by simpa using h, fun j hj => by simpa using hno j (by omega) hj⟩
theorem idxOf_none {l : List Q4} {x : Q4} (hno : ∀ j (hj : j < l.length), l[j] ≠ x) : l.idxOf? x = none := by
 rw [List.idxOf?, List.findIdx?_eq_none_iff]
 intro y hy
 obtain ⟨j, hj, rfl⟩ := List.getElem_of_mem hy
 simpa using hno j hj
theorem find_0 {w : World} (x : Q4) (o : Option Addr) (c : Nat) :
  Calls Tryz.prog 49 #[.agg #[.slice none 0 0], tmv x.k x.n x.s o x.ps.length c] w fun e w' => e = .returned (.int .i64 (-1)) ∧ Below w.heap.size w w' := by
 have H0 := HA.start w
 go_enter Tryz.func49, Tryz.ntmps49
 refine zsr ?_
 refine wl_make (c := #[.slice none 0 0]) H0 27 ?_
 intro q1 w2 (h3 : HA (bs w) [(q1, 27, #[.slice none 0 0])] w2)
 refine wl_make (c := #[iN .i64 x.k, iN .i64 x.n, .string x.s, .slice o x.ps.length c]) h3 74 ?_
 intro q4 w5 (h6 : HA (bs w) [(q4, 74, #[iN .i64 x.k, iN .i64 x.n, .string x.s, .slice o x.ps.length c]), (q1, 27, #[.slice none 0 0])] w5)
 refine zwv (iN .i64 0) ?_
 refine znt ?_
 refine wp_seq ?_
 refine zsr ?_
 refine zwv (iN .i64 0) ?_
 refine znt ?_
 refine wp_block ?_
 refine wp_loop_rounds 2 ?_
 try rw [rounds_succ]
 refine wp_seq ?_
 refine zsr ?_
 refine zwv (iN .i64 0) ?_
 refine zwv (.pointer (some ⟨q1, 0, none⟩)) ?_
 refine zwu (v := .slice none 0 0) (run_load1 Tryz.isAgg25 (((h6.get 1 rfl).cell 0).trans rfl)) ?_
 refine zwv (iN .i64 0) ?_
 refine zwu (run_lss (k := .i64) (a := 0) (b := 0) false (by decide)) ?_
 refine znt ?_
 refine zcf ?_
 refine wp_exit ?_
 repeat first | refine then_exit ?_ | refine block_exit ?_ | refine block_exit_ne (by decide) ?_
 refine then_at rfl ?_
 refine zsr ?_
 refine zwv (.int .i64 (-1)) ?_
 refine znt ?_
 refine wp_ret ?_
 repeat first | refine then_ret ?_ | refine block_ret ?_
 exact bodyPost_ret (by kernel_rfl) rfl ⟨rfl, h6.old.old⟩
theorem find_p {w : World} {g cap : Nat} {cur : Array Value} {l : List Q4} (hg : Blk w g 74 cur) (hat : (∀ i (hi : i < l.length), ∃ oi ci, (∀ j u, (tmc l[i].k l[i].n l[i].s oi l[i].ps.length ci)[j]? = some u → cur[4 * i + j]? = some u) ∧ RI 0 w oi l[i].ps)) (hl : ∀ q ∈ l, q.ps.length ≤ 1000) (hll : l.length ≤ 1000000) (x : Q4) {o : Option Addr} {c : Nat} (r2 : RI 0 w o x.ps) :
  Calls Tryz.prog 49 #[.agg #[.slice (some ⟨g, 0, none⟩) l.length cap], tmv x.k x.n x.s o x.ps.length c] w fun e w' => e = .returned (.int .i64 (fdI l x)) ∧ Below w.heap.size w w' := by
 have H0 := HA.start w
 go_enter Tryz.func49, Tryz.ntmps49
 refine zsr ?_
 refine wl_make (c := #[.slice (some ⟨g, 0, none⟩) l.length cap]) H0 27 ?_
 intro q1 w2 (h3 : HA (bs w) [(q1, 27, #[.slice (some ⟨g, 0, none⟩) l.length cap])] w2)
 refine wl_make (c := #[iN .i64 x.k, iN .i64 x.n, .string x.s, .slice o x.ps.length c]) h3 74 ?_
 intro q4 w5 (h6 : HA (bs w) [(q4, 74, #[iN .i64 x.k, iN .i64 x.n, .string x.s, .slice o x.ps.length c]), (q1, 27, #[.slice (some ⟨g, 0, none⟩) l.length cap])] w5)
 refine zwv (iN .i64 0) ?_
 refine znt ?_
 refine wp_seq ?_
 refine zsr ?_
 refine zwv (iN .i64 0) ?_
 refine znt ?_
 refine wp_block ?_
 refine wp_count (fun i A w' => ∃ u7 : Nat → Value, A = ⟨(.agg #[.slice (some ⟨g, 0, none⟩) l.length cap] :: .agg #[iN .i64 x.k, iN .i64 x.n, .string x.s, .slice o x.ps.length c] :: pt q1 :: pt q4 :: u7 4 :: iN .i64 i :: u7 6 :: u7 7 :: u7 8 :: u7 9 :: u7 10 :: u7 11 :: u7 12 :: u7 13 :: u7 14 :: u7 15 :: u7 16 :: u7 17 :: u7 18 :: u7 19 :: u7 20 :: List.replicate 0 un).toArray, []⟩ ∧ HA (bs w) [(q4, 74, #[iN .i64 x.k, iN .i64 x.n, .string x.s, .slice o x.ps.length c]), (q1, 27, #[.slice (some ⟨g, 0, none⟩) l.length cap])] w' ∧ (∀ j (hj : j < l.length), j < i → l[j] ≠ x)) l.length ?_ ?_ ?_
 ·exact zex ⟨h6, (fun j hj hj2 => absurd hj2 (by omega))⟩
 ·rintro i hi _ w8 ⟨u7, rfl, h9, hpre⟩
  refine wp_seq ?_
  refine zsr ?_
  refine zwv (iN .i64 i) ?_
  refine zwv (.pointer (some ⟨q1, 0, none⟩)) ?_
  refine zwu (v := .slice (some ⟨g, 0, none⟩) l.length cap) (run_load1 Tryz.isAgg25 (((h9.get 1 rfl).cell 0).trans rfl)) ?_
  refine zwv (iN .i64 l.length) ?_
  refine zwu (run_lss (k := .i64) (a := i) (b := l.length) true (decide_eq_true (by omega))) ?_
  refine znt ?_
  refine zct ?_
  refine wp_skip ?_
  refine then_at rfl ?_
  refine wp_seq ?_
  refine wp_block ?_
  refine wp_seq ?_
  obtain ⟨oi, ci, hcells, hri⟩ := hat i hi
  by_cases hx : l[i] = x
  ·refine zrs ⟨(.agg #[.slice (some ⟨g, 0, none⟩) l.length cap] :: .agg #[iN .i64 x.k, iN .i64 x.n, .string x.s, .slice o x.ps.length c] :: pt q1 :: pt q4 :: u7 4 :: iN .i64 i :: iN .i64 i :: pt q1 :: .slice (some ⟨g, 0, none⟩) l.length cap :: iN .i64 l.length :: .bool true :: u7 11 :: u7 12 :: pt q1 :: .slice (some ⟨g, 0, none⟩) l.length cap :: iN .i64 i :: .pointer (some ⟨g, 4 * i, none⟩) :: .agg (tmc l[i].k l[i].n l[i].s oi l[i].ps.length ci) :: .agg (#[iN .i64 x.k, iN .i64 x.n, .string x.s, .slice o x.ps.length c]) :: .bool true :: u7 20 :: List.replicate 0 un).toArray, []⟩ (HA (bs w) [(q4, 74, #[iN .i64 x.k, iN .i64 x.n, .string x.s, .slice o x.ps.length c]), (q1, 27, #[.slice (some ⟨g, 0, none⟩) l.length cap])]) h9.drew ?_ ?_
   ·refine zsp (.pointer (some ⟨q1, 0, none⟩)) ?_
    refine zst (v := .slice (some ⟨g, 0, none⟩) l.length cap) (fun w' h' => run_load1 Tryz.isAgg25 (((h'.get 1 rfl).cell 0).trans rfl)) ?_
    refine zsp (iN .i64 i) ?_
    refine zst (v := .pointer (some ⟨g, 4 * i, none⟩)) (fun _ _ => (run_addr24 (n := l.length) (m := cap) (a := i) (by omega))) ?_
    refine zst (v := .agg (tmc l[i].k l[i].n l[i].s oi l[i].ps.length ci)) (fun w' h' => run_part (hg.keep h'.old.old) hcells Tryz.underlying74 rfl) ?_
    refine zst (v := .agg (#[iN .i64 x.k, iN .i64 x.n, .string x.s, .slice o x.ps.length c])) (fun _ h => run_load_blk (h.get 0 rfl) Tryz.underlying74 rfl) ?_
    refine AllSure.cons (sure_call (v := .bool true) (by kernel_rfl) (by kernel_rfl) enter63 HA.keep #[.agg (tmc l[i].k l[i].n l[i].s oi l[i].ps.length ci), .agg (#[iN .i64 x.k, iN .i64 x.n, .string x.s, .slice o x.ps.length c])] (by kernel_rfl) (fun w' h' => by have := same_any (k := l[i].k) (n := l[i].n) (s := l[i].s) (c := ci) (k2 := x.k) (n2 := x.n) (s2 := x.s) (c2 := c) (hri.keep h'.old.old) (r2.keep h'.old.old) (hl _ (List.getElem_mem hi)); rw [decide_eq_true ((q4_eq _ _).1 hx)] at this; exact this)) ?_
    exact AllSure.nil
   intro w10 h11
   refine then_at rfl ?_
   refine zct ?_
   refine zsr ?_
   refine zwv (iN .i64 i) ?_
   refine zwv (iN .i64 i) ?_
   refine znt ?_
   refine wp_ret ?_
   repeat first | refine then_ret ?_ | refine block_ret ?_
   exact bodyPost_ret (v := iN .i64 i) (by kernel_rfl) rfl ⟨by rw [fdI, idxOf_at hi hx hpre]; rfl, h11.old.old⟩
  ·refine zrs ⟨(.agg #[.slice (some ⟨g, 0, none⟩) l.length cap] :: .agg #[iN .i64 x.k, iN .i64 x.n, .string x.s, .slice o x.ps.length c] :: pt q1 :: pt q4 :: u7 4 :: iN .i64 i :: iN .i64 i :: pt q1 :: .slice (some ⟨g, 0, none⟩) l.length cap :: iN .i64 l.length :: .bool true :: u7 11 :: u7 12 :: pt q1 :: .slice (some ⟨g, 0, none⟩) l.length cap :: iN .i64 i :: .pointer (some ⟨g, 4 * i, none⟩) :: .agg (tmc l[i].k l[i].n l[i].s oi l[i].ps.length ci) :: .agg (#[iN .i64 x.k, iN .i64 x.n, .string x.s, .slice o x.ps.length c]) :: .bool false :: u7 20 :: List.replicate 0 un).toArray, []⟩ (HA (bs w) [(q4, 74, #[iN .i64 x.k, iN .i64 x.n, .string x.s, .slice o x.ps.length c]), (q1, 27, #[.slice (some ⟨g, 0, none⟩) l.length cap])]) h9.drew ?_ ?_
   ·refine zsp (.pointer (some ⟨q1, 0, none⟩)) ?_
    refine zst (v := .slice (some ⟨g, 0, none⟩) l.length cap) (fun w' h' => run_load1 Tryz.isAgg25 (((h'.get 1 rfl).cell 0).trans rfl)) ?_
    refine zsp (iN .i64 i) ?_
    refine zst (v := .pointer (some ⟨g, 4 * i, none⟩)) (fun _ _ => (run_addr24 (n := l.length) (m := cap) (a := i) (by omega))) ?_
    refine zst (v := .agg (tmc l[i].k l[i].n l[i].s oi l[i].ps.length ci)) (fun w' h' => run_part (hg.keep h'.old.old) hcells Tryz.underlying74 rfl) ?_
    refine zst (v := .agg (#[iN .i64 x.k, iN .i64 x.n, .string x.s, .slice o x.ps.length c])) (fun _ h => run_load_blk (h.get 0 rfl) Tryz.underlying74 rfl) ?_
    refine AllSure.cons (sure_call (v := .bool false) (by kernel_rfl) (by kernel_rfl) enter63 HA.keep #[.agg (tmc l[i].k l[i].n l[i].s oi l[i].ps.length ci), .agg (#[iN .i64 x.k, iN .i64 x.n, .string x.s, .slice o x.ps.length c])] (by kernel_rfl) (fun w' h' => by have := same_any (k := l[i].k) (n := l[i].n) (s := l[i].s) (c := ci) (k2 := x.k) (n2 := x.n) (s2 := x.s) (c2 := c) (hri.keep h'.old.old) (r2.keep h'.old.old) (hl _ (List.getElem_mem hi)); rw [decide_eq_false (fun e => hx ((q4_eq _ _).2 e))] at this; exact this)) ?_
    exact AllSure.nil
   intro w12 h13
   refine then_at rfl ?_
   refine zcf ?_
   refine wp_skip ?_
   refine block_normal ?_
   refine then_at rfl ?_
   refine wl_region ?_
   refine zwv (iN .i64 i) ?_
   refine zwu (run_add (k := .i64) (a := i) (b := 1) (by simp only [top]; omega)) ?_
   refine zwv (iN .i64 (i + 1)) ?_
   refine wl_nil ?_
   exact then_I (zex ⟨h13, (fun j hj hj2 => by rcases Nat.lt_succ_iff_lt_or_eq.1 hj2 with h | h; exact hpre j hj h; subst h; exact hx)⟩)
 ·rintro _ w14 ⟨u7, rfl, h15, hpre⟩
  refine wp_seq ?_
  refine zsr ?_
  refine zwv (iN .i64 l.length) ?_
  refine zwv (.pointer (some ⟨q1, 0, none⟩)) ?_
  refine zwu (v := .slice (some ⟨g, 0, none⟩) l.length cap) (run_load1 Tryz.isAgg25 (((h15.get 1 rfl).cell 0).trans rfl)) ?_
  refine zwv (iN .i64 l.length) ?_
  refine zwu (run_lss (k := .i64) (a := l.length) (b := l.length) false (decide_eq_false (by omega))) ?_
  refine znt ?_
  refine zcf ?_
  refine wp_exit ?_
  repeat first | refine then_exit ?_ | refine block_exit ?_ | refine block_exit_ne (by decide) ?_
  refine then_at rfl ?_
  refine zsr ?_
  refine zwv (.int .i64 (-1)) ?_
  refine znt ?_
  refine wp_ret ?_
  repeat first | refine then_ret ?_ | refine block_ret ?_
  exact bodyPost_ret (v := .int .i64 (-1)) (by kernel_rfl) rfl ⟨by rw [fdI, idxOf_none (fun j hj => hpre j hj hj)], h15.old.old⟩
theorem find_any {w : World} {v : Value} {l : List Q4} (h : RT w v l) (hl : ∀ q ∈ l, q.ps.length ≤ 1000) (hll : l.length ≤ 1000000) (x : Q4) {o : Option Addr} {c : Nat} (r2 : RI 0 w o x.ps) :
  Calls Tryz.prog 49 #[.agg #[v], tmv x.k x.n x.s o x.ps.length c] w fun e w' => e = .returned (.int .i64 (fdI l x)) ∧ Below w.heap.size w w' := by
 rcases h with ⟨rfl, rfl⟩ | ⟨g, cap, cur, pl, h0, rfl, h2, h3, h4, h5⟩
 ·exact find_0 x o c
 ·refine find_p h2 (fun i hi => ?_) hl hll x r2
  obtain ⟨g', cap', cur', oi, ci, e1, e2, e3, e4⟩ := RT.at (.inr ⟨g, cap, cur, pl, h0, rfl, h2, h3, h4, h5⟩) hi
  cases e1
  obtain ⟨f1, e5, _⟩ := e2
  obtain ⟨f2, e6, _⟩ := h2
  rw [e5] at e6
  cases e6
  exact ⟨oi, ci, e3, e4⟩
end Go.Proofs.YtihfeoanognonaaGreat

namespace Go.Proofs.YtihfeoanognonaaGreat
open Go.RowKit
theorem info31 : (Tryz.prog.info? 74).map (fun i => (i.zero, i.size, i.bytes)) = some (some (.agg #[.int .i64 0, .int .i64 0, .string { data := #[] }, .slice none 0 0]), 4, 56) := by kernel_rfl
section
variable {ops : Array Oper} {Q : Exit → Act → World → Prop} {a : Act} {rest : List Oper} {w : World} {z : Base} {Lr L : BL} {dst : Option Tmp} {ty : TypeId} {pos : String} {aft : Array Edge} {gd : Option (Nat × Bool)}
theorem wl_appendR {e t : TypeId} {sz n m c p : Nat} {v : Value} {xs news : List Value} {x y : Operand} (hR : Row e sz v n xs Lr) (H : HA z (Lr ++ L) w) (he : e ≠ 5) (zv : Value) (bytes : Nat)
  (ht : Tryz.prog.underlying t = some (.slice e)) (hi : (Tryz.prog.info? e).map (fun i => (i.zero, i.size, i.bytes)) = some (some zv, sz, bytes)) (hzs : zv.cells.size = sz) (hsz : 0 < sz)
  (hw : Region.wanted ⟨dst, .call { callee := .builtin .append, args := #[x, y], argTypes := #[t, t] }, ty, pos, aft, gd⟩ (yielded ops a.tmps) = true)
  (hx : a.eval x = v) (hy : a.eval y = .slice (some ⟨p, 0, none⟩) m c) (hl : news.length = m * sz) (hn : ∀ j u, news[j]? = some u → w.cell? ⟨p, j, none⟩ = some u) (h1 : ∀ u ∈ news, u.oneCell' = true) (h63 : n + m ≤ maxLen) (hbytes : (n + m) * bytes ≤ 140737488355328) (hm : 0 < m)
  (h : ∀ v' w' Lr', Row e sz v' (n + m) (xs ++ news) Lr' → HA z (Lr' ++ L) w' → WL Tryz.prog ops Q rest (a.put dst v') w') :
  WL Tryz.prog ops Q (⟨dst, .call { callee := .builtin .append, args := #[x, y], argTypes := #[t, t] }, ty, pos, aft, gd⟩ :: rest) a w := by
 obtain ⟨i, hi, hh⟩ := Option.map_eq_some_iff.1 hi
 simp only [Prod.mk.injEq] at hh
 obtain ⟨v', w', Lr', hrun, hR', H'⟩ := hR.append H he t ty i zv bytes ht hi hh.1 hh.2.1 hh.2.2 hzs hsz ⟨p, 0, none⟩ m c news hl (fun j u hu => by
  have hadd : (⟨p, 0, none⟩ : Addr).add j = ⟨p, j, none⟩ := by unfold Addr.add; split <;> simp_all
  rw [hadd]
  exact hn j u hu) h1 h63 hbytes hm
 refine wl_any hw ?_ (h v' w' Lr' hR' H')
 unfold execOp
 simp only [resolve, invoke, builtin, Sem.run_bind, Sem.run_pure, Result.andThen_ok, List.map_toArray, List.map_cons, List.map_nil, hx, hy, hrun]
end
theorem tcl_one : ∀ (l : List Q4) (pl : List (Option Addr × Nat)), ∀ u ∈ tcl l pl, u.oneCell' = true
 | [], _, u, h => by simp [tcl] at h
 | _ :: _, [], u, h => by simp [tcl] at h
 | q :: l, p :: pl, u, h => by
  simp only [tcl, List.mem_cons] at h
  rcases h with rfl | rfl | rfl | rfl | h
  ·rfl
  ·rfl
  ·rfl
  ·rfl
  ·exact tcl_one l pl u h
theorem tcl_snoc : ∀ (l : List Q4) (pl : List (Option Addr × Nat)) (q : Q4) (p : Option Addr × Nat), pl.length = l.length → tcl (l ++ [q]) (pl ++ [p]) = tcl l pl ++ (tmc q.k q.n q.s p.1 q.ps.length p.2).toList
 | [], [], _, _, _ => rfl
 | a :: l, b :: pl, q, p, h => by
  have := tcl_snoc l pl q p (by simpa using h)
  simp only [List.cons_append, tcl, this]
def putL (l : List Q4) (x : Q4) : List Q4 := match l.idxOf? x with | some _ => l | none => l ++ [x]
def putN (l : List Q4) (x : Q4) : Nat := match l.idxOf? x with | some i => i | none => l.length
theorem tcl_cell {w w' : World} {g : Nat} {cur : Array Value} {l : List Q4} {pl : List (Option Addr × Nat)} (hb : Below w.heap.size w w') (hg : Blk w g 74 cur) (hcur : cur.toList.take (l.length * 4) = tcl l pl) (hp : pl.length = l.length) (j : Nat) (u : Value) (hu : (tcl l pl)[j]? = some u) : w'.cell? ⟨g, j, none⟩ = some u := by
 rw [(hg.keep hb).cell j]
 have hj : j < l.length * 4 := by rw [← tcl_len l pl hp]; exact (List.getElem?_eq_some_iff.1 hu).1
 rw [← hcur, List.getElem?_take, if_pos hj] at hu
 simpa using hu
end Go.Proofs.YtihfeoanognonaaGreat

namespace Go.Proofs.YtihfeoanognonaaGreat
set_option linter.unusedVariables false
set_option maxRecDepth 100000
set_option maxHeartbeats 2000000
open Go.RowKit
def oneB (b : UInt8) : ByteArray := ⟨#[b]⟩
def tS1 (n : Nat) : ByteArray := hdS ++ oneB (UInt8.ofNat (n / 2 ^ 24))
def tS2 (n : Nat) : ByteArray := tS1 n ++ oneB (UInt8.ofNat (n / 2 ^ 16))
def tS3 (n : Nat) : ByteArray := tS2 n ++ oneB (UInt8.ofNat (n / 2 ^ 8))
def tS4 (n : Nat) : ByteArray := tS3 n ++ oneB (UInt8.ofNat (n / 2 ^ 0))
theorem oneB_size (b : UInt8) : (oneB b).size = 1 := rfl
theorem tS1_size (n : Nat) : (tS1 n).size = 5 := by unfold tS1; rw [ByteArray.size_append]; rfl
theorem tS2_size (n : Nat) : (tS2 n).size = 6 := by unfold tS2; rw [ByteArray.size_append, tS1_size]; rfl
theorem tS3_size (n : Nat) : (tS3 n).size = 7 := by unfold tS3; rw [ByteArray.size_append, tS2_size]; rfl
theorem bl_app (s t : ByteArray) : bl (s ++ t) = bl s ++ bl t := by simp [bl]
theorem tS4_txt (n : Nat) : tS4 n = txt n := by
 apply bl_inj
 show bl (tS4 n) = p4 hdS n
 unfold tS4 tS3 tS2 tS1 p4
 rw [bl_app, bl_app, bl_app, bl_app]
 rfl
theorem rput_any (n : Nat) (hn : n < 18446744073709551616) (w : World) :
  Calls Tryz.prog 50 #[.string hdS, iN .i64 4, iN .u64 n] w fun e w' => e = .returned (.string (txt n)) ∧ Below w.heap.size w w' := by
 have H0 := HA.start w
 go_enter Tryz.func50, Tryz.ntmps50
 refine zsr ?_
 refine zwv (.string ({ data := #[] })) ?_
 refine znt ?_
 refine wp_seq ?_
 refine zsr ?_
 refine zwv (iN .i64 4) ?_
 refine zwu (run_lss (k := .i64) (a := 4) (b := 1) false (by decide)) ?_
 refine znt ?_
 refine zcf ?_
 refine wp_skip ?_
 refine then_at rfl ?_
 refine wp_seq ?_
 refine zsr ?_
 refine zwv (iN .i64 4) ?_
 refine zwu (run_gtr (k := .i64) (a := 4) (b := 8) false (by decide)) ?_
 refine znt ?_
 refine zcf ?_
 refine wp_skip ?_
 refine then_at rfl ?_
 refine wp_seq ?_
 refine zsr ?_
 refine zwv (iN .i64 4) ?_
 refine zwv (iN .i64 3) ?_
 refine zwv (iN .i64 3) ?_
 refine znt ?_
 refine wp_block ?_
 refine wp_loop_rounds 5 ?_
 try rw [rounds_succ]
 refine wp_seq ?_
 refine zsr ?_
 refine zwv (iN .i64 3) ?_
 refine zwu (run_geq (k := .i64) (a := 3) (b := 0) true (by decide)) ?_
 refine znt ?_
 refine zct ?_
 refine wp_skip ?_
 refine then_at rfl ?_
 refine wp_seq ?_
 refine wp_block ?_
 refine wl_region ?_
 refine zwv (.string hdS) ?_
 refine zwv (iN .u64 n) ?_
 refine zwv (iN .i64 3) ?_
 refine zwv (iN .i64 24) ?_
 refine zwu (run_shrn (k2 := .i64) (a := n) (b := 24) hn) ?_
 refine zwu (run_lown (k := .u64) (a := n / 2 ^ 24) (by kernel_rfl) Tryz.underlying105 Tryz.underlying5) ?_
 refine wl_mks (n := 1) (m := 1) (c := bc [UInt8.ofNat (n / 2 ^ 24)]) H0 5 ?_
 intro q1 w2 (h3 : HA (bs w) [(q1, 5, bc [UInt8.ofNat (n / 2 ^ 24)])] w2)
 refine zwu (v := .string (oneB (UInt8.ofNat (n / 2 ^ 24)))) (run_text (q := q1) (m := 1) (c := 1) (l := [UInt8.ofNat (n / 2 ^ 24)]) (by kernel_rfl) (h3.get 0 rfl) (Nat.le_refl _)) ?_
 refine zwu (v := .string (tS1 n)) (run_cat (s := hdS) (t := oneB (UInt8.ofNat (n / 2 ^ 24))) (by rw [oneB_size]; decide)) ?_
 refine zwv (.string (tS1 n)) ?_
 refine wl_nil ?_
 refine block_normal ?_
 refine then_at rfl ?_
 refine wl_region ?_
 refine zwv (iN .i64 3) ?_
 refine zwv (iN .i64 2) ?_
 refine zwv (iN .i64 2) ?_
 refine wl_nil ?_
 refine zta ⟨(.string (tS1 n) :: iN .i64 4 :: iN .u64 n :: un :: un :: un :: .string ({ data := #[] }) :: iN .i64 2 :: iN .i64 4 :: .bool false :: iN .i64 4 :: .bool false :: iN .i64 4 :: iN .i64 3 :: iN .i64 3 :: .bool true :: iN .i64 3 :: iN .i64 2 :: .string hdS :: iN .u64 n :: iN .i64 3 :: iN .i64 24 :: iN .u64 (n / 2 ^ 24) :: by8 (UInt8.ofNat (n / 2 ^ 24)) :: .slice (some ⟨q1, 0, none⟩) 1 1 :: .string (oneB (UInt8.ofNat (n / 2 ^ 24))) :: .string (tS1 n) :: List.replicate 1 un).toArray, []⟩ ?_
 try rw [rounds_succ]
 refine wp_seq ?_
 refine zsr ?_
 refine zwv (iN .i64 2) ?_
 refine zwu (run_geq (k := .i64) (a := 2) (b := 0) true (by decide)) ?_
 refine znt ?_
 refine zct ?_
 refine wp_skip ?_
 refine then_at rfl ?_
 refine wp_seq ?_
 refine wp_block ?_
 refine wl_region ?_
 refine zwv (.string (tS1 n)) ?_
 refine zwv (iN .u64 n) ?_
 refine zwv (iN .i64 2) ?_
 refine zwv (iN .i64 16) ?_
 refine zwu (run_shrn (k2 := .i64) (a := n) (b := 16) hn) ?_
 refine zwu (run_lown (k := .u64) (a := n / 2 ^ 16) (by kernel_rfl) Tryz.underlying105 Tryz.underlying5) ?_
 refine wl_mks (n := 1) (m := 1) (c := bc [UInt8.ofNat (n / 2 ^ 16)]) h3 5 ?_
 intro q4 w5 (h6 : HA (bs w) [(q4, 5, bc [UInt8.ofNat (n / 2 ^ 16)]), (q1, 5, bc [UInt8.ofNat (n / 2 ^ 24)])] w5)
 refine zwu (v := .string (oneB (UInt8.ofNat (n / 2 ^ 16)))) (run_text (q := q4) (m := 1) (c := 1) (l := [UInt8.ofNat (n / 2 ^ 16)]) (by kernel_rfl) (h6.get 0 rfl) (Nat.le_refl _)) ?_
 refine zwu (v := .string (tS2 n)) (run_cat (s := tS1 n) (t := oneB (UInt8.ofNat (n / 2 ^ 16))) (by rw [tS1_size, oneB_size]; decide)) ?_
 refine zwv (.string (tS2 n)) ?_
 refine wl_nil ?_
 refine block_normal ?_
 refine then_at rfl ?_
 refine wl_region ?_
 refine zwv (iN .i64 2) ?_
 refine zwv (iN .i64 1) ?_
 refine zwv (iN .i64 1) ?_
 refine wl_nil ?_
 refine zta ⟨(.string (tS2 n) :: iN .i64 4 :: iN .u64 n :: un :: un :: un :: .string ({ data := #[] }) :: iN .i64 1 :: iN .i64 4 :: .bool false :: iN .i64 4 :: .bool false :: iN .i64 4 :: iN .i64 3 :: iN .i64 2 :: .bool true :: iN .i64 2 :: iN .i64 1 :: .string (tS1 n) :: iN .u64 n :: iN .i64 2 :: iN .i64 16 :: iN .u64 (n / 2 ^ 16) :: by8 (UInt8.ofNat (n / 2 ^ 16)) :: .slice (some ⟨q4, 0, none⟩) 1 1 :: .string (oneB (UInt8.ofNat (n / 2 ^ 16))) :: .string (tS2 n) :: List.replicate 1 un).toArray, []⟩ ?_
 try rw [rounds_succ]
 refine wp_seq ?_
 refine zsr ?_
 refine zwv (iN .i64 1) ?_
 refine zwu (run_geq (k := .i64) (a := 1) (b := 0) true (by decide)) ?_
 refine znt ?_
 refine zct ?_
 refine wp_skip ?_
 refine then_at rfl ?_
 refine wp_seq ?_
 refine wp_block ?_
 refine wl_region ?_
 refine zwv (.string (tS2 n)) ?_
 refine zwv (iN .u64 n) ?_
 refine zwv (iN .i64 1) ?_
 refine zwv (iN .i64 8) ?_
 refine zwu (run_shrn (k2 := .i64) (a := n) (b := 8) hn) ?_
 refine zwu (run_lown (k := .u64) (a := n / 2 ^ 8) (by kernel_rfl) Tryz.underlying105 Tryz.underlying5) ?_
 refine wl_mks (n := 1) (m := 1) (c := bc [UInt8.ofNat (n / 2 ^ 8)]) h6 5 ?_
 intro q7 w8 (h9 : HA (bs w) [(q7, 5, bc [UInt8.ofNat (n / 2 ^ 8)]), (q4, 5, bc [UInt8.ofNat (n / 2 ^ 16)]), (q1, 5, bc [UInt8.ofNat (n / 2 ^ 24)])] w8)
 refine zwu (v := .string (oneB (UInt8.ofNat (n / 2 ^ 8)))) (run_text (q := q7) (m := 1) (c := 1) (l := [UInt8.ofNat (n / 2 ^ 8)]) (by kernel_rfl) (h9.get 0 rfl) (Nat.le_refl _)) ?_
 refine zwu (v := .string (tS3 n)) (run_cat (s := tS2 n) (t := oneB (UInt8.ofNat (n / 2 ^ 8))) (by rw [tS2_size, oneB_size]; decide)) ?_
 refine zwv (.string (tS3 n)) ?_
 refine wl_nil ?_
 refine block_normal ?_
 refine then_at rfl ?_
 refine wl_region ?_
 refine zwv (iN .i64 1) ?_
 refine zwv (iN .i64 0) ?_
 refine zwv (iN .i64 0) ?_
 refine wl_nil ?_
 refine zta ⟨(.string (tS3 n) :: iN .i64 4 :: iN .u64 n :: un :: un :: un :: .string ({ data := #[] }) :: iN .i64 0 :: iN .i64 4 :: .bool false :: iN .i64 4 :: .bool false :: iN .i64 4 :: iN .i64 3 :: iN .i64 1 :: .bool true :: iN .i64 1 :: iN .i64 0 :: .string (tS2 n) :: iN .u64 n :: iN .i64 1 :: iN .i64 8 :: iN .u64 (n / 2 ^ 8) :: by8 (UInt8.ofNat (n / 2 ^ 8)) :: .slice (some ⟨q7, 0, none⟩) 1 1 :: .string (oneB (UInt8.ofNat (n / 2 ^ 8))) :: .string (tS3 n) :: List.replicate 1 un).toArray, []⟩ ?_
 try rw [rounds_succ]
 refine wp_seq ?_
 refine zsr ?_
 refine zwv (iN .i64 0) ?_
 refine zwu (run_geq (k := .i64) (a := 0) (b := 0) true (by decide)) ?_
 refine znt ?_
 refine zct ?_
 refine wp_skip ?_
 refine then_at rfl ?_
 refine wp_seq ?_
 refine wp_block ?_
 refine wl_region ?_
 refine zwv (.string (tS3 n)) ?_
 refine zwv (iN .u64 n) ?_
 refine zwv (iN .i64 0) ?_
 refine zwv (iN .i64 0) ?_
 refine zwu (run_shrn (k2 := .i64) (a := n) (b := 0) hn) ?_
 refine zwu (run_lown (k := .u64) (a := n / 2 ^ 0) (by kernel_rfl) Tryz.underlying105 Tryz.underlying5) ?_
 refine wl_mks (n := 1) (m := 1) (c := bc [UInt8.ofNat (n / 2 ^ 0)]) h9 5 ?_
 intro q10 w11 (h12 : HA (bs w) [(q10, 5, bc [UInt8.ofNat (n / 2 ^ 0)]), (q7, 5, bc [UInt8.ofNat (n / 2 ^ 8)]), (q4, 5, bc [UInt8.ofNat (n / 2 ^ 16)]), (q1, 5, bc [UInt8.ofNat (n / 2 ^ 24)])] w11)
 refine zwu (v := .string (oneB (UInt8.ofNat (n / 2 ^ 0)))) (run_text (q := q10) (m := 1) (c := 1) (l := [UInt8.ofNat (n / 2 ^ 0)]) (by kernel_rfl) (h12.get 0 rfl) (Nat.le_refl _)) ?_
 refine zwu (v := .string (tS4 n)) (run_cat (s := tS3 n) (t := oneB (UInt8.ofNat (n / 2 ^ 0))) (by rw [tS3_size, oneB_size]; decide)) ?_
 refine zwv (.string (tS4 n)) ?_
 refine wl_nil ?_
 refine block_normal ?_
 refine then_at rfl ?_
 refine wl_region ?_
 refine zwv (iN .i64 0) ?_
 refine zwv (.int .i64 (-1)) ?_
 refine zwv (.int .i64 (-1)) ?_
 refine wl_nil ?_
 refine zta ⟨(.string (tS4 n) :: iN .i64 4 :: iN .u64 n :: un :: un :: un :: .string ({ data := #[] }) :: .int .i64 (-1) :: iN .i64 4 :: .bool false :: iN .i64 4 :: .bool false :: iN .i64 4 :: iN .i64 3 :: iN .i64 0 :: .bool true :: iN .i64 0 :: .int .i64 (-1) :: .string (tS3 n) :: iN .u64 n :: iN .i64 0 :: iN .i64 0 :: iN .u64 (n / 2 ^ 0) :: by8 (UInt8.ofNat (n / 2 ^ 0)) :: .slice (some ⟨q10, 0, none⟩) 1 1 :: .string (oneB (UInt8.ofNat (n / 2 ^ 0))) :: .string (tS4 n) :: List.replicate 1 un).toArray, []⟩ ?_
 try rw [rounds_succ]
 refine wp_seq ?_
 refine zsr ?_
 refine zwv (.int .i64 (-1)) ?_
 refine zwv (.bool false) ?_
 refine znt ?_
 refine zcf ?_
 refine wp_exit ?_
 repeat first | refine then_exit ?_ | refine block_exit ?_ | refine block_exit_ne (by decide) ?_
 refine then_at rfl ?_
 refine zsr ?_
 refine zwv (.string (tS4 n)) ?_
 refine zwv (.string (tS4 n)) ?_
 refine znt ?_
 refine wp_ret ?_
 repeat first | refine then_ret ?_ | refine block_ret ?_
 exact bodyPost_ret (v := .string (tS4 n)) (by kernel_rfl) rfl ⟨by rw [tS4_txt], h12.old.old⟩
theorem rtext_any (n : Nat) (hn : n < 9223372036854775808) (w : World) :
  Calls Tryz.prog 30 #[iN .i64 n] w fun e w' => e = .returned (.string (txt n)) ∧ Below w.heap.size w w' := by
 have H0 := HA.start w
 go_enter Tryz.func30, Tryz.ntmps30
 refine zsr ?_
 refine zwv (.string ({ data := #[] })) ?_
 refine znt ?_
 refine zsr ?_
 refine zwv (iN .i64 n) ?_
 refine zwu (v := iN .u64 n) (run_conv .u64 Tryz.underlying3 Tryz.underlying105 (by simp only [top]; omega)) ?_
 refine zwc H0 enter50 (rput_any n (by omega) w) ?_
 intro w1 h2
 refine zwv (.string (txt n)) ?_
 refine znt ?_
 refine wp_ret ?_
 repeat first | refine then_ret ?_ | refine block_ret ?_
 exact bodyPost_ret (by kernel_rfl) rfl ⟨rfl, h2.old.old⟩
end Go.Proofs.YtihfeoanognonaaGreat

namespace Go.Proofs.YtihfeoanognonaaGreat
set_option linter.unusedVariables false
set_option maxRecDepth 100000
set_option maxHeartbeats 2000000
open Go.RowKit
theorem or_i64 (a b : Nat) (ha : a < 9223372036854775808) (hb : b < 9223372036854775808) : bits .or .i64 (a : Int) (b : Int) = ((a ||| b : Nat) : Int) := by
 have hx : a ||| b < 2 ^ 63 := Nat.or_lt_two_pow (by omega) (by omega)
 have h1 : (BitVec.ofInt 64 (a : Int)).toNat = a := by
  rw [BitVec.ofInt_natCast, BitVec.toNat_ofNat]; exact Nat.mod_eq_of_lt (by omega)
 have h2 : (BitVec.ofInt 64 (b : Int)).toNat = b := by
  rw [BitVec.ofInt_natCast, BitVec.toNat_ofNat]; exact Nat.mod_eq_of_lt (by omega)
 show IntKind.i64.wrap ((BitVec.ofInt 64 (a : Int) ||| BitVec.ofInt 64 (b : Int)).toNat : Int) = _
 rw [BitVec.toNat_or, h1, h2, IntKind.wrap_i64]
 omega
section
variable {P : Program} {ρ : Operand → Value} {x y : Operand} {w : World} {dst : Option Tmp} {T T2 ty : TypeId} {pos : String} {aft : Array Edge} {gd : Option (Nat × Bool)} {a b : Nat}
theorem run_ori   (ha : a < 9223372036854775808) (hb : b < 9223372036854775808) (hx : ρ x = iN .i64 a := by kernel_rfl) (hy : ρ y = iN .i64 b := by kernel_rfl) : (execOp ρ ⟨dst, .binOp .or T x y T2, ty, pos, aft, gd⟩).run P w = .ok (.value (iN .i64 (a ||| b))) w := by
 have h := or_i64 a b ha hb
 simp only [execOp, hx, hy, iN]
 simpa [binOp, go_sem] using h
end
theorem four_or (a b c d : Nat) (hb : b < 256) (hc : c < 256) (hd : d < 256) : ((a * 2 ^ 24 ||| b * 2 ^ 16) ||| c * 2 ^ 8) ||| d = ((a * 256 + b) * 256 + c) * 256 + d := by
 have e1 := Nat.two_pow_add_eq_or_of_lt (i := 24) (b := b * 2 ^ 16) (by omega) a
 have e2 := Nat.two_pow_add_eq_or_of_lt (i := 16) (b := c * 2 ^ 8) (by omega) (a * 256 + b)
 have e3 := Nat.two_pow_add_eq_or_of_lt (i := 8) (b := d) (by omega) ((a * 256 + b) * 256 + c)
 rw [Nat.mul_comm a, ← e1, show 2 ^ 24 * a + b * 2 ^ 16 = 2 ^ 16 * (a * 256 + b) by omega, ← e2, show 2 ^ 16 * (a * 256 + b) + c * 2 ^ 8 = 2 ^ 8 * ((a * 256 + b) * 256 + c) by omega, ← e3]
 omega
theorem n4_bytes (s : ByteArray) (h : s.size = 8) : n4 s = ((((s.get 4 (by omega)).toNat * 2 ^ 24 ||| (s.get 5 (by omega)).toNat * 2 ^ 16) ||| (s.get 6 (by omega)).toNat * 2 ^ 8) ||| (s.get 7 (by omega)).toNat) := by
 rw [four_or _ _ _ _ (UInt8.toNat_lt _) (UInt8.toNat_lt _) (UInt8.toNat_lt _)]
 have hl : (s.extract 4 8).data.toList = [s.get 4 (by omega), s.get 5 (by omega), s.get 6 (by omega), s.get 7 (by omega)] := by
  refine List.ext_getElem (by simp [h]) (fun i h1 h2 => ?_)
  match i, h2 with
  | 0, _ => simp [ByteArray.get]
  | 1, _ => simp [ByteArray.get]
  | 2, _ => simp [ByteArray.get]
  | 3, _ => simp [ByteArray.get]
 unfold n4
 rw [hl]
 simp [val]
def numI (m : Nat) (s : ByteArray) : Int := match numT m s with | some x => x | none => -1
theorem lt63 {a : Nat} (h : a < 2 ^ 40) : a < 9223372036854775808 := by omega
theorem rnum_a {w : World} {ov : Option Addr} {m cv : Nat} (s : ByteArray) (hm : m ≤ 1000000) (h8 : ¬ s.size = 8) :
  Calls Tryz.prog 45 #[.agg #[.slice ov m cv], .string s] w fun e w' => e = .returned (.int .i64 (numI m s)) ∧ Below w.heap.size w w' := by
 have H0 := HA.start w
 go_enter Tryz.func45, Tryz.ntmps45
 refine zsr ?_
 refine wl_make (c := #[.slice ov m cv]) H0 27 ?_
 intro q1 w2 (h3 : HA (bs w) [(q1, 27, #[.slice ov m cv])] w2)
 refine zwv (iN .i64 0) ?_
 refine znt ?_
 refine wp_seq ?_
 refine zsr ?_
 refine zwv (.string s) ?_
 refine zwu (run_len (s := s)) ?_
 refine zwu (run_nei (k := .i64) (a := s.size) (b := 8) true (decide_eq_true h8)) ?_
 refine zwv (.bool true) ?_
 refine wl_skip ?_
 refine wl_skip ?_
 refine wl_skip ?_
 refine zwv (.bool true) ?_
 refine znt ?_
 refine zct ?_
 refine zsr ?_
 refine zwv (.int .i64 (-1)) ?_
 refine znt ?_
 refine wp_ret ?_
 repeat first | refine then_ret ?_ | refine block_ret ?_
 exact bodyPost_ret (v := .int .i64 (-1)) (by kernel_rfl) rfl ⟨by rw [numI, numT, if_neg h8], h3.old.old⟩
theorem rnum_b {w : World} {ov : Option Addr} {m cv : Nat} (s : ByteArray) (hm : m ≤ 1000000) (h8 : s.size = 8) (hs : ¬ s.extract 0 4 = hdS) :
  Calls Tryz.prog 45 #[.agg #[.slice ov m cv], .string s] w fun e w' => e = .returned (.int .i64 (numI m s)) ∧ Below w.heap.size w w' := by
 have H0 := HA.start w
 go_enter Tryz.func45, Tryz.ntmps45
 refine zsr ?_
 refine wl_make (c := #[.slice ov m cv]) H0 27 ?_
 intro q1 w2 (h3 : HA (bs w) [(q1, 27, #[.slice ov m cv])] w2)
 refine zwv (iN .i64 0) ?_
 refine znt ?_
 refine wp_seq ?_
 refine zsr ?_
 refine zwv (.string s) ?_
 refine zwu (run_len (s := s)) ?_
 refine zwu (run_nei (k := .i64) (a := s.size) (b := 8) false (decide_eq_false (fun x => x h8))) ?_
 refine zwv (.bool false) ?_
 refine zwv (.string s) ?_
 refine zwu (v := .string (s.extract 0 4)) (run_cut_hi (s := s) (b := 4) (by omega)) ?_
 refine zwu (run_nes (s := s.extract 0 4) (t := { data := #[240, 84, 82, 77] }) true (decide_eq_false hs)) ?_
 refine zwv (.bool true) ?_
 refine znt ?_
 refine zct ?_
 refine zsr ?_
 refine zwv (.int .i64 (-1)) ?_
 refine znt ?_
 refine wp_ret ?_
 repeat first | refine then_ret ?_ | refine block_ret ?_
 exact bodyPost_ret (v := .int .i64 (-1)) (by kernel_rfl) rfl ⟨by rw [numI, numT, if_pos h8, firstT, if_neg (fun h => hs h.2.1)], h3.old.old⟩
theorem rnum_c {w : World} {ov : Option Addr} {m cv : Nat} (s : ByteArray) (hm : m ≤ 1000000) (h8 : s.size = 8) (hs : s.extract 0 4 = hdS) (hg : m ≤ n4 s) :
  Calls Tryz.prog 45 #[.agg #[.slice ov m cv], .string s] w fun e w' => e = .returned (.int .i64 (numI m s)) ∧ Below w.heap.size w w' := by
 have H0 := HA.start w
 go_enter Tryz.func45, Tryz.ntmps45
 refine zsr ?_
 refine wl_make (c := #[.slice ov m cv]) H0 27 ?_
 intro q1 w2 (h3 : HA (bs w) [(q1, 27, #[.slice ov m cv])] w2)
 refine zwv (iN .i64 0) ?_
 refine znt ?_
 refine wp_seq ?_
 refine zsr ?_
 refine zwv (.string s) ?_
 refine zwu (run_len (s := s)) ?_
 refine zwu (run_nei (k := .i64) (a := s.size) (b := 8) false (decide_eq_false (fun x => x h8))) ?_
 refine zwv (.bool false) ?_
 refine zwv (.string s) ?_
 refine zwu (v := .string (s.extract 0 4)) (run_cut_hi (s := s) (b := 4) (by omega)) ?_
 refine zwu (run_nes (s := s.extract 0 4) (t := { data := #[240, 84, 82, 77] }) false (decide_eq_true hs)) ?_
 refine zwv (.bool false) ?_
 refine znt ?_
 refine zcf ?_
 refine wp_skip ?_
 refine then_at rfl ?_
 refine wp_seq ?_
 refine zrs ⟨(.agg #[.slice ov m cv] :: .string s :: pt q1 :: un :: iN .i64 0 :: iN .i64 ((((((s.get 4 (by omega)).toNat) * 2 ^ 24) ||| (((s.get 5 (by omega)).toNat) * 2 ^ 16)) ||| (((s.get 6 (by omega)).toNat) * 2 ^ 8)) ||| ((s.get 7 (by omega)).toNat)) :: .string s :: iN .i64 s.size :: .bool false :: .bool false :: .string s :: .string (s.extract 0 4) :: .bool false :: .bool false :: .string s :: iN .u8 ((s.get 4 (by omega)).toNat) :: iN .i64 ((s.get 4 (by omega)).toNat) :: iN .i64 (((s.get 4 (by omega)).toNat) * 2 ^ 24) :: .string s :: iN .u8 ((s.get 5 (by omega)).toNat) :: iN .i64 ((s.get 5 (by omega)).toNat) :: iN .i64 (((s.get 5 (by omega)).toNat) * 2 ^ 16) :: iN .i64 ((((s.get 4 (by omega)).toNat) * 2 ^ 24) ||| (((s.get 5 (by omega)).toNat) * 2 ^ 16)) :: .string s :: iN .u8 ((s.get 6 (by omega)).toNat) :: iN .i64 ((s.get 6 (by omega)).toNat) :: iN .i64 (((s.get 6 (by omega)).toNat) * 2 ^ 8) :: iN .i64 (((((s.get 4 (by omega)).toNat) * 2 ^ 24) ||| (((s.get 5 (by omega)).toNat) * 2 ^ 16)) ||| (((s.get 6 (by omega)).toNat) * 2 ^ 8)) :: .string s :: iN .u8 ((s.get 7 (by omega)).toNat) :: iN .i64 ((s.get 7 (by omega)).toNat) :: iN .i64 ((((((s.get 4 (by omega)).toNat) * 2 ^ 24) ||| (((s.get 5 (by omega)).toNat) * 2 ^ 16)) ||| (((s.get 6 (by omega)).toNat) * 2 ^ 8)) ||| ((s.get 7 (by omega)).toNat)) :: List.replicate 6 un).toArray, []⟩ (HA (bs w) [(q1, 27, #[.slice ov m cv])]) h3.drew ?_ ?_
 ·refine zsp (.string s) ?_
  refine zst (fun _ _ => (run_index_str (s := s) (a := 4) Tryz.underlying9 (by omega))) ?_
  refine zst (v := iN .i64 ((s.get 4 (by omega)).toNat)) (fun _ _ => (run_conv .i64 Tryz.underlying5 Tryz.underlying3 (by have := (s.get 4 (by omega)).toNat_lt; simp only [top]; omega))) ?_
  refine zst (fun _ _ => (run_shl (k := .i64) (k2 := .u64) (a := (s.get 4 (by omega)).toNat) (b := 24) (by have := (s.get 4 (by omega)).toNat_lt; simp only [top]; omega))) ?_
  refine zsp (.string s) ?_
  refine zst (fun _ _ => (run_index_str (s := s) (a := 5) Tryz.underlying9 (by omega))) ?_
  refine zst (v := iN .i64 ((s.get 5 (by omega)).toNat)) (fun _ _ => (run_conv .i64 Tryz.underlying5 Tryz.underlying3 (by have := (s.get 5 (by omega)).toNat_lt; simp only [top]; omega))) ?_
  refine zst (fun _ _ => (run_shl (k := .i64) (k2 := .u64) (a := (s.get 5 (by omega)).toNat) (b := 16) (by have := (s.get 5 (by omega)).toNat_lt; simp only [top]; omega))) ?_
  refine zst (fun _ _ => (run_ori (a := ((s.get 4 (by omega)).toNat) * 2 ^ 24) (b := ((s.get 5 (by omega)).toNat) * 2 ^ 16) (lt63 (by have := (s.get 4 (by omega)).toNat_lt; omega)) (lt63 (by have := (s.get 5 (by omega)).toNat_lt; omega)))) ?_
  refine zsp (.string s) ?_
  refine zst (fun _ _ => (run_index_str (s := s) (a := 6) Tryz.underlying9 (by omega))) ?_
  refine zst (v := iN .i64 ((s.get 6 (by omega)).toNat)) (fun _ _ => (run_conv .i64 Tryz.underlying5 Tryz.underlying3 (by have := (s.get 6 (by omega)).toNat_lt; simp only [top]; omega))) ?_
  refine zst (fun _ _ => (run_shl (k := .i64) (k2 := .u64) (a := (s.get 6 (by omega)).toNat) (b := 8) (by have := (s.get 6 (by omega)).toNat_lt; simp only [top]; omega))) ?_
  refine zst (fun _ _ => (run_ori (a := (((s.get 4 (by omega)).toNat) * 2 ^ 24) ||| (((s.get 5 (by omega)).toNat) * 2 ^ 16)) (b := ((s.get 6 (by omega)).toNat) * 2 ^ 8) (lt63 (by have := (s.get 4 (by omega)).toNat_lt; have := (s.get 5 (by omega)).toNat_lt; repeat (first | (refine Nat.or_lt_two_pow ?_ ?_) | omega))) (lt63 (by have := (s.get 6 (by omega)).toNat_lt; omega)))) ?_
  refine zsp (.string s) ?_
  refine zst (fun _ _ => (run_index_str (s := s) (a := 7) Tryz.underlying9 (by omega))) ?_
  refine zst (v := iN .i64 ((s.get 7 (by omega)).toNat)) (fun _ _ => (run_conv .i64 Tryz.underlying5 Tryz.underlying3 (by have := (s.get 7 (by omega)).toNat_lt; simp only [top]; omega))) ?_
  refine zst (fun _ _ => (run_ori (a := ((((s.get 4 (by omega)).toNat) * 2 ^ 24) ||| (((s.get 5 (by omega)).toNat) * 2 ^ 16)) ||| (((s.get 6 (by omega)).toNat) * 2 ^ 8)) (b := (s.get 7 (by omega)).toNat) (lt63 (by have := (s.get 4 (by omega)).toNat_lt; have := (s.get 5 (by omega)).toNat_lt; have := (s.get 6 (by omega)).toNat_lt; repeat (first | (refine Nat.or_lt_two_pow ?_ ?_) | omega))) (lt63 (by have := (s.get 7 (by omega)).toNat_lt; omega)))) ?_
  refine zsp (iN .i64 ((((((s.get 4 (by omega)).toNat) * 2 ^ 24) ||| (((s.get 5 (by omega)).toNat) * 2 ^ 16)) ||| (((s.get 6 (by omega)).toNat) * 2 ^ 8)) ||| ((s.get 7 (by omega)).toNat))) ?_
  exact AllSure.nil
 intro w4 h5
 refine then_at rfl ?_
 refine wp_seq ?_
 refine zsr ?_
 refine zwv (iN .i64 ((((((s.get 4 (by omega)).toNat) * 2 ^ 24) ||| (((s.get 5 (by omega)).toNat) * 2 ^ 16)) ||| (((s.get 6 (by omega)).toNat) * 2 ^ 8)) ||| ((s.get 7 (by omega)).toNat))) ?_
 refine zwv (.pointer (some ⟨q1, 0, none⟩)) ?_
 refine zwu (v := .slice ov m cv) (run_load1 Tryz.isAgg25 (((h5.get 0 rfl).cell 0).trans rfl)) ?_
 refine zwv (iN .i64 m) ?_
 refine zwu (run_geq (k := .i64) (a := (((((s.get 4 (by omega)).toNat) * 2 ^ 24) ||| (((s.get 5 (by omega)).toNat) * 2 ^ 16)) ||| (((s.get 6 (by omega)).toNat) * 2 ^ 8)) ||| ((s.get 7 (by omega)).toNat)) (b := m) true (decide_eq_true (by rw [← n4_bytes s h8]; omega))) ?_
 refine znt ?_
 refine zct ?_
 refine zsr ?_
 refine zwv (.int .i64 (-1)) ?_
 refine znt ?_
 refine wp_ret ?_
 repeat first | refine then_ret ?_ | refine block_ret ?_
 exact bodyPost_ret (v := .int .i64 (-1)) (by kernel_rfl) rfl ⟨by rw [numI, numT, if_pos h8, firstT, if_neg (fun h => by omega)], h5.old.old⟩
theorem rnum_d {w : World} {ov : Option Addr} {m cv : Nat} (s : ByteArray) (hm : m ≤ 1000000) (h8 : s.size = 8) (hs : s.extract 0 4 = hdS) (hg : n4 s < m) :
  Calls Tryz.prog 45 #[.agg #[.slice ov m cv], .string s] w fun e w' => e = .returned (.int .i64 (numI m s)) ∧ Below w.heap.size w w' := by
 have H0 := HA.start w
 go_enter Tryz.func45, Tryz.ntmps45
 refine zsr ?_
 refine wl_make (c := #[.slice ov m cv]) H0 27 ?_
 intro q1 w2 (h3 : HA (bs w) [(q1, 27, #[.slice ov m cv])] w2)
 refine zwv (iN .i64 0) ?_
 refine znt ?_
 refine wp_seq ?_
 refine zsr ?_
 refine zwv (.string s) ?_
 refine zwu (run_len (s := s)) ?_
 refine zwu (run_nei (k := .i64) (a := s.size) (b := 8) false (decide_eq_false (fun x => x h8))) ?_
 refine zwv (.bool false) ?_
 refine zwv (.string s) ?_
 refine zwu (v := .string (s.extract 0 4)) (run_cut_hi (s := s) (b := 4) (by omega)) ?_
 refine zwu (run_nes (s := s.extract 0 4) (t := { data := #[240, 84, 82, 77] }) false (decide_eq_true hs)) ?_
 refine zwv (.bool false) ?_
 refine znt ?_
 refine zcf ?_
 refine wp_skip ?_
 refine then_at rfl ?_
 refine wp_seq ?_
 refine zrs ⟨(.agg #[.slice ov m cv] :: .string s :: pt q1 :: un :: iN .i64 0 :: iN .i64 ((((((s.get 4 (by omega)).toNat) * 2 ^ 24) ||| (((s.get 5 (by omega)).toNat) * 2 ^ 16)) ||| (((s.get 6 (by omega)).toNat) * 2 ^ 8)) ||| ((s.get 7 (by omega)).toNat)) :: .string s :: iN .i64 s.size :: .bool false :: .bool false :: .string s :: .string (s.extract 0 4) :: .bool false :: .bool false :: .string s :: iN .u8 ((s.get 4 (by omega)).toNat) :: iN .i64 ((s.get 4 (by omega)).toNat) :: iN .i64 (((s.get 4 (by omega)).toNat) * 2 ^ 24) :: .string s :: iN .u8 ((s.get 5 (by omega)).toNat) :: iN .i64 ((s.get 5 (by omega)).toNat) :: iN .i64 (((s.get 5 (by omega)).toNat) * 2 ^ 16) :: iN .i64 ((((s.get 4 (by omega)).toNat) * 2 ^ 24) ||| (((s.get 5 (by omega)).toNat) * 2 ^ 16)) :: .string s :: iN .u8 ((s.get 6 (by omega)).toNat) :: iN .i64 ((s.get 6 (by omega)).toNat) :: iN .i64 (((s.get 6 (by omega)).toNat) * 2 ^ 8) :: iN .i64 (((((s.get 4 (by omega)).toNat) * 2 ^ 24) ||| (((s.get 5 (by omega)).toNat) * 2 ^ 16)) ||| (((s.get 6 (by omega)).toNat) * 2 ^ 8)) :: .string s :: iN .u8 ((s.get 7 (by omega)).toNat) :: iN .i64 ((s.get 7 (by omega)).toNat) :: iN .i64 ((((((s.get 4 (by omega)).toNat) * 2 ^ 24) ||| (((s.get 5 (by omega)).toNat) * 2 ^ 16)) ||| (((s.get 6 (by omega)).toNat) * 2 ^ 8)) ||| ((s.get 7 (by omega)).toNat)) :: List.replicate 6 un).toArray, []⟩ (HA (bs w) [(q1, 27, #[.slice ov m cv])]) h3.drew ?_ ?_
 ·refine zsp (.string s) ?_
  refine zst (fun _ _ => (run_index_str (s := s) (a := 4) Tryz.underlying9 (by omega))) ?_
  refine zst (v := iN .i64 ((s.get 4 (by omega)).toNat)) (fun _ _ => (run_conv .i64 Tryz.underlying5 Tryz.underlying3 (by have := (s.get 4 (by omega)).toNat_lt; simp only [top]; omega))) ?_
  refine zst (fun _ _ => (run_shl (k := .i64) (k2 := .u64) (a := (s.get 4 (by omega)).toNat) (b := 24) (by have := (s.get 4 (by omega)).toNat_lt; simp only [top]; omega))) ?_
  refine zsp (.string s) ?_
  refine zst (fun _ _ => (run_index_str (s := s) (a := 5) Tryz.underlying9 (by omega))) ?_
  refine zst (v := iN .i64 ((s.get 5 (by omega)).toNat)) (fun _ _ => (run_conv .i64 Tryz.underlying5 Tryz.underlying3 (by have := (s.get 5 (by omega)).toNat_lt; simp only [top]; omega))) ?_
  refine zst (fun _ _ => (run_shl (k := .i64) (k2 := .u64) (a := (s.get 5 (by omega)).toNat) (b := 16) (by have := (s.get 5 (by omega)).toNat_lt; simp only [top]; omega))) ?_
  refine zst (fun _ _ => (run_ori (a := ((s.get 4 (by omega)).toNat) * 2 ^ 24) (b := ((s.get 5 (by omega)).toNat) * 2 ^ 16) (lt63 (by have := (s.get 4 (by omega)).toNat_lt; omega)) (lt63 (by have := (s.get 5 (by omega)).toNat_lt; omega)))) ?_
  refine zsp (.string s) ?_
  refine zst (fun _ _ => (run_index_str (s := s) (a := 6) Tryz.underlying9 (by omega))) ?_
  refine zst (v := iN .i64 ((s.get 6 (by omega)).toNat)) (fun _ _ => (run_conv .i64 Tryz.underlying5 Tryz.underlying3 (by have := (s.get 6 (by omega)).toNat_lt; simp only [top]; omega))) ?_
  refine zst (fun _ _ => (run_shl (k := .i64) (k2 := .u64) (a := (s.get 6 (by omega)).toNat) (b := 8) (by have := (s.get 6 (by omega)).toNat_lt; simp only [top]; omega))) ?_
  refine zst (fun _ _ => (run_ori (a := (((s.get 4 (by omega)).toNat) * 2 ^ 24) ||| (((s.get 5 (by omega)).toNat) * 2 ^ 16)) (b := ((s.get 6 (by omega)).toNat) * 2 ^ 8) (lt63 (by have := (s.get 4 (by omega)).toNat_lt; have := (s.get 5 (by omega)).toNat_lt; repeat (first | (refine Nat.or_lt_two_pow ?_ ?_) | omega))) (lt63 (by have := (s.get 6 (by omega)).toNat_lt; omega)))) ?_
  refine zsp (.string s) ?_
  refine zst (fun _ _ => (run_index_str (s := s) (a := 7) Tryz.underlying9 (by omega))) ?_
  refine zst (v := iN .i64 ((s.get 7 (by omega)).toNat)) (fun _ _ => (run_conv .i64 Tryz.underlying5 Tryz.underlying3 (by have := (s.get 7 (by omega)).toNat_lt; simp only [top]; omega))) ?_
  refine zst (fun _ _ => (run_ori (a := ((((s.get 4 (by omega)).toNat) * 2 ^ 24) ||| (((s.get 5 (by omega)).toNat) * 2 ^ 16)) ||| (((s.get 6 (by omega)).toNat) * 2 ^ 8)) (b := (s.get 7 (by omega)).toNat) (lt63 (by have := (s.get 4 (by omega)).toNat_lt; have := (s.get 5 (by omega)).toNat_lt; have := (s.get 6 (by omega)).toNat_lt; repeat (first | (refine Nat.or_lt_two_pow ?_ ?_) | omega))) (lt63 (by have := (s.get 7 (by omega)).toNat_lt; omega)))) ?_
  refine zsp (iN .i64 ((((((s.get 4 (by omega)).toNat) * 2 ^ 24) ||| (((s.get 5 (by omega)).toNat) * 2 ^ 16)) ||| (((s.get 6 (by omega)).toNat) * 2 ^ 8)) ||| ((s.get 7 (by omega)).toNat))) ?_
  exact AllSure.nil
 intro w4 h5
 refine then_at rfl ?_
 refine wp_seq ?_
 refine zsr ?_
 refine zwv (iN .i64 ((((((s.get 4 (by omega)).toNat) * 2 ^ 24) ||| (((s.get 5 (by omega)).toNat) * 2 ^ 16)) ||| (((s.get 6 (by omega)).toNat) * 2 ^ 8)) ||| ((s.get 7 (by omega)).toNat))) ?_
 refine zwv (.pointer (some ⟨q1, 0, none⟩)) ?_
 refine zwu (v := .slice ov m cv) (run_load1 Tryz.isAgg25 (((h5.get 0 rfl).cell 0).trans rfl)) ?_
 refine zwv (iN .i64 m) ?_
 refine zwu (run_geq (k := .i64) (a := (((((s.get 4 (by omega)).toNat) * 2 ^ 24) ||| (((s.get 5 (by omega)).toNat) * 2 ^ 16)) ||| (((s.get 6 (by omega)).toNat) * 2 ^ 8)) ||| ((s.get 7 (by omega)).toNat)) (b := m) false (decide_eq_false (by rw [← n4_bytes s h8]; omega))) ?_
 refine znt ?_
 refine zcf ?_
 refine wp_skip ?_
 refine then_at rfl ?_
 refine zsr ?_
 refine zwv (iN .i64 ((((((s.get 4 (by omega)).toNat) * 2 ^ 24) ||| (((s.get 5 (by omega)).toNat) * 2 ^ 16)) ||| (((s.get 6 (by omega)).toNat) * 2 ^ 8)) ||| ((s.get 7 (by omega)).toNat))) ?_
 refine zwv (iN .i64 ((((((s.get 4 (by omega)).toNat) * 2 ^ 24) ||| (((s.get 5 (by omega)).toNat) * 2 ^ 16)) ||| (((s.get 6 (by omega)).toNat) * 2 ^ 8)) ||| ((s.get 7 (by omega)).toNat))) ?_
 refine znt ?_
 refine wp_ret ?_
 repeat first | refine then_ret ?_ | refine block_ret ?_
 exact bodyPost_ret (v := iN .i64 (((((s.get 4 (by omega)).toNat * 2 ^ 24) ||| ((s.get 5 (by omega)).toNat * 2 ^ 16)) ||| ((s.get 6 (by omega)).toNat * 2 ^ 8)) ||| (s.get 7 (by omega)).toNat)) (by kernel_rfl) rfl ⟨by rw [numI, numT, if_pos h8, firstT, if_pos ⟨by omega, hs, hg⟩, n4_bytes s h8] <;> rfl, h5.old.old⟩
theorem rnum_any {w : World} {v : Value} {l : List Q4} (h : RT w v l) (hll : l.length ≤ 1000000) (s : ByteArray) :
  Calls Tryz.prog 45 #[.agg #[v], .string s] w fun e w' => e = .returned (.int .i64 (numI l.length s)) ∧ Below w.heap.size w w' := by
 obtain ⟨ov, cv, rfl⟩ := h.form
 by_cases h8 : s.size = 8
 ·by_cases hs : s.extract 0 4 = hdS
  ·by_cases hg : n4 s < l.length
   ·exact rnum_d s hll h8 hs hg
   ·exact rnum_c s hll h8 hs (by omega)
  ·exact rnum_b s hll h8 hs
 ·exact rnum_a s hll h8
end Go.Proofs.YtihfeoanognonaaGreat
