/-
 The reference's table: find.
-/
import Derived.Test.YtihfeoanognonaaT30
namespace Go.Proofs.Ytihfeoanognonaa
set_option linter.unusedVariables false
set_option maxRecDepth 100000
set_option maxHeartbeats 2000000
open Go.RowKit
structure Q4 where
 k : Nat
 n : Nat
 s : ByteArray
 ps : List Nat
instance : DecidableEq Q4 := fun a b => decidable_of_iff (a.k = b.k ∧ a.n = b.n ∧ a.s = b.s ∧ a.ps = b.ps) ⟨fun ⟨h1, h2, h3, h4⟩ => by cases a; cases b; simp_all, fun h => by rw [h]; exact ⟨rfl, rfl, rfl, rfl⟩⟩
theorem q4_eq (a b : Q4) : a = b ↔ a.k = b.k ∧ a.n = b.n ∧ a.s = b.s ∧ a.ps = b.ps := ⟨fun h => by rw [h]; exact ⟨rfl, rfl, rfl, rfl⟩, fun ⟨h1, h2, h3, h4⟩ => by cases a; cases b; simp_all⟩
def tcl : List Q4 → List (Option Addr × Nat) → List Value
 | q :: l, p :: pl => iN .i64 q.k :: iN .i64 q.n :: .string q.s :: .slice p.1 q.ps.length p.2 :: tcl l pl
 | _, _ => []
def RT (w : World) (v : Value) (l : List Q4) : Prop :=
 (v = .slice none 0 0 ∧ l = []) ∨ ∃ g cap cur pl, 0 < l.length ∧ v = .slice (some ⟨g, 0, none⟩) l.length cap ∧ Blk w g 31 cur ∧ pl.length = l.length ∧ cur.toList.take (l.length * 4) = tcl l pl ∧ ∀ (i : Nat) q p, l[i]? = some q → pl[i]? = some p → RI 0 w p.1 q.ps
theorem tcl_len : ∀ (l : List Q4) (pl : List (Option Addr × Nat)), pl.length = l.length → (tcl l pl).length = l.length * 4
 | [], [], _ => rfl
 | q :: l, p :: pl, h => by
  have := tcl_len l pl (by simpa using h)
  simp only [tcl, List.length_cons, this]
  omega
theorem tcl_get : ∀ (l : List Q4) (pl : List (Option Addr × Nat)) (i : Nat) (q : Q4) (p : Option Addr × Nat), l[i]? = some q → pl[i]? = some p → ∀ j, j < 4 → (tcl l pl)[4 * i + j]? = (tmc q.k q.n q.s p.1 q.ps.length p.2)[j]?
 | [], _, i, _, _, h, _, _, _ => by simp at h
 | _ :: _, [], i, _, _, _, h, _, _ => by simp at h
 | a :: l, b :: pl, 0, q, p, h, h', j, hj => by
  simp only [List.getElem?_cons_zero, Option.some.injEq] at h h'
  subst h h'
  match j, hj with
  | 0, _ => rfl
  | 1, _ => rfl
  | 2, _ => rfl
  | 3, _ => rfl
 | a :: l, b :: pl, i + 1, q, p, h, h', j, hj => by
  have := tcl_get l pl i q p (by simpa using h) (by simpa using h') j hj
  rw [show 4 * (i + 1) + j = (4 * i + j) + 4 by omega]
  simpa [tcl] using this
theorem RT.at {w : World} {v : Value} {l : List Q4} (h : RT w v l) {i : Nat} (hi : i < l.length) : ∃ g cap cur o c, v = .slice (some ⟨g, 0, none⟩) l.length cap ∧ Blk w g 31 cur ∧ (∀ j u, (tmc l[i].k l[i].n l[i].s o l[i].ps.length c)[j]? = some u → cur[4 * i + j]? = some u) ∧ RI 0 w o l[i].ps := by
 rcases h with ⟨_, rfl⟩ | ⟨g, cap, cur, pl, _, h1, h2, h3, h4, h5⟩
 ·simp at hi
 ·have hq : l[i]? = some l[i] := List.getElem?_eq_getElem hi
  have hp : pl[i]? = some pl[i] := List.getElem?_eq_getElem (by omega)
  refine ⟨g, cap, cur, pl[i].1, pl[i].2, h1, h2, fun j u hu => ?_, h5 i _ _ hq hp⟩
  have hj : j < 4 := (Array.getElem?_eq_some_iff.1 hu).1
  rw [← hu, ← tcl_get l pl i _ _ hq hp j hj, ← h4, List.getElem?_take, if_pos (by omega)]
  simp
theorem RT.form {w : World} {v : Value} {l : List Q4} (h : RT w v l) : ∃ o c, v = .slice o l.length c := by
 rcases h with ⟨h, rfl⟩ | ⟨g, cap, cur, pl, _, h1, _⟩
 ·exact ⟨_, _, h⟩
 ·exact ⟨_, _, h1⟩
def fdI (l : List Q4) (x : Q4) : Int := match l.idxOf? x with | some i => i | none => -1
section
variable {ρ : Operand → Value} {x y : Operand} {w : World} {dst : Option Tmp} {T T2 ty : TypeId} {pos : String} {aft : Array Edge} {gd : Option (Nat × Bool)}
theorem run_addr24 {q n m a : Nat}   (ha : a < n) (hx : ρ x = .slice (some ⟨q, 0, none⟩) n m := by kernel_rfl) (hy : ρ y = iN .i64 a := by kernel_rfl) : (execOp ρ ⟨dst, .indexAddr 24 x y, ty, pos, aft, gd⟩).run Try.prog w = .ok (.value (.pointer (some ⟨q, 4 * a, none⟩))) w := by
 simp only [execOp, hx, hy, iN]
 go_simp
end
theorem idxOf_at {l : List Q4} {x : Q4} {i : Nat} (hi : i < l.length) (h : l[i] = x) (hno : ∀ j (hj : j < l.length), j < i → l[j] ≠ x) : l.idxOf? x = some i := by
 rw [List.idxOf?, List.findIdx?_eq_some_iff_getElem]
 exact ⟨hi, by simpa using h, fun j hj => by simpa using hno j (by omega) hj⟩
theorem idxOf_none {l : List Q4} {x : Q4} (hno : ∀ j (hj : j < l.length), l[j] ≠ x) : l.idxOf? x = none := by
 rw [List.idxOf?, List.findIdx?_eq_none_iff]
 intro y hy
 obtain ⟨j, hj, rfl⟩ := List.getElem_of_mem hy
 simpa using hno j hj
theorem find_0 {w : World} (x : Q4) (o : Option Addr) (c : Nat) :
  Calls Try.prog 69 #[.agg #[.slice none 0 0], tmv x.k x.n x.s o x.ps.length c] w fun e w' => e = .returned (.int .i64 (-1)) ∧ Below w.heap.size w w' := by
 have H0 := HA.start w
 go_enter Try.func69, Try.ntmps69
 refine zsr ?_
 refine wl_make (c := #[.slice none 0 0]) H0 26 ?_
 intro q1 w2 (h3 : HA (bs w) [(q1, 26, #[.slice none 0 0])] w2)
 refine wl_make (c := #[iN .i64 x.k, iN .i64 x.n, .string x.s, .slice o x.ps.length c]) h3 31 ?_
 intro q4 w5 (h6 : HA (bs w) [(q4, 31, #[iN .i64 x.k, iN .i64 x.n, .string x.s, .slice o x.ps.length c]), (q1, 26, #[.slice none 0 0])] w5)
 refine zwv (iN .i64 0) ?_
 refine znt ?_
 refine wp_seq ?_
 refine zsr ?_
 refine zwv (iN .i64 0) ?_
 refine znt ?_
 refine wp_block ?_
 refine wp_loop_rounds 2 ?_
 try rw [rounds_succ]
 refine wp_seq ?_
 refine zsr ?_
 refine zwv (iN .i64 0) ?_
 refine zwv (.pointer (some ⟨q1, 0, none⟩)) ?_
 refine zwu (v := .slice none 0 0) (run_load1 Try.isAgg24 (((h6.get 1 rfl).cell 0).trans rfl)) ?_
 refine zwv (iN .i64 0) ?_
 refine zwu (run_lss (k := .i64) (a := 0) (b := 0) false (by decide)) ?_
 refine znt ?_
 refine zcf ?_
 refine wp_exit ?_
 repeat first | refine then_exit ?_ | refine block_exit ?_ | refine block_exit_ne (by decide) ?_
 refine then_at rfl ?_
 refine zsr ?_
 refine zwv (.int .i64 (-1)) ?_
 refine znt ?_
 refine wp_ret ?_
 repeat first | refine then_ret ?_ | refine block_ret ?_
 exact bodyPost_ret (by kernel_rfl) rfl ⟨rfl, h6.old.old⟩
theorem find_p {w : World} {g cap : Nat} {cur : Array Value} {l : List Q4} (hg : Blk w g 31 cur) (hat : (∀ i (hi : i < l.length), ∃ oi ci, (∀ j u, (tmc l[i].k l[i].n l[i].s oi l[i].ps.length ci)[j]? = some u → cur[4 * i + j]? = some u) ∧ RI 0 w oi l[i].ps)) (hl : ∀ q ∈ l, q.ps.length ≤ 1000) (hll : l.length ≤ 1000000) (x : Q4) {o : Option Addr} {c : Nat} (r2 : RI 0 w o x.ps) :
  Calls Try.prog 69 #[.agg #[.slice (some ⟨g, 0, none⟩) l.length cap], tmv x.k x.n x.s o x.ps.length c] w fun e w' => e = .returned (.int .i64 (fdI l x)) ∧ Below w.heap.size w w' := by
 have H0 := HA.start w
 go_enter Try.func69, Try.ntmps69
 refine zsr ?_
 refine wl_make (c := #[.slice (some ⟨g, 0, none⟩) l.length cap]) H0 26 ?_
 intro q1 w2 (h3 : HA (bs w) [(q1, 26, #[.slice (some ⟨g, 0, none⟩) l.length cap])] w2)
 refine wl_make (c := #[iN .i64 x.k, iN .i64 x.n, .string x.s, .slice o x.ps.length c]) h3 31 ?_
 intro q4 w5 (h6 : HA (bs w) [(q4, 31, #[iN .i64 x.k, iN .i64 x.n, .string x.s, .slice o x.ps.length c]), (q1, 26, #[.slice (some ⟨g, 0, none⟩) l.length cap])] w5)
 refine zwv (iN .i64 0) ?_
 refine znt ?_
 refine wp_seq ?_
 refine zsr ?_
 refine zwv (iN .i64 0) ?_
 refine znt ?_
 refine wp_block ?_
 refine wp_count (fun i A w' => ∃ u7 : Nat → Value, A = ⟨(.agg #[.slice (some ⟨g, 0, none⟩) l.length cap] :: .agg #[iN .i64 x.k, iN .i64 x.n, .string x.s, .slice o x.ps.length c] :: pt q1 :: pt q4 :: u7 4 :: iN .i64 i :: u7 6 :: u7 7 :: u7 8 :: u7 9 :: u7 10 :: u7 11 :: u7 12 :: u7 13 :: u7 14 :: u7 15 :: u7 16 :: u7 17 :: u7 18 :: u7 19 :: u7 20 :: List.replicate 0 un).toArray, []⟩ ∧ HA (bs w) [(q4, 31, #[iN .i64 x.k, iN .i64 x.n, .string x.s, .slice o x.ps.length c]), (q1, 26, #[.slice (some ⟨g, 0, none⟩) l.length cap])] w' ∧ (∀ j (hj : j < l.length), j < i → l[j] ≠ x)) l.length ?_ ?_ ?_
 ·exact zex ⟨h6, (fun j hj hj2 => absurd hj2 (by omega))⟩
 ·rintro i hi _ w8 ⟨u7, rfl, h9, hpre⟩
  refine wp_seq ?_
  refine zsr ?_
  refine zwv (iN .i64 i) ?_
  refine zwv (.pointer (some ⟨q1, 0, none⟩)) ?_
  refine zwu (v := .slice (some ⟨g, 0, none⟩) l.length cap) (run_load1 Try.isAgg24 (((h9.get 1 rfl).cell 0).trans rfl)) ?_
  refine zwv (iN .i64 l.length) ?_
  refine zwu (run_lss (k := .i64) (a := i) (b := l.length) true (decide_eq_true (by omega))) ?_
  refine znt ?_
  refine zct ?_
  refine wp_skip ?_
  refine then_at rfl ?_
  refine wp_seq ?_
  refine wp_block ?_
  refine wp_seq ?_
  obtain ⟨oi, ci, hcells, hri⟩ := hat i hi
  by_cases hx : l[i] = x
  ·refine zrs ⟨(.agg #[.slice (some ⟨g, 0, none⟩) l.length cap] :: .agg #[iN .i64 x.k, iN .i64 x.n, .string x.s, .slice o x.ps.length c] :: pt q1 :: pt q4 :: u7 4 :: iN .i64 i :: iN .i64 i :: pt q1 :: .slice (some ⟨g, 0, none⟩) l.length cap :: iN .i64 l.length :: .bool true :: u7 11 :: u7 12 :: pt q1 :: .slice (some ⟨g, 0, none⟩) l.length cap :: iN .i64 i :: .pointer (some ⟨g, 4 * i, none⟩) :: .agg (tmc l[i].k l[i].n l[i].s oi l[i].ps.length ci) :: .agg (#[iN .i64 x.k, iN .i64 x.n, .string x.s, .slice o x.ps.length c]) :: .bool true :: u7 20 :: List.replicate 0 un).toArray, []⟩ (HA (bs w) [(q4, 31, #[iN .i64 x.k, iN .i64 x.n, .string x.s, .slice o x.ps.length c]), (q1, 26, #[.slice (some ⟨g, 0, none⟩) l.length cap])]) h9.drew ?_ ?_
   ·refine zsp (.pointer (some ⟨q1, 0, none⟩)) ?_
    refine zst (v := .slice (some ⟨g, 0, none⟩) l.length cap) (fun w' h' => run_load1 Try.isAgg24 (((h'.get 1 rfl).cell 0).trans rfl)) ?_
    refine zsp (iN .i64 i) ?_
    refine zst (v := .pointer (some ⟨g, 4 * i, none⟩)) (fun _ _ => (run_addr24 (n := l.length) (m := cap) (a := i) (by omega))) ?_
    refine zst (v := .agg (tmc l[i].k l[i].n l[i].s oi l[i].ps.length ci)) (fun w' h' => run_part (by kernel_rfl) (hg.keep h'.old.old) hcells Try.underlying31 rfl (by kernel_rfl)) ?_
    refine zst (v := .agg (#[iN .i64 x.k, iN .i64 x.n, .string x.s, .slice o x.ps.length c])) (fun _ h => run_load_blk (h.get 0 rfl) Try.underlying31 rfl) ?_
    refine AllSure.cons (sure_call (v := .bool true) (by kernel_rfl) (by kernel_rfl) enter11 HA.keep #[.agg (tmc l[i].k l[i].n l[i].s oi l[i].ps.length ci), .agg (#[iN .i64 x.k, iN .i64 x.n, .string x.s, .slice o x.ps.length c])] (by kernel_rfl) (fun w' h' => by have := same_any (k := l[i].k) (n := l[i].n) (s := l[i].s) (c := ci) (k2 := x.k) (n2 := x.n) (s2 := x.s) (c2 := c) (hri.keep h'.old.old) (r2.keep h'.old.old) (hl _ (List.getElem_mem hi)); rw [decide_eq_true ((q4_eq _ _).1 hx)] at this; exact this)) ?_
    exact AllSure.nil
   intro w10 h11
   refine then_at rfl ?_
   refine zct ?_
   refine zsr ?_
   refine zwv (iN .i64 i) ?_
   refine zwv (iN .i64 i) ?_
   refine znt ?_
   refine wp_ret ?_
   repeat first | refine then_ret ?_ | refine block_ret ?_
   exact bodyPost_ret (v := iN .i64 i) (by kernel_rfl) rfl ⟨by rw [fdI, idxOf_at hi hx hpre]; rfl, h11.old.old⟩
  ·refine zrs ⟨(.agg #[.slice (some ⟨g, 0, none⟩) l.length cap] :: .agg #[iN .i64 x.k, iN .i64 x.n, .string x.s, .slice o x.ps.length c] :: pt q1 :: pt q4 :: u7 4 :: iN .i64 i :: iN .i64 i :: pt q1 :: .slice (some ⟨g, 0, none⟩) l.length cap :: iN .i64 l.length :: .bool true :: u7 11 :: u7 12 :: pt q1 :: .slice (some ⟨g, 0, none⟩) l.length cap :: iN .i64 i :: .pointer (some ⟨g, 4 * i, none⟩) :: .agg (tmc l[i].k l[i].n l[i].s oi l[i].ps.length ci) :: .agg (#[iN .i64 x.k, iN .i64 x.n, .string x.s, .slice o x.ps.length c]) :: .bool false :: u7 20 :: List.replicate 0 un).toArray, []⟩ (HA (bs w) [(q4, 31, #[iN .i64 x.k, iN .i64 x.n, .string x.s, .slice o x.ps.length c]), (q1, 26, #[.slice (some ⟨g, 0, none⟩) l.length cap])]) h9.drew ?_ ?_
   ·refine zsp (.pointer (some ⟨q1, 0, none⟩)) ?_
    refine zst (v := .slice (some ⟨g, 0, none⟩) l.length cap) (fun w' h' => run_load1 Try.isAgg24 (((h'.get 1 rfl).cell 0).trans rfl)) ?_
    refine zsp (iN .i64 i) ?_
    refine zst (v := .pointer (some ⟨g, 4 * i, none⟩)) (fun _ _ => (run_addr24 (n := l.length) (m := cap) (a := i) (by omega))) ?_
    refine zst (v := .agg (tmc l[i].k l[i].n l[i].s oi l[i].ps.length ci)) (fun w' h' => run_part (by kernel_rfl) (hg.keep h'.old.old) hcells Try.underlying31 rfl (by kernel_rfl)) ?_
    refine zst (v := .agg (#[iN .i64 x.k, iN .i64 x.n, .string x.s, .slice o x.ps.length c])) (fun _ h => run_load_blk (h.get 0 rfl) Try.underlying31 rfl) ?_
    refine AllSure.cons (sure_call (v := .bool false) (by kernel_rfl) (by kernel_rfl) enter11 HA.keep #[.agg (tmc l[i].k l[i].n l[i].s oi l[i].ps.length ci), .agg (#[iN .i64 x.k, iN .i64 x.n, .string x.s, .slice o x.ps.length c])] (by kernel_rfl) (fun w' h' => by have := same_any (k := l[i].k) (n := l[i].n) (s := l[i].s) (c := ci) (k2 := x.k) (n2 := x.n) (s2 := x.s) (c2 := c) (hri.keep h'.old.old) (r2.keep h'.old.old) (hl _ (List.getElem_mem hi)); rw [decide_eq_false (fun e => hx ((q4_eq _ _).2 e))] at this; exact this)) ?_
    exact AllSure.nil
   intro w12 h13
   refine then_at rfl ?_
   refine zcf ?_
   refine wp_skip ?_
   refine block_normal ?_
   refine then_at rfl ?_
   refine wl_region ?_
   refine zwv (iN .i64 i) ?_
   refine zwu (run_add (k := .i64) (a := i) (b := 1) (by simp only [top]; omega)) ?_
   refine zwv (iN .i64 (i + 1)) ?_
   refine wl_nil ?_
   exact then_I (zex ⟨h13, (fun j hj hj2 => by rcases Nat.lt_succ_iff_lt_or_eq.1 hj2 with h | h; exact hpre j hj h; subst h; exact hx)⟩)
 ·rintro _ w14 ⟨u7, rfl, h15, hpre⟩
  refine wp_seq ?_
  refine zsr ?_
  refine zwv (iN .i64 l.length) ?_
  refine zwv (.pointer (some ⟨q1, 0, none⟩)) ?_
  refine zwu (v := .slice (some ⟨g, 0, none⟩) l.length cap) (run_load1 Try.isAgg24 (((h15.get 1 rfl).cell 0).trans rfl)) ?_
  refine zwv (iN .i64 l.length) ?_
  refine zwu (run_lss (k := .i64) (a := l.length) (b := l.length) false (decide_eq_false (by omega))) ?_
  refine znt ?_
  refine zcf ?_
  refine wp_exit ?_
  repeat first | refine then_exit ?_ | refine block_exit ?_ | refine block_exit_ne (by decide) ?_
  refine then_at rfl ?_
  refine zsr ?_
  refine zwv (.int .i64 (-1)) ?_
  refine znt ?_
  refine wp_ret ?_
  repeat first | refine then_ret ?_ | refine block_ret ?_
  exact bodyPost_ret (v := .int .i64 (-1)) (by kernel_rfl) rfl ⟨by rw [fdI, idxOf_none (fun j hj => hpre j hj hj)], h15.old.old⟩
theorem find_any {w : World} {v : Value} {l : List Q4} (h : RT w v l) (hl : ∀ q ∈ l, q.ps.length ≤ 1000) (hll : l.length ≤ 1000000) (x : Q4) {o : Option Addr} {c : Nat} (r2 : RI 0 w o x.ps) :
  Calls Try.prog 69 #[.agg #[v], tmv x.k x.n x.s o x.ps.length c] w fun e w' => e = .returned (.int .i64 (fdI l x)) ∧ Below w.heap.size w w' := by
 rcases h with ⟨rfl, rfl⟩ | ⟨g, cap, cur, pl, h0, rfl, h2, h3, h4, h5⟩
 ·exact find_0 x o c
 ·refine find_p h2 (fun i hi => ?_) hl hll x r2
  obtain ⟨g', cap', cur', oi, ci, e1, e2, e3, e4⟩ := RT.at (.inr ⟨g, cap, cur, pl, h0, rfl, h2, h3, h4, h5⟩) hi
  cases e1
  obtain ⟨f1, e5, _⟩ := e2
  obtain ⟨f2, e6, _⟩ := h2
  rw [e5] at e6
  cases e6
  exact ⟨oi, ci, e3, e4⟩
end Go.Proofs.Ytihfeoanognonaa
