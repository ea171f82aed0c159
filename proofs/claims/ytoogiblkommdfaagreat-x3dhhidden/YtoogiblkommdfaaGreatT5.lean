/-
  secretOf, shared, publicOf.
-/
import Derived.Test.YtoogiblkommdfaaGreatT4
set_option linter.unusedVariables false
namespace Go.Proofs.YtoogiblkommdfaaGreat
open Go.RowKit

def secT (es : List Ent) (p : Nat) : Option Nat :=
  match es[p]? with
  | some (.mk k _ _ ps _) => if k = 3 then some (ps.getD 0 0) else none
  | _ => none
/-- what every table has: the parts are terms ahead, as many as there may be -/
structure Wf (es : List Ent) : Prop where
  few : es.length ≤ 60000
  lt : ∀ (i : Nat) k n s ps b, es[i]? = some (Ent.mk k n s ps b) → ∀ j, ps.getD j 0 < 60000
  one : ∀ (i : Nat) n s ps b, es[i]? = some (Ent.mk 3 n s ps b) → ps.length = 1
  len : ∀ (i : Nat) k n s ps b, es[i]? = some (Ent.mk k n s ps b) → ps.length ≤ 100
theorem row_get {es : List Ent} {cur : Array Value} (h : cur.toList.take es.length = es.map ev) {p : Nat} {e : Ent} (he : es[p]? = some e) : cur[p]? = some (ev e) := by
  have hp : p < es.length := (List.getElem?_eq_some_iff.1 he).1
  have h1 : (cur.toList.take es.length)[p]? = (es.map ev)[p]? := by rw [h]
  rw [List.getElem?_take, if_pos hp, List.getElem?_map, he] at h1
  simpa using h1
theorem pb_mem {es : List Ent} {i k n b : Nat} {s : ByteArray} {ps : List Nat} (h : es[i]? = some (.mk k n s ps b)) : (b, 3, intc ps) ∈ PB es := by
  rw [PB, List.mem_flatMap]
  exact ⟨_, List.mem_of_getElem? h, by simp [pb]⟩
set_option maxRecDepth 100000 in
set_option maxHeartbeats 2000000 in
theorem sec_nm {w : World} {q : Nat} {t : Tb} {n0 m cap g p : Nat} {cur : Array Value} (hq : Blk w q 145 (tcell t n0 (.slice (some ⟨g, 0, none⟩) m cap))) (hg : Blk w g 150 cur) (hp : p < m) {x : Nat} (hc : cur[p]? = some (ev (.nm x))) :
    Calls Tryz.prog 383 #[pt q, iN .i64 p] w fun e w' => e = .returned (.tuple #[iN .i64 0, .bool false]) ∧ Below w.heap.size w w' := by
  have H0 := HA.start w
  go_enter Tryz.func383, Tryz.ntmps383
  refine wp_seq (wl_region ?_)
  refine zv (iN .i64 0) ?_
  refine zv (.bool false) ?_
  refine wl_nil (then_at rfl (wp_seq (wl_region ?_)))
  refine zv (.pointer (some ⟨q, 0, none⟩)) ?_
  refine zv (.pointer (some ⟨q, 0, none⟩)) ?_
  refine zv (.pointer (some ⟨q, 0, none⟩)) ?_
  refine zu (.slice (some ⟨g, 0, none⟩) m cap) (run_load1 (fun w => Tryz.isAgg141 w) ky (((hq.keep H0.old.old).cell 0).trans rfl)) ?_
  refine zv (iN .i64 p) ?_
  refine zu (.pointer (some ⟨g, p, none⟩)) (run_addr_slice (q := g) (n := m) (m := cap) (a := p) Tryz.underlying141 (fun w => Tryz.sizeOf150 w) ky ky (by omega)) ?_
  refine zu (.iface 185 (.agg #[iN .i64 x])) (run_load1 (fun w => Tryz.isAgg150 w) ky (((hg.keep H0.old.old).cell p).trans hc)) ?_
  refine zv (.tuple #[.agg #[iN .i64 0, iN .i64 0, .string ({ data := #[] }), .slice none 0 0], .bool false]) ?_
  refine zv (.tuple #[.agg #[iN .i64 0, iN .i64 0, .string ({ data := #[] }), .slice none 0 0], .bool false]) ?_
  refine zv (.agg #[iN .i64 0, iN .i64 0, .string ({ data := #[] }), .slice none 0 0]) ?_
  refine zv (.bool false) ?_
  refine wl_make (c := #[iN .i64 0, iN .i64 0, .string ({ data := #[] }), .slice none 0 0]) H0 190 ky ky ?_
  intro q1 w2 (h3 : HA (bs w) [(q1, 190, #[iN .i64 0, iN .i64 0, .string ({ data := #[] }), .slice none 0 0])] w2)
  refine wl_fill (c' := #[iN .i64 0, iN .i64 0, .string ({ data := #[] }), .slice none 0 0]) h3 0 rfl ky ky ky rfl ky ky ?_
  intro w4 (h5 : HA (bs w) [(q1, 190, #[iN .i64 0, iN .i64 0, .string ({ data := #[] }), .slice none 0 0])] w4)
  refine zv (.bool false) ?_
  refine wl_nil (then_at rfl (wp_seq (wp_seq (wl_region ?_))))
  refine zv (.bool false) ?_
  refine zv (.bool true) ?_
  refine zv (.bool true) ?_
  refine wl_skip ky ?_
  refine wl_skip ky ?_
  refine wl_skip ky ?_
  refine zv (.bool true) ?_
  refine wl_nil (then_at rfl ?_)
  refine wp_cond_true ky ?_
  refine wp_seq (wl_region ?_)
  refine zv (iN .i64 0) ?_
  refine zv (.bool false) ?_
  refine wl_nil (then_at rfl ?_)
  refine wp_ret ?_
  repeat first | refine then_ret ?_ | refine block_ret ?_
  exact bodyPost_ret (v := .tuple #[iN .i64 0, .bool false]) ky rfl ⟨rfl, h5.old.old⟩
set_option maxRecDepth 100000 in
set_option maxHeartbeats 2000000 in
theorem sec_dt {w : World} {q : Nat} {t : Tb} {n0 m cap g p : Nat} {cur : Array Value} (hq : Blk w q 145 (tcell t n0 (.slice (some ⟨g, 0, none⟩) m cap))) (hg : Blk w g 150 cur) (hp : p < m) {x : ByteArray} (hc : cur[p]? = some (ev (.dt x))) :
    Calls Tryz.prog 383 #[pt q, iN .i64 p] w fun e w' => e = .returned (.tuple #[iN .i64 0, .bool false]) ∧ Below w.heap.size w w' := by
  have H0 := HA.start w
  go_enter Tryz.func383, Tryz.ntmps383
  refine wp_seq (wl_region ?_)
  refine zv (iN .i64 0) ?_
  refine zv (.bool false) ?_
  refine wl_nil (then_at rfl (wp_seq (wl_region ?_)))
  refine zv (.pointer (some ⟨q, 0, none⟩)) ?_
  refine zv (.pointer (some ⟨q, 0, none⟩)) ?_
  refine zv (.pointer (some ⟨q, 0, none⟩)) ?_
  refine zu (.slice (some ⟨g, 0, none⟩) m cap) (run_load1 (fun w => Tryz.isAgg141 w) ky (((hq.keep H0.old.old).cell 0).trans rfl)) ?_
  refine zv (iN .i64 p) ?_
  refine zu (.pointer (some ⟨g, p, none⟩)) (run_addr_slice (q := g) (n := m) (m := cap) (a := p) Tryz.underlying141 (fun w => Tryz.sizeOf150 w) ky ky (by omega)) ?_
  refine zu (.iface 187 (.agg #[.string x])) (run_load1 (fun w => Tryz.isAgg150 w) ky (((hg.keep H0.old.old).cell p).trans hc)) ?_
  refine zv (.tuple #[.agg #[iN .i64 0, iN .i64 0, .string ({ data := #[] }), .slice none 0 0], .bool false]) ?_
  refine zv (.tuple #[.agg #[iN .i64 0, iN .i64 0, .string ({ data := #[] }), .slice none 0 0], .bool false]) ?_
  refine zv (.agg #[iN .i64 0, iN .i64 0, .string ({ data := #[] }), .slice none 0 0]) ?_
  refine zv (.bool false) ?_
  refine wl_make (c := #[iN .i64 0, iN .i64 0, .string ({ data := #[] }), .slice none 0 0]) H0 190 ky ky ?_
  intro q1 w2 (h3 : HA (bs w) [(q1, 190, #[iN .i64 0, iN .i64 0, .string ({ data := #[] }), .slice none 0 0])] w2)
  refine wl_fill (c' := #[iN .i64 0, iN .i64 0, .string ({ data := #[] }), .slice none 0 0]) h3 0 rfl ky ky ky rfl ky ky ?_
  intro w4 (h5 : HA (bs w) [(q1, 190, #[iN .i64 0, iN .i64 0, .string ({ data := #[] }), .slice none 0 0])] w4)
  refine zv (.bool false) ?_
  refine wl_nil (then_at rfl (wp_seq (wp_seq (wl_region ?_))))
  refine zv (.bool false) ?_
  refine zv (.bool true) ?_
  refine zv (.bool true) ?_
  refine wl_skip ky ?_
  refine wl_skip ky ?_
  refine wl_skip ky ?_
  refine zv (.bool true) ?_
  refine wl_nil (then_at rfl ?_)
  refine wp_cond_true ky ?_
  refine wp_seq (wl_region ?_)
  refine zv (iN .i64 0) ?_
  refine zv (.bool false) ?_
  refine wl_nil (then_at rfl ?_)
  refine wp_ret ?_
  repeat first | refine then_ret ?_ | refine block_ret ?_
  exact bodyPost_ret (v := .tuple #[iN .i64 0, .bool false]) ky rfl ⟨rfl, h5.old.old⟩
set_option maxRecDepth 100000 in
set_option maxHeartbeats 2000000 in
theorem sec_no {w : World} {q : Nat} {t : Tb} {n0 m cap g p : Nat} {cur : Array Value} (hq : Blk w q 145 (tcell t n0 (.slice (some ⟨g, 0, none⟩) m cap))) (hg : Blk w g 150 cur) (hp : p < m) {k n b : Nat} {s : ByteArray} {ps : List Nat} (hc : cur[p]? = some (ev (.mk k n s ps b))) (hk : ¬ k = 3) :
    Calls Tryz.prog 383 #[pt q, iN .i64 p] w fun e w' => e = .returned (.tuple #[iN .i64 0, .bool false]) ∧ Below w.heap.size w w' := by
  have H0 := HA.start w
  go_enter Tryz.func383, Tryz.ntmps383
  refine wp_seq (wl_region ?_)
  refine zv (iN .i64 0) ?_
  refine zv (.bool false) ?_
  refine wl_nil (then_at rfl (wp_seq (wl_region ?_)))
  refine zv (.pointer (some ⟨q, 0, none⟩)) ?_
  refine zv (.pointer (some ⟨q, 0, none⟩)) ?_
  refine zv (.pointer (some ⟨q, 0, none⟩)) ?_
  refine zu (.slice (some ⟨g, 0, none⟩) m cap) (run_load1 (fun w => Tryz.isAgg141 w) ky (((hq.keep H0.old.old).cell 0).trans rfl)) ?_
  refine zv (iN .i64 p) ?_
  refine zu (.pointer (some ⟨g, p, none⟩)) (run_addr_slice (q := g) (n := m) (m := cap) (a := p) Tryz.underlying141 (fun w => Tryz.sizeOf150 w) ky ky (by omega)) ?_
  refine zu (.iface 190 (.agg #[iN .i64 k, iN .i64 n, .string s, .slice (some ⟨b, 0, none⟩) ps.length ps.length])) (run_load1 (fun w => Tryz.isAgg150 w) ky (((hg.keep H0.old.old).cell p).trans hc)) ?_
  refine zv (.tuple #[.agg #[iN .i64 k, iN .i64 n, .string s, .slice (some ⟨b, 0, none⟩) ps.length ps.length], .bool true]) ?_
  refine zv (.tuple #[.agg #[iN .i64 k, iN .i64 n, .string s, .slice (some ⟨b, 0, none⟩) ps.length ps.length], .bool true]) ?_
  refine zv (.agg #[iN .i64 k, iN .i64 n, .string s, .slice (some ⟨b, 0, none⟩) ps.length ps.length]) ?_
  refine zv (.bool true) ?_
  refine wl_make (c := #[iN .i64 0, iN .i64 0, .string ({ data := #[] }), .slice none 0 0]) H0 190 ky ky ?_
  intro q1 w2 (h3 : HA (bs w) [(q1, 190, #[iN .i64 0, iN .i64 0, .string ({ data := #[] }), .slice none 0 0])] w2)
  refine wl_fill (c' := #[iN .i64 k, iN .i64 n, .string s, .slice (some ⟨b, 0, none⟩) ps.length ps.length]) h3 0 rfl ky ky ky rfl ky ky ?_
  intro w4 (h5 : HA (bs w) [(q1, 190, #[iN .i64 k, iN .i64 n, .string s, .slice (some ⟨b, 0, none⟩) ps.length ps.length])] w4)
  refine zv (.bool true) ?_
  refine wl_nil (then_at rfl (wp_seq (wp_seq (wl_region ?_))))
  refine zv (.bool true) ?_
  refine zv (.bool false) ?_
  refine zv (.bool false) ?_
  refine zv (.pointer (some ⟨q1, 0, none⟩)) ?_
  refine zu (iN .i64 k) (run_load1 (fun w => Tryz.isAgg3 w) ky (((h5.get 0 rfl).cell 0).trans rfl)) ?_
  refine zu (.bool true) (run_nei (k := .i64) (a := k) (b := 3) ky ky true (decide_eq_true hk)) ?_
  refine zv (.bool true) ?_
  refine wl_nil (then_at rfl ?_)
  refine wp_cond_true ky ?_
  refine wp_seq (wl_region ?_)
  refine zv (iN .i64 0) ?_
  refine zv (.bool false) ?_
  refine wl_nil (then_at rfl ?_)
  refine wp_ret ?_
  repeat first | refine then_ret ?_ | refine block_ret ?_
  exact bodyPost_ret (v := .tuple #[iN .i64 0, .bool false]) ky rfl ⟨rfl, h5.old.old⟩
set_option maxRecDepth 100000 in
set_option maxHeartbeats 2000000 in
theorem sec_yes {w : World} {q : Nat} {t : Tb} {n0 m cap g p : Nat} {cur : Array Value} (hq : Blk w q 145 (tcell t n0 (.slice (some ⟨g, 0, none⟩) m cap))) (hg : Blk w g 150 cur) (hp : p < m) {k n b : Nat} {s : ByteArray} {ps : List Nat} (hc : cur[p]? = some (ev (.mk k n s ps b))) (hk : k = 3) (hl : ps.length = 1) (hb : Blk w b 3 (intc ps)) :
    Calls Tryz.prog 383 #[pt q, iN .i64 p] w fun e w' => e = .returned (.tuple #[iN .i64 (ps.getD 0 0), .bool true]) ∧ Below w.heap.size w w' := by
  have H0 := HA.start w
  go_enter Tryz.func383, Tryz.ntmps383
  refine wp_seq (wl_region ?_)
  refine zv (iN .i64 0) ?_
  refine zv (.bool false) ?_
  refine wl_nil (then_at rfl (wp_seq (wl_region ?_)))
  refine zv (.pointer (some ⟨q, 0, none⟩)) ?_
  refine zv (.pointer (some ⟨q, 0, none⟩)) ?_
  refine zv (.pointer (some ⟨q, 0, none⟩)) ?_
  refine zu (.slice (some ⟨g, 0, none⟩) m cap) (run_load1 (fun w => Tryz.isAgg141 w) ky (((hq.keep H0.old.old).cell 0).trans rfl)) ?_
  refine zv (iN .i64 p) ?_
  refine zu (.pointer (some ⟨g, p, none⟩)) (run_addr_slice (q := g) (n := m) (m := cap) (a := p) Tryz.underlying141 (fun w => Tryz.sizeOf150 w) ky ky (by omega)) ?_
  refine zu (.iface 190 (.agg #[iN .i64 k, iN .i64 n, .string s, .slice (some ⟨b, 0, none⟩) ps.length ps.length])) (run_load1 (fun w => Tryz.isAgg150 w) ky (((hg.keep H0.old.old).cell p).trans hc)) ?_
  refine zv (.tuple #[.agg #[iN .i64 k, iN .i64 n, .string s, .slice (some ⟨b, 0, none⟩) ps.length ps.length], .bool true]) ?_
  refine zv (.tuple #[.agg #[iN .i64 k, iN .i64 n, .string s, .slice (some ⟨b, 0, none⟩) ps.length ps.length], .bool true]) ?_
  refine zv (.agg #[iN .i64 k, iN .i64 n, .string s, .slice (some ⟨b, 0, none⟩) ps.length ps.length]) ?_
  refine zv (.bool true) ?_
  refine wl_make (c := #[iN .i64 0, iN .i64 0, .string ({ data := #[] }), .slice none 0 0]) H0 190 ky ky ?_
  intro q1 w2 (h3 : HA (bs w) [(q1, 190, #[iN .i64 0, iN .i64 0, .string ({ data := #[] }), .slice none 0 0])] w2)
  refine wl_fill (c' := #[iN .i64 k, iN .i64 n, .string s, .slice (some ⟨b, 0, none⟩) ps.length ps.length]) h3 0 rfl ky ky ky rfl ky ky ?_
  intro w4 (h5 : HA (bs w) [(q1, 190, #[iN .i64 k, iN .i64 n, .string s, .slice (some ⟨b, 0, none⟩) ps.length ps.length])] w4)
  refine zv (.bool true) ?_
  refine wl_nil (then_at rfl (wp_seq (wp_seq (wl_region ?_))))
  refine zv (.bool true) ?_
  refine zv (.bool false) ?_
  refine zv (.bool false) ?_
  refine zv (.pointer (some ⟨q1, 0, none⟩)) ?_
  refine zu (iN .i64 k) (run_load1 (fun w => Tryz.isAgg3 w) ky (((h5.get 0 rfl).cell 0).trans rfl)) ?_
  refine zu (.bool false) (run_nei (k := .i64) (a := k) (b := 3) ky ky false (decide_eq_false (fun h => h hk))) ?_
  refine zv (.bool false) ?_
  refine wl_nil (then_at rfl ?_)
  refine wp_cond_false ky ?_
  refine wp_skip (then_at rfl (wp_seq (wl_region ?_)))
  refine zv (.pointer (some ⟨q1, 3, none⟩)) ?_
  refine zu (.slice (some ⟨b, 0, none⟩) ps.length ps.length) (run_load1 (fun w => Tryz.isAgg84 w) ky (((h5.get 0 rfl).cell 3).trans rfl)) ?_
  refine zu (.pointer (some ⟨b, 0, none⟩)) (run_addr_slice (q := b) (n := ps.length) (m := ps.length) (a := 0) Tryz.underlying84 (fun w => Tryz.sizeOf3 w) ky ky (by omega)) ?_
  refine zu (iN .i64 (ps.getD 0 0)) (run_load1 (fun w => Tryz.isAgg3 w) ky (((hb.keep h5.old.old).cell 0).trans (intc_get ps 0 (by omega)))) ?_
  refine zv (iN .i64 (ps.getD 0 0)) ?_
  refine zv (.bool true) ?_
  refine wl_nil (then_at rfl ?_)
  refine wp_ret ?_
  repeat first | refine then_ret ?_ | refine block_ret ?_
  exact bodyPost_ret (v := .tuple #[iN .i64 (ps.getD 0 0), .bool true]) ky rfl ⟨rfl, h5.old.old⟩
theorem sec_any {w : World} {t : Tb} {es : List Ent} (h : TV w t es) (hwf : Wf es) {p : Nat} (hp : p < es.length) :
    Calls Tryz.prog 383 #[pt t.q, iN .i64 p] w fun e w' => e = .returned (onum (secT es p)) ∧ Below w.heap.size w w' := by
  obtain ⟨v, hq, h2⟩ := h.row
  rcases h2 with ⟨e1, _⟩ | ⟨g, cap, cur, rfl, hg, hcur⟩
  · rw [e1] at hp; exact absurd hp (by simp)
  · obtain ⟨e, he⟩ : ∃ e, es[p]? = some e := ⟨_, List.getElem?_eq_getElem hp⟩
    have hc := row_get hcur he
    cases e with
    | nm x => rw [show secT es p = none by simp [secT, he]]; exact sec_nm hq hg hp hc
    | dt x => rw [show secT es p = none by simp [secT, he]]; exact sec_dt hq hg hp hc
    | mk k n s ps b =>
      by_cases hk : k = 3
      · rw [show secT es p = some (ps.getD 0 0) by simp [secT, he, hk]]
        exact sec_yes hq hg hp hc hk (hwf.one p n s ps b (hk ▸ he)) (h.pbs _ (pb_mem he))
      · rw [show secT es p = none by simp [secT, he, hk]]
        exact sec_no hq hg hp hc hk
theorem run_max {ρ : Operand → Value} {x y : Operand} {w : World} {dst : Option Tmp} {ty : TypeId} {pos : String} {aft : Array Edge} {gd : Option (Nat × Bool)} {i j : Nat} (hx : ρ x = iN .i64 i) (hy : ρ y = iN .i64 j) : (execOp ρ ⟨dst, .call { callee := .builtin .max, args := #[x, y], argTypes := #[3, 3] }, ty, pos, aft, gd⟩).run Tryz.prog w = .ok (.value (iN .i64 (max i j))) w := by
  simp only [execOp, iN] at hx hy ⊢
  go_simp
  omega
def dhN (es : List Ent) (p : Nat) : Nat := if (secT es p).isSome then 0 else 1
def dhP (es : List Ent) (a p : Nat) : List Nat := match secT es p with | some b => [min a b, max a b] | none => [a, p]
set_option maxRecDepth 100000 in
set_option maxHeartbeats 2000000 in
theorem shared_yes {w : World} {t : Tb} {es : List Ent} (h : TV w t es) (hwf : Wf es) {a p : Nat} (hp : p < es.length) {x : Nat} (hs : secT es p = some x) :
    Calls Tryz.prog 380 #[pt t.q, iN .i64 a, iN .i64 p] w fun e w' => ∃ b, e = .returned (mkv 4 (dhN es p) { data := #[] } b (dhP es a p).length) ∧ w.heap.size ≤ b ∧ Blk w' b 3 (intc (dhP es a p)) ∧ Below w.heap.size w w' := by
  have H0 := HA.start w
  go_enter Tryz.func380, Tryz.ntmps380
  refine wp_seq (wl_region ?_)
  refine wl_make (c := #[iN .i64 0, iN .i64 0, .string ({ data := #[] }), .slice none 0 0]) H0 190 ky ky ?_
  intro q1 w2 (h3 : HA (bs w) [(q1, 190, #[iN .i64 0, iN .i64 0, .string ({ data := #[] }), .slice none 0 0])] w2)
  refine wl_nil (then_at rfl (wp_seq (wl_region ?_)))
  refine zv (.pointer (some ⟨t.q, 0, none⟩)) ?_
  refine zv (iN .i64 p) ?_
  refine wl_call (v := .tuple #[iN .i64 x, .bool true]) h3 ky enter383 #[.pointer (some ⟨t.q, 0, none⟩), iN .i64 p] ky (by have := sec_any (h.keep h3.old.old) hwf hp; rw [hs] at this; exact this) ?_
  intro w4 h5
  refine zv (.tuple #[iN .i64 x, .bool true]) ?_
  refine zv (iN .i64 x) ?_
  refine zv (.bool true) ?_
  refine zv (iN .i64 x) ?_
  refine zv (.bool true) ?_
  refine wl_nil (then_at rfl (wp_seq (wp_seq (wl_region ?_))))
  refine zv (.bool true) ?_
  refine zv (.bool false) ?_
  refine wl_nil (then_at rfl ?_)
  refine wp_cond_false ky ?_
  refine wp_skip (then_at rfl (wp_seq (wl_region ?_)))
  refine zv (iN .i64 a) ?_
  refine zv (iN .i64 x) ?_
  refine zu (iN .i64 (min a x)) (run_min (i := a) (j := x) ky ky) ?_
  refine zv (iN .i64 a) ?_
  refine zv (iN .i64 x) ?_
  refine zu (iN .i64 (max a x)) (run_max (i := a) (j := x) ky ky) ?_
  refine wl_mks (n := 2) (m := 2) (c := intc ([min a x, max a x])) h5 3 ky ky ?_
  intro q6 w7 (h8 : HA (bs w) [(q6, 3, intc ([min a x, max a x])), (q1, 190, #[iN .i64 0, iN .i64 0, .string ({ data := #[] }), .slice none 0 0])] w7)
  refine zv (.agg #[iN .i64 4, iN .i64 0, .string ({ data := #[] }), .slice (some ⟨q6, 0, none⟩) 2 2]) ?_
  refine wl_fill (c' := #[iN .i64 4, iN .i64 0, .string ({ data := #[] }), .slice (some ⟨q6, 0, none⟩) 2 2]) h8 1 rfl ky ky ky rfl ky ky ?_
  intro w9 (h10 : HA (bs w) [(q6, 3, intc ([min a x, max a x])), (q1, 190, #[iN .i64 4, iN .i64 0, .string ({ data := #[] }), .slice (some ⟨q6, 0, none⟩) 2 2])] w9)
  refine wl_nil (then_at rfl ?_)
  refine wp_ret ?_
  repeat first | refine then_ret ?_ | refine block_ret ?_
  exact bodyPost_ret (v := .agg (#[iN .i64 4, iN .i64 0, .string ({ data := #[] }), .slice (some ⟨q6, 0, none⟩) 2 2])) (res_cell (p := 6) ky ky (h10.get 1 rfl) Tryz.underlying190 rfl ky) rfl ⟨q6, by rw [dhN, dhP, hs]; rfl, h10.own _ (List.mem_of_getElem? (i := 0) rfl), by rw [dhP, hs]; exact h10.get 0 rfl, h10.old.old⟩
set_option maxRecDepth 100000 in
set_option maxHeartbeats 2000000 in
theorem shared_no {w : World} {t : Tb} {es : List Ent} (h : TV w t es) (hwf : Wf es) {a p : Nat} (hp : p < es.length) (hs : secT es p = none) :
    Calls Tryz.prog 380 #[pt t.q, iN .i64 a, iN .i64 p] w fun e w' => ∃ b, e = .returned (mkv 4 (dhN es p) { data := #[] } b (dhP es a p).length) ∧ w.heap.size ≤ b ∧ Blk w' b 3 (intc (dhP es a p)) ∧ Below w.heap.size w w' := by
  have H0 := HA.start w
  go_enter Tryz.func380, Tryz.ntmps380
  refine wp_seq (wl_region ?_)
  refine wl_make (c := #[iN .i64 0, iN .i64 0, .string ({ data := #[] }), .slice none 0 0]) H0 190 ky ky ?_
  intro q1 w2 (h3 : HA (bs w) [(q1, 190, #[iN .i64 0, iN .i64 0, .string ({ data := #[] }), .slice none 0 0])] w2)
  refine wl_nil (then_at rfl (wp_seq (wl_region ?_)))
  refine zv (.pointer (some ⟨t.q, 0, none⟩)) ?_
  refine zv (iN .i64 p) ?_
  refine wl_call (v := .tuple #[iN .i64 0, .bool false]) h3 ky enter383 #[.pointer (some ⟨t.q, 0, none⟩), iN .i64 p] ky (by have := sec_any (h.keep h3.old.old) hwf hp; rw [hs] at this; exact this) ?_
  intro w4 h5
  refine zv (.tuple #[iN .i64 0, .bool false]) ?_
  refine zv (iN .i64 0) ?_
  refine zv (.bool false) ?_
  refine zv (iN .i64 0) ?_
  refine zv (.bool false) ?_
  refine wl_nil (then_at rfl (wp_seq (wp_seq (wl_region ?_))))
  refine zv (.bool false) ?_
  refine zv (.bool true) ?_
  refine wl_nil (then_at rfl ?_)
  refine wp_cond_true ky ?_
  refine wp_seq (wl_region ?_)
  refine zv (iN .i64 a) ?_
  refine zv (iN .i64 p) ?_
  refine wl_mks (n := 2) (m := 2) (c := intc ([a, p])) h5 3 ky ky ?_
  intro q6 w7 (h8 : HA (bs w) [(q6, 3, intc ([a, p])), (q1, 190, #[iN .i64 0, iN .i64 0, .string ({ data := #[] }), .slice none 0 0])] w7)
  refine zv (.agg #[iN .i64 4, iN .i64 1, .string ({ data := #[] }), .slice (some ⟨q6, 0, none⟩) 2 2]) ?_
  refine wl_fill (c' := #[iN .i64 4, iN .i64 1, .string ({ data := #[] }), .slice (some ⟨q6, 0, none⟩) 2 2]) h8 1 rfl ky ky ky rfl ky ky ?_
  intro w9 (h10 : HA (bs w) [(q6, 3, intc ([a, p])), (q1, 190, #[iN .i64 4, iN .i64 1, .string ({ data := #[] }), .slice (some ⟨q6, 0, none⟩) 2 2])] w9)
  refine wl_nil (then_at rfl ?_)
  refine wp_ret ?_
  repeat first | refine then_ret ?_ | refine block_ret ?_
  exact bodyPost_ret (v := .agg (#[iN .i64 4, iN .i64 1, .string ({ data := #[] }), .slice (some ⟨q6, 0, none⟩) 2 2])) (res_cell (p := 6) ky ky (h10.get 1 rfl) Tryz.underlying190 rfl ky) rfl ⟨q6, by rw [dhN, dhP, hs]; rfl, h10.own _ (List.mem_of_getElem? (i := 0) rfl), by rw [dhP, hs]; exact h10.get 0 rfl, h10.old.old⟩
theorem shared_any {w : World} {t : Tb} {es : List Ent} (h : TV w t es) (hwf : Wf es) {a p : Nat} (hp : p < es.length) :
    Calls Tryz.prog 380 #[pt t.q, iN .i64 a, iN .i64 p] w fun e w' => ∃ b, e = .returned (mkv 4 (dhN es p) { data := #[] } b (dhP es a p).length) ∧ w.heap.size ≤ b ∧ Blk w' b 3 (intc (dhP es a p)) ∧ Below w.heap.size w w' := by
  cases hs : secT es p with
  | none => exact shared_no h hwf hp hs
  | some x => exact shared_yes h hwf hp hs
theorem HA.addNew {z : Base} {L : List (Nat × TypeId × Array Value)} {w w' : World} {b : Nat} {t : TypeId} {c : Array Value} (H : HA z L w) (hb : Below w.heap.size w w') (h1 : w.heap.size ≤ b) (h2 : Blk w' b t c) : HA z ((b, t, c) :: L) w' :=
  (H.keep _ _ hb).consNew h2 (Nat.le_trans H.size h1) (fun x hx => by have := (H.blk x hx).lt; omega)
end Go.Proofs.YtoogiblkommdfaaGreat
