/-
  Of a table; Make of a text that is too long.
-/
import Derived.Test.YtcjjbpbehapjpaaGreatT20
set_option linter.unusedVariables false
namespace Go.Proofs.YtcjjbpbehapjpaaGreat
open Go.RowKit

theorem Of_made {w : World} {t : Tb} {es : List Ent} (h : TV w t es) (hwf : Wf es) {sx : ByteArray} {x : Nat} (hn : numT es.length sx = some x) {k n b : Nat} {s : ByteArray} {ps : List Nat} (he : es[x]? = some (.mk k n s ps b)) (hsz : s.size ≤ 281474976710656) :
    Calls Tryz.prog 313 #[pt t.q, .string sx] w fun e w' => ∃ mm c, e = .returned (.tuple #[.agg #[iN .i64 k, iN .i64 n, .string s, slu mm ps.length], .bool true]) ∧ w.heap.size ≤ (unp mm).1 ∧ Blk w' (unp mm).1 3 c ∧ (∀ j, j < ps.length → c[j]? = some (iN .i64 (ps.getD j 0))) ∧ Below w.heap.size w w' := by
  obtain ⟨v, hq, h2⟩ := h.row
  have hp : x < es.length := (List.getElem?_eq_some_iff.1 he).1
  rcases h2 with ⟨e1, _⟩ | ⟨g, cap, cur, rfl, hg, hcur⟩
  · rw [e1] at hp; exact absurd hp (by simp)
  · exact Of_blk hq hg (by have := hwf.few; omega) hp hn (row_get hcur he) (h.pbs _ (pb_mem he)) (hwf.len x k n s ps b he) hsz
theorem Of_not {w : World} {t : Tb} {es : List Ent} (h : TV w t es) (hwf : Wf es) {sx : ByteArray} (hn : numT es.length sx = none) :
    Calls Tryz.prog 313 #[pt t.q, .string sx] w fun e w' => e = .returned (.tuple #[.agg #[iN .i64 0, iN .i64 0, .string { data := #[] }, .slice none 0 0], .bool false]) ∧ Below w.heap.size w w' := by
  obtain ⟨v, hq, h2⟩ := h.row
  have hm := hwf.few
  rcases h2 with ⟨e1, rfl⟩ | ⟨g, cap, cur, rfl, hg, hcur⟩
  · refine Of_no (m := 0) hq (by omega) ?_
    rw [e1] at hn
    exact hn
  · exact Of_no hq (by omega) hn
end Go.Proofs.YtcjjbpbehapjpaaGreat

namespace Go.Proofs.YtcjjbpbehapjpaaGreat
open Go.RowKit

set_option maxRecDepth 100000 in
set_option maxHeartbeats 2000000 in
theorem told_nm {w : World} (x : Nat) :
    Calls Tryz.prog 330 #[.agg #[iN .i64 x]] w fun e w' => e = .returned (.agg #[iN .i64 1, iN .i64 x, .string { data := #[] }, .slice none 0 0]) ∧ Below w.heap.size w w' := by
  have H0 := HA.start w
  go_enter Tryz.func330, Tryz.ntmps330
  refine wp_seq (wl_region ?_)
  refine wl_make (c := #[iN .i64 x]) H0 202 ky ky ?_
  intro q1 w2 (h3 : HA (bs w) [(q1, 202, #[iN .i64 x])] w2)
  refine wl_make (c := #[iN .i64 0, iN .i64 0, .string ({ data := #[] }), .slice none 0 0]) h3 168 ky ky ?_
  intro q4 w5 (h6 : HA (bs w) [(q4, 168, #[iN .i64 0, iN .i64 0, .string ({ data := #[] }), .slice none 0 0]), (q1, 202, #[iN .i64 x])] w5)
  refine wl_nil (then_at rfl (wp_seq (wl_region ?_)))
  refine zv (.pointer (some ⟨q1, 0, none⟩)) ?_
  refine zu (iN .i64 x) (run_load1 (fun w => Tryz.isAgg3 w) ky (((h6.get 1 rfl).cell 0).trans rfl)) ?_
  refine zv (.agg #[iN .i64 1, iN .i64 x, .string ({ data := #[] }), .slice none 0 0]) ?_
  refine wl_fill (c' := #[iN .i64 1, iN .i64 x, .string ({ data := #[] }), .slice none 0 0]) h6 0 rfl ky ky ky rfl ky ky ?_
  intro w7 (h8 : HA (bs w) [(q4, 168, #[iN .i64 1, iN .i64 x, .string ({ data := #[] }), .slice none 0 0]), (q1, 202, #[iN .i64 x])] w7)
  refine wl_nil (then_at rfl ?_)
  refine wp_ret ?_
  repeat first | refine then_ret ?_ | refine block_ret ?_
  exact bodyPost_ret (v := .agg #[iN .i64 1, iN .i64 x, .string { data := #[] }, .slice none 0 0]) (res_cell (p := 2) ky ky (h8.get 0 rfl) Tryz.underlying168 rfl ky) rfl ⟨rfl, h8.old.old⟩
set_option maxRecDepth 100000 in
set_option maxHeartbeats 2000000 in
theorem told_dt {w : World} (s : ByteArray) (hs : s.size ≤ 281474976710656) :
    Calls Tryz.prog 331 #[.agg #[.string s]] w fun e w' => e = .returned (.agg #[iN .i64 2, iN .i64 0, .string s, .slice none 0 0]) ∧ Below w.heap.size w w' := by
  have H0 := HA.start w
  go_enter Tryz.func331, Tryz.ntmps331
  refine wp_seq (wl_region ?_)
  refine wl_make (c := #[.string s]) H0 204 ky ky ?_
  intro q1 w2 (h3 : HA (bs w) [(q1, 204, #[.string s])] w2)
  refine wl_make (c := #[iN .i64 0, iN .i64 0, .string ({ data := #[] }), .slice none 0 0]) h3 168 ky ky ?_
  intro q4 w5 (h6 : HA (bs w) [(q4, 168, #[iN .i64 0, iN .i64 0, .string ({ data := #[] }), .slice none 0 0]), (q1, 204, #[.string s])] w5)
  refine wl_nil (then_at rfl (wp_seq (wl_region ?_)))
  refine zv (.pointer (some ⟨q1, 0, none⟩)) ?_
  refine zu (.string s) (run_load1 (fun w => Tryz.isAgg9 w) ky (((h6.get 1 rfl).cell 0).trans rfl)) ?_
  refine wl_call (v := .string s) h6 ky enter47 #[.string s] ky (clone_any s hs w5) ?_
  intro w7 h8
  refine zv (.agg #[iN .i64 2, iN .i64 0, .string s, .slice none 0 0]) ?_
  refine wl_fill (c' := #[iN .i64 2, iN .i64 0, .string s, .slice none 0 0]) h8 0 rfl ky ky ky rfl ky ky ?_
  intro w9 (h10 : HA (bs w) [(q4, 168, #[iN .i64 2, iN .i64 0, .string s, .slice none 0 0]), (q1, 204, #[.string s])] w9)
  refine wl_nil (then_at rfl ?_)
  refine wp_ret ?_
  repeat first | refine then_ret ?_ | refine block_ret ?_
  exact bodyPost_ret (v := .agg #[iN .i64 2, iN .i64 0, .string s, .slice none 0 0]) (res_cell (p := 2) ky ky (h10.get 0 rfl) Tryz.underlying168 rfl ky) rfl ⟨rfl, h10.old.old⟩
set_option maxRecDepth 100000 in
theorem enterM123 (rv : Value) (w : World) : (callMethod (.iface 202 rv) "missive/term.told" #[]).run Tryz.prog w = .ok (.enter 330 #[rv]) w := by kernel_rfl
set_option maxRecDepth 100000 in
theorem enterM127 (rv : Value) (w : World) : (callMethod (.iface 204 rv) "missive/term.told" #[]).run Tryz.prog w = .ok (.enter 331 #[rv]) w := by kernel_rfl
set_option maxRecDepth 100000 in
set_option maxHeartbeats 2000000 in
theorem Of_nm {w : World} {q : Nat} {t : Tb} {n0 m cap g x : Nat} {cur : Array Value} {sx : ByteArray} (hq : Blk w q 154 (tcell t n0 (.slice (some ⟨g, 0, none⟩) m cap))) (hg : Blk w g 159 cur) (hm : m ≤ 65536) (hx : x < m) (hn : numT m sx = some x) {y : Nat} (hc : cur[x]? = some (ev (.nm y))) :
    Calls Tryz.prog 313 #[pt q, .string sx] w fun e w' => e = .returned (.tuple #[.agg #[iN .i64 1, iN .i64 y, .string { data := #[] }, .slice none 0 0], .bool true]) ∧ Below w.heap.size w w' := by
  have H0 := HA.start w
  go_enter Tryz.func313, Tryz.ntmps313
  refine wp_seq (wl_region ?_)
  refine wl_make (c := #[iN .i64 0, iN .i64 0, .string ({ data := #[] }), .slice none 0 0]) H0 168 ky ky ?_
  intro q1 w2 (h3 : HA (bs w) [(q1, 168, #[iN .i64 0, iN .i64 0, .string ({ data := #[] }), .slice none 0 0])] w2)
  refine zv (.bool false) ?_
  refine wl_nil (then_at rfl (wp_seq (wl_region ?_)))
  refine zv (.pointer (some ⟨q, 0, none⟩)) ?_
  refine zv (.string sx) ?_
  refine wl_call (v := .tuple #[iN .i64 x, .bool true]) h3 ky enter322 #[.pointer (some ⟨q, 0, none⟩), .string sx] ky (by have := num_any (hq.keep h3.old.old) hm sx; rw [hn] at this; exact this) ?_
  intro w4 h5
  refine zv (.tuple #[iN .i64 x, .bool true]) ?_
  refine zv (iN .i64 x) ?_
  refine zv (.bool true) ?_
  refine zv (iN .i64 x) ?_
  refine zv (.bool true) ?_
  refine wl_nil (then_at rfl (wp_seq (wp_seq (wl_region ?_))))
  refine zv (.bool true) ?_
  refine zv (.bool false) ?_
  refine wl_nil (then_at rfl ?_)
  refine wp_cond_false ky ?_
  refine wp_skip (then_at rfl (wp_seq (wl_region ?_)))
  refine zv (.pointer (some ⟨q, 0, none⟩)) ?_
  refine zv (.pointer (some ⟨q, 0, none⟩)) ?_
  refine zv (.pointer (some ⟨q, 0, none⟩)) ?_
  refine zu (.slice (some ⟨g, 0, none⟩) m cap) (run_load1 (fun w => Tryz.isAgg150 w) ky (((hq.keep h5.old.old).cell 0).trans rfl)) ?_
  refine zv (iN .i64 x) ?_
  refine zu (.pointer (some ⟨g, x, none⟩)) (run_addr_slice (q := g) (n := m) (m := cap) (a := x) Tryz.underlying150 (fun w => Tryz.sizeOf159 w) ky ky (by omega)) ?_
  refine zu (.iface 202 (.agg #[iN .i64 y])) (run_load1 (fun w => Tryz.isAgg159 w) ky (((hg.keep h5.old.old).cell x).trans hc)) ?_
  refine wl_told (rv := .agg #[iN .i64 y]) ky enterM123 ky (told_nm y) ?_
  rintro _ w6 ⟨rfl, hb7⟩
  refine ⟨_, rfl, ?_⟩
  have h8 := HA.keep _ _ h5 hb7
  refine wl_fill (c' := #[iN .i64 1, iN .i64 y, .string { data := #[] }, .slice none 0 0]) h8 0 rfl ky ky ky rfl ky ky ?_
  intro w9 (h10 : HA (bs w) [(q1, 168, #[iN .i64 1, iN .i64 y, .string { data := #[] }, .slice none 0 0])] w9)
  refine zv (.bool true) ?_
  refine wl_nil (then_at rfl ?_)
  refine wp_ret ?_
  repeat first | refine then_ret ?_ | refine block_ret ?_
  exact bodyPost_ret (v := .tuple #[.agg #[iN .i64 1, iN .i64 y, .string { data := #[] }, .slice none 0 0], .bool true]) (res_cell_tmp (p := 4) (r := 5) ky ky ky (h10.get 0 rfl) Tryz.underlying168 rfl ky) rfl ⟨rfl, h10.old.old⟩
set_option maxRecDepth 100000 in
set_option maxHeartbeats 2000000 in
theorem Of_dt {w : World} {q : Nat} {t : Tb} {n0 m cap g x : Nat} {cur : Array Value} {sx : ByteArray} (hq : Blk w q 154 (tcell t n0 (.slice (some ⟨g, 0, none⟩) m cap))) (hg : Blk w g 159 cur) (hm : m ≤ 65536) (hx : x < m) (hn : numT m sx = some x) {s : ByteArray} (hsz : s.size ≤ 281474976710656) (hc : cur[x]? = some (ev (.dt s))) :
    Calls Tryz.prog 313 #[pt q, .string sx] w fun e w' => e = .returned (.tuple #[.agg #[iN .i64 2, iN .i64 0, .string s, .slice none 0 0], .bool true]) ∧ Below w.heap.size w w' := by
  have H0 := HA.start w
  go_enter Tryz.func313, Tryz.ntmps313
  refine wp_seq (wl_region ?_)
  refine wl_make (c := #[iN .i64 0, iN .i64 0, .string ({ data := #[] }), .slice none 0 0]) H0 168 ky ky ?_
  intro q1 w2 (h3 : HA (bs w) [(q1, 168, #[iN .i64 0, iN .i64 0, .string ({ data := #[] }), .slice none 0 0])] w2)
  refine zv (.bool false) ?_
  refine wl_nil (then_at rfl (wp_seq (wl_region ?_)))
  refine zv (.pointer (some ⟨q, 0, none⟩)) ?_
  refine zv (.string sx) ?_
  refine wl_call (v := .tuple #[iN .i64 x, .bool true]) h3 ky enter322 #[.pointer (some ⟨q, 0, none⟩), .string sx] ky (by have := num_any (hq.keep h3.old.old) hm sx; rw [hn] at this; exact this) ?_
  intro w4 h5
  refine zv (.tuple #[iN .i64 x, .bool true]) ?_
  refine zv (iN .i64 x) ?_
  refine zv (.bool true) ?_
  refine zv (iN .i64 x) ?_
  refine zv (.bool true) ?_
  refine wl_nil (then_at rfl (wp_seq (wp_seq (wl_region ?_))))
  refine zv (.bool true) ?_
  refine zv (.bool false) ?_
  refine wl_nil (then_at rfl ?_)
  refine wp_cond_false ky ?_
  refine wp_skip (then_at rfl (wp_seq (wl_region ?_)))
  refine zv (.pointer (some ⟨q, 0, none⟩)) ?_
  refine zv (.pointer (some ⟨q, 0, none⟩)) ?_
  refine zv (.pointer (some ⟨q, 0, none⟩)) ?_
  refine zu (.slice (some ⟨g, 0, none⟩) m cap) (run_load1 (fun w => Tryz.isAgg150 w) ky (((hq.keep h5.old.old).cell 0).trans rfl)) ?_
  refine zv (iN .i64 x) ?_
  refine zu (.pointer (some ⟨g, x, none⟩)) (run_addr_slice (q := g) (n := m) (m := cap) (a := x) Tryz.underlying150 (fun w => Tryz.sizeOf159 w) ky ky (by omega)) ?_
  refine zu (.iface 204 (.agg #[.string s])) (run_load1 (fun w => Tryz.isAgg159 w) ky (((hg.keep h5.old.old).cell x).trans hc)) ?_
  refine wl_told (rv := .agg #[.string s]) ky enterM127 ky (told_dt s hsz) ?_
  rintro _ w6 ⟨rfl, hb7⟩
  refine ⟨_, rfl, ?_⟩
  have h8 := HA.keep _ _ h5 hb7
  refine wl_fill (c' := #[iN .i64 2, iN .i64 0, .string s, .slice none 0 0]) h8 0 rfl ky ky ky rfl ky ky ?_
  intro w9 (h10 : HA (bs w) [(q1, 168, #[iN .i64 2, iN .i64 0, .string s, .slice none 0 0])] w9)
  refine zv (.bool true) ?_
  refine wl_nil (then_at rfl ?_)
  refine wp_ret ?_
  repeat first | refine then_ret ?_ | refine block_ret ?_
  exact bodyPost_ret (v := .tuple #[.agg #[iN .i64 2, iN .i64 0, .string s, .slice none 0 0], .bool true]) (res_cell_tmp (p := 4) (r := 5) ky ky ky (h10.get 0 rfl) Tryz.underlying168 rfl ky) rfl ⟨rfl, h10.old.old⟩
end Go.Proofs.YtcjjbpbehapjpaaGreat
