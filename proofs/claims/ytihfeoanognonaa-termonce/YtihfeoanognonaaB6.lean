/-
 Of, of whatever term.
-/
import Derived.Test.YtihfeoanognonaaT45
import Derived.Test.YtihfeoanognonaaBa
namespace Go.Proofs.Ytihfeoanognonaa
set_option linter.unusedVariables false
set_option maxRecDepth 100000
set_option maxHeartbeats 2000000
open Go.RowKit
theorem told_nm {w : World} (x : Nat) :
  Calls Try.prog 123 #[.agg #[iN .i64 x]] w fun e w' => e = .returned (.agg #[iN .i64 1, iN .i64 x, .string { data := #[] }, .slice none 0 0]) ∧ Below w.heap.size w w' := by
 have H0 := HA.start w
 go_enter Try.func123, Try.ntmps123
 refine zsr ?_
 refine wl_make (c := #[iN .i64 x]) H0 84 ?_
 intro q1 w2 (h3 : HA (bs w) [(q1, 84, #[iN .i64 x])] w2)
 refine wl_make (c := #[iN .i64 0, iN .i64 0, .string ({ data := #[] }), .slice none 0 0]) h3 31 ?_
 intro q4 w5 (h6 : HA (bs w) [(q4, 31, #[iN .i64 0, iN .i64 0, .string ({ data := #[] }), .slice none 0 0]), (q1, 84, #[iN .i64 x])] w5)
 refine znt ?_
 refine zsr ?_
 refine zwv (.pointer (some ⟨q1, 0, none⟩)) ?_
 refine zwu (v := iN .i64 x) (run_load1 Try.isAgg3 (((h6.get 1 rfl).cell 0).trans rfl)) ?_
 refine zwv (.agg #[iN .i64 1, iN .i64 x, .string ({ data := #[] }), .slice none 0 0]) ?_
 refine wl_fill (c' := #[iN .i64 1, iN .i64 x, .string ({ data := #[] }), .slice none 0 0]) h6 0 rfl rfl ?_
 intro w7 (h8 : HA (bs w) [(q4, 31, #[iN .i64 1, iN .i64 x, .string ({ data := #[] }), .slice none 0 0]), (q1, 84, #[iN .i64 x])] w7)
 refine znt ?_
 refine wp_ret ?_
 repeat first | refine then_ret ?_ | refine block_ret ?_
 exact bodyPost_ret (res_cell (p := 2) (by kernel_rfl) (by kernel_rfl) (h8.get 0 rfl) Try.underlying31 rfl (by kernel_rfl)) rfl ⟨rfl, h8.old.old⟩
theorem told_dt {w : World} (s : ByteArray) (hs : s.size ≤ 281474976710656) :
  Calls Try.prog 127 #[.agg #[.string s]] w fun e w' => e = .returned (.agg #[iN .i64 2, iN .i64 0, .string s, .slice none 0 0]) ∧ Below w.heap.size w w' := by
 have H0 := HA.start w
 go_enter Try.func127, Try.ntmps127
 refine zsr ?_
 refine wl_make (c := #[.string s]) H0 121 ?_
 intro q1 w2 (h3 : HA (bs w) [(q1, 121, #[.string s])] w2)
 refine wl_make (c := #[iN .i64 0, iN .i64 0, .string ({ data := #[] }), .slice none 0 0]) h3 31 ?_
 intro q4 w5 (h6 : HA (bs w) [(q4, 31, #[iN .i64 0, iN .i64 0, .string ({ data := #[] }), .slice none 0 0]), (q1, 121, #[.string s])] w5)
 refine znt ?_
 refine zsr ?_
 refine zwv (.pointer (some ⟨q1, 0, none⟩)) ?_
 refine zwu (v := .string s) (run_load1 Try.isAgg9 (((h6.get 1 rfl).cell 0).trans rfl)) ?_
 refine zwc h6 enter63 (clone_any s hs w5) ?_
 intro w7 h8
 refine zwv (.agg #[iN .i64 2, iN .i64 0, .string s, .slice none 0 0]) ?_
 refine wl_fill (c' := #[iN .i64 2, iN .i64 0, .string s, .slice none 0 0]) h8 0 rfl rfl ?_
 intro w9 (h10 : HA (bs w) [(q4, 31, #[iN .i64 2, iN .i64 0, .string s, .slice none 0 0]), (q1, 121, #[.string s])] w9)
 refine znt ?_
 refine wp_ret ?_
 repeat first | refine then_ret ?_ | refine block_ret ?_
 exact bodyPost_ret (res_cell (p := 2) (by kernel_rfl) (by kernel_rfl) (h10.get 0 rfl) Try.underlying31 rfl (by kernel_rfl)) rfl ⟨rfl, h10.old.old⟩
theorem enterM123 (rv : Value) (w : World) : (callMethod (.iface 84 rv) "missive/term.told" #[]).run Try.prog w = .ok (.enter 123 #[rv]) w := by kernel_rfl
theorem enterM127 (rv : Value) (w : World) : (callMethod (.iface 121 rv) "missive/term.told" #[]).run Try.prog w = .ok (.enter 127 #[rv]) w := by kernel_rfl
theorem Of_nm {w : World} {q : Nat} {t : Tb} {n0 m cap g x : Nat} {cur : Array Value} {sx : ByteArray} (hq : Blk w q 74 (tcell t n0 (.slice (some ⟨g, 0, none⟩) m cap))) (hg : Blk w g 69 cur) (hm : m ≤ 65536) (hx : x < m) (hn : numT m sx = some x) {y : Nat} (hc : cur[x]? = some (ev (.nm y))) :
  Calls Try.prog 9 #[pt q, .string sx] w fun e w' => e = .returned (.tuple #[.agg #[iN .i64 1, iN .i64 y, .string { data := #[] }, .slice none 0 0], .bool true]) ∧ Below w.heap.size w w' := by
 have H0 := HA.start w
 go_enter Try.func9, Try.ntmps9
 refine zsr ?_
 refine wl_make (c := #[iN .i64 0, iN .i64 0, .string ({ data := #[] }), .slice none 0 0]) H0 31 ?_
 intro q1 w2 (h3 : HA (bs w) [(q1, 31, #[iN .i64 0, iN .i64 0, .string ({ data := #[] }), .slice none 0 0])] w2)
 refine zwv (.bool false) ?_
 refine znt ?_
 refine zsr ?_
 refine zwv (.pointer (some ⟨q, 0, none⟩)) ?_
 refine zwv (.string sx) ?_
 refine wl_call (v := .tuple #[iN .i64 x, .bool true]) h3 enter29 #[.pointer (some ⟨q, 0, none⟩), .string sx] (by have := num_any (hq.keep h3.old.old) hm sx; rw [hn] at this; exact this) ?_
 intro w4 h5
 refine zwv (.tuple #[iN .i64 x, .bool true]) ?_
 refine zwv (iN .i64 x) ?_
 refine zwv (.bool true) ?_
 refine zwv (iN .i64 x) ?_
 refine zwv (.bool true) ?_
 refine znt ?_
 refine wp_seq ?_
 refine zsr ?_
 refine zwv (.bool true) ?_
 refine zwv (.bool false) ?_
 refine znt ?_
 refine zcf ?_
 refine wp_skip ?_
 refine then_at rfl ?_
 refine zsr ?_
 refine zwv (.pointer (some ⟨q, 0, none⟩)) ?_
 refine zwv (.pointer (some ⟨q, 0, none⟩)) ?_
 refine zwv (.pointer (some ⟨q, 0, none⟩)) ?_
 refine zwu (v := .slice (some ⟨g, 0, none⟩) m cap) (run_load1 Try.isAgg70 (((hq.keep h5.old.old).cell 0).trans rfl)) ?_
 refine zwv (iN .i64 x) ?_
 refine zwu (v := .pointer (some ⟨g, x, none⟩)) (run_addr_slice (q := g) (n := m) (m := cap) (a := x) Try.underlying70 Try.sizeOf69 (by omega)) ?_
 refine zwu (v := .iface 84 (.agg #[iN .i64 y])) (run_load1 Try.isAgg69 (((hg.keep h5.old.old).cell x).trans hc)) ?_
 refine wl_told (rv := .agg #[iN .i64 y]) (by kernel_rfl) enterM123 (by kernel_rfl) (told_nm y) ?_
 rintro _ w6 ⟨rfl, hb7⟩
 refine ⟨_, rfl, ?_⟩
 have h8 := HA.keep _ _ h5 hb7
 refine wl_fill (c' := #[iN .i64 1, iN .i64 y, .string { data := #[] }, .slice none 0 0]) h8 0 rfl rfl ?_
 intro w9 (h10 : HA (bs w) [(q1, 31, #[iN .i64 1, iN .i64 y, .string { data := #[] }, .slice none 0 0])] w9)
 refine zwv (.bool true) ?_
 refine znt ?_
 refine wp_ret ?_
 repeat first | refine then_ret ?_ | refine block_ret ?_
 exact bodyPost_ret (res_cell_tmp (p := 4) (r := 5) (by kernel_rfl) (by kernel_rfl) (by kernel_rfl) (h10.get 0 rfl) Try.underlying31 rfl (by kernel_rfl)) rfl ⟨rfl, h10.old.old⟩
theorem Of_dt {w : World} {q : Nat} {t : Tb} {n0 m cap g x : Nat} {cur : Array Value} {sx : ByteArray} (hq : Blk w q 74 (tcell t n0 (.slice (some ⟨g, 0, none⟩) m cap))) (hg : Blk w g 69 cur) (hm : m ≤ 65536) (hx : x < m) (hn : numT m sx = some x) {s : ByteArray} (hsz : s.size ≤ 281474976710656) (hc : cur[x]? = some (ev (.dt s))) :
  Calls Try.prog 9 #[pt q, .string sx] w fun e w' => e = .returned (.tuple #[.agg #[iN .i64 2, iN .i64 0, .string s, .slice none 0 0], .bool true]) ∧ Below w.heap.size w w' := by
 have H0 := HA.start w
 go_enter Try.func9, Try.ntmps9
 refine zsr ?_
 refine wl_make (c := #[iN .i64 0, iN .i64 0, .string ({ data := #[] }), .slice none 0 0]) H0 31 ?_
 intro q1 w2 (h3 : HA (bs w) [(q1, 31, #[iN .i64 0, iN .i64 0, .string ({ data := #[] }), .slice none 0 0])] w2)
 refine zwv (.bool false) ?_
 refine znt ?_
 refine zsr ?_
 refine zwv (.pointer (some ⟨q, 0, none⟩)) ?_
 refine zwv (.string sx) ?_
 refine wl_call (v := .tuple #[iN .i64 x, .bool true]) h3 enter29 #[.pointer (some ⟨q, 0, none⟩), .string sx] (by have := num_any (hq.keep h3.old.old) hm sx; rw [hn] at this; exact this) ?_
 intro w4 h5
 refine zwv (.tuple #[iN .i64 x, .bool true]) ?_
 refine zwv (iN .i64 x) ?_
 refine zwv (.bool true) ?_
 refine zwv (iN .i64 x) ?_
 refine zwv (.bool true) ?_
 refine znt ?_
 refine wp_seq ?_
 refine zsr ?_
 refine zwv (.bool true) ?_
 refine zwv (.bool false) ?_
 refine znt ?_
 refine zcf ?_
 refine wp_skip ?_
 refine then_at rfl ?_
 refine zsr ?_
 refine zwv (.pointer (some ⟨q, 0, none⟩)) ?_
 refine zwv (.pointer (some ⟨q, 0, none⟩)) ?_
 refine zwv (.pointer (some ⟨q, 0, none⟩)) ?_
 refine zwu (v := .slice (some ⟨g, 0, none⟩) m cap) (run_load1 Try.isAgg70 (((hq.keep h5.old.old).cell 0).trans rfl)) ?_
 refine zwv (iN .i64 x) ?_
 refine zwu (v := .pointer (some ⟨g, x, none⟩)) (run_addr_slice (q := g) (n := m) (m := cap) (a := x) Try.underlying70 Try.sizeOf69 (by omega)) ?_
 refine zwu (v := .iface 121 (.agg #[.string s])) (run_load1 Try.isAgg69 (((hg.keep h5.old.old).cell x).trans hc)) ?_
 refine wl_told (rv := .agg #[.string s]) (by kernel_rfl) enterM127 (by kernel_rfl) (told_dt s hsz) ?_
 rintro _ w6 ⟨rfl, hb7⟩
 refine ⟨_, rfl, ?_⟩
 have h8 := HA.keep _ _ h5 hb7
 refine wl_fill (c' := #[iN .i64 2, iN .i64 0, .string s, .slice none 0 0]) h8 0 rfl rfl ?_
 intro w9 (h10 : HA (bs w) [(q1, 31, #[iN .i64 2, iN .i64 0, .string s, .slice none 0 0])] w9)
 refine zwv (.bool true) ?_
 refine znt ?_
 refine wp_ret ?_
 repeat first | refine then_ret ?_ | refine block_ret ?_
 exact bodyPost_ret (res_cell_tmp (p := 4) (r := 5) (by kernel_rfl) (by kernel_rfl) (by kernel_rfl) (h10.get 0 rfl) Try.underlying31 rfl (by kernel_rfl)) rfl ⟨rfl, h10.old.old⟩
theorem Of_yes {w : World} {t : Tb} {es : List Ent} (h : TV w t es) (hI : Iv es) {sx : ByteArray} {x : Nat} (hn : numT es.length sx = some x) {q : Ent} (he : es[x]? = some q) :
  Calls Try.prog 9 #[pt t.q, .string sx] w fun e w' => ∃ po pc N, e = .returned (.tuple #[.agg #[iN .i64 (trm q).k, iN .i64 (trm q).n, .string (trm q).s, .slice po (trm q).ps.length pc], .bool true]) ∧ RIL N po (trm q).ps ∧ Newer w.heap.size w' N ∧ Below w.heap.size w w' := by
 have hxl : x < es.length := (List.getElem?_eq_some_iff.1 he).1
 have hm : es.length ≤ 65536 := by have := hI.wf.few; omega
 cases q with
 | mk k n s ps b =>
  refine (Of_made h hI.wf hn he (by have := hI.ll k n s ps b (List.mem_of_getElem? he); omega)).mono ?_
  rintro e w' ⟨mm, c, rfl, h1, h2, h3, h4⟩
  exact ⟨some ⟨(unp mm).1, 0, none⟩, (unp mm).2, [((unp mm).1, 3, c)], rfl, .inr ⟨_, c, rfl, by simp, h3⟩, ⟨fun y hy => by rw [List.mem_singleton.1 hy]; exact ⟨h1, h2⟩, by simp⟩, h4⟩
 | nm y =>
  obtain ⟨v, hq, hrow⟩ := h.row
  rcases hrow with ⟨rfl, _⟩ | ⟨g, cap, cur, rfl, hg, htk⟩
  ·simp at hxl
  ·refine (Of_nm hq hg hm hxl hn (row_get htk he)).mono ?_
   rintro e w' ⟨rfl, hb⟩
   exact ⟨none, 0, [], rfl, .inl rfl, Newer.nil _ _, hb⟩
 | dt s =>
  obtain ⟨v, hq, hrow⟩ := h.row
  rcases hrow with ⟨rfl, _⟩ | ⟨g, cap, cur, rfl, hg, htk⟩
  ·simp at hxl
  ·refine (Of_dt hq hg hm hxl hn (by have := hI.dd s (List.mem_of_getElem? he); omega) (row_get htk he)).mono ?_
   rintro e w' ⟨rfl, hb⟩
   exact ⟨none, 0, [], rfl, .inl rfl, Newer.nil _ _, hb⟩
end Go.Proofs.Ytihfeoanognonaa

namespace Go.Proofs.Ytihfeoanognonaa
open Go.RowKit
theorem numT_lt {m : Nat} {s : ByteArray} {x : Nat} (h : numT m s = some x) : x < m := by
 unfold numT at h
 split at h
 ·exact (firstT_some h).2.2
 ·cases h
end Go.Proofs.Ytihfeoanognonaa
