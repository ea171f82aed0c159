/-
 all: are these known?
-/
import Derived.Test.YtihfeoanognonaaGreatG4
import Derived.Test.YtihfeoanognonaaGreatT48
namespace Go.Proofs.YtihfeoanognonaaGreat
set_option linter.unusedVariables false
set_option maxRecDepth 100000
set_option maxHeartbeats 2000000
open Go.RowKit
theorem all_0 {w : World} {v : Value} {o : Option Addr} {c : Nat} :
  Calls Tryz.prog 46 #[v, .slice o 0 c] w fun e w' => e = .returned (.bool true) ∧ Below w.heap.size w w' := by
 have H0 := HA.start w
 go_enter Tryz.func46, Tryz.ntmps46
 refine zsr ?_
 refine zwv (.bool false) ?_
 refine znt ?_
 refine wp_seq ?_
 refine zsr ?_
 refine zwv (iN .i64 0) ?_
 refine znt ?_
 refine wp_block ?_
 refine wp_loop_rounds 2 ?_
 try rw [rounds_succ]
 refine wp_seq ?_
 refine zsr ?_
 refine zwv (iN .i64 0) ?_
 refine zwv (.slice o 0 c) ?_
 refine zwv (iN .i64 0) ?_
 refine zwu (run_lss (k := .i64) (a := 0) (b := 0) false (by decide)) ?_
 refine znt ?_
 refine zcf ?_
 refine wp_exit ?_
 repeat first | refine then_exit ?_ | refine block_exit ?_ | refine block_exit_ne (by decide) ?_
 refine then_at rfl ?_
 refine zsr ?_
 refine zwv (.bool true) ?_
 refine znt ?_
 refine wp_ret ?_
 repeat first | refine then_ret ?_ | refine block_ret ?_
 exact bodyPost_ret (by kernel_rfl) rfl ⟨rfl, H0.old.old⟩
theorem all_no {K : List Bool} {l : List Nat} {i : Nat} (hi : i < l.length) (h : kB K (l.getD i 0) = false) : l.all (kB K) = false := by
 rw [List.all_eq_false]
 refine ⟨l.getD i 0, ?_, by rw [h]; decide⟩
 rw [List.getD_eq_getElem?_getD, List.getElem?_eq_getElem hi]
 exact List.getElem_mem hi
theorem all_yes {K : List Bool} {l : List Nat} (h : ∀ j, j < l.length → kB K (l.getD j 0) = true) : l.all (kB K) = true := by
 rw [List.all_eq_true]
 intro x hx
 obtain ⟨j, hj, rfl⟩ := List.mem_iff_getElem.1 hx
 have := h j hj
 rw [List.getD_eq_getElem?_getD, List.getElem?_eq_getElem hj] at this
 exact this
theorem all_p {w : World} {K : List Bool} {l : List Nat} {g c g2 c2 : Nat} {cu cu2 : Array Value} (hm : l.length ≤ 1000) (hl : ∀ j, j < l.length → l.getD j 0 < K.length) (hb : Blk w g 4 cu) (hc : ∀ j, j < K.length → cu[j]? = some (.bool (kB K j))) (hb2 : Blk w g2 3 cu2) (hc2 : ∀ j, j < l.length → cu2[j]? = some (iN .i64 (l.getD j 0))) :
  Calls Tryz.prog 46 #[.slice (some ⟨g, 0, none⟩) K.length c, .slice (some ⟨g2, 0, none⟩) l.length c2] w fun e w' => e = .returned (.bool (l.all (kB K))) ∧ Below w.heap.size w w' := by
 have H0 := HA.start w
 go_enter Tryz.func46, Tryz.ntmps46
 refine zsr ?_
 refine zwv (.bool false) ?_
 refine znt ?_
 refine wp_seq ?_
 refine zsr ?_
 refine zwv (iN .i64 0) ?_
 refine znt ?_
 refine wp_block ?_
 refine wp_count (fun i A w' => ∃ u1 : Nat → Value, A = ⟨(.slice (some ⟨g, 0, none⟩) K.length c :: .slice (some ⟨g2, 0, none⟩) l.length c2 :: un :: un :: u1 4 :: iN .i64 i :: u1 6 :: u1 7 :: u1 8 :: u1 9 :: u1 10 :: u1 11 :: u1 12 :: u1 13 :: u1 14 :: u1 15 :: u1 16 :: u1 17 :: u1 18 :: u1 19 :: List.replicate 0 un).toArray, []⟩ ∧ HA (bs w) [] w' ∧ (∀ j, j < i → kB K (l.getD j 0) = true)) l.length ?_ ?_ ?_
 ·exact zex ⟨H0, (fun j hj => absurd hj (by omega))⟩
 ·rintro i hi _ w2 ⟨u1, rfl, h3, hpre⟩
  refine wp_seq ?_
  refine zsr ?_
  refine zwv (iN .i64 i) ?_
  refine zwv (.slice (some ⟨g2, 0, none⟩) l.length c2) ?_
  refine zwv (iN .i64 l.length) ?_
  refine zwu (run_lss (k := .i64) (a := i) (b := l.length) true (decide_eq_true (by omega))) ?_
  refine znt ?_
  refine zct ?_
  refine wp_skip ?_
  refine then_at rfl ?_
  refine wp_seq ?_
  refine wp_block ?_
  refine wp_seq ?_
  have hli := hl i (by omega)
  rcases hb1 : kB K (l.getD i 0) with _ | _
  ·refine wl_region ?_
   refine zwv (.slice (some ⟨g, 0, none⟩) K.length c) ?_
   refine zwv (.slice (some ⟨g2, 0, none⟩) l.length c2) ?_
   refine zwv (iN .i64 i) ?_
   refine zwu (v := .pointer (some ⟨g2, i, none⟩)) (run_addr_slice (q := g2) (n := l.length) (m := c2) (a := i) Tryz.underlying63 Tryz.sizeOf3 (by omega)) ?_
   refine zwu (v := iN .i64 (l.getD i 0)) (run_load1 Tryz.isAgg3 (((hb2.keep h3.old.old).cell i).trans (hc2 i (by omega)))) ?_
   refine zwu (v := .pointer (some ⟨g, l.getD i 0, none⟩)) (run_addr_slice (q := g) (n := K.length) (m := c) (a := l.getD i 0) Tryz.underlying33 Tryz.sizeOf4 (by omega)) ?_
   refine zwu (v := .bool false) (run_load1 Tryz.isAgg4 (((hb.keep h3.old.old).cell (l.getD i 0)).trans ((hc (l.getD i 0) hli).trans (by rw [hb1])))) ?_
   refine zwv (.bool true) ?_
   refine znt ?_
   refine zct ?_
   refine zsr ?_
   refine zwv (.bool false) ?_
   refine znt ?_
   refine wp_ret ?_
   repeat first | refine then_ret ?_ | refine block_ret ?_
   exact bodyPost_ret (v := .bool false) (by kernel_rfl) rfl ⟨by rw [all_no (by omega) hb1], h3.old.old⟩
  ·refine wl_region ?_
   refine zwv (.slice (some ⟨g, 0, none⟩) K.length c) ?_
   refine zwv (.slice (some ⟨g2, 0, none⟩) l.length c2) ?_
   refine zwv (iN .i64 i) ?_
   refine zwu (v := .pointer (some ⟨g2, i, none⟩)) (run_addr_slice (q := g2) (n := l.length) (m := c2) (a := i) Tryz.underlying63 Tryz.sizeOf3 (by omega)) ?_
   refine zwu (v := iN .i64 (l.getD i 0)) (run_load1 Tryz.isAgg3 (((hb2.keep h3.old.old).cell i).trans (hc2 i (by omega)))) ?_
   refine zwu (v := .pointer (some ⟨g, l.getD i 0, none⟩)) (run_addr_slice (q := g) (n := K.length) (m := c) (a := l.getD i 0) Tryz.underlying33 Tryz.sizeOf4 (by omega)) ?_
   refine zwu (v := .bool true) (run_load1 Tryz.isAgg4 (((hb.keep h3.old.old).cell (l.getD i 0)).trans ((hc (l.getD i 0) hli).trans (by rw [hb1])))) ?_
   refine zwv (.bool false) ?_
   refine znt ?_
   refine zcf ?_
   refine wp_skip ?_
   refine block_normal ?_
   refine then_at rfl ?_
   refine wl_region ?_
   refine zwv (iN .i64 i) ?_
   refine zwu (run_add (k := .i64) (a := i) (b := 1) (by simp only [top]; omega)) ?_
   refine zwv (iN .i64 (i + 1)) ?_
   refine wl_nil ?_
   exact then_I ⟨lku u1 [(6, iN .i64 i), (7, .slice (some ⟨g2, 0, none⟩) l.length c2), (8, iN .i64 l.length), (9, .bool true), (10, iN .i64 i), (11, iN .i64 (i + 1)), (12, .slice (some ⟨g, 0, none⟩) K.length c), (13, .slice (some ⟨g2, 0, none⟩) l.length c2), (14, iN .i64 i), (15, .pointer (some ⟨g2, i, none⟩)), (16, iN .i64 (l.getD i 0)), (17, .pointer (some ⟨g, l.getD i 0, none⟩)), (18, .bool true), (19, .bool false)], by kernel_rfl, h3, (fun j hj => by exact (Nat.lt_succ_iff_lt_or_eq.1 hj).elim (hpre j) (fun h => by rw [h]; exact hb1))⟩
 ·rintro _ w4 ⟨u1, rfl, h5, hpre⟩
  refine wp_seq ?_
  refine zsr ?_
  refine zwv (iN .i64 l.length) ?_
  refine zwv (.slice (some ⟨g2, 0, none⟩) l.length c2) ?_
  refine zwv (iN .i64 l.length) ?_
  refine zwu (run_lss (k := .i64) (a := l.length) (b := l.length) false (decide_eq_false (by omega))) ?_
  refine znt ?_
  refine zcf ?_
  refine wp_exit ?_
  repeat first | refine then_exit ?_ | refine block_exit ?_ | refine block_exit_ne (by decide) ?_
  refine then_at rfl ?_
  refine zsr ?_
  refine zwv (.bool true) ?_
  refine znt ?_
  refine wp_ret ?_
  repeat first | refine then_ret ?_ | refine block_ret ?_
  exact bodyPost_ret (v := .bool true) (by kernel_rfl) rfl ⟨by rw [all_yes hpre], h5.old.old⟩
theorem all_any {w : World} {K : List Bool} {l : List Nat} {g c c2 : Nat} {o : Option Addr} {cu : Array Value} (hm : l.length ≤ 1000) (hl : ∀ x ∈ l, x < K.length) (hb : Blk w g 4 cu) (hc : ∀ j, j < K.length → cu[j]? = some (.bool (kB K j))) (hr : RI 0 w o l) :
  Calls Tryz.prog 46 #[.slice (some ⟨g, 0, none⟩) K.length c, .slice o l.length c2] w fun e w' => e = .returned (.bool (l.all (kB K))) ∧ Below w.heap.size w w' := by
 rcases hr with rfl | ⟨g2, cu2, rfl, _, hb2, hc2⟩
 ·exact all_0
 ·exact all_p hm (fun j hj => hl _ (by rw [List.getD_eq_getElem?_getD, List.getElem?_eq_getElem hj]; exact List.getElem_mem hj)) hb hc hb2 hc2
end Go.Proofs.YtihfeoanognonaaGreat

namespace Go.Proofs.YtihfeoanognonaaGreat
set_option linter.unusedVariables false
set_option maxRecDepth 100000
set_option maxHeartbeats 2000000
open Go.RowKit
def hfB (l : List Q4) (K : List Bool) (a b : Nat) : Bool := kB K a && (kB K b || (match l.idxOf? (⟨3, 0, { data := #[] }, [b]⟩ : Q4) with | some p => kB K p | none => false))
theorem hfB_same {es : List Ent} (h : Iv es) (K : List Bool) (a b : Nat) (hb : b < 4294967296) : hfB (es.map trm) K a b = halfB es K a b := by
 unfold hfB halfB pubT
 rw [lkR_idx 3 0 _ [b] (by decide) (fun x hx => by rw [List.mem_singleton.1 hx]; exact hb) es 0 (fun k n s ps b hm => h.wf.mem hm), add0]
 rfl
theorem idxOf_lt {l : List Q4} {x : Q4} {p : Nat} (h : l.idxOf? x = some p) : p < l.length := by
 have := List.findIdx?_eq_some_iff_getElem.1 h
 exact this.1
theorem half_r {w : World} {v : Value} {l : List Q4} (h : RT w v l) (hl : ∀ q ∈ l, q.ps.length ≤ 1000) (hll : l.length ≤ 1000000) {K : List Bool} {g c a b : Nat} {cu : Array Value} (hK : K.length = l.length) (ha : a < K.length) (hb : b < K.length) (hg : Blk w g 4 cu) (hc : ∀ j, j < K.length → cu[j]? = some (.bool (kB K j))) :
  Calls Tryz.prog 47 #[.agg #[v], .slice (some ⟨g, 0, none⟩) K.length c, iN .i64 a, iN .i64 b] w fun e w' => e = .returned (.bool (hfB l K a b)) ∧ Below w.heap.size w w' := by
 have H0 := HA.start w
 go_enter Tryz.func47, Tryz.ntmps47
 refine zsr ?_
 refine wl_make (c := #[v]) H0 27 ?_
 intro q1 w2 (h3 : HA (bs w) [(q1, 27, #[v])] w2)
 refine zwv (.bool false) ?_
 refine znt ?_
 refine wp_seq ?_
 rcases hf : l.idxOf? (⟨3, 0, { data := #[] }, [b]⟩ : Q4) with _ | p
 ·refine wl_region ?_
  refine wl_load h3 0 rfl Tryz.underlying27 rfl ?_
  refine zwv (iN .i64 b) ?_
  refine wl_mks (n := 1) (m := 1) (c := #[iN .i64 b]) h3 3 ?_
  intro q4 w5 (h6 : HA (bs w) [(q4, 3, #[iN .i64 b]), (q1, 27, #[v])] w5)
  refine zwv (.agg #[iN .i64 3, iN .i64 0, .string ({ data := #[] }), .slice (some ⟨q4, 0, none⟩) 1 1]) ?_
  refine wl_call (v := .int .i64 (-1)) h6 enter49 #[.agg (#[v]), .agg #[iN .i64 3, iN .i64 0, .string ({ data := #[] }), .slice (some ⟨q4, 0, none⟩) 1 1]] (by have := find_any (h.keep h6.old.old) hl hll ⟨3, 0, { data := #[] }, [b]⟩ (o := some ⟨q4, 0, none⟩) (c := 1) (.inr ⟨q4, _, rfl, Nat.zero_le _, h6.get 0 rfl, fun j hj => by have : j = 0 := (by simpa using hj); subst this; rfl⟩); rw [fdI, hf] at this; exact this) ?_
  intro w7 h8
  refine zwv (.int .i64 (-1)) ?_
  refine znt ?_
  refine wp_seq ?_
  rcases hka : kB K a with _ | _
  ·rcases hkb : kB K b with _ | _
   ·refine wl_region ?_
    refine zwv (.slice (some ⟨g, 0, none⟩) K.length c) ?_
    refine zwv (iN .i64 a) ?_
    refine zwu (v := .pointer (some ⟨g, a, none⟩)) (run_addr_slice (q := g) (n := K.length) (m := c) (a := a) Tryz.underlying33 Tryz.sizeOf4 (by omega)) ?_
    refine zwu (v := .bool false) (run_load1 Tryz.isAgg4 (((hg.keep h8.old.old).cell a).trans ((hc a ha).trans (by rw [hka])))) ?_
    refine zwv (.bool false) ?_
    refine wl_skip ?_
    refine wl_skip ?_
    refine wl_skip ?_
    refine wl_skip ?_
    refine wl_skip ?_
    refine wl_skip ?_
    refine wl_skip ?_
    refine wl_skip ?_
    refine wl_skip ?_
    refine wl_skip ?_
    refine wl_skip ?_
    refine wl_skip ?_
    refine wl_skip ?_
    refine wl_skip ?_
    refine zwv (.bool false) ?_
    refine zwv (.bool false) ?_
    refine znt ?_
    refine wp_ret ?_
    repeat first | refine then_ret ?_ | refine block_ret ?_
    exact bodyPost_ret (v := .bool false) (by kernel_rfl) rfl ⟨by unfold hfB; rw [hka, hkb, hf]; first | rfl | (simp only [hkp]; rfl), h8.old.old⟩
   ·refine wl_region ?_
    refine zwv (.slice (some ⟨g, 0, none⟩) K.length c) ?_
    refine zwv (iN .i64 a) ?_
    refine zwu (v := .pointer (some ⟨g, a, none⟩)) (run_addr_slice (q := g) (n := K.length) (m := c) (a := a) Tryz.underlying33 Tryz.sizeOf4 (by omega)) ?_
    refine zwu (v := .bool false) (run_load1 Tryz.isAgg4 (((hg.keep h8.old.old).cell a).trans ((hc a ha).trans (by rw [hka])))) ?_
    refine zwv (.bool false) ?_
    refine wl_skip ?_
    refine wl_skip ?_
    refine wl_skip ?_
    refine wl_skip ?_
    refine wl_skip ?_
    refine wl_skip ?_
    refine wl_skip ?_
    refine wl_skip ?_
    refine wl_skip ?_
    refine wl_skip ?_
    refine wl_skip ?_
    refine wl_skip ?_
    refine wl_skip ?_
    refine wl_skip ?_
    refine zwv (.bool false) ?_
    refine zwv (.bool false) ?_
    refine znt ?_
    refine wp_ret ?_
    repeat first | refine then_ret ?_ | refine block_ret ?_
    exact bodyPost_ret (v := .bool false) (by kernel_rfl) rfl ⟨by unfold hfB; rw [hka, hkb, hf]; first | rfl | (simp only [hkp]; rfl), h8.old.old⟩
  ·rcases hkb : kB K b with _ | _
   ·refine wl_region ?_
    refine zwv (.slice (some ⟨g, 0, none⟩) K.length c) ?_
    refine zwv (iN .i64 a) ?_
    refine zwu (v := .pointer (some ⟨g, a, none⟩)) (run_addr_slice (q := g) (n := K.length) (m := c) (a := a) Tryz.underlying33 Tryz.sizeOf4 (by omega)) ?_
    refine zwu (v := .bool true) (run_load1 Tryz.isAgg4 (((hg.keep h8.old.old).cell a).trans ((hc a ha).trans (by rw [hka])))) ?_
    refine zwv (.bool true) ?_
    refine zwv (.slice (some ⟨g, 0, none⟩) K.length c) ?_
    refine zwv (iN .i64 b) ?_
    refine zwu (v := .pointer (some ⟨g, b, none⟩)) (run_addr_slice (q := g) (n := K.length) (m := c) (a := b) Tryz.underlying33 Tryz.sizeOf4 (by omega)) ?_
    refine zwu (v := .bool false) (run_load1 Tryz.isAgg4 (((hg.keep h8.old.old).cell b).trans ((hc b hb).trans (by rw [hkb])))) ?_
    refine zwv (.bool false) ?_
    refine zwv (.int .i64 (-1)) ?_
    refine zwv (.bool false) ?_
    refine zwv (.bool false) ?_
    refine wl_skip ?_
    refine wl_skip ?_
    refine wl_skip ?_
    refine wl_skip ?_
    refine zwv (.bool false) ?_
    refine zwv (.bool false) ?_
    refine zwv (.bool false) ?_
    refine zwv (.bool false) ?_
    refine znt ?_
    refine wp_ret ?_
    repeat first | refine then_ret ?_ | refine block_ret ?_
    exact bodyPost_ret (v := .bool false) (by kernel_rfl) rfl ⟨by unfold hfB; rw [hka, hkb, hf]; first | rfl | (simp only [hkp]; rfl), h8.old.old⟩
   ·refine wl_region ?_
    refine zwv (.slice (some ⟨g, 0, none⟩) K.length c) ?_
    refine zwv (iN .i64 a) ?_
    refine zwu (v := .pointer (some ⟨g, a, none⟩)) (run_addr_slice (q := g) (n := K.length) (m := c) (a := a) Tryz.underlying33 Tryz.sizeOf4 (by omega)) ?_
    refine zwu (v := .bool true) (run_load1 Tryz.isAgg4 (((hg.keep h8.old.old).cell a).trans ((hc a ha).trans (by rw [hka])))) ?_
    refine zwv (.bool true) ?_
    refine zwv (.slice (some ⟨g, 0, none⟩) K.length c) ?_
    refine zwv (iN .i64 b) ?_
    refine zwu (v := .pointer (some ⟨g, b, none⟩)) (run_addr_slice (q := g) (n := K.length) (m := c) (a := b) Tryz.underlying33 Tryz.sizeOf4 (by omega)) ?_
    refine zwu (v := .bool true) (run_load1 Tryz.isAgg4 (((hg.keep h8.old.old).cell b).trans ((hc b hb).trans (by rw [hkb])))) ?_
    refine zwv (.bool true) ?_
    refine wl_skip ?_
    refine wl_skip ?_
    refine wl_skip ?_
    refine wl_skip ?_
    refine wl_skip ?_
    refine wl_skip ?_
    refine wl_skip ?_
    refine wl_skip ?_
    refine zwv (.bool true) ?_
    refine zwv (.bool true) ?_
    refine zwv (.bool true) ?_
    refine znt ?_
    refine wp_ret ?_
    repeat first | refine then_ret ?_ | refine block_ret ?_
    exact bodyPost_ret (v := .bool true) (by kernel_rfl) rfl ⟨by unfold hfB; rw [hka, hkb, hf]; first | rfl | (simp only [hkp]; rfl), h8.old.old⟩
 ·have hp := idxOf_lt hf
  refine wl_region ?_
  refine wl_load h3 0 rfl Tryz.underlying27 rfl ?_
  refine zwv (iN .i64 b) ?_
  refine wl_mks (n := 1) (m := 1) (c := #[iN .i64 b]) h3 3 ?_
  intro q9 w10 (h11 : HA (bs w) [(q9, 3, #[iN .i64 b]), (q1, 27, #[v])] w10)
  refine zwv (.agg #[iN .i64 3, iN .i64 0, .string ({ data := #[] }), .slice (some ⟨q9, 0, none⟩) 1 1]) ?_
  refine wl_call (v := iN .i64 p) h11 enter49 #[.agg (#[v]), .agg #[iN .i64 3, iN .i64 0, .string ({ data := #[] }), .slice (some ⟨q9, 0, none⟩) 1 1]] (by have := find_any (h.keep h11.old.old) hl hll ⟨3, 0, { data := #[] }, [b]⟩ (o := some ⟨q9, 0, none⟩) (c := 1) (.inr ⟨q9, _, rfl, Nat.zero_le _, h11.get 0 rfl, fun j hj => by have : j = 0 := (by simpa using hj); subst this; rfl⟩); rw [fdI, hf] at this; exact this) ?_
  intro w12 h13
  refine zwv (iN .i64 p) ?_
  refine znt ?_
  refine wp_seq ?_
  rcases hka : kB K a with _ | _
  ·rcases hkb : kB K b with _ | _
   ·rcases hkp : kB K p with _ | _
    ·refine wl_region ?_
     refine zwv (.slice (some ⟨g, 0, none⟩) K.length c) ?_
     refine zwv (iN .i64 a) ?_
     refine zwu (v := .pointer (some ⟨g, a, none⟩)) (run_addr_slice (q := g) (n := K.length) (m := c) (a := a) Tryz.underlying33 Tryz.sizeOf4 (by omega)) ?_
     refine zwu (v := .bool false) (run_load1 Tryz.isAgg4 (((hg.keep h13.old.old).cell a).trans ((hc a ha).trans (by rw [hka])))) ?_
     refine zwv (.bool false) ?_
     refine wl_skip ?_
     refine wl_skip ?_
     refine wl_skip ?_
     refine wl_skip ?_
     refine wl_skip ?_
     refine wl_skip ?_
     refine wl_skip ?_
     refine wl_skip ?_
     refine wl_skip ?_
     refine wl_skip ?_
     refine wl_skip ?_
     refine wl_skip ?_
     refine wl_skip ?_
     refine wl_skip ?_
     refine zwv (.bool false) ?_
     refine zwv (.bool false) ?_
     refine znt ?_
     refine wp_ret ?_
     repeat first | refine then_ret ?_ | refine block_ret ?_
     exact bodyPost_ret (v := .bool false) (by kernel_rfl) rfl ⟨by unfold hfB; rw [hka, hkb, hf]; first | rfl | (simp only [hkp]; rfl), h13.old.old⟩
    ·refine wl_region ?_
     refine zwv (.slice (some ⟨g, 0, none⟩) K.length c) ?_
     refine zwv (iN .i64 a) ?_
     refine zwu (v := .pointer (some ⟨g, a, none⟩)) (run_addr_slice (q := g) (n := K.length) (m := c) (a := a) Tryz.underlying33 Tryz.sizeOf4 (by omega)) ?_
     refine zwu (v := .bool false) (run_load1 Tryz.isAgg4 (((hg.keep h13.old.old).cell a).trans ((hc a ha).trans (by rw [hka])))) ?_
     refine zwv (.bool false) ?_
     refine wl_skip ?_
     refine wl_skip ?_
     refine wl_skip ?_
     refine wl_skip ?_
     refine wl_skip ?_
     refine wl_skip ?_
     refine wl_skip ?_
     refine wl_skip ?_
     refine wl_skip ?_
     refine wl_skip ?_
     refine wl_skip ?_
     refine wl_skip ?_
     refine wl_skip ?_
     refine wl_skip ?_
     refine zwv (.bool false) ?_
     refine zwv (.bool false) ?_
     refine znt ?_
     refine wp_ret ?_
     repeat first | refine then_ret ?_ | refine block_ret ?_
     exact bodyPost_ret (v := .bool false) (by kernel_rfl) rfl ⟨by unfold hfB; rw [hka, hkb, hf]; first | rfl | (simp only [hkp]; rfl), h13.old.old⟩
   ·rcases hkp : kB K p with _ | _
    ·refine wl_region ?_
     refine zwv (.slice (some ⟨g, 0, none⟩) K.length c) ?_
     refine zwv (iN .i64 a) ?_
     refine zwu (v := .pointer (some ⟨g, a, none⟩)) (run_addr_slice (q := g) (n := K.length) (m := c) (a := a) Tryz.underlying33 Tryz.sizeOf4 (by omega)) ?_
     refine zwu (v := .bool false) (run_load1 Tryz.isAgg4 (((hg.keep h13.old.old).cell a).trans ((hc a ha).trans (by rw [hka])))) ?_
     refine zwv (.bool false) ?_
     refine wl_skip ?_
     refine wl_skip ?_
     refine wl_skip ?_
     refine wl_skip ?_
     refine wl_skip ?_
     refine wl_skip ?_
     refine wl_skip ?_
     refine wl_skip ?_
     refine wl_skip ?_
     refine wl_skip ?_
     refine wl_skip ?_
     refine wl_skip ?_
     refine wl_skip ?_
     refine wl_skip ?_
     refine zwv (.bool false) ?_
     refine zwv (.bool false) ?_
     refine znt ?_
     refine wp_ret ?_
     repeat first | refine then_ret ?_ | refine block_ret ?_
     exact bodyPost_ret (v := .bool false) (by kernel_rfl) rfl ⟨by unfold hfB; rw [hka, hkb, hf]; first | rfl | (simp only [hkp]; rfl), h13.old.old⟩
    ·refine wl_region ?_
     refine zwv (.slice (some ⟨g, 0, none⟩) K.length c) ?_
     refine zwv (iN .i64 a) ?_
     refine zwu (v := .pointer (some ⟨g, a, none⟩)) (run_addr_slice (q := g) (n := K.length) (m := c) (a := a) Tryz.underlying33 Tryz.sizeOf4 (by omega)) ?_
     refine zwu (v := .bool false) (run_load1 Tryz.isAgg4 (((hg.keep h13.old.old).cell a).trans ((hc a ha).trans (by rw [hka])))) ?_
     refine zwv (.bool false) ?_
     refine wl_skip ?_
     refine wl_skip ?_
     refine wl_skip ?_
     refine wl_skip ?_
     refine wl_skip ?_
     refine wl_skip ?_
     refine wl_skip ?_
     refine wl_skip ?_
     refine wl_skip ?_
     refine wl_skip ?_
     refine wl_skip ?_
     refine wl_skip ?_
     refine wl_skip ?_
     refine wl_skip ?_
     refine zwv (.bool false) ?_
     refine zwv (.bool false) ?_
     refine zna ⟨(.agg #[v] :: .slice (some ⟨g, 0, none⟩) K.length c :: iN .i64 a :: iN .i64 b :: pt q1 :: un :: un :: un :: .bool false :: iN .i64 p :: .agg (#[v]) :: iN .i64 b :: .slice (some ⟨q9, 0, none⟩) 1 1 :: .agg #[iN .i64 3, iN .i64 0, .string ({ data := #[] }), .slice (some ⟨q9, 0, none⟩) 1 1] :: iN .i64 p :: .slice (some ⟨g, 0, none⟩) K.length c :: iN .i64 a :: .pointer (some ⟨g, a, none⟩) :: .bool false :: .bool false :: un :: un :: un :: un :: un :: un :: un :: un :: un :: un :: un :: un :: un :: un :: .bool false :: List.replicate 0 un).toArray, []⟩ ?_
     refine wp_ret ?_
     repeat first | refine then_ret ?_ | refine block_ret ?_
     exact bodyPost_ret (v := .bool false) (by kernel_rfl) rfl ⟨by unfold hfB; rw [hka, hkb, hf]; first | rfl | (simp only [hkp]; rfl), h13.old.old⟩
  ·rcases hkb : kB K b with _ | _
   ·rcases hkp : kB K p with _ | _
    ·refine wl_region ?_
     refine zwv (.slice (some ⟨g, 0, none⟩) K.length c) ?_
     refine zwv (iN .i64 a) ?_
     refine zwu (v := .pointer (some ⟨g, a, none⟩)) (run_addr_slice (q := g) (n := K.length) (m := c) (a := a) Tryz.underlying33 Tryz.sizeOf4 (by omega)) ?_
     refine zwu (v := .bool true) (run_load1 Tryz.isAgg4 (((hg.keep h13.old.old).cell a).trans ((hc a ha).trans (by rw [hka])))) ?_
     refine zwv (.bool true) ?_
     refine zwv (.slice (some ⟨g, 0, none⟩) K.length c) ?_
     refine zwv (iN .i64 b) ?_
     refine zwu (v := .pointer (some ⟨g, b, none⟩)) (run_addr_slice (q := g) (n := K.length) (m := c) (a := b) Tryz.underlying33 Tryz.sizeOf4 (by omega)) ?_
     refine zwu (v := .bool false) (run_load1 Tryz.isAgg4 (((hg.keep h13.old.old).cell b).trans ((hc b hb).trans (by rw [hkb])))) ?_
     refine zwv (.bool false) ?_
     refine zwv (iN .i64 p) ?_
     refine zwu (run_geq (k := .i64) (a := p) (b := 0) true (decide_eq_true (by omega))) ?_
     refine zwv (.bool true) ?_
     refine zwv (.slice (some ⟨g, 0, none⟩) K.length c) ?_
     refine zwv (iN .i64 p) ?_
     refine zwu (v := .pointer (some ⟨g, p, none⟩)) (run_addr_slice (q := g) (n := K.length) (m := c) (a := p) Tryz.underlying33 Tryz.sizeOf4 (by omega)) ?_
     refine zwu (v := .bool false) (run_load1 Tryz.isAgg4 (((hg.keep h13.old.old).cell p).trans ((hc p (by omega)).trans (by rw [hkp])))) ?_
     refine zwv (.bool false) ?_
     refine zwv (.bool false) ?_
     refine zwv (.bool false) ?_
     refine zwv (.bool false) ?_
     refine znt ?_
     refine wp_ret ?_
     repeat first | refine then_ret ?_ | refine block_ret ?_
     exact bodyPost_ret (v := .bool false) (by kernel_rfl) rfl ⟨by unfold hfB; rw [hka, hkb, hf]; first | rfl | (simp only [hkp]; rfl), h13.old.old⟩
    ·refine wl_region ?_
     refine zwv (.slice (some ⟨g, 0, none⟩) K.length c) ?_
     refine zwv (iN .i64 a) ?_
     refine zwu (v := .pointer (some ⟨g, a, none⟩)) (run_addr_slice (q := g) (n := K.length) (m := c) (a := a) Tryz.underlying33 Tryz.sizeOf4 (by omega)) ?_
     refine zwu (v := .bool true) (run_load1 Tryz.isAgg4 (((hg.keep h13.old.old).cell a).trans ((hc a ha).trans (by rw [hka])))) ?_
     refine zwv (.bool true) ?_
     refine zwv (.slice (some ⟨g, 0, none⟩) K.length c) ?_
     refine zwv (iN .i64 b) ?_
     refine zwu (v := .pointer (some ⟨g, b, none⟩)) (run_addr_slice (q := g) (n := K.length) (m := c) (a := b) Tryz.underlying33 Tryz.sizeOf4 (by omega)) ?_
     refine zwu (v := .bool false) (run_load1 Tryz.isAgg4 (((hg.keep h13.old.old).cell b).trans ((hc b hb).trans (by rw [hkb])))) ?_
     refine zwv (.bool false) ?_
     refine zwv (iN .i64 p) ?_
     refine zwu (run_geq (k := .i64) (a := p) (b := 0) true (decide_eq_true (by omega))) ?_
     refine zwv (.bool true) ?_
     refine zwv (.slice (some ⟨g, 0, none⟩) K.length c) ?_
     refine zwv (iN .i64 p) ?_
     refine zwu (v := .pointer (some ⟨g, p, none⟩)) (run_addr_slice (q := g) (n := K.length) (m := c) (a := p) Tryz.underlying33 Tryz.sizeOf4 (by omega)) ?_
     refine zwu (v := .bool true) (run_load1 Tryz.isAgg4 (((hg.keep h13.old.old).cell p).trans ((hc p (by omega)).trans (by rw [hkp])))) ?_
     refine zwv (.bool true) ?_
     refine zwv (.bool true) ?_
     refine zwv (.bool true) ?_
     refine zwv (.bool true) ?_
     refine znt ?_
     refine wp_ret ?_
     repeat first | refine then_ret ?_ | refine block_ret ?_
     exact bodyPost_ret (v := .bool true) (by kernel_rfl) rfl ⟨by unfold hfB; rw [hka, hkb, hf]; first | rfl | (simp only [hkp]; rfl), h13.old.old⟩
   ·rcases hkp : kB K p with _ | _
    ·refine wl_region ?_
     refine zwv (.slice (some ⟨g, 0, none⟩) K.length c) ?_
     refine zwv (iN .i64 a) ?_
     refine zwu (v := .pointer (some ⟨g, a, none⟩)) (run_addr_slice (q := g) (n := K.length) (m := c) (a := a) Tryz.underlying33 Tryz.sizeOf4 (by omega)) ?_
     refine zwu (v := .bool true) (run_load1 Tryz.isAgg4 (((hg.keep h13.old.old).cell a).trans ((hc a ha).trans (by rw [hka])))) ?_
     refine zwv (.bool true) ?_
     refine zwv (.slice (some ⟨g, 0, none⟩) K.length c) ?_
     refine zwv (iN .i64 b) ?_
     refine zwu (v := .pointer (some ⟨g, b, none⟩)) (run_addr_slice (q := g) (n := K.length) (m := c) (a := b) Tryz.underlying33 Tryz.sizeOf4 (by omega)) ?_
     refine zwu (v := .bool true) (run_load1 Tryz.isAgg4 (((hg.keep h13.old.old).cell b).trans ((hc b hb).trans (by rw [hkb])))) ?_
     refine zwv (.bool true) ?_
     refine wl_skip ?_
     refine wl_skip ?_
     refine wl_skip ?_
     refine wl_skip ?_
     refine wl_skip ?_
     refine wl_skip ?_
     refine wl_skip ?_
     refine wl_skip ?_
     refine zwv (.bool true) ?_
     refine zwv (.bool true) ?_
     refine zwv (.bool true) ?_
     refine znt ?_
     refine wp_ret ?_
     repeat first | refine then_ret ?_ | refine block_ret ?_
     exact bodyPost_ret (v := .bool true) (by kernel_rfl) rfl ⟨by unfold hfB; rw [hka, hkb, hf]; first | rfl | (simp only [hkp]; rfl), h13.old.old⟩
    ·refine wl_region ?_
     refine zwv (.slice (some ⟨g, 0, none⟩) K.length c) ?_
     refine zwv (iN .i64 a) ?_
     refine zwu (v := .pointer (some ⟨g, a, none⟩)) (run_addr_slice (q := g) (n := K.length) (m := c) (a := a) Tryz.underlying33 Tryz.sizeOf4 (by omega)) ?_
     refine zwu (v := .bool true) (run_load1 Tryz.isAgg4 (((hg.keep h13.old.old).cell a).trans ((hc a ha).trans (by rw [hka])))) ?_
     refine zwv (.bool true) ?_
     refine zwv (.slice (some ⟨g, 0, none⟩) K.length c) ?_
     refine zwv (iN .i64 b) ?_
     refine zwu (v := .pointer (some ⟨g, b, none⟩)) (run_addr_slice (q := g) (n := K.length) (m := c) (a := b) Tryz.underlying33 Tryz.sizeOf4 (by omega)) ?_
     refine zwu (v := .bool true) (run_load1 Tryz.isAgg4 (((hg.keep h13.old.old).cell b).trans ((hc b hb).trans (by rw [hkb])))) ?_
     refine zwv (.bool true) ?_
     refine wl_skip ?_
     refine wl_skip ?_
     refine wl_skip ?_
     refine wl_skip ?_
     refine wl_skip ?_
     refine wl_skip ?_
     refine wl_skip ?_
     refine wl_skip ?_
     refine zwv (.bool true) ?_
     refine zwv (.bool true) ?_
     refine zwv (.bool true) ?_
     refine znt ?_
     refine wp_ret ?_
     repeat first | refine then_ret ?_ | refine block_ret ?_
     exact bodyPost_ret (v := .bool true) (by kernel_rfl) rfl ⟨by unfold hfB; rw [hka, hkb, hf]; first | rfl | (simp only [hkp]; rfl), h13.old.old⟩
end Go.Proofs.YtihfeoanognonaaGreat
