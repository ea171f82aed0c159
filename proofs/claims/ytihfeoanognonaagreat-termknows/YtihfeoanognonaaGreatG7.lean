/-
 out: what comes out of a known term
-/
import Derived.Test.YtihfeoanognonaaGreatG5
namespace Go.Proofs.YtihfeoanognonaaGreat
set_option linter.unusedVariables false
set_option maxRecDepth 100000
set_option maxHeartbeats 2000000
open Go.RowKit
theorem out_6y {w : World} {v : Value} {l : List Q4} {K : List Bool} {k n g c c2 : Nat} {s : ByteArray} {cu : Array Value} {ps : List Nat} (hg : Blk w g 4 cu) (hc : ∀ j, j < K.length → cu[j]? = some (.bool (kB K j))) {g2 : Nat} {cu2 : Array Value} (hg2 : Blk w g2 3 cu2) (hc2 : ∀ j, j < ps.length → cu2[j]? = some (iN .i64 (ps.getD j 0))) (hk : k = 6) (hp : ps.length = 4) (hl0 : ps.getD 0 0 < K.length) (hk0 : kB K (ps.getD 0 0) = true) :
  Calls Tryz.prog 25 #[.agg #[v], .slice (some ⟨g, 0, none⟩) K.length c, tmv k n s (some ⟨g2, 0, none⟩) ps.length c2] w fun e w' => ∃ o' c', e = .returned (.slice o' (outM K k ps).length c') ∧ RI w.heap.size w' o' (outM K k ps) ∧ Below w.heap.size w w' := by
 have H0 := HA.start w
 go_enter Tryz.func25, Tryz.ntmps25
 refine zsr ?_
 refine wl_make (c := #[v]) H0 27 ?_
 intro q1 w2 (h3 : HA (bs w) [(q1, 27, #[v])] w2)
 refine wl_make (c := #[iN .i64 k, iN .i64 n, .string s, .slice (some ⟨g2, 0, none⟩) ps.length c2]) h3 74 ?_
 intro q4 w5 (h6 : HA (bs w) [(q4, 74, #[iN .i64 k, iN .i64 n, .string s, .slice (some ⟨g2, 0, none⟩) ps.length c2]), (q1, 27, #[v])] w5)
 refine zwv (.slice none 0 0) ?_
 refine znt ?_
 refine wp_seq ?_
 refine zsr ?_
 refine zwv (.pointer (some ⟨q4, 0, none⟩)) ?_
 refine zwu (v := iN .i64 k) (run_load1 Tryz.isAgg3 (((h6.get 0 rfl).cell 0).trans rfl)) ?_
 refine zwu (run_eqi (k := .i64) (a := k) (b := 2) false (ht := (decide_eq_false (by omega)))) ?_
 refine znt ?_
 refine zcf ?_
 refine wp_skip ?_
 refine then_at rfl ?_
 refine wp_seq ?_
 refine zsr ?_
 refine zwv (.pointer (some ⟨q4, 0, none⟩)) ?_
 refine zwu (v := iN .i64 k) (run_load1 Tryz.isAgg3 (((h6.get 0 rfl).cell 0).trans rfl)) ?_
 refine zwu (run_eqi (k := .i64) (a := k) (b := 6) true (ht := (decide_eq_true hk))) ?_
 refine zwv (.bool true) ?_
 refine zwv (.slice (some ⟨g, 0, none⟩) K.length c) ?_
 refine zwv (.pointer (some ⟨q4, 3, none⟩)) ?_
 refine zwu (v := .slice (some ⟨g2, 0, none⟩) ps.length c2) (run_load1 Tryz.isAgg63 (((h6.get 0 rfl).cell 3).trans rfl)) ?_
 refine zwu (v := .pointer (some ⟨g2, 0, none⟩)) (run_addr_slice (q := g2) (n := ps.length) (m := c2) (a := 0) Tryz.underlying63 Tryz.sizeOf3 (by omega)) ?_
 refine zwu (v := iN .i64 (ps.getD 0 0)) (run_load1 Tryz.isAgg3 (((hg2.keep h6.old.old).cell 0).trans (hc2 0 (by omega)))) ?_
 refine zwu (v := .pointer (some ⟨g, ps.getD 0 0, none⟩)) (run_addr_slice (q := g) (n := K.length) (m := c) (a := ps.getD 0 0) Tryz.underlying33 Tryz.sizeOf4 (by omega)) ?_
 refine zwu (v := .bool true) (run_load1 Tryz.isAgg4 (((hg.keep h6.old.old).cell (ps.getD 0 0)).trans ((hc (ps.getD 0 0) hl0).trans (by rw [hk0])))) ?_
 refine zwv (.bool true) ?_
 refine znt ?_
 refine zct ?_
 refine zsr ?_
 refine zwv (.pointer (some ⟨q4, 3, none⟩)) ?_
 refine zwu (v := .slice (some ⟨g2, 0, none⟩) ps.length c2) (run_load1 Tryz.isAgg63 (((h6.get 0 rfl).cell 3).trans rfl)) ?_
 refine zwu (v := .pointer (some ⟨g2, 3, none⟩)) (run_addr_slice (q := g2) (n := ps.length) (m := c2) (a := 3) Tryz.underlying63 Tryz.sizeOf3 (by omega)) ?_
 refine zwu (v := iN .i64 (ps.getD 3 0)) (run_load1 Tryz.isAgg3 (((hg2.keep h6.old.old).cell 3).trans (hc2 3 (by omega)))) ?_
 refine wl_mks (n := 1) (m := 1) (c := #[iN .i64 (ps.getD 3 0)]) h6 3 ?_
 intro q7 w8 (h9 : HA (bs w) [(q7, 3, #[iN .i64 (ps.getD 3 0)]), (q4, 74, #[iN .i64 k, iN .i64 n, .string s, .slice (some ⟨g2, 0, none⟩) ps.length c2]), (q1, 27, #[v])] w8)
 refine zwv (.slice (some ⟨q7, 0, none⟩) 1 1) ?_
 refine znt ?_
 refine wp_ret ?_
 repeat first | refine then_ret ?_ | refine block_ret ?_
 exact bodyPost_ret (v := .slice (some ⟨q7, 0, none⟩) 1 1) (by kernel_rfl) rfl ⟨_, _, by rw [show outM K k ps = [ps.getD 3 0] from by unfold outM; rw [if_pos ⟨hk, hk0⟩]]; rfl, by rw [show outM K k ps = [ps.getD 3 0] from by unfold outM; rw [if_pos ⟨hk, hk0⟩]]; exact .inr ⟨q7, _, rfl, h9.own _ (List.mem_cons_self ..), h9.get 0 rfl, fun j hj => by have : j = 0 := (by simpa using hj); subst this; rfl⟩, h9.old.old⟩
theorem out_6n {w : World} {v : Value} {l : List Q4} {K : List Bool} {k n g c c2 : Nat} {s : ByteArray} {cu : Array Value} {ps : List Nat} (hg : Blk w g 4 cu) (hc : ∀ j, j < K.length → cu[j]? = some (.bool (kB K j))) {g2 : Nat} {cu2 : Array Value} (hg2 : Blk w g2 3 cu2) (hc2 : ∀ j, j < ps.length → cu2[j]? = some (iN .i64 (ps.getD j 0))) (hk : k = 6) (hp : ps.length = 4) (hl0 : ps.getD 0 0 < K.length) (hk0 : kB K (ps.getD 0 0) = false) :
  Calls Tryz.prog 25 #[.agg #[v], .slice (some ⟨g, 0, none⟩) K.length c, tmv k n s (some ⟨g2, 0, none⟩) ps.length c2] w fun e w' => ∃ o' c', e = .returned (.slice o' (outM K k ps).length c') ∧ RI w.heap.size w' o' (outM K k ps) ∧ Below w.heap.size w w' := by
 have H0 := HA.start w
 go_enter Tryz.func25, Tryz.ntmps25
 refine zsr ?_
 refine wl_make (c := #[v]) H0 27 ?_
 intro q1 w2 (h3 : HA (bs w) [(q1, 27, #[v])] w2)
 refine wl_make (c := #[iN .i64 k, iN .i64 n, .string s, .slice (some ⟨g2, 0, none⟩) ps.length c2]) h3 74 ?_
 intro q4 w5 (h6 : HA (bs w) [(q4, 74, #[iN .i64 k, iN .i64 n, .string s, .slice (some ⟨g2, 0, none⟩) ps.length c2]), (q1, 27, #[v])] w5)
 refine zwv (.slice none 0 0) ?_
 refine znt ?_
 refine wp_seq ?_
 refine zsr ?_
 refine zwv (.pointer (some ⟨q4, 0, none⟩)) ?_
 refine zwu (v := iN .i64 k) (run_load1 Tryz.isAgg3 (((h6.get 0 rfl).cell 0).trans rfl)) ?_
 refine zwu (run_eqi (k := .i64) (a := k) (b := 2) false (ht := (decide_eq_false (by omega)))) ?_
 refine znt ?_
 refine zcf ?_
 refine wp_skip ?_
 refine then_at rfl ?_
 refine wp_seq ?_
 refine zsr ?_
 refine zwv (.pointer (some ⟨q4, 0, none⟩)) ?_
 refine zwu (v := iN .i64 k) (run_load1 Tryz.isAgg3 (((h6.get 0 rfl).cell 0).trans rfl)) ?_
 refine zwu (run_eqi (k := .i64) (a := k) (b := 6) true (ht := (decide_eq_true hk))) ?_
 refine zwv (.bool true) ?_
 refine zwv (.slice (some ⟨g, 0, none⟩) K.length c) ?_
 refine zwv (.pointer (some ⟨q4, 3, none⟩)) ?_
 refine zwu (v := .slice (some ⟨g2, 0, none⟩) ps.length c2) (run_load1 Tryz.isAgg63 (((h6.get 0 rfl).cell 3).trans rfl)) ?_
 refine zwu (v := .pointer (some ⟨g2, 0, none⟩)) (run_addr_slice (q := g2) (n := ps.length) (m := c2) (a := 0) Tryz.underlying63 Tryz.sizeOf3 (by omega)) ?_
 refine zwu (v := iN .i64 (ps.getD 0 0)) (run_load1 Tryz.isAgg3 (((hg2.keep h6.old.old).cell 0).trans (hc2 0 (by omega)))) ?_
 refine zwu (v := .pointer (some ⟨g, ps.getD 0 0, none⟩)) (run_addr_slice (q := g) (n := K.length) (m := c) (a := ps.getD 0 0) Tryz.underlying33 Tryz.sizeOf4 (by omega)) ?_
 refine zwu (v := .bool false) (run_load1 Tryz.isAgg4 (((hg.keep h6.old.old).cell (ps.getD 0 0)).trans ((hc (ps.getD 0 0) hl0).trans (by rw [hk0])))) ?_
 refine zwv (.bool false) ?_
 refine znt ?_
 refine zcf ?_
 refine wp_skip ?_
 refine then_at rfl ?_
 refine wp_seq ?_
 refine zsr ?_
 refine zwv (.pointer (some ⟨q4, 0, none⟩)) ?_
 refine zwu (v := iN .i64 k) (run_load1 Tryz.isAgg3 (((h6.get 0 rfl).cell 0).trans rfl)) ?_
 refine zwu (run_eqi (k := .i64) (a := k) (b := 7) false (ht := (decide_eq_false (by omega)))) ?_
 refine znt ?_
 refine zcf ?_
 refine wp_skip ?_
 refine then_at rfl ?_
 refine zsr ?_
 refine zwv (.slice none 0 0) ?_
 refine znt ?_
 refine wp_ret ?_
 repeat first | refine then_ret ?_ | refine block_ret ?_
 exact bodyPost_ret (v := .slice none 0 0) (by kernel_rfl) rfl ⟨none, 0, by rw [show outM K k ps = [] from by unfold outM; rw [if_neg (fun h => by rw [hk0] at h; cases h.2), if_neg (by omega)]]; rfl, by rw [show outM K k ps = [] from by unfold outM; rw [if_neg (fun h => by rw [hk0] at h; cases h.2), if_neg (by omega)]]; exact .inl rfl, h6.old.old⟩
theorem out_7 {w : World} {v : Value} {l : List Q4} {K : List Bool} {k n g c c2 : Nat} {s : ByteArray} {cu : Array Value} {ps : List Nat} (hg : Blk w g 4 cu) (hc : ∀ j, j < K.length → cu[j]? = some (.bool (kB K j))) {g2 : Nat} {cu2 : Array Value} (hg2 : Blk w g2 3 cu2) (hc2 : ∀ j, j < ps.length → cu2[j]? = some (iN .i64 (ps.getD j 0))) (hk : k = 7) (hp : ps.length = 2) :
  Calls Tryz.prog 25 #[.agg #[v], .slice (some ⟨g, 0, none⟩) K.length c, tmv k n s (some ⟨g2, 0, none⟩) ps.length c2] w fun e w' => ∃ o' c', e = .returned (.slice o' (outM K k ps).length c') ∧ RI w.heap.size w' o' (outM K k ps) ∧ Below w.heap.size w w' := by
 have H0 := HA.start w
 go_enter Tryz.func25, Tryz.ntmps25
 refine zsr ?_
 refine wl_make (c := #[v]) H0 27 ?_
 intro q1 w2 (h3 : HA (bs w) [(q1, 27, #[v])] w2)
 refine wl_make (c := #[iN .i64 k, iN .i64 n, .string s, .slice (some ⟨g2, 0, none⟩) ps.length c2]) h3 74 ?_
 intro q4 w5 (h6 : HA (bs w) [(q4, 74, #[iN .i64 k, iN .i64 n, .string s, .slice (some ⟨g2, 0, none⟩) ps.length c2]), (q1, 27, #[v])] w5)
 refine zwv (.slice none 0 0) ?_
 refine znt ?_
 refine wp_seq ?_
 refine zsr ?_
 refine zwv (.pointer (some ⟨q4, 0, none⟩)) ?_
 refine zwu (v := iN .i64 k) (run_load1 Tryz.isAgg3 (((h6.get 0 rfl).cell 0).trans rfl)) ?_
 refine zwu (run_eqi (k := .i64) (a := k) (b := 2) false (ht := (decide_eq_false (by omega)))) ?_
 refine znt ?_
 refine zcf ?_
 refine wp_skip ?_
 refine then_at rfl ?_
 refine wp_seq ?_
 refine zsr ?_
 refine zwv (.pointer (some ⟨q4, 0, none⟩)) ?_
 refine zwu (v := iN .i64 k) (run_load1 Tryz.isAgg3 (((h6.get 0 rfl).cell 0).trans rfl)) ?_
 refine zwu (run_eqi (k := .i64) (a := k) (b := 6) false (ht := (decide_eq_false (by omega)))) ?_
 refine zwv (.bool false) ?_
 refine wl_skip ?_
 refine wl_skip ?_
 refine wl_skip ?_
 refine wl_skip ?_
 refine wl_skip ?_
 refine wl_skip ?_
 refine wl_skip ?_
 refine zwv (.bool false) ?_
 refine znt ?_
 refine zcf ?_
 refine wp_skip ?_
 refine then_at rfl ?_
 refine wp_seq ?_
 refine zsr ?_
 refine zwv (.pointer (some ⟨q4, 0, none⟩)) ?_
 refine zwu (v := iN .i64 k) (run_load1 Tryz.isAgg3 (((h6.get 0 rfl).cell 0).trans rfl)) ?_
 refine zwu (run_eqi (k := .i64) (a := k) (b := 7) true (ht := (decide_eq_true hk))) ?_
 refine znt ?_
 refine zct ?_
 refine zsr ?_
 refine zwv (.pointer (some ⟨q4, 3, none⟩)) ?_
 refine zwu (v := .slice (some ⟨g2, 0, none⟩) ps.length c2) (run_load1 Tryz.isAgg63 (((h6.get 0 rfl).cell 3).trans rfl)) ?_
 refine zwu (v := .pointer (some ⟨g2, 1, none⟩)) (run_addr_slice (q := g2) (n := ps.length) (m := c2) (a := 1) Tryz.underlying63 Tryz.sizeOf3 (by omega)) ?_
 refine zwu (v := iN .i64 (ps.getD 1 0)) (run_load1 Tryz.isAgg3 (((hg2.keep h6.old.old).cell 1).trans (hc2 1 (by omega)))) ?_
 refine wl_mks (n := 1) (m := 1) (c := #[iN .i64 (ps.getD 1 0)]) h6 3 ?_
 intro q7 w8 (h9 : HA (bs w) [(q7, 3, #[iN .i64 (ps.getD 1 0)]), (q4, 74, #[iN .i64 k, iN .i64 n, .string s, .slice (some ⟨g2, 0, none⟩) ps.length c2]), (q1, 27, #[v])] w8)
 refine zwv (.slice (some ⟨q7, 0, none⟩) 1 1) ?_
 refine znt ?_
 refine wp_ret ?_
 repeat first | refine then_ret ?_ | refine block_ret ?_
 exact bodyPost_ret (v := .slice (some ⟨q7, 0, none⟩) 1 1) (by kernel_rfl) rfl ⟨_, _, by rw [show outM K k ps = [ps.getD 1 0] from by unfold outM; rw [if_neg (by omega), if_pos hk]]; rfl, by rw [show outM K k ps = [ps.getD 1 0] from by unfold outM; rw [if_neg (by omega), if_pos hk]]; exact .inr ⟨q7, _, rfl, h9.own _ (List.mem_cons_self ..), h9.get 0 rfl, fun j hj => by have : j = 0 := (by simpa using hj); subst this; rfl⟩, h9.old.old⟩
theorem out_o {w : World} {v : Value} {l : List Q4} {K : List Bool} {k n g c c2 : Nat} {s : ByteArray} {cu : Array Value} {ps : List Nat} {o : Option Addr} (hg : Blk w g 4 cu) (hc : ∀ j, j < K.length → cu[j]? = some (.bool (kB K j))) (e2 : k ≠ 2) (e6 : k ≠ 6) (e7 : k ≠ 7) :
  Calls Tryz.prog 25 #[.agg #[v], .slice (some ⟨g, 0, none⟩) K.length c, tmv k n s (o) ps.length c2] w fun e w' => ∃ o' c', e = .returned (.slice o' (outM K k ps).length c') ∧ RI w.heap.size w' o' (outM K k ps) ∧ Below w.heap.size w w' := by
 have H0 := HA.start w
 go_enter Tryz.func25, Tryz.ntmps25
 refine zsr ?_
 refine wl_make (c := #[v]) H0 27 ?_
 intro q1 w2 (h3 : HA (bs w) [(q1, 27, #[v])] w2)
 refine wl_make (c := #[iN .i64 k, iN .i64 n, .string s, .slice o ps.length c2]) h3 74 ?_
 intro q4 w5 (h6 : HA (bs w) [(q4, 74, #[iN .i64 k, iN .i64 n, .string s, .slice o ps.length c2]), (q1, 27, #[v])] w5)
 refine zwv (.slice none 0 0) ?_
 refine znt ?_
 refine wp_seq ?_
 refine zsr ?_
 refine zwv (.pointer (some ⟨q4, 0, none⟩)) ?_
 refine zwu (v := iN .i64 k) (run_load1 Tryz.isAgg3 (((h6.get 0 rfl).cell 0).trans rfl)) ?_
 refine zwu (run_eqi (k := .i64) (a := k) (b := 2) false (ht := (decide_eq_false e2))) ?_
 refine znt ?_
 refine zcf ?_
 refine wp_skip ?_
 refine then_at rfl ?_
 refine wp_seq ?_
 refine zsr ?_
 refine zwv (.pointer (some ⟨q4, 0, none⟩)) ?_
 refine zwu (v := iN .i64 k) (run_load1 Tryz.isAgg3 (((h6.get 0 rfl).cell 0).trans rfl)) ?_
 refine zwu (run_eqi (k := .i64) (a := k) (b := 6) false (ht := (decide_eq_false e6))) ?_
 refine zwv (.bool false) ?_
 refine wl_skip ?_
 refine wl_skip ?_
 refine wl_skip ?_
 refine wl_skip ?_
 refine wl_skip ?_
 refine wl_skip ?_
 refine wl_skip ?_
 refine zwv (.bool false) ?_
 refine znt ?_
 refine zcf ?_
 refine wp_skip ?_
 refine then_at rfl ?_
 refine wp_seq ?_
 refine zsr ?_
 refine zwv (.pointer (some ⟨q4, 0, none⟩)) ?_
 refine zwu (v := iN .i64 k) (run_load1 Tryz.isAgg3 (((h6.get 0 rfl).cell 0).trans rfl)) ?_
 refine zwu (run_eqi (k := .i64) (a := k) (b := 7) false (ht := (decide_eq_false e7))) ?_
 refine znt ?_
 refine zcf ?_
 refine wp_skip ?_
 refine then_at rfl ?_
 refine zsr ?_
 refine zwv (.slice none 0 0) ?_
 refine znt ?_
 refine wp_ret ?_
 repeat first | refine then_ret ?_ | refine block_ret ?_
 exact bodyPost_ret (v := .slice none 0 0) (by kernel_rfl) rfl ⟨none, 0, by rw [show outM K k ps = [] from by unfold outM; rw [if_neg (fun h => e6 h.1), if_neg e7]]; rfl, by rw [show outM K k ps = [] from by unfold outM; rw [if_neg (fun h => e6 h.1), if_neg e7]]; exact .inl rfl, h6.old.old⟩
theorem RI.low {B B' : Nat} {w : World} {o : Option Addr} {ps : List Nat} (h : RI B w o ps) (hB : B' ≤ B) : RI B' w o ps := by
 rcases h with h | ⟨q, c, h1, h2, h3⟩
 ·exact .inl h
 ·exact .inr ⟨q, c, h1, Nat.le_trans hB h2, h3⟩
theorem out_d {w : World} {v : Value} {l : List Q4} {K : List Bool} {k n g c c2 : Nat} {s : ByteArray} {cu : Array Value} {ps : List Nat} {o : Option Addr} {RL : BL} (h : RTL v l RL) (hS : Stand w RL) (hll : l.length ≤ 60000) (hs : s.size ≤ 1000000) (hk : k = 2) :
  Calls Tryz.prog 25 #[.agg #[v], .slice (some ⟨g, 0, none⟩) K.length c, tmv k n s (o) ps.length c2] w fun e w' => ∃ o' c', e = .returned (.slice o' (wth l.length s).length c') ∧ RI w.heap.size w' o' (wth l.length s) ∧ Below w.heap.size w w' := by
 have H0 := HA.start w
 go_enter Tryz.func25, Tryz.ntmps25
 refine zsr ?_
 refine wl_make (c := #[v]) H0 27 ?_
 intro q1 w2 (h3 : HA (bs w) [(q1, 27, #[v])] w2)
 refine wl_make (c := #[iN .i64 k, iN .i64 n, .string s, .slice o ps.length c2]) h3 74 ?_
 intro q4 w5 (h6 : HA (bs w) [(q4, 74, #[iN .i64 k, iN .i64 n, .string s, .slice o ps.length c2]), (q1, 27, #[v])] w5)
 refine zwv (.slice none 0 0) ?_
 refine znt ?_
 refine wp_seq ?_
 refine zsr ?_
 refine zwv (.pointer (some ⟨q4, 0, none⟩)) ?_
 refine zwu (v := iN .i64 k) (run_load1 Tryz.isAgg3 (((h6.get 0 rfl).cell 0).trans rfl)) ?_
 refine zwu (run_eqi (k := .i64) (a := k) (b := 2) true (ht := (decide_eq_true hk))) ?_
 refine znt ?_
 refine zct ?_
 refine zsr ?_
 refine wl_load h6 1 rfl Tryz.underlying27 rfl ?_
 refine zwv (.pointer (some ⟨q4, 2, none⟩)) ?_
 refine zwu (v := .string s) (run_load1 Tryz.isAgg9 (((h6.get 0 rfl).cell 2).trans rfl)) ?_
 refine wl_callx enter23 #[.agg (#[v]), .string s] (rwithin_any h (hS.keep h6.old.old) hll s hs) ?_
 rintro _ w7 ⟨oB, cB, rfl, hriB, hbB⟩
 refine ⟨_, rfl, ?_⟩
 have h8 := h6.keep _ _ hbB
 have hri := hriB.low (B' := w.heap.size) h6.old.old.size
 refine zwv (.slice oB (wth l.length s).length cB) ?_
 refine znt ?_
 refine wp_ret ?_
 repeat first | refine then_ret ?_ | refine block_ret ?_
 exact bodyPost_ret (v := .slice oB (wth l.length s).length cB) (by kernel_rfl) rfl ⟨_, _, rfl, hri, h8.old.old⟩
theorem out_any {w : World} {es : List Ent} (hI : Iv es) {v : Value} {RL : BL} (h : RTL v (es.map trm) RL) (hS : Stand w RL) {K : List Bool} (hK : K.length = es.length) {g c c2 : Nat} {cu : Array Value} (hg : Blk w g 4 cu) (hc : ∀ j, j < K.length → cu[j]? = some (.bool (kB K j))) {x : Nat} {e : Ent} (he : es[x]? = some e) {o : Option Addr} (hr : RI 0 w o (trm e).ps) :
  Calls Tryz.prog 25 #[.agg #[v], .slice (some ⟨g, 0, none⟩) K.length c, tmv (trm e).k (trm e).n (trm e).s o (trm e).ps.length c2] w fun e' w' => ∃ o' c', e' = .returned (.slice o' (outB es K e).length c') ∧ RI w.heap.size w' o' (outB es K e) ∧ Below w.heap.size w w' := by
 have hm : e ∈ es := List.mem_of_getElem? he
 cases e with
 | nm n => exact out_o (l := []) (k := 1) (ps := []) hg hc (by decide) (by decide) (by decide)
 | dt s =>
  have := out_d (n := 0) (cu := cu) (K := K) (g := g) (c := c) (c2 := c2) (ps := []) (o := o) h hS (by rw [List.length_map]; exact hI.wf.few) (hI.dd s hm) (s := s) (rfl : 2 = 2)
  rw [List.length_map] at this
  exact this
 | mk k n s ps b =>
  have hlt := hI.wg.lt x k n s ps b he
  by_cases h6 : k = 6
  ·subst h6
   have h4 := hI.wg.four x n s ps b he
   rcases hr with hr | ⟨g2, cu2, rfl, _, hb2, hc2⟩
   ·rw [show (trm (.mk 6 n s ps b)).ps = ps from rfl] at hr; rw [hr] at h4; cases h4
   ·have hl0 : ps.getD 0 0 < K.length := by rw [hK]; exact gD_lt hlt (by omega)
    cases hk0 : kB K (ps.getD 0 0) with
    | true => exact out_6y (l := []) hg hc hb2 hc2 rfl h4 hl0 hk0
    | false => exact out_6n (l := []) hg hc hb2 hc2 rfl h4 hl0 hk0
  ·by_cases h7 : k = 7
   ·subst h7
    have h2 := hI.wg.sig x n s ps b he
    rcases hr with hr | ⟨g2, cu2, rfl, _, hb2, hc2⟩
    ·rw [show (trm (.mk 7 n s ps b)).ps = ps from rfl] at hr; rw [hr] at h2; cases h2
    ·exact out_7 (l := []) hg hc hb2 hc2 rfl h2
   ·have h3 := hI.kk k n s ps b hm
    exact out_o (l := []) (k := k) hg hc (show k ≠ 2 by omega) h6 h7
end Go.Proofs.YtihfeoanognonaaGreat

namespace Go.Proofs.YtihfeoanognonaaGreat
set_option linter.unusedVariables false
set_option maxRecDepth 100000
set_option maxHeartbeats 2000000
open Go.RowKit
theorem made_1 {w : World} {v : Value} {l : List Q4} {K : List Bool} {k n g c c2 : Nat} {s : ByteArray} {cu : Array Value} {ps : List Nat} {o : Option Addr} (hk : k = 1) :
  Calls Tryz.prog 24 #[.agg #[v], .slice (some ⟨g, 0, none⟩) K.length c, tmv k n s (o) ps.length c2] w fun e w' => e = .returned (.bool false) ∧ Below w.heap.size w w' := by
 have H0 := HA.start w
 go_enter Tryz.func24, Tryz.ntmps24
 refine zsr ?_
 refine wl_make (c := #[v]) H0 27 ?_
 intro q1 w2 (h3 : HA (bs w) [(q1, 27, #[v])] w2)
 refine wl_make (c := #[iN .i64 k, iN .i64 n, .string s, .slice o ps.length c2]) h3 74 ?_
 intro q4 w5 (h6 : HA (bs w) [(q4, 74, #[iN .i64 k, iN .i64 n, .string s, .slice o ps.length c2]), (q1, 27, #[v])] w5)
 refine zwv (.bool false) ?_
 refine znt ?_
 refine wp_seq ?_
 refine zsr ?_
 refine zwv (.pointer (some ⟨q4, 0, none⟩)) ?_
 refine zwu (v := iN .i64 k) (run_load1 Tryz.isAgg3 (((h6.get 0 rfl).cell 0).trans rfl)) ?_
 refine znt ?_
 refine wp_block ?_
 refine zsr ?_
 refine zwu (run_eqi (k := .i64) (a := k) (b := 1) true (ht := (decide_eq_true hk))) ?_
 refine zwv (.bool true) ?_
 refine znt ?_
 refine zct ?_
 refine zsr ?_
 refine zwv (.bool false) ?_
 refine znt ?_
 refine wp_ret ?_
 repeat first | refine then_ret ?_ | refine block_ret ?_
 exact bodyPost_ret (v := .bool false) (by kernel_rfl) rfl ⟨by rfl, h6.old.old⟩
theorem made_d {w : World} {v : Value} {l : List Q4} {K : List Bool} {k n g c c2 : Nat} {s : ByteArray} {cu : Array Value} {ps : List Nat} {o : Option Addr} (hg : Blk w g 4 cu) (hc : ∀ j, j < K.length → cu[j]? = some (.bool (kB K j))) {RL : BL} (h : RTL v l RL) (hS : Stand w RL) (hll : l.length ≤ 1000) (hs : s.size ≤ 1000000) (hK : K.length = l.length) (hk : k = 2) :
  Calls Tryz.prog 24 #[.agg #[v], .slice (some ⟨g, 0, none⟩) K.length c, tmv k n s (o) ps.length c2] w fun e w' => e = .returned (.bool ((wth l.length s).all (kB K))) ∧ Below w.heap.size w w' := by
 have H0 := HA.start w
 go_enter Tryz.func24, Tryz.ntmps24
 refine zsr ?_
 refine wl_make (c := #[v]) H0 27 ?_
 intro q1 w2 (h3 : HA (bs w) [(q1, 27, #[v])] w2)
 refine wl_make (c := #[iN .i64 k, iN .i64 n, .string s, .slice o ps.length c2]) h3 74 ?_
 intro q4 w5 (h6 : HA (bs w) [(q4, 74, #[iN .i64 k, iN .i64 n, .string s, .slice o ps.length c2]), (q1, 27, #[v])] w5)
 refine zwv (.bool false) ?_
 refine znt ?_
 refine wp_seq ?_
 refine zsr ?_
 refine zwv (.pointer (some ⟨q4, 0, none⟩)) ?_
 refine zwu (v := iN .i64 k) (run_load1 Tryz.isAgg3 (((h6.get 0 rfl).cell 0).trans rfl)) ?_
 refine znt ?_
 refine wp_block ?_
 refine zsr ?_
 refine zwu (run_eqi (k := .i64) (a := k) (b := 1) false (ht := (decide_eq_false (by omega)))) ?_
 refine zwv (.bool false) ?_
 refine znt ?_
 refine zcf ?_
 refine zsr ?_
 refine zwu (run_eqi (k := .i64) (a := k) (b := 2) true (ht := (decide_eq_true hk))) ?_
 refine zwv (.bool true) ?_
 refine znt ?_
 refine zct ?_
 refine zsr ?_
 refine zwv (.slice (some ⟨g, 0, none⟩) K.length c) ?_
 refine wl_load h6 1 rfl Tryz.underlying27 rfl ?_
 refine zwv (.pointer (some ⟨q4, 2, none⟩)) ?_
 refine zwu (v := .string s) (run_load1 Tryz.isAgg9 (((h6.get 0 rfl).cell 2).trans rfl)) ?_
 refine wl_callx enter23 #[.agg (#[v]), .string s] (rwithin_any h (hS.keep h6.old.old) (by omega) s hs) ?_
 rintro _ w7 ⟨oB, cB, rfl, hriB, hbB⟩
 refine ⟨_, rfl, ?_⟩
 have h8 := h6.keep _ _ hbB
 refine wl_call (v := .bool (((wth l.length s).all (kB K)))) h8 enter46 #[.slice (some ⟨g, 0, none⟩) K.length c, .slice oB (wth l.length s).length cB] (all_any (by have := wth_len l.length s; omega) (fun x hx => by rw [hK]; exact wth_lt _ _ x hx) (hg.keep h8.old.old) hc (hriB.low (Nat.zero_le _))) ?_
 intro w9 h10
 refine zwv (.bool (((wth l.length s).all (kB K)))) ?_
 refine znt ?_
 refine wp_ret ?_
 repeat first | refine then_ret ?_ | refine block_ret ?_
 exact bodyPost_ret (v := .bool ((wth l.length s).all (kB K))) (by kernel_rfl) rfl ⟨by rfl, h10.old.old⟩
theorem made_o {w : World} {v : Value} {l : List Q4} {K : List Bool} {k n g c c2 : Nat} {s : ByteArray} {cu : Array Value} {ps : List Nat} (hg : Blk w g 4 cu) (hc : ∀ j, j < K.length → cu[j]? = some (.bool (kB K j))) {o : Option Addr} (hp : ps.length ≤ 1000) (hl : ∀ x ∈ ps, x < K.length) (hr : RI 0 w o ps) (e1 : k ≠ 1) (e2 : k ≠ 2) (e4 : k ≠ 4) :
  Calls Tryz.prog 24 #[.agg #[v], .slice (some ⟨g, 0, none⟩) K.length c, tmv k n s (o) ps.length c2] w fun e w' => e = .returned (.bool (ps.all (kB K))) ∧ Below w.heap.size w w' := by
 have H0 := HA.start w
 go_enter Tryz.func24, Tryz.ntmps24
 refine zsr ?_
 refine wl_make (c := #[v]) H0 27 ?_
 intro q1 w2 (h3 : HA (bs w) [(q1, 27, #[v])] w2)
 refine wl_make (c := #[iN .i64 k, iN .i64 n, .string s, .slice o ps.length c2]) h3 74 ?_
 intro q4 w5 (h6 : HA (bs w) [(q4, 74, #[iN .i64 k, iN .i64 n, .string s, .slice o ps.length c2]), (q1, 27, #[v])] w5)
 refine zwv (.bool false) ?_
 refine znt ?_
 refine wp_seq ?_
 refine zsr ?_
 refine zwv (.pointer (some ⟨q4, 0, none⟩)) ?_
 refine zwu (v := iN .i64 k) (run_load1 Tryz.isAgg3 (((h6.get 0 rfl).cell 0).trans rfl)) ?_
 refine znt ?_
 refine wp_block ?_
 refine zsr ?_
 refine zwu (run_eqi (k := .i64) (a := k) (b := 1) false (ht := (decide_eq_false e1))) ?_
 refine zwv (.bool false) ?_
 refine znt ?_
 refine zcf ?_
 refine zsr ?_
 refine zwu (run_eqi (k := .i64) (a := k) (b := 2) false (ht := (decide_eq_false e2))) ?_
 refine zwv (.bool false) ?_
 refine znt ?_
 refine zcf ?_
 refine zsr ?_
 refine zwu (run_eqi (k := .i64) (a := k) (b := 4) false (ht := (decide_eq_false e4))) ?_
 refine zwv (.bool false) ?_
 refine znt ?_
 refine zcf ?_
 refine wp_skip ?_
 refine block_normal ?_
 refine then_at rfl ?_
 refine zsr ?_
 refine zwv (.slice (some ⟨g, 0, none⟩) K.length c) ?_
 refine zwv (.pointer (some ⟨q4, 3, none⟩)) ?_
 refine zwu (v := .slice o ps.length c2) (run_load1 Tryz.isAgg63 (((h6.get 0 rfl).cell 3).trans rfl)) ?_
 refine zwc (v := .bool ((ps.all (kB K)))) (args := #[.slice (some ⟨g, 0, none⟩) K.length c, .slice o ps.length c2]) h6 enter46 (all_any hp hl (hg.keep h6.old.old) hc (hr.keep h6.old.old)) ?_
 intro w7 h8
 refine zwv (.bool ((ps.all (kB K)))) ?_
 refine znt ?_
 refine wp_ret ?_
 repeat first | refine then_ret ?_ | refine block_ret ?_
 exact bodyPost_ret (v := .bool (ps.all (kB K))) (by kernel_rfl) rfl ⟨by rfl, h8.old.old⟩
theorem made_n {w : World} {v : Value} {l : List Q4} {K : List Bool} {k n g c c2 : Nat} {s : ByteArray} {cu : Array Value} {ps : List Nat} (hg : Blk w g 4 cu) (hc : ∀ j, j < K.length → cu[j]? = some (.bool (kB K j))) {o : Option Addr} (hp : ps.length ≤ 1000) (hl : ∀ x ∈ ps, x < K.length) (hr : RI 0 w o ps) (hk : k = 4) (hn : n ≠ 0) :
  Calls Tryz.prog 24 #[.agg #[v], .slice (some ⟨g, 0, none⟩) K.length c, tmv k n s (o) ps.length c2] w fun e w' => e = .returned (.bool (ps.all (kB K))) ∧ Below w.heap.size w w' := by
 have H0 := HA.start w
 go_enter Tryz.func24, Tryz.ntmps24
 refine zsr ?_
 refine wl_make (c := #[v]) H0 27 ?_
 intro q1 w2 (h3 : HA (bs w) [(q1, 27, #[v])] w2)
 refine wl_make (c := #[iN .i64 k, iN .i64 n, .string s, .slice o ps.length c2]) h3 74 ?_
 intro q4 w5 (h6 : HA (bs w) [(q4, 74, #[iN .i64 k, iN .i64 n, .string s, .slice o ps.length c2]), (q1, 27, #[v])] w5)
 refine zwv (.bool false) ?_
 refine znt ?_
 refine wp_seq ?_
 refine zsr ?_
 refine zwv (.pointer (some ⟨q4, 0, none⟩)) ?_
 refine zwu (v := iN .i64 k) (run_load1 Tryz.isAgg3 (((h6.get 0 rfl).cell 0).trans rfl)) ?_
 refine znt ?_
 refine wp_block ?_
 refine zsr ?_
 refine zwu (run_eqi (k := .i64) (a := k) (b := 1) false (ht := (decide_eq_false (by omega)))) ?_
 refine zwv (.bool false) ?_
 refine znt ?_
 refine zcf ?_
 refine zsr ?_
 refine zwu (run_eqi (k := .i64) (a := k) (b := 2) false (ht := (decide_eq_false (by omega)))) ?_
 refine zwv (.bool false) ?_
 refine znt ?_
 refine zcf ?_
 refine zsr ?_
 refine zwu (run_eqi (k := .i64) (a := k) (b := 4) true (ht := (decide_eq_true hk))) ?_
 refine zwv (.bool true) ?_
 refine znt ?_
 refine zct ?_
 refine zsr ?_
 refine zwv (.pointer (some ⟨q4, 1, none⟩)) ?_
 refine zwu (v := iN .i64 n) (run_load1 Tryz.isAgg3 (((h6.get 0 rfl).cell 1).trans rfl)) ?_
 refine zwu (run_eqi (k := .i64) (a := n) (b := 0) false (ht := (decide_eq_false hn))) ?_
 refine znt ?_
 refine zcf ?_
 refine wp_skip ?_
 refine block_normal ?_
 refine then_at rfl ?_
 refine zsr ?_
 refine zwv (.slice (some ⟨g, 0, none⟩) K.length c) ?_
 refine zwv (.pointer (some ⟨q4, 3, none⟩)) ?_
 refine zwu (v := .slice o ps.length c2) (run_load1 Tryz.isAgg63 (((h6.get 0 rfl).cell 3).trans rfl)) ?_
 refine zwc (v := .bool ((ps.all (kB K)))) (args := #[.slice (some ⟨g, 0, none⟩) K.length c, .slice o ps.length c2]) h6 enter46 (all_any hp hl (hg.keep h6.old.old) hc (hr.keep h6.old.old)) ?_
 intro w7 h8
 refine zwv (.bool ((ps.all (kB K)))) ?_
 refine znt ?_
 refine wp_ret ?_
 repeat first | refine then_ret ?_ | refine block_ret ?_
 exact bodyPost_ret (v := .bool (ps.all (kB K))) (by kernel_rfl) rfl ⟨by rfl, h8.old.old⟩
theorem made_h {w : World} {v : Value} {l : List Q4} {K : List Bool} {k n g c c2 : Nat} {s : ByteArray} {cu : Array Value} {ps : List Nat} (hg : Blk w g 4 cu) (hc : ∀ j, j < K.length → cu[j]? = some (.bool (kB K j))) {g2 : Nat} {cu2 : Array Value} (hg2 : Blk w g2 3 cu2) (hc2 : ∀ j, j < ps.length → cu2[j]? = some (iN .i64 (ps.getD j 0))) {RL : BL} (h : RTL v l RL) (hS : Stand w RL) (hq : ∀ q ∈ l, q.ps.length ≤ 1000) (hll : l.length ≤ 1000000) (hK : K.length = l.length) (hk : k = 4) (hn : n = 0) (hp : ps.length = 2) (hl0 : ps.getD 0 0 < K.length) (hl1 : ps.getD 1 0 < K.length) :
  Calls Tryz.prog 24 #[.agg #[v], .slice (some ⟨g, 0, none⟩) K.length c, tmv k n s (some ⟨g2, 0, none⟩) ps.length c2] w fun e w' => e = .returned (.bool (hfB l K (ps.getD 0 0) (ps.getD 1 0) || hfB l K (ps.getD 1 0) (ps.getD 0 0))) ∧ Below w.heap.size w w' := by
 have H0 := HA.start w
 go_enter Tryz.func24, Tryz.ntmps24
 refine zsr ?_
 refine wl_make (c := #[v]) H0 27 ?_
 intro q1 w2 (h3 : HA (bs w) [(q1, 27, #[v])] w2)
 refine wl_make (c := #[iN .i64 k, iN .i64 n, .string s, .slice (some ⟨g2, 0, none⟩) ps.length c2]) h3 74 ?_
 intro q4 w5 (h6 : HA (bs w) [(q4, 74, #[iN .i64 k, iN .i64 n, .string s, .slice (some ⟨g2, 0, none⟩) ps.length c2]), (q1, 27, #[v])] w5)
 refine zwv (.bool false) ?_
 refine znt ?_
 refine wp_seq ?_
 refine zsr ?_
 refine zwv (.pointer (some ⟨q4, 0, none⟩)) ?_
 refine zwu (v := iN .i64 k) (run_load1 Tryz.isAgg3 (((h6.get 0 rfl).cell 0).trans rfl)) ?_
 refine znt ?_
 refine wp_block ?_
 refine zsr ?_
 refine zwu (run_eqi (k := .i64) (a := k) (b := 1) false (ht := (decide_eq_false (by omega)))) ?_
 refine zwv (.bool false) ?_
 refine znt ?_
 refine zcf ?_
 refine zsr ?_
 refine zwu (run_eqi (k := .i64) (a := k) (b := 2) false (ht := (decide_eq_false (by omega)))) ?_
 refine zwv (.bool false) ?_
 refine znt ?_
 refine zcf ?_
 refine zsr ?_
 refine zwu (run_eqi (k := .i64) (a := k) (b := 4) true (ht := (decide_eq_true hk))) ?_
 refine zwv (.bool true) ?_
 refine znt ?_
 refine zct ?_
 refine zsr ?_
 refine zwv (.pointer (some ⟨q4, 1, none⟩)) ?_
 refine zwu (v := iN .i64 n) (run_load1 Tryz.isAgg3 (((h6.get 0 rfl).cell 1).trans rfl)) ?_
 refine zwu (run_eqi (k := .i64) (a := n) (b := 0) true (ht := (decide_eq_true hn))) ?_
 refine znt ?_
 refine zct ?_
 refine wp_seq ?_
 rcases hb0 : hfB l K (ps.getD 0 0) (ps.getD 1 0) with _ | _
 ·rcases hb1 : hfB l K (ps.getD 1 0) (ps.getD 0 0) with _ | _
  ·skip
   refine wp_region_wk (HA (bs w) [(q4, 74, #[iN .i64 k, iN .i64 n, .string s, .slice (some ⟨g2, 0, none⟩) ps.length c2]), (q1, 27, #[v])]) (fun A w' => A = ⟨(.agg #[v] :: .slice (some ⟨g, 0, none⟩) K.length c :: .agg #[iN .i64 k, iN .i64 n, .string s, .slice (some ⟨g2, 0, none⟩) ps.length c2] :: pt q1 :: un :: pt q4 :: .bool false :: pt q4 :: iN .i64 k :: .bool false :: .bool false :: .bool false :: .bool false :: un :: un :: un :: un :: un :: un :: .bool true :: .bool true :: .pointer (some ⟨q4, 1, none⟩) :: iN .i64 n :: .bool true :: .agg (#[v]) :: .slice (some ⟨g, 0, none⟩) K.length c :: .pointer (some ⟨q4, 3, none⟩) :: .slice (some ⟨g2, 0, none⟩) ps.length c2 :: pt g2 :: iN .i64 (ps.getD 0 0) :: .pointer (some ⟨q4, 3, none⟩) :: .slice (some ⟨g2, 0, none⟩) ps.length c2 :: .pointer (some ⟨g2, 1, none⟩) :: iN .i64 (ps.getD 1 0) :: .bool false :: .bool false :: .agg (#[v]) :: .slice (some ⟨g, 0, none⟩) K.length c :: .pointer (some ⟨q4, 3, none⟩) :: .slice (some ⟨g2, 0, none⟩) ps.length c2 :: .pointer (some ⟨g2, 1, none⟩) :: iN .i64 (ps.getD 1 0) :: .pointer (some ⟨q4, 3, none⟩) :: .slice (some ⟨g2, 0, none⟩) ps.length c2 :: pt g2 :: iN .i64 (ps.getD 0 0) :: .bool false :: .bool false :: List.replicate 4 un).toArray, []⟩ ∧ HA (bs w) [(q4, 74, #[iN .i64 k, iN .i64 n, .string s, .slice (some ⟨g2, 0, none⟩) ps.length c2]), (q1, 27, #[v])] w') 25 (by kernel_rfl) (by kernel_rfl) (by kernel_rfl) (by kernel_rfl) (by kernel_rfl) (h6.drew) ?_ ?_
   ·have h7 := h6.drew
    refine wk_val (i := 0) (.agg (#[v])) rfl rfl (by kernel_rfl) (by kernel_rfl) (fun w' h' => run_load_blk (h'.get 1 rfl) Tryz.underlying27 rfl) ?_
    refine wk_val (i := 1) (.slice (some ⟨g, 0, none⟩) K.length c) rfl rfl (by kernel_rfl) (by kernel_rfl) (fun _ _ => (by kernel_rfl)) ?_
    refine wk_val (i := 2) (.pointer (some ⟨q4, 3, none⟩)) rfl rfl (by kernel_rfl) (by kernel_rfl) (fun _ _ => (by kernel_rfl)) ?_
    refine wk_val (i := 3) (.slice (some ⟨g2, 0, none⟩) ps.length c2) rfl rfl (by kernel_rfl) (by kernel_rfl) (fun w' h' => run_load1 Tryz.isAgg63 (((h'.get 0 rfl).cell 3).trans rfl)) ?_
    refine wk_val (i := 4) (.pointer (some ⟨g2, 0, none⟩)) rfl rfl (by kernel_rfl) (by kernel_rfl) (fun _ _ => (run_addr_slice (q := g2) (n := ps.length) (m := c2) (a := 0) Tryz.underlying63 Tryz.sizeOf3 (by omega))) ?_
    refine wk_val (i := 5) (iN .i64 (ps.getD 0 0)) rfl rfl (by kernel_rfl) (by kernel_rfl) (fun w' h' => run_load1 Tryz.isAgg3 (((hg2.keep h'.old.old).cell 0).trans (hc2 0 (by omega)))) ?_
    refine wk_val (i := 6) (.pointer (some ⟨q4, 3, none⟩)) rfl rfl (by kernel_rfl) (by kernel_rfl) (fun _ _ => (by kernel_rfl)) ?_
    refine wk_val (i := 7) (.slice (some ⟨g2, 0, none⟩) ps.length c2) rfl rfl (by kernel_rfl) (by kernel_rfl) (fun w' h' => run_load1 Tryz.isAgg63 (((h'.get 0 rfl).cell 3).trans rfl)) ?_
    refine wk_val (i := 8) (.pointer (some ⟨g2, 1, none⟩)) rfl rfl (by kernel_rfl) (by kernel_rfl) (fun _ _ => (run_addr_slice (q := g2) (n := ps.length) (m := c2) (a := 1) Tryz.underlying63 Tryz.sizeOf3 (by omega))) ?_
    refine wk_val (i := 9) (iN .i64 (ps.getD 1 0)) rfl rfl (by kernel_rfl) (by kernel_rfl) (fun w' h' => run_load1 Tryz.isAgg3 (((hg2.keep h'.old.old).cell 1).trans (hc2 1 (by omega)))) ?_
    refine wk_call (i := 10) (.bool false) HA.keep rfl rfl (by kernel_rfl) (by kernel_rfl) enter47 #[.agg (#[v]), .slice (some ⟨g, 0, none⟩) K.length c, iN .i64 (ps.getD 0 0), iN .i64 (ps.getD 1 0)] (by kernel_rfl) (fun w' h' => by have := half_r (c := c) (h.rt (hS.keep h'.old.old)) hq hll hK hl0 hl1 (hg.keep h'.old.old) hc; rw [hb0] at this; exact this) ?_
    refine wk_val (i := 11) (.bool false) rfl rfl (by kernel_rfl) (by kernel_rfl) (fun _ _ => (by kernel_rfl)) ?_
    refine wk_val (i := 12) (.agg (#[v])) rfl rfl (by kernel_rfl) (by kernel_rfl) (fun w' h' => run_load_blk (h'.get 1 rfl) Tryz.underlying27 rfl) ?_
    refine wk_val (i := 13) (.slice (some ⟨g, 0, none⟩) K.length c) rfl rfl (by kernel_rfl) (by kernel_rfl) (fun _ _ => (by kernel_rfl)) ?_
    refine wk_val (i := 14) (.pointer (some ⟨q4, 3, none⟩)) rfl rfl (by kernel_rfl) (by kernel_rfl) (fun _ _ => (by kernel_rfl)) ?_
    refine wk_val (i := 15) (.slice (some ⟨g2, 0, none⟩) ps.length c2) rfl rfl (by kernel_rfl) (by kernel_rfl) (fun w' h' => run_load1 Tryz.isAgg63 (((h'.get 0 rfl).cell 3).trans rfl)) ?_
    refine wk_val (i := 16) (.pointer (some ⟨g2, 1, none⟩)) rfl rfl (by kernel_rfl) (by kernel_rfl) (fun _ _ => (run_addr_slice (q := g2) (n := ps.length) (m := c2) (a := 1) Tryz.underlying63 Tryz.sizeOf3 (by omega))) ?_
    refine wk_val (i := 17) (iN .i64 (ps.getD 1 0)) rfl rfl (by kernel_rfl) (by kernel_rfl) (fun w' h' => run_load1 Tryz.isAgg3 (((hg2.keep h'.old.old).cell 1).trans (hc2 1 (by omega)))) ?_
    refine wk_val (i := 18) (.pointer (some ⟨q4, 3, none⟩)) rfl rfl (by kernel_rfl) (by kernel_rfl) (fun _ _ => (by kernel_rfl)) ?_
    refine wk_val (i := 19) (.slice (some ⟨g2, 0, none⟩) ps.length c2) rfl rfl (by kernel_rfl) (by kernel_rfl) (fun w' h' => run_load1 Tryz.isAgg63 (((h'.get 0 rfl).cell 3).trans rfl)) ?_
    refine wk_val (i := 20) (.pointer (some ⟨g2, 0, none⟩)) rfl rfl (by kernel_rfl) (by kernel_rfl) (fun _ _ => (run_addr_slice (q := g2) (n := ps.length) (m := c2) (a := 0) Tryz.underlying63 Tryz.sizeOf3 (by omega))) ?_
    refine wk_val (i := 21) (iN .i64 (ps.getD 0 0)) rfl rfl (by kernel_rfl) (by kernel_rfl) (fun w' h' => run_load1 Tryz.isAgg3 (((hg2.keep h'.old.old).cell 0).trans (hc2 0 (by omega)))) ?_
    refine wk_call (i := 22) (.bool false) HA.keep rfl rfl (by kernel_rfl) (by kernel_rfl) enter47 #[.agg (#[v]), .slice (some ⟨g, 0, none⟩) K.length c, iN .i64 (ps.getD 1 0), iN .i64 (ps.getD 0 0)] (by kernel_rfl) (fun w' h' => by have := half_r (c := c) (h.rt (hS.keep h'.old.old)) hq hll hK hl1 hl0 (hg.keep h'.old.old) hc; rw [hb1] at this; exact this) ?_
    refine wk_val (i := 23) (.bool false) rfl rfl (by kernel_rfl) (by kernel_rfl) (fun _ _ => (by kernel_rfl)) ?_
    refine wk_val (i := 24) (.bool false) rfl rfl (by kernel_rfl) (by kernel_rfl) (fun _ _ => (by kernel_rfl)) ?_
    refine wk_end fun w8 hbx hsx => ?_
    have h9 := HA.keep _ _ h7 hbx
    exact ⟨by kernel_rfl, h9⟩
   ·rintro _ w10 ⟨rfl, h11⟩
    refine then_at rfl ?_
    refine wp_ret ?_
    repeat first | refine then_ret ?_ | refine block_ret ?_
    exact bodyPost_ret (v := .bool false) (by kernel_rfl) rfl ⟨by rfl, h11.old.old⟩
  ·skip
   refine wp_region_wk (HA (bs w) [(q4, 74, #[iN .i64 k, iN .i64 n, .string s, .slice (some ⟨g2, 0, none⟩) ps.length c2]), (q1, 27, #[v])]) (fun A w' => A = ⟨(.agg #[v] :: .slice (some ⟨g, 0, none⟩) K.length c :: .agg #[iN .i64 k, iN .i64 n, .string s, .slice (some ⟨g2, 0, none⟩) ps.length c2] :: pt q1 :: un :: pt q4 :: .bool true :: pt q4 :: iN .i64 k :: .bool false :: .bool false :: .bool false :: .bool false :: un :: un :: un :: un :: un :: un :: .bool true :: .bool true :: .pointer (some ⟨q4, 1, none⟩) :: iN .i64 n :: .bool true :: .agg (#[v]) :: .slice (some ⟨g, 0, none⟩) K.length c :: .pointer (some ⟨q4, 3, none⟩) :: .slice (some ⟨g2, 0, none⟩) ps.length c2 :: pt g2 :: iN .i64 (ps.getD 0 0) :: .pointer (some ⟨q4, 3, none⟩) :: .slice (some ⟨g2, 0, none⟩) ps.length c2 :: .pointer (some ⟨g2, 1, none⟩) :: iN .i64 (ps.getD 1 0) :: .bool false :: .bool false :: .agg (#[v]) :: .slice (some ⟨g, 0, none⟩) K.length c :: .pointer (some ⟨q4, 3, none⟩) :: .slice (some ⟨g2, 0, none⟩) ps.length c2 :: .pointer (some ⟨g2, 1, none⟩) :: iN .i64 (ps.getD 1 0) :: .pointer (some ⟨q4, 3, none⟩) :: .slice (some ⟨g2, 0, none⟩) ps.length c2 :: pt g2 :: iN .i64 (ps.getD 0 0) :: .bool true :: .bool true :: List.replicate 4 un).toArray, []⟩ ∧ HA (bs w) [(q4, 74, #[iN .i64 k, iN .i64 n, .string s, .slice (some ⟨g2, 0, none⟩) ps.length c2]), (q1, 27, #[v])] w') 25 (by kernel_rfl) (by kernel_rfl) (by kernel_rfl) (by kernel_rfl) (by kernel_rfl) (h6.drew) ?_ ?_
   ·have h12 := h6.drew
    refine wk_val (i := 0) (.agg (#[v])) rfl rfl (by kernel_rfl) (by kernel_rfl) (fun w' h' => run_load_blk (h'.get 1 rfl) Tryz.underlying27 rfl) ?_
    refine wk_val (i := 1) (.slice (some ⟨g, 0, none⟩) K.length c) rfl rfl (by kernel_rfl) (by kernel_rfl) (fun _ _ => (by kernel_rfl)) ?_
    refine wk_val (i := 2) (.pointer (some ⟨q4, 3, none⟩)) rfl rfl (by kernel_rfl) (by kernel_rfl) (fun _ _ => (by kernel_rfl)) ?_
    refine wk_val (i := 3) (.slice (some ⟨g2, 0, none⟩) ps.length c2) rfl rfl (by kernel_rfl) (by kernel_rfl) (fun w' h' => run_load1 Tryz.isAgg63 (((h'.get 0 rfl).cell 3).trans rfl)) ?_
    refine wk_val (i := 4) (.pointer (some ⟨g2, 0, none⟩)) rfl rfl (by kernel_rfl) (by kernel_rfl) (fun _ _ => (run_addr_slice (q := g2) (n := ps.length) (m := c2) (a := 0) Tryz.underlying63 Tryz.sizeOf3 (by omega))) ?_
    refine wk_val (i := 5) (iN .i64 (ps.getD 0 0)) rfl rfl (by kernel_rfl) (by kernel_rfl) (fun w' h' => run_load1 Tryz.isAgg3 (((hg2.keep h'.old.old).cell 0).trans (hc2 0 (by omega)))) ?_
    refine wk_val (i := 6) (.pointer (some ⟨q4, 3, none⟩)) rfl rfl (by kernel_rfl) (by kernel_rfl) (fun _ _ => (by kernel_rfl)) ?_
    refine wk_val (i := 7) (.slice (some ⟨g2, 0, none⟩) ps.length c2) rfl rfl (by kernel_rfl) (by kernel_rfl) (fun w' h' => run_load1 Tryz.isAgg63 (((h'.get 0 rfl).cell 3).trans rfl)) ?_
    refine wk_val (i := 8) (.pointer (some ⟨g2, 1, none⟩)) rfl rfl (by kernel_rfl) (by kernel_rfl) (fun _ _ => (run_addr_slice (q := g2) (n := ps.length) (m := c2) (a := 1) Tryz.underlying63 Tryz.sizeOf3 (by omega))) ?_
    refine wk_val (i := 9) (iN .i64 (ps.getD 1 0)) rfl rfl (by kernel_rfl) (by kernel_rfl) (fun w' h' => run_load1 Tryz.isAgg3 (((hg2.keep h'.old.old).cell 1).trans (hc2 1 (by omega)))) ?_
    refine wk_call (i := 10) (.bool false) HA.keep rfl rfl (by kernel_rfl) (by kernel_rfl) enter47 #[.agg (#[v]), .slice (some ⟨g, 0, none⟩) K.length c, iN .i64 (ps.getD 0 0), iN .i64 (ps.getD 1 0)] (by kernel_rfl) (fun w' h' => by have := half_r (c := c) (h.rt (hS.keep h'.old.old)) hq hll hK hl0 hl1 (hg.keep h'.old.old) hc; rw [hb0] at this; exact this) ?_
    refine wk_val (i := 11) (.bool false) rfl rfl (by kernel_rfl) (by kernel_rfl) (fun _ _ => (by kernel_rfl)) ?_
    refine wk_val (i := 12) (.agg (#[v])) rfl rfl (by kernel_rfl) (by kernel_rfl) (fun w' h' => run_load_blk (h'.get 1 rfl) Tryz.underlying27 rfl) ?_
    refine wk_val (i := 13) (.slice (some ⟨g, 0, none⟩) K.length c) rfl rfl (by kernel_rfl) (by kernel_rfl) (fun _ _ => (by kernel_rfl)) ?_
    refine wk_val (i := 14) (.pointer (some ⟨q4, 3, none⟩)) rfl rfl (by kernel_rfl) (by kernel_rfl) (fun _ _ => (by kernel_rfl)) ?_
    refine wk_val (i := 15) (.slice (some ⟨g2, 0, none⟩) ps.length c2) rfl rfl (by kernel_rfl) (by kernel_rfl) (fun w' h' => run_load1 Tryz.isAgg63 (((h'.get 0 rfl).cell 3).trans rfl)) ?_
    refine wk_val (i := 16) (.pointer (some ⟨g2, 1, none⟩)) rfl rfl (by kernel_rfl) (by kernel_rfl) (fun _ _ => (run_addr_slice (q := g2) (n := ps.length) (m := c2) (a := 1) Tryz.underlying63 Tryz.sizeOf3 (by omega))) ?_
    refine wk_val (i := 17) (iN .i64 (ps.getD 1 0)) rfl rfl (by kernel_rfl) (by kernel_rfl) (fun w' h' => run_load1 Tryz.isAgg3 (((hg2.keep h'.old.old).cell 1).trans (hc2 1 (by omega)))) ?_
    refine wk_val (i := 18) (.pointer (some ⟨q4, 3, none⟩)) rfl rfl (by kernel_rfl) (by kernel_rfl) (fun _ _ => (by kernel_rfl)) ?_
    refine wk_val (i := 19) (.slice (some ⟨g2, 0, none⟩) ps.length c2) rfl rfl (by kernel_rfl) (by kernel_rfl) (fun w' h' => run_load1 Tryz.isAgg63 (((h'.get 0 rfl).cell 3).trans rfl)) ?_
    refine wk_val (i := 20) (.pointer (some ⟨g2, 0, none⟩)) rfl rfl (by kernel_rfl) (by kernel_rfl) (fun _ _ => (run_addr_slice (q := g2) (n := ps.length) (m := c2) (a := 0) Tryz.underlying63 Tryz.sizeOf3 (by omega))) ?_
    refine wk_val (i := 21) (iN .i64 (ps.getD 0 0)) rfl rfl (by kernel_rfl) (by kernel_rfl) (fun w' h' => run_load1 Tryz.isAgg3 (((hg2.keep h'.old.old).cell 0).trans (hc2 0 (by omega)))) ?_
    refine wk_call (i := 22) (.bool true) HA.keep rfl rfl (by kernel_rfl) (by kernel_rfl) enter47 #[.agg (#[v]), .slice (some ⟨g, 0, none⟩) K.length c, iN .i64 (ps.getD 1 0), iN .i64 (ps.getD 0 0)] (by kernel_rfl) (fun w' h' => by have := half_r (c := c) (h.rt (hS.keep h'.old.old)) hq hll hK hl1 hl0 (hg.keep h'.old.old) hc; rw [hb1] at this; exact this) ?_
    refine wk_val (i := 23) (.bool true) rfl rfl (by kernel_rfl) (by kernel_rfl) (fun _ _ => (by kernel_rfl)) ?_
    refine wk_val (i := 24) (.bool true) rfl rfl (by kernel_rfl) (by kernel_rfl) (fun _ _ => (by kernel_rfl)) ?_
    refine wk_end fun w13 hbx hsx => ?_
    have h14 := HA.keep _ _ h12 hbx
    exact ⟨by kernel_rfl, h14⟩
   ·rintro _ w15 ⟨rfl, h16⟩
    refine then_at rfl ?_
    refine wp_ret ?_
    repeat first | refine then_ret ?_ | refine block_ret ?_
    exact bodyPost_ret (v := .bool true) (by kernel_rfl) rfl ⟨by rfl, h16.old.old⟩
 ·rcases hb1 : hfB l K (ps.getD 1 0) (ps.getD 0 0) with _ | _
  ·skip
   refine wp_region_wk (HA (bs w) [(q4, 74, #[iN .i64 k, iN .i64 n, .string s, .slice (some ⟨g2, 0, none⟩) ps.length c2]), (q1, 27, #[v])]) (fun A w' => A = ⟨(.agg #[v] :: .slice (some ⟨g, 0, none⟩) K.length c :: .agg #[iN .i64 k, iN .i64 n, .string s, .slice (some ⟨g2, 0, none⟩) ps.length c2] :: pt q1 :: un :: pt q4 :: .bool true :: pt q4 :: iN .i64 k :: .bool false :: .bool false :: .bool false :: .bool false :: un :: un :: un :: un :: un :: un :: .bool true :: .bool true :: .pointer (some ⟨q4, 1, none⟩) :: iN .i64 n :: .bool true :: .agg (#[v]) :: .slice (some ⟨g, 0, none⟩) K.length c :: .pointer (some ⟨q4, 3, none⟩) :: .slice (some ⟨g2, 0, none⟩) ps.length c2 :: pt g2 :: iN .i64 (ps.getD 0 0) :: .pointer (some ⟨q4, 3, none⟩) :: .slice (some ⟨g2, 0, none⟩) ps.length c2 :: .pointer (some ⟨g2, 1, none⟩) :: iN .i64 (ps.getD 1 0) :: .bool true :: .bool true :: un :: un :: un :: un :: un :: un :: un :: un :: un :: un :: un :: .bool true :: List.replicate 4 un).toArray, []⟩ ∧ HA (bs w) [(q4, 74, #[iN .i64 k, iN .i64 n, .string s, .slice (some ⟨g2, 0, none⟩) ps.length c2]), (q1, 27, #[v])] w') 25 (by kernel_rfl) (by kernel_rfl) (by kernel_rfl) (by kernel_rfl) (by kernel_rfl) (h6.drew) ?_ ?_
   ·have h17 := h6.drew
    refine wk_val (i := 0) (.agg (#[v])) rfl rfl (by kernel_rfl) (by kernel_rfl) (fun w' h' => run_load_blk (h'.get 1 rfl) Tryz.underlying27 rfl) ?_
    refine wk_val (i := 1) (.slice (some ⟨g, 0, none⟩) K.length c) rfl rfl (by kernel_rfl) (by kernel_rfl) (fun _ _ => (by kernel_rfl)) ?_
    refine wk_val (i := 2) (.pointer (some ⟨q4, 3, none⟩)) rfl rfl (by kernel_rfl) (by kernel_rfl) (fun _ _ => (by kernel_rfl)) ?_
    refine wk_val (i := 3) (.slice (some ⟨g2, 0, none⟩) ps.length c2) rfl rfl (by kernel_rfl) (by kernel_rfl) (fun w' h' => run_load1 Tryz.isAgg63 (((h'.get 0 rfl).cell 3).trans rfl)) ?_
    refine wk_val (i := 4) (.pointer (some ⟨g2, 0, none⟩)) rfl rfl (by kernel_rfl) (by kernel_rfl) (fun _ _ => (run_addr_slice (q := g2) (n := ps.length) (m := c2) (a := 0) Tryz.underlying63 Tryz.sizeOf3 (by omega))) ?_
    refine wk_val (i := 5) (iN .i64 (ps.getD 0 0)) rfl rfl (by kernel_rfl) (by kernel_rfl) (fun w' h' => run_load1 Tryz.isAgg3 (((hg2.keep h'.old.old).cell 0).trans (hc2 0 (by omega)))) ?_
    refine wk_val (i := 6) (.pointer (some ⟨q4, 3, none⟩)) rfl rfl (by kernel_rfl) (by kernel_rfl) (fun _ _ => (by kernel_rfl)) ?_
    refine wk_val (i := 7) (.slice (some ⟨g2, 0, none⟩) ps.length c2) rfl rfl (by kernel_rfl) (by kernel_rfl) (fun w' h' => run_load1 Tryz.isAgg63 (((h'.get 0 rfl).cell 3).trans rfl)) ?_
    refine wk_val (i := 8) (.pointer (some ⟨g2, 1, none⟩)) rfl rfl (by kernel_rfl) (by kernel_rfl) (fun _ _ => (run_addr_slice (q := g2) (n := ps.length) (m := c2) (a := 1) Tryz.underlying63 Tryz.sizeOf3 (by omega))) ?_
    refine wk_val (i := 9) (iN .i64 (ps.getD 1 0)) rfl rfl (by kernel_rfl) (by kernel_rfl) (fun w' h' => run_load1 Tryz.isAgg3 (((hg2.keep h'.old.old).cell 1).trans (hc2 1 (by omega)))) ?_
    refine wk_call (i := 10) (.bool true) HA.keep rfl rfl (by kernel_rfl) (by kernel_rfl) enter47 #[.agg (#[v]), .slice (some ⟨g, 0, none⟩) K.length c, iN .i64 (ps.getD 0 0), iN .i64 (ps.getD 1 0)] (by kernel_rfl) (fun w' h' => by have := half_r (c := c) (h.rt (hS.keep h'.old.old)) hq hll hK hl0 hl1 (hg.keep h'.old.old) hc; rw [hb0] at this; exact this) ?_
    refine wk_val (i := 11) (.bool true) rfl rfl (by kernel_rfl) (by kernel_rfl) (fun _ _ => (by kernel_rfl)) ?_
    refine wk_skip (i := 12) rfl rfl (by kernel_rfl) (by kernel_rfl) ?_
    refine wk_skip (i := 13) rfl rfl (by kernel_rfl) (by kernel_rfl) ?_
    refine wk_skip (i := 14) rfl rfl (by kernel_rfl) (by kernel_rfl) ?_
    refine wk_skip (i := 15) rfl rfl (by kernel_rfl) (by kernel_rfl) ?_
    refine wk_skip (i := 16) rfl rfl (by kernel_rfl) (by kernel_rfl) ?_
    refine wk_skip (i := 17) rfl rfl (by kernel_rfl) (by kernel_rfl) ?_
    refine wk_skip (i := 18) rfl rfl (by kernel_rfl) (by kernel_rfl) ?_
    refine wk_skip (i := 19) rfl rfl (by kernel_rfl) (by kernel_rfl) ?_
    refine wk_skip (i := 20) rfl rfl (by kernel_rfl) (by kernel_rfl) ?_
    refine wk_skip (i := 21) rfl rfl (by kernel_rfl) (by kernel_rfl) ?_
    refine wk_skip (i := 22) rfl rfl (by kernel_rfl) (by kernel_rfl) ?_
    refine wk_val (i := 23) (.bool true) rfl rfl (by kernel_rfl) (by kernel_rfl) (fun _ _ => (by kernel_rfl)) ?_
    refine wk_val (i := 24) (.bool true) rfl rfl (by kernel_rfl) (by kernel_rfl) (fun _ _ => (by kernel_rfl)) ?_
    refine wk_end fun w18 hbx hsx => ?_
    have h19 := HA.keep _ _ h17 hbx
    exact ⟨by kernel_rfl, h19⟩
   ·rintro _ w20 ⟨rfl, h21⟩
    refine then_at rfl ?_
    refine wp_ret ?_
    repeat first | refine then_ret ?_ | refine block_ret ?_
    exact bodyPost_ret (v := .bool true) (by kernel_rfl) rfl ⟨by rfl, h21.old.old⟩
  ·skip
   refine wp_region_wk (HA (bs w) [(q4, 74, #[iN .i64 k, iN .i64 n, .string s, .slice (some ⟨g2, 0, none⟩) ps.length c2]), (q1, 27, #[v])]) (fun A w' => A = ⟨(.agg #[v] :: .slice (some ⟨g, 0, none⟩) K.length c :: .agg #[iN .i64 k, iN .i64 n, .string s, .slice (some ⟨g2, 0, none⟩) ps.length c2] :: pt q1 :: un :: pt q4 :: .bool true :: pt q4 :: iN .i64 k :: .bool false :: .bool false :: .bool false :: .bool false :: un :: un :: un :: un :: un :: un :: .bool true :: .bool true :: .pointer (some ⟨q4, 1, none⟩) :: iN .i64 n :: .bool true :: .agg (#[v]) :: .slice (some ⟨g, 0, none⟩) K.length c :: .pointer (some ⟨q4, 3, none⟩) :: .slice (some ⟨g2, 0, none⟩) ps.length c2 :: pt g2 :: iN .i64 (ps.getD 0 0) :: .pointer (some ⟨q4, 3, none⟩) :: .slice (some ⟨g2, 0, none⟩) ps.length c2 :: .pointer (some ⟨g2, 1, none⟩) :: iN .i64 (ps.getD 1 0) :: .bool true :: .bool true :: un :: un :: un :: un :: un :: un :: un :: un :: un :: un :: un :: .bool true :: List.replicate 4 un).toArray, []⟩ ∧ HA (bs w) [(q4, 74, #[iN .i64 k, iN .i64 n, .string s, .slice (some ⟨g2, 0, none⟩) ps.length c2]), (q1, 27, #[v])] w') 25 (by kernel_rfl) (by kernel_rfl) (by kernel_rfl) (by kernel_rfl) (by kernel_rfl) (h6.drew) ?_ ?_
   ·have h22 := h6.drew
    refine wk_val (i := 0) (.agg (#[v])) rfl rfl (by kernel_rfl) (by kernel_rfl) (fun w' h' => run_load_blk (h'.get 1 rfl) Tryz.underlying27 rfl) ?_
    refine wk_val (i := 1) (.slice (some ⟨g, 0, none⟩) K.length c) rfl rfl (by kernel_rfl) (by kernel_rfl) (fun _ _ => (by kernel_rfl)) ?_
    refine wk_val (i := 2) (.pointer (some ⟨q4, 3, none⟩)) rfl rfl (by kernel_rfl) (by kernel_rfl) (fun _ _ => (by kernel_rfl)) ?_
    refine wk_val (i := 3) (.slice (some ⟨g2, 0, none⟩) ps.length c2) rfl rfl (by kernel_rfl) (by kernel_rfl) (fun w' h' => run_load1 Tryz.isAgg63 (((h'.get 0 rfl).cell 3).trans rfl)) ?_
    refine wk_val (i := 4) (.pointer (some ⟨g2, 0, none⟩)) rfl rfl (by kernel_rfl) (by kernel_rfl) (fun _ _ => (run_addr_slice (q := g2) (n := ps.length) (m := c2) (a := 0) Tryz.underlying63 Tryz.sizeOf3 (by omega))) ?_
    refine wk_val (i := 5) (iN .i64 (ps.getD 0 0)) rfl rfl (by kernel_rfl) (by kernel_rfl) (fun w' h' => run_load1 Tryz.isAgg3 (((hg2.keep h'.old.old).cell 0).trans (hc2 0 (by omega)))) ?_
    refine wk_val (i := 6) (.pointer (some ⟨q4, 3, none⟩)) rfl rfl (by kernel_rfl) (by kernel_rfl) (fun _ _ => (by kernel_rfl)) ?_
    refine wk_val (i := 7) (.slice (some ⟨g2, 0, none⟩) ps.length c2) rfl rfl (by kernel_rfl) (by kernel_rfl) (fun w' h' => run_load1 Tryz.isAgg63 (((h'.get 0 rfl).cell 3).trans rfl)) ?_
    refine wk_val (i := 8) (.pointer (some ⟨g2, 1, none⟩)) rfl rfl (by kernel_rfl) (by kernel_rfl) (fun _ _ => (run_addr_slice (q := g2) (n := ps.length) (m := c2) (a := 1) Tryz.underlying63 Tryz.sizeOf3 (by omega))) ?_
    refine wk_val (i := 9) (iN .i64 (ps.getD 1 0)) rfl rfl (by kernel_rfl) (by kernel_rfl) (fun w' h' => run_load1 Tryz.isAgg3 (((hg2.keep h'.old.old).cell 1).trans (hc2 1 (by omega)))) ?_
    refine wk_call (i := 10) (.bool true) HA.keep rfl rfl (by kernel_rfl) (by kernel_rfl) enter47 #[.agg (#[v]), .slice (some ⟨g, 0, none⟩) K.length c, iN .i64 (ps.getD 0 0), iN .i64 (ps.getD 1 0)] (by kernel_rfl) (fun w' h' => by have := half_r (c := c) (h.rt (hS.keep h'.old.old)) hq hll hK hl0 hl1 (hg.keep h'.old.old) hc; rw [hb0] at this; exact this) ?_
    refine wk_val (i := 11) (.bool true) rfl rfl (by kernel_rfl) (by kernel_rfl) (fun _ _ => (by kernel_rfl)) ?_
    refine wk_skip (i := 12) rfl rfl (by kernel_rfl) (by kernel_rfl) ?_
    refine wk_skip (i := 13) rfl rfl (by kernel_rfl) (by kernel_rfl) ?_
    refine wk_skip (i := 14) rfl rfl (by kernel_rfl) (by kernel_rfl) ?_
    refine wk_skip (i := 15) rfl rfl (by kernel_rfl) (by kernel_rfl) ?_
    refine wk_skip (i := 16) rfl rfl (by kernel_rfl) (by kernel_rfl) ?_
    refine wk_skip (i := 17) rfl rfl (by kernel_rfl) (by kernel_rfl) ?_
    refine wk_skip (i := 18) rfl rfl (by kernel_rfl) (by kernel_rfl) ?_
    refine wk_skip (i := 19) rfl rfl (by kernel_rfl) (by kernel_rfl) ?_
    refine wk_skip (i := 20) rfl rfl (by kernel_rfl) (by kernel_rfl) ?_
    refine wk_skip (i := 21) rfl rfl (by kernel_rfl) (by kernel_rfl) ?_
    refine wk_skip (i := 22) rfl rfl (by kernel_rfl) (by kernel_rfl) ?_
    refine wk_val (i := 23) (.bool true) rfl rfl (by kernel_rfl) (by kernel_rfl) (fun _ _ => (by kernel_rfl)) ?_
    refine wk_val (i := 24) (.bool true) rfl rfl (by kernel_rfl) (by kernel_rfl) (fun _ _ => (by kernel_rfl)) ?_
    refine wk_end fun w23 hbx hsx => ?_
    have h24 := HA.keep _ _ h22 hbx
    exact ⟨by kernel_rfl, h24⟩
   ·rintro _ w25 ⟨rfl, h26⟩
    refine then_at rfl ?_
    refine wp_ret ?_
    repeat first | refine then_ret ?_ | refine block_ret ?_
    exact bodyPost_ret (v := .bool true) (by kernel_rfl) rfl ⟨by rfl, h26.old.old⟩
theorem rmade_any {w : World} {es : List Ent} (hI : Iv es) (hm4 : es.length ≤ 1000) {v : Value} {RL : BL} (h : RTL v (es.map trm) RL) (hS : Stand w RL) {K : List Bool} (hK : K.length = es.length) {g c c2 : Nat} {cu : Array Value} (hg : Blk w g 4 cu) (hc : ∀ j, j < K.length → cu[j]? = some (.bool (kB K j))) {x : Nat} {e : Ent} (he : es[x]? = some e) {o : Option Addr} (hr : RI 0 w o (trm e).ps) :
  Calls Tryz.prog 24 #[.agg #[v], .slice (some ⟨g, 0, none⟩) K.length c, tmv (trm e).k (trm e).n (trm e).s o (trm e).ps.length c2] w fun e' w' => e' = .returned (.bool (madeB es K e)) ∧ Below w.heap.size w w' := by
 have hm : e ∈ es := List.mem_of_getElem? he
 have hK' : K.length = (es.map trm).length := by rw [List.length_map]; exact hK
 cases e with
 | nm n => exact made_1 (l := []) (cu := cu) (k := 1) (ps := []) rfl
 | dt s =>
  have := made_d (n := 0) (K := K) (c := c) (c2 := c2) (ps := []) (o := o) hg hc h hS (by rw [List.length_map]; exact hm4) (hI.dd s hm) hK' (s := s) (rfl : 2 = 2)
  rw [List.length_map] at this
  exact this
 | mk k n s ps b =>
  have hlt := hI.wg.lt x k n s ps b he
  have hlen := hI.wf.len x k n s ps b he
  have h3 := hI.kk k n s ps b hm
  show Calls Tryz.prog 24 #[.agg #[v], .slice (some ⟨g, 0, none⟩) K.length c, tmv k n s o ps.length c2] w fun e' w' => e' = .returned (.bool (madeM es K k n ps)) ∧ Below w.heap.size w w'
  have hl : ∀ x ∈ ps, x < K.length := fun x hx => by rw [hK]; exact hlt x hx
  unfold madeM
  by_cases h4 : k = 4
  ·by_cases hn : n = 0
   ·rw [if_pos ⟨h4, hn⟩]
    subst h4
    have h2 := hI.wg.two x n s ps b he
    have hl0 : ps.getD 0 0 < K.length := gD_lt hl (by omega)
    have hl1 : ps.getD 1 0 < K.length := gD_lt hl (by omega)
    have hf := hI.wf.few
    rw [← hfB_same hI K _ _ (by omega), ← hfB_same hI K _ _ (by omega)]
    rcases hr with hr | ⟨g2, cu2, rfl, _, hb2, hc2⟩
    ·rw [show (trm (.mk 4 n s ps b)).ps = ps from rfl] at hr; rw [hr] at h2; cases h2
    ·refine made_h hg hc hb2 hc2 h hS (fun q hq => ?_) (by rw [List.length_map]; omega) hK' rfl hn h2 hl0 hl1
     obtain ⟨e, he', rfl⟩ := List.mem_map.1 hq
     cases e with
     | nm n => exact Nat.zero_le _
     | dt s => exact Nat.zero_le _
     | mk k n s ps b =>
      obtain ⟨i, hi⟩ := List.getElem?_of_mem he'
      have := hI.wf.len i k n s ps b hi
      show ps.length ≤ 1000
      omega
   ·rw [if_neg (fun h => hn h.2)]
    exact made_n (l := []) hg hc (by omega) hl hr h4 hn
  ·rw [if_neg (fun h => h4 h.1)]
   exact made_o (l := []) hg hc (by omega) hl hr (by omega) (by omega) h4
end Go.Proofs.YtihfeoanognonaaGreat

namespace Go.Proofs.YtihfeoanognonaaGreat
open Go.RowKit
def cntU (K : List Bool) : Nat := K.countP fun b => !b
theorem kB_set (K : List Bool) (y x : Nat) (hy : y < K.length) : kB (K.set y true) x = (kB K x || decide (x = y)) := by
 unfold kB
 by_cases e : x = y
 ·subst e
  rw [List.getD_eq_getElem?_getD, List.getElem?_set_self hy]
  simp
 ·rw [List.getD_eq_getElem?_getD, List.getElem?_set_ne (Ne.symm e), ← List.getD_eq_getElem?_getD]
  simp [e]
theorem set_same {K : List Bool} {y : Nat} (h : kB K y = true) : K.set y true = K := by
 refine List.ext_getElem? fun j => ?_
 by_cases e : y = j
 ·subst e
  unfold kB at h
  rw [List.getD_eq_getElem?_getD] at h
  cases hg : K[y]? with
  | none => rw [hg] at h; cases h
  | some b =>
   rw [hg] at h
   rw [List.getElem?_set_self (List.getElem?_eq_some_iff.1 hg).1]
   exact congrArg some h.symm
 ·rw [List.getElem?_set_ne e]
theorem cnt_set : ∀ {K : List Bool} {y : Nat}, y < K.length → kB K y = false → cntU (K.set y true) + 1 = cntU K
 | [], _, h, _ => by simp at h
 | b :: K, 0, _, h => by
  have : b = false := h
  subst this
  simp [cntU]
 | b :: K, y + 1, hl, h => by
  have ih := cnt_set (K := K) (y := y) (by simpa using hl) (by simpa [kB] using h)
  simp only [cntU, List.set_cons_succ, List.countP_cons] at ih ⊢
  omega
structure Rl (K0 : List Bool) (mo : Bool) (K : List Bool) : Prop where
 len : K.length = K0.length
 up : ∀ x, kB K0 x = true → kB K x = true
 no : mo = false → K = K0
 yes : mo = true → cntU K < cntU K0
theorem Rl.refl (K : List Bool) : Rl K false K := ⟨rfl, fun _ h => h, fun _ => rfl, fun h => by cases h⟩
theorem Rl.set {K0 K : List Bool} {mo : Bool} {y : Nat} (h : Rl K0 mo K) (hy : y < K.length) : Rl K0 (mo || !kB K y) (K.set y true) := by
 cases hk : kB K y with
 | true => rw [set_same hk]; simpa using h
 | false =>
  have hc := cnt_set hy hk
  refine ⟨by rw [List.length_set]; exact h.len, fun x hx => by rw [kB_set K y x hy, h.up x hx]; rfl, fun e => by simp at e, fun _ => ?_⟩
  cases hm : mo with
  | false => rw [h.no hm] at hc; rw [h.no hm]; omega
  | true => have := h.yes hm; omega
theorem Rl.set' {K0 K : List Bool} {mo : Bool} {y : Nat} (h : Rl K0 mo K) (hy : y < K.length) (hk : kB K y = false) : Rl K0 true (K.set y true) := by
 have := h.set hy
 rw [hk] at this
 simpa using this
def Snd (es : List Ent) (ss : List ByteArray) (K : List Bool) : Prop := ∀ y, kB K y = true → Der (RS es es.length) (Sn es ss) y
theorem Snd.set {es : List Ent} {ss : List ByteArray} {K : List Bool} {y : Nat} (h : Snd es ss K) (hy : y < K.length) (hd : Der (RS es es.length) (Sn es ss) y) : Snd es ss (K.set y true) := fun x hx => by
 rw [kB_set K y x hy] at hx
 rcases Bool.or_eq_true _ _ |>.mp hx with hx | hx
 ·exact h x hx
 ·rw [of_decide_eq_true hx]; exact hd
structure CK (m : Nat) (cu : Array Value) (K : List Bool) : Prop where
 len : K.length = m
 big : m ≤ cu.size
 at_ : ∀ j, j < m → cu[j]? = some (.bool (kB K j))
theorem CK.set {m y : Nat} {cu : Array Value} {K : List Bool} (h : CK m cu K) (hy : y < m) : CK m (cu.setIfInBounds y (.bool true)) (K.set y true) := by
 refine ⟨by rw [List.length_set]; exact h.len, by rw [Array.size_setIfInBounds]; exact h.big, fun j hj => ?_⟩
 rw [kB_set K y j (by rw [h.len]; exact hy)]
 by_cases e : j = y
 ·subst e
  have := h.big
  rw [Array.getElem?_setIfInBounds_self_of_lt (by omega)]
  simp
 ·rw [Array.getElem?_setIfInBounds_ne (Ne.symm e), h.at_ j hj]
  simp [e]
theorem CK.start {m : Nat} {v : Value} {Lb : BL} (hm : 0 < m) (h : Row 4 1 v m (List.replicate m (.bool false)) Lb) : ∃ g c cu, v = .slice (some ⟨g, 0, none⟩) m c ∧ Lb = [(g, 4, cu)] ∧ CK m cu (List.replicate m false) := by
 rcases h.2 with ⟨_, h2, _⟩ | ⟨g, cap, cur, h1, h2, h3, _, h5, h6⟩
 ·omega
 ·rw [Nat.mul_one] at h5 h6
  refine ⟨g, cap, cur, h1, h2, ⟨by simp, by omega, fun j hj => ?_⟩⟩
  have : (cur.toList.take m)[j]? = (List.replicate m (Value.bool false))[j]? := by rw [h6]
  rw [List.getElem?_take, if_pos hj, Array.getElem?_toList, List.getElem?_replicate, if_pos hj] at this
  rw [this]
  simp [kB, hj]
theorem Snd.start (es : List Ent) (ss : List ByteArray) (m : Nat) : Snd es ss (List.replicate m false) := fun y hy => by
 exfalso
 unfold kB at hy
 rw [List.getD_eq_getElem?_getD, List.getElem?_replicate] at hy
 split at hy <;> cases hy
section
variable {ρ : Operand → Value} {x y : Operand} {w : World} {dst : Option Tmp} {ty : TypeId} {pos : String} {aft : Array Edge} {gd : Option (Nat × Bool)}
theorem run_len_of {v : Value} {n : Nat} (hv : ∃ p c, v = .slice p n c) (hx : ρ x = v) : (execOp ρ ⟨dst, .call { callee := .builtin .len, args := #[x], argTypes := #[25] }, ty, pos, aft, gd⟩).run Tryz.prog w = .ok (.value (iN .i64 n)) w := by
 obtain ⟨p, c, rfl⟩ := hv
 simp only [execOp, resolve, invoke, builtin, Sem.run_bind, Sem.run_pure, Result.andThen_ok, List.map_toArray, List.map_cons, List.map_nil, hx]
 simp [go_sem, iN]
theorem run_addr_i {p : Option Addr} {g n c i : Nat} (hp : p = some ⟨g, 0, none⟩)   (hi : i < n) (hx : ρ x = .slice p n c := by kernel_rfl) (hy : ρ y = iN .i64 i := by kernel_rfl) : (execOp ρ ⟨dst, .indexAddr 63 x y, ty, pos, aft, gd⟩).run Tryz.prog w = .ok (.value (.pointer (some ⟨g, i, none⟩))) w := by
 subst hp
 exact run_addr_slice (q := g) (n := n) (m := c) (a := i) Tryz.underlying63 Tryz.sizeOf3 (hx := hx) (hy := hy) hi
theorem run_addr_t {p : Option Addr} {g n c i : Nat} (hp : p = some ⟨g, 0, none⟩) (hx : ρ x = .slice p n c) (hy : ρ y = iN .i64 i) (hi : i < n) : (execOp ρ ⟨dst, .indexAddr 30 x y, ty, pos, aft, gd⟩).run Tryz.prog w = .ok (.value (.pointer (some ⟨g, i, none⟩))) w := by
 subst hp
 exact run_addr_slice (q := g) (n := n) (m := c) (a := i) Tryz.underlying30 Tryz.sizeOf9 (hx := hx) (hy := hy) hi
end
theorem gD_mem {l : List Nat} {k : Nat} (hk : k < l.length) : l.getD k 0 ∈ l := by
 rw [List.getD_eq_getElem?_getD, List.getElem?_eq_getElem hk]
 exact List.getElem_mem hk
theorem ss_mem {ss : List ByteArray} {k : Nat} (hk : k < ss.length) : ss.getD k ByteArray.empty ∈ ss := by
 rw [List.getD_eq_getElem?_getD, List.getElem?_eq_getElem hk]
 exact List.getElem_mem hk
end Go.Proofs.YtihfeoanognonaaGreat
