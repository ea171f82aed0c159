/-
  Of a table; Make of a text that is too long.
-/
import Derived.Test.YtihfeoanognonaaT20
namespace Go.Proofs.Ytihfeoanognonaa
open Go.RowKit

theorem Of_made {w : World} {t : Tb} {es : List Ent} (h : TV w t es) (hwf : Wf es) {sx : ByteArray} {x : Nat} (hn : numT es.length sx = some x) {k n b : Nat} {s : ByteArray} {ps : List Nat} (he : es[x]? = some (.mk k n s ps b)) (hsz : s.size ≤ 281474976710656) :
    Calls Try.prog 9 #[pt t.q, .string sx] w fun e w' => ∃ mm c, e = .returned (.tuple #[.agg #[iN .i64 k, iN .i64 n, .string s, slu mm ps.length], .bool true]) ∧ w.heap.size ≤ (unp mm).1 ∧ Blk w' (unp mm).1 3 c ∧ (∀ j, j < ps.length → c[j]? = some (iN .i64 (ps.getD j 0))) ∧ Below w.heap.size w w' := by
  obtain ⟨v, hq, h2⟩ := h.row
  have hp : x < es.length := (List.getElem?_eq_some_iff.1 he).1
  rcases h2 with ⟨e1, _⟩ | ⟨g, cap, cur, rfl, hg, hcur⟩
  · rw [e1] at hp; exact absurd hp (by simp)
  · exact Of_blk hq hg (by have := hwf.few; omega) hp hn (row_get hcur he) (h.pbs _ (pb_mem he)) (hwf.len x k n s ps b he) hsz
theorem Of_not {w : World} {t : Tb} {es : List Ent} (h : TV w t es) (hwf : Wf es) {sx : ByteArray} (hn : numT es.length sx = none) :
    Calls Try.prog 9 #[pt t.q, .string sx] w fun e w' => e = .returned (.tuple #[.agg #[iN .i64 0, iN .i64 0, .string { data := #[] }, .slice none 0 0], .bool false]) ∧ Below w.heap.size w w' := by
  obtain ⟨v, hq, h2⟩ := h.row
  have hm := hwf.few
  rcases h2 with ⟨e1, rfl⟩ | ⟨g, cap, cur, rfl, hg, hcur⟩
  · refine Of_no (m := 0) hq (by omega) ?_
    rw [e1] at hn
    exact hn
  · exact Of_no hq (by omega) hn
set_option linter.unusedVariables false in
set_option maxRecDepth 100000 in
set_option maxHeartbeats 2000000 in
theorem idx_yes {w : World} (b : ByteArray) (hb : 65536 < b.size) (pq c : Nat) (hp : Blk w pq 9 (strc [b])) :
    Calls Try.prog 62 #[.slice (some ⟨pq, 0, none⟩) 1 c, .func (.func 40) #[] #[]] w fun e w' => e = .returned (iN .i64 0) ∧ Below w.heap.size w w' := by
  have H0 := HA.start w
  go_enter Try.func62, Try.ntmps62
  refine wp_seq ?_
  -- region 0
  refine wl_region ?_
  refine wl_val (iN .i64 0) (by kernel_rfl) (by kernel_rfl) ?_
  refine wl_nil ?_
  refine then_at (F := ⟨(.slice (some ⟨pq, 0, none⟩) 1 c :: .func (.func 40) #[] #[] :: un :: un :: iN .i64 0 :: List.replicate 14 un).toArray, []⟩) (by kernel_rfl) ?_
  refine wp_seq ?_
  refine wp_seq ?_
  -- region 1
  refine wl_region ?_
  refine wl_val (.slice (some ⟨pq, 0, none⟩) 1 c) (by kernel_rfl) (by kernel_rfl) ?_
  refine wl_val (iN .i64 1) (by kernel_rfl) (by kernel_rfl) ?_
  refine wl_val (iN .i64 0) (by kernel_rfl) (by kernel_rfl) ?_
  refine wl_nil ?_
  refine then_at (F := ⟨(.slice (some ⟨pq, 0, none⟩) 1 c :: .func (.func 40) #[] #[] :: un :: un :: iN .i64 0 :: un :: .slice (some ⟨pq, 0, none⟩) 1 c :: iN .i64 1 :: iN .i64 0 :: List.replicate 10 un).toArray, []⟩) (by kernel_rfl) ?_
  refine wp_block ?_
  refine wp_loop_rounds 2 ?_
  try rw [rounds_succ]
  refine wp_seq ?_
  -- region 2
  refine wl_region ?_
  refine wl_val (.bool true) (by kernel_rfl) (run_lss (k := .i64) (a := 0) (b := 1) (by kernel_rfl) (by kernel_rfl) true (by decide)) ?_
  refine wl_nil ?_
  refine then_at (F := ⟨(.slice (some ⟨pq, 0, none⟩) 1 c :: .func (.func 40) #[] #[] :: un :: un :: iN .i64 0 :: un :: .slice (some ⟨pq, 0, none⟩) 1 c :: iN .i64 1 :: iN .i64 0 :: .bool true :: List.replicate 9 un).toArray, []⟩) (by kernel_rfl) ?_
  refine wp_seq ?_
  refine wp_cond_true (by kernel_rfl) ?_
  refine wp_skip ?_
  refine then_at (F := ⟨(.slice (some ⟨pq, 0, none⟩) 1 c :: .func (.func 40) #[] #[] :: un :: un :: iN .i64 0 :: un :: .slice (some ⟨pq, 0, none⟩) 1 c :: iN .i64 1 :: iN .i64 0 :: .bool true :: List.replicate 9 un).toArray, []⟩) (by kernel_rfl) ?_
  refine wp_seq ?_
  refine wp_block ?_
  refine wp_seq ?_
  -- region 3
  refine wl_region ?_
  refine wl_val (iN .i64 0) (by kernel_rfl) (by kernel_rfl) ?_
  refine wl_val (iN .i64 0) (by kernel_rfl) (by kernel_rfl) ?_
  refine wl_nil ?_
  refine then_at (F := ⟨(.slice (some ⟨pq, 0, none⟩) 1 c :: .func (.func 40) #[] #[] :: un :: un :: iN .i64 0 :: iN .i64 0 :: .slice (some ⟨pq, 0, none⟩) 1 c :: iN .i64 1 :: iN .i64 0 :: .bool true :: iN .i64 0 :: List.replicate 8 un).toArray, []⟩) (by kernel_rfl) ?_
  refine wp_seq ?_
  -- region 4
  refine wl_region ?_
  refine wl_val (.func (.func 40) #[] #[]) (by kernel_rfl) (by kernel_rfl) ?_
  refine wl_val (.slice (some ⟨pq, 0, none⟩) 1 c) (by kernel_rfl) (by kernel_rfl) ?_
  refine wl_val (iN .i64 0) (by kernel_rfl) (by kernel_rfl) ?_
  refine wl_val (.pointer (some ⟨pq, 0, none⟩)) (by kernel_rfl) (run_addr_slice (q := pq) (n := 1) (m := c) (a := 0) Try.underlying48 (fun w => Try.sizeOf9 w) (by kernel_rfl) (by kernel_rfl) (by decide)) ?_
  refine wl_val (.string b) (by kernel_rfl) (run_load1 (fun w => Try.isAgg9 w) (by kernel_rfl) (((hp.keep H0.old.old).cell 0).trans rfl)) ?_
  refine wl_callv (v := .bool true) H0 (by kernel_rfl) enter40 #[.string b] (by kernel_rfl) (by kernel_rfl) (isLong_y b hb w) ?_
  intro w1 h2
  refine wl_nil ?_
  refine then_at (F := ⟨(.slice (some ⟨pq, 0, none⟩) 1 c :: .func (.func 40) #[] #[] :: un :: un :: iN .i64 0 :: iN .i64 0 :: .slice (some ⟨pq, 0, none⟩) 1 c :: iN .i64 1 :: iN .i64 0 :: .bool true :: iN .i64 0 :: .func (.func 40) #[] #[] :: .slice (some ⟨pq, 0, none⟩) 1 c :: iN .i64 0 :: pt pq :: .string b :: .bool true :: List.replicate 2 un).toArray, []⟩) (by kernel_rfl) ?_
  refine wp_cond_true (by kernel_rfl) ?_
  refine wp_seq ?_
  -- region 5
  refine wl_region ?_
  refine wl_val (iN .i64 0) (by kernel_rfl) (by kernel_rfl) ?_
  refine wl_val (iN .i64 0) (by kernel_rfl) (by kernel_rfl) ?_
  refine wl_nil ?_
  refine then_at (F := ⟨(.slice (some ⟨pq, 0, none⟩) 1 c :: .func (.func 40) #[] #[] :: un :: un :: iN .i64 0 :: iN .i64 0 :: .slice (some ⟨pq, 0, none⟩) 1 c :: iN .i64 1 :: iN .i64 0 :: .bool true :: iN .i64 0 :: .func (.func 40) #[] #[] :: .slice (some ⟨pq, 0, none⟩) 1 c :: iN .i64 0 :: pt pq :: .string b :: .bool true :: iN .i64 0 :: List.replicate 1 un).toArray, []⟩) (by kernel_rfl) ?_
  refine wp_ret ?_
  repeat first | refine then_ret ?_ | refine block_ret ?_
  exact bodyPost_ret (v := iN .i64 0) (by kernel_rfl) rfl ⟨rfl, h2.old.old⟩
set_option linter.unusedVariables false in
set_option maxRecDepth 100000 in
set_option maxHeartbeats 2000000 in
theorem cont_yes {w : World} (b : ByteArray) (hb : 65536 < b.size) (pq c : Nat) (hp : Blk w pq 9 (strc [b])) :
    Calls Try.prog 41 #[.slice (some ⟨pq, 0, none⟩) 1 c, .func (.func 40) #[] #[]] w fun e w' => e = .returned (.bool true) ∧ Below w.heap.size w w' := by
  have H0 := HA.start w
  go_enter Try.func41, Try.ntmps41
  refine wp_seq ?_
  -- region 0
  refine wl_region ?_
  refine wl_val (.bool false) (by kernel_rfl) (by kernel_rfl) ?_
  refine wl_nil ?_
  refine then_at (F := ⟨(.slice (some ⟨pq, 0, none⟩) 1 c :: .func (.func 40) #[] #[] :: un :: un :: .bool false :: List.replicate 4 un).toArray, []⟩) (by kernel_rfl) ?_
  refine wp_seq ?_
  -- region 1
  refine wl_region ?_
  refine wl_val (.slice (some ⟨pq, 0, none⟩) 1 c) (by kernel_rfl) (by kernel_rfl) ?_
  refine wl_val (.func (.func 40) #[] #[]) (by kernel_rfl) (by kernel_rfl) ?_
  refine wl_call (v := iN .i64 0) H0 (by kernel_rfl) enter62 #[.slice (some ⟨pq, 0, none⟩) 1 c, .func (.func 40) #[] #[]] (by kernel_rfl) (idx_yes b hb pq c (hp.keep H0.old.old)) ?_
  intro w1 h2
  refine wl_val (.bool true) (by kernel_rfl) (run_geq (k := .i64) (a := 0) (b := 0) (by kernel_rfl) (by kernel_rfl) true (by decide)) ?_
  refine wl_val (.bool true) (by kernel_rfl) (by kernel_rfl) ?_
  refine wl_nil ?_
  refine then_at (F := ⟨(.slice (some ⟨pq, 0, none⟩) 1 c :: .func (.func 40) #[] #[] :: un :: un :: .bool true :: .slice (some ⟨pq, 0, none⟩) 1 c :: .func (.func 40) #[] #[] :: iN .i64 0 :: .bool true :: List.replicate 0 un).toArray, []⟩) (by kernel_rfl) ?_
  refine wp_ret ?_
  repeat first | refine then_ret ?_ | refine block_ret ?_
  exact bodyPost_ret (v := .bool true) (by kernel_rfl) rfl ⟨rfl, h2.old.old⟩
set_option linter.unusedVariables false in
set_option maxRecDepth 100000 in
set_option maxHeartbeats 2000000 in
theorem Make_long {w0 w : World} {M : ML} {t : Tb} {es : List Ent} {L : BL} (H : TH w0 M t es L w) (k : Nat) (label : ByteArray) (b : ByteArray) (hb : 65536 < b.size) (pq cc : Nat) (hp : (pq, 9, strc [b]) ∈ L) (hmb : mayB k label 1 = true) (hlab : label.size ≤ 65536) :
    Calls Try.prog 18 #[pt t.q, iN .i64 k, .string label, .slice (some ⟨pq, 0, none⟩) 1 cc] w fun e w' => e = .returned (.tuple #[.string { data := #[] }, iN .i64 3]) ∧ TH w0 M t es L w' := by
  obtain ⟨v, Lr, hR, H0⟩ := H
  obtain ⟨p, c, rfl⟩ := hR.form
  go_enter Try.func18, Try.ntmps18
  refine wp_seq ?_
  -- region 0
  refine wl_region ?_
  refine wl_val (.string ({ data := #[] })) (by kernel_rfl) (by kernel_rfl) ?_
  refine wl_val (iN .i64 0) (by kernel_rfl) (by kernel_rfl) ?_
  refine wl_nil ?_
  refine then_at (F := ⟨(pt t.q :: iN .i64 k :: .string label :: .slice (some ⟨pq, 0, none⟩) 1 cc :: un :: un :: un :: un :: .string ({ data := #[] }) :: iN .i64 0 :: List.replicate 40 un).toArray, []⟩) (by kernel_rfl) ?_
  refine wp_seq ?_
  refine wp_block ?_
  refine wp_seq ?_
  -- region 1
  refine wl_region ?_
  refine wl_val (.pointer (some ⟨t.q, 0, none⟩)) (by kernel_rfl) (by kernel_rfl) ?_
  refine wl_call (v := .bool false) H0 (by kernel_rfl) enter36 #[.pointer (some ⟨t.q, 0, none⟩)] (by kernel_rfl) (none_no (H0.get 0 rfl)) ?_
  intro w1 h2
  refine wl_val (.bool false) (by kernel_rfl) (by kernel_rfl) ?_
  refine wl_nil ?_
  refine then_at (F := ⟨(pt t.q :: iN .i64 k :: .string label :: .slice (some ⟨pq, 0, none⟩) 1 cc :: un :: un :: un :: un :: .string ({ data := #[] }) :: iN .i64 0 :: un :: un :: un :: .bool false :: pt t.q :: .bool false :: List.replicate 34 un).toArray, []⟩) (by kernel_rfl) ?_
  refine wp_cond_false (by kernel_rfl) ?_
  refine wp_seq ?_
  -- region 3
  refine wl_region ?_
  refine wl_val (iN .i64 k) (by kernel_rfl) (by kernel_rfl) ?_
  refine wl_val (.string label) (by kernel_rfl) (by kernel_rfl) ?_
  refine wl_val (.slice (some ⟨pq, 0, none⟩) 1 cc) (by kernel_rfl) (by kernel_rfl) ?_
  refine wl_val (iN .i64 1) (by kernel_rfl) (by kernel_rfl) ?_
  refine wl_call (v := .bool true) h2 (by kernel_rfl) enter39 #[iN .i64 k, .string label, iN .i64 1] (by kernel_rfl) (by have := mayBe_any (k : Int) label 1 w1; rw [hmb] at this; exact this) ?_
  intro w3 h4
  refine wl_val (.bool false) (by kernel_rfl) (by kernel_rfl) ?_
  refine wl_val (.bool false) (by kernel_rfl) (by kernel_rfl) ?_
  refine wl_nil ?_
  refine then_at (F := ⟨(pt t.q :: iN .i64 k :: .string label :: .slice (some ⟨pq, 0, none⟩) 1 cc :: un :: un :: un :: un :: .string ({ data := #[] }) :: iN .i64 0 :: un :: un :: un :: .bool false :: pt t.q :: .bool false :: .bool false :: iN .i64 k :: .string label :: .slice (some ⟨pq, 0, none⟩) 1 cc :: iN .i64 1 :: .bool true :: .bool false :: List.replicate 27 un).toArray, []⟩) (by kernel_rfl) ?_
  refine wp_cond_false (by kernel_rfl) ?_
  refine wp_seq ?_
  -- region 5
  refine wl_region ?_
  refine wl_val (.string label) (by kernel_rfl) (by kernel_rfl) ?_
  refine wl_call (v := .bool false) h4 (by kernel_rfl) enter40 #[.string label] (by kernel_rfl) (isLong_n label hlab w3) ?_
  intro w5 h6
  refine wl_val (.bool false) (by kernel_rfl) (by kernel_rfl) ?_
  refine wl_val (.slice (some ⟨pq, 0, none⟩) 1 cc) (by kernel_rfl) (by kernel_rfl) ?_
  refine wl_call (v := .bool true) h6 (by kernel_rfl) enter41 #[.slice (some ⟨pq, 0, none⟩) 1 cc, .func (.func 40) #[] #[]] (by kernel_rfl) (cont_yes b hb pq cc (h6.blk (pq, 9, strc [b]) (by simp [hp]))) ?_
  intro w7 h8
  refine wl_val (.bool true) (by kernel_rfl) (by kernel_rfl) ?_
  refine wl_val (.bool true) (by kernel_rfl) (by kernel_rfl) ?_
  refine wl_nil ?_
  refine then_at (F := ⟨(pt t.q :: iN .i64 k :: .string label :: .slice (some ⟨pq, 0, none⟩) 1 cc :: un :: un :: un :: un :: .string ({ data := #[] }) :: iN .i64 0 :: un :: un :: un :: .bool false :: pt t.q :: .bool false :: .bool false :: iN .i64 k :: .string label :: .slice (some ⟨pq, 0, none⟩) 1 cc :: iN .i64 1 :: .bool true :: .bool false :: .bool true :: .string label :: .bool false :: .bool false :: .slice (some ⟨pq, 0, none⟩) 1 cc :: .bool true :: .bool true :: List.replicate 20 un).toArray, []⟩) (by kernel_rfl) ?_
  refine wp_cond_true (by kernel_rfl) ?_
  refine wp_seq ?_
  -- region 6
  refine wl_region ?_
  refine wl_val (.string ({ data := #[] })) (by kernel_rfl) (by kernel_rfl) ?_
  refine wl_val (iN .i64 3) (by kernel_rfl) (by kernel_rfl) ?_
  refine wl_nil ?_
  refine then_at (F := ⟨(pt t.q :: iN .i64 k :: .string label :: .slice (some ⟨pq, 0, none⟩) 1 cc :: un :: un :: un :: un :: .string ({ data := #[] }) :: iN .i64 3 :: un :: un :: un :: .bool false :: pt t.q :: .bool false :: .bool false :: iN .i64 k :: .string label :: .slice (some ⟨pq, 0, none⟩) 1 cc :: iN .i64 1 :: .bool true :: .bool false :: .bool true :: .string label :: .bool false :: .bool false :: .slice (some ⟨pq, 0, none⟩) 1 cc :: .bool true :: .bool true :: List.replicate 20 un).toArray, []⟩) (by kernel_rfl) ?_
  refine wp_ret ?_
  repeat first | refine then_ret ?_ | refine block_ret ?_
  exact bodyPost_ret (v := .tuple #[.string { data := #[] }, iN .i64 3]) (by kernel_rfl) rfl ⟨rfl, _, _, hR, h8⟩
end Go.Proofs.Ytihfeoanognonaa
