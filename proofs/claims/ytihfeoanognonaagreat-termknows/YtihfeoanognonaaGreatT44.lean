/-
 The reference's Make: what it refuses; all together.
-/
import Derived.Test.YtihfeoanognonaaGreatT43
namespace Go.Proofs.YtihfeoanognonaaGreat
set_option linter.unusedVariables false
set_option maxRecDepth 100000
set_option maxHeartbeats 2000000
open Go.RowKit
theorem run_nez {ρ : Operand → Value} {x y : Operand} {w : World} {dst : Option Tmp} {T T2 ty : TypeId} {pos : String} {aft : Array Edge} {gd : Option (Nat × Bool)} {P : Program} {z : Int} {b : Nat} (hx : ρ x = .int .i64 z) (hy : ρ y = iN .i64 b) (h : z ≠ b) : (execOp ρ ⟨dst, .binOp .neq T x y T2, ty, pos, aft, gd⟩).run P w = .ok (.value (.bool true)) w := by
 simp only [execOp, hx, hy, iN]
 simp [go_sem, h]
theorem iv_ps {es : List Ent} (h : Iv es) : (∀ q ∈ es.map trm, q.ps.length ≤ 1000) ∧ ∀ q ∈ es.map trm, q.k = 3 → q.ps.length = 1 := by
 have key : ∀ q ∈ es.map trm, q.ps.length ≤ 1000 ∧ (q.k = 3 → q.ps.length = 1) := fun q hq => by
  obtain ⟨e, he, rfl⟩ := List.mem_map.1 hq
  obtain ⟨i, hi, hx⟩ := List.getElem_of_mem he
  have hi' : es[i]? = some e := by rw [List.getElem?_eq_getElem hi, hx]
  cases e with
  | nm n => simp [trm]
  | dt s => simp [trm]
  | mk k n s ps b =>
   refine ⟨?_, fun h3 => ?_⟩
   ·have := h.wf.len i k n s ps b hi'
    simp only [trm]; omega
   ·simp only [trm] at h3 ⊢
    subst h3
    exact h.wf.one i n s ps b hi'
 exact ⟨fun q hq => (key q hq).1, fun q hq => (key q hq).2⟩
theorem rmk_a1 {w : World} {ov o : Option Addr} {cv c n : Nat} {l : List Q4} (z : Int) (label : ByteArray) (hc : cntB z n = false) :
  Calls Tryz.prog 15 #[.agg #[.slice ov l.length cv], .int .i64 z, .string label, .slice o n c] w fun e w' => e = .returned (.tuple #[.agg #[.slice ov l.length cv], .string { data := #[] }, iN .i64 2]) ∧ Below w.heap.size w w' := by
 have H0 := HA.start w
 go_enter Tryz.func15, Tryz.ntmps15
 refine zsr ?_
 refine wl_make (c := #[.slice ov l.length cv]) H0 27 ?_
 intro q1 w2 (h3 : HA (bs w) [(q1, 27, #[.slice ov l.length cv])] w2)
 refine wl_make (c := #[.slice none 0 0]) h3 27 ?_
 intro q4 w5 (h6 : HA (bs w) [(q4, 27, #[.slice none 0 0]), (q1, 27, #[.slice ov l.length cv])] w5)
 refine zwv (.string ({ data := #[] })) ?_
 refine zwv (iN .i64 0) ?_
 refine znt ?_
 refine wp_seq ?_
 refine zsr ?_
 refine zwv (.int .i64 z) ?_
 refine zwv (.slice o n c) ?_
 refine zwv (iN .i64 n) ?_
 refine wl_call (v := .bool false) h6 enter38 #[.int .i64 z, iN .i64 n] (by have := count_any z n w5; rw [hc] at this; exact this) ?_
 intro w7 h8
 refine zwv (.bool true) ?_
 refine zwv (.bool true) ?_
 refine wl_skip ?_
 refine wl_skip ?_
 refine wl_skip ?_
 refine wl_skip ?_
 refine wl_skip ?_
 refine wl_skip ?_
 refine zwv (.bool true) ?_
 refine znt ?_
 refine zct ?_
 refine zsr ?_
 refine wl_load h8 1 rfl Tryz.underlying27 rfl ?_
 refine wl_fill (c' := #[.slice ov l.length cv]) h8 0 rfl rfl ?_
 intro w9 (h10 : HA (bs w) [(q4, 27, #[.slice ov l.length cv]), (q1, 27, #[.slice ov l.length cv])] w9)
 refine zwv (.string ({ data := #[] })) ?_
 refine zwv (iN .i64 2) ?_
 refine znt ?_
 refine wp_ret ?_
 repeat first | refine then_ret ?_ | refine block_ret ?_
 exact bodyPost_ret (res_cell_tmp2 (p := 8) (r := 9) (r2 := 10) (by kernel_rfl) (by kernel_rfl) (by kernel_rfl) (by kernel_rfl) (h10.get 0 rfl) Tryz.underlying27 rfl (by kernel_rfl)) rfl ⟨rfl, h10.old.old⟩
theorem rmk_a2 {w : World} {ov o : Option Addr} {cv c n : Nat} {l : List Q4} (z : Int) (label : ByteArray) (hc : cntB z n = true) (hlb : ¬ label = { data := #[] }) (hz5 : z ≠ 5) :
  Calls Tryz.prog 15 #[.agg #[.slice ov l.length cv], .int .i64 z, .string label, .slice o n c] w fun e w' => e = .returned (.tuple #[.agg #[.slice ov l.length cv], .string { data := #[] }, iN .i64 2]) ∧ Below w.heap.size w w' := by
 have H0 := HA.start w
 go_enter Tryz.func15, Tryz.ntmps15
 refine zsr ?_
 refine wl_make (c := #[.slice ov l.length cv]) H0 27 ?_
 intro q1 w2 (h3 : HA (bs w) [(q1, 27, #[.slice ov l.length cv])] w2)
 refine wl_make (c := #[.slice none 0 0]) h3 27 ?_
 intro q4 w5 (h6 : HA (bs w) [(q4, 27, #[.slice none 0 0]), (q1, 27, #[.slice ov l.length cv])] w5)
 refine zwv (.string ({ data := #[] })) ?_
 refine zwv (iN .i64 0) ?_
 refine znt ?_
 refine wp_seq ?_
 refine zsr ?_
 refine zwv (.int .i64 z) ?_
 refine zwv (.slice o n c) ?_
 refine zwv (iN .i64 n) ?_
 refine wl_call (v := .bool true) h6 enter38 #[.int .i64 z, iN .i64 n] (by have := count_any z n w5; rw [hc] at this; exact this) ?_
 intro w7 h8
 refine zwv (.bool false) ?_
 refine zwv (.bool false) ?_
 refine zwv (.string label) ?_
 refine zwu (run_nes (s := label) (t := { data := #[] }) true (decide_eq_false hlb)) ?_
 refine zwv (.bool true) ?_
 refine zwv (.int .i64 z) ?_
 refine zwu (v := .bool true) (run_nez (z := z) (b := 5) (by kernel_rfl) (by kernel_rfl) hz5) ?_
 refine zwv (.bool true) ?_
 refine zwv (.bool true) ?_
 refine znt ?_
 refine zct ?_
 refine zsr ?_
 refine wl_load h8 1 rfl Tryz.underlying27 rfl ?_
 refine wl_fill (c' := #[.slice ov l.length cv]) h8 0 rfl rfl ?_
 intro w9 (h10 : HA (bs w) [(q4, 27, #[.slice ov l.length cv]), (q1, 27, #[.slice ov l.length cv])] w9)
 refine zwv (.string ({ data := #[] })) ?_
 refine zwv (iN .i64 2) ?_
 refine znt ?_
 refine wp_ret ?_
 repeat first | refine then_ret ?_ | refine block_ret ?_
 exact bodyPost_ret (res_cell_tmp2 (p := 8) (r := 9) (r2 := 10) (by kernel_rfl) (by kernel_rfl) (by kernel_rfl) (by kernel_rfl) (h10.get 0 rfl) Tryz.underlying27 rfl (by kernel_rfl)) rfl ⟨rfl, h10.old.old⟩
theorem rmake_arg {w : World} {v : Value} {l : List Q4} {RL : BL} (h : RTL v l RL) (z : Int) (label : ByteArray) (o : Option Addr) (n c : Nat) (hmb : mayB z label n = false) :
  Calls Tryz.prog 15 #[.agg #[v], .int .i64 z, .string label, .slice o n c] w fun e w' => e = .returned (.tuple #[.agg #[v], .string { data := #[] }, iN .i64 2]) ∧ Below w.heap.size w w' := by
 obtain ⟨ov, cv, rfl⟩ := h.form
 rw [mayB_cnt] at hmb
 cases hc : cntB z n with
 | false => exact rmk_a1 z label hc
 | true =>
  rw [hc, Bool.true_and, Bool.or_eq_false_iff] at hmb
  exact rmk_a2 z label hc (of_decide_eq_false hmb.1) (of_decide_eq_false hmb.2)
theorem rmake_ok {w : World} {v : Value} {l : List Q4} {RL : BL} (h : RTL v l RL) (hS : Stand w RL) (hl : ∀ q ∈ l, q.ps.length ≤ 1000) (hll : l.length ≤ 50000) (k : Nat) (label : ByteArray) (ss : List ByteArray) (o : Option Addr) (c : Nat) (hp : ss = [] ∨ ∃ pq cs, o = some ⟨pq, 0, none⟩ ∧ PreS cs ss ∧ Blk w pq 9 cs) (hsl : ss.length ≤ 100) (hlab : label.size ≤ 65536) (hss : ∀ i, (ss.getD i ByteArray.empty).size ≤ 65536) (hmb : mayB k label ss.length = true) (i3 : ∀ q ∈ rfL l ss ss.length, q.k = 3 → q.ps.length = 1) :
  Calls Tryz.prog 15 #[.agg #[v], iN .i64 k, .string label, .slice o ss.length c] w fun e w' => ∃ v' N, e = .returned (.tuple #[.agg #[v'], .string (txt (putN (rfL l ss ss.length) (rmX (rfL l ss ss.length) k label (rfN l ss ss.length)))), iN .i64 0]) ∧ RTL v' (putL (rfL l ss ss.length) (rmX (rfL l ss ss.length) k label (rfN l ss ss.length))) (N ++ RL) ∧ Newer w.heap.size w' N ∧ Below w.heap.size w w' := by
 obtain ⟨ov, cv, rfl⟩ := h.form
 have hmb' := hmb
 rw [mayB_cnt, Bool.and_eq_true, Bool.or_eq_true] at hmb
 by_cases h4 : k = 4
 ·have h5 : label = { data := #[] } := by
   rcases hmb.2 with h | h
   ·exact of_decide_eq_true h
   ·have := of_decide_eq_true h; omega
  have h2 : ss.length = 2 := by
   subst h4
   have : mayB (4 : Int) label ss.length = true := hmb'
   simp only [mayB] at this
   simp at this
   exact this.2
  have hj : (rfN l ss ss.length).getD 1 0 < (rfL l ss ss.length).length := getD_mem_lt (rfN_lt l ss ss.length) (by rw [rfN_len, h2]; decide)
  by_cases hq : ((rfL l ss ss.length)[(rfN l ss ss.length).getD 1 0]).k = 3
  ·exact rmk_p h hS hl hll k label ss o c hp hsl hlab hss hmb.1 h4 h2 h5 (fun _ => hq) i3
  ·exact rmk_q h hS hl hll k label ss o c hp hsl hlab hss hmb.1 h4 h2 h5 (fun _ => hq)
 ·by_cases h5 : label = { data := #[] }
  ·exact rmk_e h hS hl hll k label ss o c hp hsl hlab hss hmb.1 h5 h4
  ·rcases hmb.2 with h | h
   ·exact absurd (of_decide_eq_true h) h5
   ·exact rmk_n (by assumption) hS hl hll k label ss o c hp hsl hlab hss hmb.1 h5 (by have := of_decide_eq_true h; omega)
end Go.Proofs.YtihfeoanognonaaGreat
