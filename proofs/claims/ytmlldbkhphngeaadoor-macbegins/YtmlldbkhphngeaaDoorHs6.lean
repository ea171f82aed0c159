/-
  the digest of parts.
-/
import Derived.Test.YtmlldbkhphngeaaDoorHs5
import Derived.Test.YtmlldbkhphngeaaDoorHs4
namespace Go.Proofs.YtmlldbkhphngeaaDoor
open Go.RowKit


def szP (ps : List ByteArray) : Nat → Nat
  | 0 => 0
  | i + 1 => szP ps i + (ps.getD i ByteArray.empty).size
def catP (ps : List ByteArray) : Nat → List UInt8
  | 0 => []
  | i + 1 => catP ps i ++ bl (ps.getD i ByteArray.empty)
theorem szP_len (ps : List ByteArray) : ∀ i, szP ps i = (catP ps i).length
  | 0 => rfl
  | i + 1 => by rw [szP, catP, List.length_append, szP_len ps i, bl_len]
section
variable {ops : Array Oper} {Q : Exit → Act → World → Prop} {a : Act} {w : World} {rest : List Oper} {dst : Option Tmp} {ty : TypeId} {pos : String} {aft : Array Edge} {gd : Option (Nat × Bool)} {x : Operand}
theorem wl_callv {f : FuncId} {xs : Array Operand} {ats : Array TypeId} {cap : Array Value} {R : Ending → World → Prop} (hw : Region.wanted ⟨dst, .call { callee := .value x, args := xs, argTypes := ats }, ty, pos, aft, gd⟩ (yielded ops a.tmps) = true)
    (hr : ∀ args w, (callFunc f args).run Tryd.prog w = .ok (.enter f args) w) (hx : a.eval x = .func (.func f) #[] cap) (args : Array Value) (ha : #[] ++ xs.map a.eval ++ cap = args) (hc : Calls Tryd.prog f args w R)
    (h : ∀ e w', R e w' → ∃ v, e = .returned v ∧ WL Tryd.prog ops Q rest (a.put dst v) w') : WL Tryd.prog ops Q (⟨dst, .call { callee := .value x, args := xs, argTypes := ats }, ty, pos, aft, gd⟩ :: rest) a w := by
  refine ⟨?_⟩
  unfold wpList
  rw [if_pos hw]
  refine .inl ?_
  unfold Oper.wp
  rw [run_callv hr hx ha]
  refine hc.mono ?_
  intro e w' he
  obtain ⟨v, rfl, hl⟩ := h e w' he
  exact hl.out
end

def stS (ps : List ByteArray) (i : Nat) : List (BitVec 32) × List UInt8 := fedP KS (begP 32, []) (catP ps i)
theorem stS_lt (ps : List ByteArray) (i : Nat) : (stS ps i).2.length < 64 := fedP_lt KS (by decide) _ _ (by show 0 < 64; decide)
theorem stS_len (ps : List ByteArray) (i : Nat) : (stS ps i).1.length = 8 := (fedP_len KS _ _).trans (begP_len 32)
theorem stS_step (ps : List ByteArray) (i : Nat) (buf : List UInt8) (h : buf.take (stS ps i).2.length = (stS ps i).2) : fedP KS ((stS ps i).1, buf.take (stS ps i).2.length) (bl (ps.getD i ByteArray.empty)) = stS ps (i + 1) := by
  rw [h]; exact (fedP_app KS _ _ _).symm
def enS (ps : List ByteArray) (i : Nat) : List (BitVec 32) × List UInt8 := fedP KS (stS ps i) (fillP KS (szP ps i))
theorem en_lenS (ps : List ByteArray) (i : Nat) : (enS ps i).1.length = 8 := (fedP_len KS _ _).trans (stS_len ps i)
theorem en_stepS (ps : List ByteArray) (i : Nat) (buf : List UInt8) (h : buf.take (stS ps i).2.length = (stS ps i).2) : fedP KS ((stS ps i).1, buf.take (stS ps i).2.length) (bl ⟨(fillP KS (szP ps i)).toArray⟩) = enS ps i := by
  rw [h]; rfl
theorem en_digS (ps : List ByteArray) (i : Nat) : outP (enS ps i).1 8 = digP KS (catP ps i) := by
  unfold enS digP stS
  rw [← fedP_app, szP_len]

set_option linter.unusedVariables false in
set_option maxRecDepth 100000 in
set_option maxHeartbeats 2000000 in
theorem digS (ps : List ByteArray) (o : Option Addr) (c : Nat) (w : World) (VV : Vars w) (hps : ∀ i, i < ps.length → ∃ q, o = some ⟨q, 0, none⟩ ∧ w.cell? ⟨q, i, none⟩ = some (.string (ps.getD i ByteArray.empty))) (hsz : ∀ i, i ≤ ps.length → szP ps i ≤ 2251799813685248) (hpl : ps.length ≤ 1000000) :
    Calls Tryd.prog 27 #[.agg kcS, .slice o ps.length c] w fun e w' => e = .returned (.string ⟨(digP KS (catP ps ps.length)).toArray⟩) ∧ Below w.heap.size w w' := by
  have H0 := HA.start w
  go_enter Tryd.func27, Tryd.ntmps27
  refine wp_seq ?_
  -- region 0
  refine wl_region ?_
  refine wl_make H0 52 (by kernel_rfl) (run_box36 (c := kcS) (by kernel_rfl)) ?_
  intro q1 w2 h3
  refine wl_val (.string { data := #[] }) (by kernel_rfl) (by kernel_rfl) ?_
  refine wl_nil ?_
  refine then_at (F := ⟨(.agg kcS :: .slice o ps.length c :: pt q1 :: un :: .string { data := #[] } :: List.replicate 36 un).toArray, []⟩) (by kernel_rfl) ?_
  refine wp_seq ?_
  -- region 1
  refine wl_region ?_
  refine wl_val (.pointer (some ⟨q1, 0, none⟩)) (by kernel_rfl) (by kernel_rfl) ?_
  refine wl_val (iN .u64 32) (by kernel_rfl) (run_load1 (fun w => Tryd.isAgg46 w) (by kernel_rfl) (((h3.get 0 rfl).cell 0).trans (by kernel_rfl))) ?_
  refine wl_call (v := .agg (wc .u32 (begP 32))) h3 (by kernel_rfl) enter31 #[iN .u64 32] (by kernel_rfl) (begS w2 (VV.below h3.old VV.big)) ?_
  intro w4 h5
  refine wl_make h5 53 (by kernel_rfl) run_alloc37 ?_
  intro q6 w7 h8
  refine wl_fill (c' := wc .u32 (begP 32)) h8 0 rfl (by kernel_rfl) (by kernel_rfl) (by kernel_rfl) (by rw [wc_size, wc_size, (begP_len 32), (List.length_replicate)]) (info37 .u32 (begP 32) (begP_len 32)) (one_wc .u32 (begP 32)) ?_
  intro w9 (h10 : HA w [(q6, 53, wc .u32 (begP 32)), (q1, 52, kcS)] w9)
  refine wl_nil ?_
  refine then_at (F := ⟨(.agg kcS :: .slice o ps.length c :: pt q1 :: un :: .string { data := #[] } :: pt q6 :: un :: un :: un :: un :: un :: pt q1 :: iN .u64 32 :: .agg (wc .u32 (begP 32)) :: List.replicate 27 un).toArray, []⟩) (by kernel_rfl) ?_
  refine wp_seq ?_
  -- region 2
  refine wl_region ?_
  refine wl_val (.pointer (some ⟨q1, 1, none⟩)) (by kernel_rfl) (by kernel_rfl) ?_
  refine wl_val (iN .i64 64) (by kernel_rfl) (run_load1 (fun w => Tryd.isAgg3 w) (by kernel_rfl) (((h10.get 1 rfl).cell 1).trans (by kernel_rfl))) ?_
  refine wl_mks (n := 0) (m := 64) h10 5 (by kernel_rfl) (run_mk (k := .i64) (m := 0) (c := 64) (by kernel_rfl) (by kernel_rfl) (by decide) (by decide)) ?_
  intro q11 w12 h13
  refine wl_make h13 31 (by kernel_rfl) run_alloc28 ?_
  intro q14 w15 h16
  refine wl_putsl (q := q14) (n := 0) (m := 64) (o := some ⟨q11, 0, none⟩) h16 0 rfl (by kernel_rfl) (by kernel_rfl) (by kernel_rfl) ?_
  intro w17 (h18 : HA w [(q14, 31, #[.slice (some ⟨q11, 0, none⟩) 0 64]), (q11, 5, bc (List.replicate 64 0)), (q6, 53, wc .u32 (begP 32)), (q1, 52, kcS)] w17)
  refine wl_nil ?_
  refine then_at (F := ⟨(.agg kcS :: .slice o ps.length c :: pt q1 :: un :: .string { data := #[] } :: pt q6 :: pt q14 :: un :: un :: un :: un :: pt q1 :: iN .u64 32 :: .agg (wc .u32 (begP 32)) :: .pointer (some ⟨q1, 1, none⟩) :: iN .i64 64 :: .slice (some ⟨q11, 0, none⟩) 0 64 :: List.replicate 24 un).toArray, []⟩) (by kernel_rfl) ?_
  refine wp_seq ?_
  -- region 3
  refine wl_region ?_
  refine wl_val (.func (.func 32) #[] #[.pointer (some ⟨q1, 0, none⟩), .pointer (some ⟨q14, 0, none⟩), .pointer (some ⟨q6, 0, none⟩)]) (by kernel_rfl) (by kernel_rfl) ?_
  refine wl_val (.func (.func 32) #[] #[.pointer (some ⟨q1, 0, none⟩), .pointer (some ⟨q14, 0, none⟩), .pointer (some ⟨q6, 0, none⟩)]) (by kernel_rfl) (by kernel_rfl) ?_
  refine wl_nil ?_
  refine then_at (F := ⟨(.agg kcS :: .slice o ps.length c :: pt q1 :: un :: .string { data := #[] } :: pt q6 :: pt q14 :: .func (.func 32) #[] #[pt q1, pt q14, pt q6] :: un :: un :: un :: pt q1 :: iN .u64 32 :: .agg (wc .u32 (begP 32)) :: .pointer (some ⟨q1, 1, none⟩) :: iN .i64 64 :: .slice (some ⟨q11, 0, none⟩) 0 64 :: .func (.func 32) #[] #[pt q1, pt q14, pt q6] :: List.replicate 23 un).toArray, []⟩) (by kernel_rfl) ?_
  refine wp_seq ?_
  -- region 4
  refine wl_region ?_
  refine wl_val (iN .i64 0) (by kernel_rfl) (by kernel_rfl) ?_
  refine wl_nil ?_
  refine then_at (F := ⟨(.agg kcS :: .slice o ps.length c :: pt q1 :: un :: .string { data := #[] } :: pt q6 :: pt q14 :: .func (.func 32) #[] #[pt q1, pt q14, pt q6] :: iN .i64 0 :: un :: un :: pt q1 :: iN .u64 32 :: .agg (wc .u32 (begP 32)) :: .pointer (some ⟨q1, 1, none⟩) :: iN .i64 64 :: .slice (some ⟨q11, 0, none⟩) 0 64 :: .func (.func 32) #[] #[pt q1, pt q14, pt q6] :: List.replicate 23 un).toArray, []⟩) (by kernel_rfl) ?_
  refine wp_seq ?_
  refine wp_seq ?_
  -- region 5
  refine wl_region ?_
  refine wl_val (.slice o ps.length c) (by kernel_rfl) (by kernel_rfl) ?_
  refine wl_val (iN .i64 ps.length) (by kernel_rfl) (run_len26 (q := o) (m := ps.length) (c := c) (by kernel_rfl)) ?_
  refine wl_val (iN .i64 0) (by kernel_rfl) (by kernel_rfl) ?_
  refine wl_nil ?_
  refine then_at (F := ⟨(.agg kcS :: .slice o ps.length c :: pt q1 :: un :: .string { data := #[] } :: pt q6 :: pt q14 :: .func (.func 32) #[] #[pt q1, pt q14, pt q6] :: iN .i64 0 :: un :: un :: pt q1 :: iN .u64 32 :: .agg (wc .u32 (begP 32)) :: .pointer (some ⟨q1, 1, none⟩) :: iN .i64 64 :: .slice (some ⟨q11, 0, none⟩) 0 64 :: .func (.func 32) #[] #[pt q1, pt q14, pt q6] :: .slice o ps.length c :: iN .i64 ps.length :: iN .i64 0 :: List.replicate 20 un).toArray, []⟩) (by kernel_rfl) ?_
  refine wp_block ?_
  refine wp_while (fun mq A w' => ∃ (kx : Nat) (buf : List UInt8) (u19 : Nat → Value), mq = ps.length - kx ∧ A = ⟨(.agg kcS :: .slice o ps.length c :: pt q1 :: un :: .string { data := #[] } :: pt q6 :: pt q14 :: .func (.func 32) #[] #[pt q1, pt q14, pt q6] :: iN .i64 (szP ps kx) :: un :: u19 10 :: pt q1 :: iN .u64 32 :: .agg (wc .u32 (begP 32)) :: .pointer (some ⟨q1, 1, none⟩) :: iN .i64 64 :: .slice (some ⟨q11, 0, none⟩) 0 64 :: .func (.func 32) #[] #[pt q1, pt q14, pt q6] :: .slice o ps.length c :: iN .i64 ps.length :: iN .i64 kx :: u19 21 :: u19 22 :: u19 23 :: u19 24 :: u19 25 :: u19 26 :: u19 27 :: u19 28 :: u19 29 :: u19 30 :: u19 31 :: List.replicate 9 un).toArray, []⟩ ∧ HA w [(q14, 31, #[.slice (some ⟨q11, 0, none⟩) ((stS ps kx).2.length) 64]), (q11, 5, bc buf), (q6, 53, wc .u32 ((stS ps kx).1)), (q1, 52, kcS)] w' ∧ kx ≤ ps.length ∧ buf.length = 64 ∧ buf.take (stS ps kx).2.length = (stS ps kx).2) (ps.length - 0) ?_ ?_
  · exact ⟨0, List.replicate 64 0, fun ii => (([(10, undef), (21, undef), (22, undef), (23, undef), (24, undef), (25, undef), (26, undef), (27, undef), (28, undef), (29, undef), (30, undef), (31, undef)] : List (Nat × Value)).find? (·.1 == ii)).elim undef (·.2), rfl, by kernel_rfl, h18, (Nat.zero_le _), (List.length_replicate), rfl⟩
  rintro _ _ w20 ⟨kx, buf, u19, rfl, rfl, h21, hkx, hbuf, htk⟩
  refine wp_seq ?_
  by_cases hk : kx < ps.length
  · obtain ⟨qp, rfl, hc⟩ := hps kx hk
    have h9 : szP ps kx + (ps.getD kx ByteArray.empty).size ≤ 2251799813685248 := hsz (kx + 1) hk
    -- region 6
    refine wl_region ?_
    refine wl_val (.bool true) (by kernel_rfl) (run_lss (k := .i64) (a := kx) (b := ps.length) (by kernel_rfl) (by kernel_rfl) true (decide_eq_true hk)) ?_
    refine wl_nil ?_
    refine then_at (F := ⟨(.agg kcS :: .slice (some ⟨qp, 0, none⟩) ps.length c :: pt q1 :: un :: .string { data := #[] } :: pt q6 :: pt q14 :: .func (.func 32) #[] #[pt q1, pt q14, pt q6] :: iN .i64 (szP ps kx) :: un :: u19 10 :: pt q1 :: iN .u64 32 :: .agg (wc .u32 (begP 32)) :: .pointer (some ⟨q1, 1, none⟩) :: iN .i64 64 :: .slice (some ⟨q11, 0, none⟩) 0 64 :: .func (.func 32) #[] #[pt q1, pt q14, pt q6] :: .slice (some ⟨qp, 0, none⟩) ps.length c :: iN .i64 ps.length :: iN .i64 kx :: .bool true :: u19 22 :: u19 23 :: u19 24 :: u19 25 :: u19 26 :: u19 27 :: u19 28 :: u19 29 :: u19 30 :: u19 31 :: List.replicate 9 un).toArray, []⟩) (by kernel_rfl) ?_
    refine wp_seq ?_
    refine wp_cond_true (by kernel_rfl) ?_
    refine wp_skip ?_
    refine then_at (F := ⟨(.agg kcS :: .slice (some ⟨qp, 0, none⟩) ps.length c :: pt q1 :: un :: .string { data := #[] } :: pt q6 :: pt q14 :: .func (.func 32) #[] #[pt q1, pt q14, pt q6] :: iN .i64 (szP ps kx) :: un :: u19 10 :: pt q1 :: iN .u64 32 :: .agg (wc .u32 (begP 32)) :: .pointer (some ⟨q1, 1, none⟩) :: iN .i64 64 :: .slice (some ⟨q11, 0, none⟩) 0 64 :: .func (.func 32) #[] #[pt q1, pt q14, pt q6] :: .slice (some ⟨qp, 0, none⟩) ps.length c :: iN .i64 ps.length :: iN .i64 kx :: .bool true :: u19 22 :: u19 23 :: u19 24 :: u19 25 :: u19 26 :: u19 27 :: u19 28 :: u19 29 :: u19 30 :: u19 31 :: List.replicate 9 un).toArray, []⟩) (by kernel_rfl) ?_
    refine wp_seq ?_
    refine wp_block ?_
    refine wp_seq ?_
    -- region 7
    refine wl_region ?_
    refine wl_val (.pointer (some ⟨qp, kx, none⟩)) (by kernel_rfl) (run_addr26 (q := qp) (m := ps.length) (c := c) (i := kx) (by kernel_rfl) (by kernel_rfl) hk) ?_
    refine wl_val (.string (ps.getD kx ByteArray.empty)) (by kernel_rfl) (run_load1 (fun w => Tryd.isAgg9 w) (by kernel_rfl) ((h21.old.cell (p := ⟨qp, kx, none⟩) (World.block_lt_of_cell? w ⟨qp, kx, none⟩ hc)).trans hc)) ?_
    refine wl_val (.string (ps.getD kx ByteArray.empty)) (by kernel_rfl) (by kernel_rfl) ?_
    refine wl_nil ?_
    refine then_at (F := ⟨(.agg kcS :: .slice (some ⟨qp, 0, none⟩) ps.length c :: pt q1 :: un :: .string { data := #[] } :: pt q6 :: pt q14 :: .func (.func 32) #[] #[pt q1, pt q14, pt q6] :: iN .i64 (szP ps kx) :: un :: .string (ps.getD kx ByteArray.empty) :: pt q1 :: iN .u64 32 :: .agg (wc .u32 (begP 32)) :: .pointer (some ⟨q1, 1, none⟩) :: iN .i64 64 :: .slice (some ⟨q11, 0, none⟩) 0 64 :: .func (.func 32) #[] #[pt q1, pt q14, pt q6] :: .slice (some ⟨qp, 0, none⟩) ps.length c :: iN .i64 ps.length :: iN .i64 kx :: .bool true :: .pointer (some ⟨qp, kx, none⟩) :: .string (ps.getD kx ByteArray.empty) :: u19 24 :: u19 25 :: u19 26 :: u19 27 :: u19 28 :: u19 29 :: u19 30 :: u19 31 :: List.replicate 9 un).toArray, []⟩) (by kernel_rfl) ?_
    refine wp_seq ?_
    -- region 8
    refine wl_region ?_
    refine wl_val (.func (.func 32) #[] #[.pointer (some ⟨q1, 0, none⟩), .pointer (some ⟨q14, 0, none⟩), .pointer (some ⟨q6, 0, none⟩)]) (by kernel_rfl) (by kernel_rfl) ?_
    refine wl_val (.string (ps.getD kx ByteArray.empty)) (by kernel_rfl) (by kernel_rfl) ?_
    refine wl_callv (by kernel_rfl) enter32 (cap := #[.pointer (some ⟨q1, 0, none⟩), .pointer (some ⟨q14, 0, none⟩), .pointer (some ⟨q6, 0, none⟩)]) (by kernel_rfl) #[.string (ps.getD kx ByteArray.empty), .pointer (some ⟨q1, 0, none⟩), .pointer (some ⟨q14, 0, none⟩), .pointer (some ⟨q6, 0, none⟩)] (by kernel_rfl) (takeS (ps.getD kx ByteArray.empty) q1 q14 q6 q11 (stS ps kx).2.length buf (stS ps kx).1 [] w w20 VV (stS_lt ps kx) hbuf (stS_len ps kx) h21) ?_
    rintro _ w23 ⟨⟨v22, rfl⟩, buf2, hbuf2, htk2, h24⟩
    refine ⟨v22, rfl, ?_⟩
    rw [stS_step ps kx buf htk] at htk2 h24
    refine wl_nil ?_
    refine then_at (F := ⟨(.agg kcS :: .slice (some ⟨qp, 0, none⟩) ps.length c :: pt q1 :: un :: .string { data := #[] } :: pt q6 :: pt q14 :: .func (.func 32) #[] #[pt q1, pt q14, pt q6] :: iN .i64 (szP ps kx) :: un :: .string (ps.getD kx ByteArray.empty) :: pt q1 :: iN .u64 32 :: .agg (wc .u32 (begP 32)) :: .pointer (some ⟨q1, 1, none⟩) :: iN .i64 64 :: .slice (some ⟨q11, 0, none⟩) 0 64 :: .func (.func 32) #[] #[pt q1, pt q14, pt q6] :: .slice (some ⟨qp, 0, none⟩) ps.length c :: iN .i64 ps.length :: iN .i64 kx :: .bool true :: .pointer (some ⟨qp, kx, none⟩) :: .string (ps.getD kx ByteArray.empty) :: .func (.func 32) #[] #[pt q1, pt q14, pt q6] :: .string (ps.getD kx ByteArray.empty) :: v22 :: u19 27 :: u19 28 :: u19 29 :: u19 30 :: u19 31 :: List.replicate 9 un).toArray, []⟩) (by kernel_rfl) ?_
    -- region 9
    refine wl_region ?_
    refine wl_val (iN .i64 (szP ps kx)) (by kernel_rfl) (by kernel_rfl) ?_
    refine wl_val (.string (ps.getD kx ByteArray.empty)) (by kernel_rfl) (by kernel_rfl) ?_
    refine wl_val (iN .i64 ((ps.getD kx ByteArray.empty).size)) (by kernel_rfl) (run_len (s := ps.getD kx ByteArray.empty) (by kernel_rfl)) ?_
    refine wl_val (iN .i64 ((szP ps kx) + ((ps.getD kx ByteArray.empty).size))) (by kernel_rfl) (run_add (k := .i64) (a := szP ps kx) (b := (ps.getD kx ByteArray.empty).size) (by kernel_rfl) (by kernel_rfl) (by simp only [top]; omega)) ?_
    refine wl_val (iN .i64 ((szP ps kx) + ((ps.getD kx ByteArray.empty).size))) (by kernel_rfl) (by kernel_rfl) ?_
    refine wl_nil ?_
    refine block_normal ?_
    refine then_at (F := ⟨(.agg kcS :: .slice (some ⟨qp, 0, none⟩) ps.length c :: pt q1 :: un :: .string { data := #[] } :: pt q6 :: pt q14 :: .func (.func 32) #[] #[pt q1, pt q14, pt q6] :: iN .i64 ((szP ps kx) + ((ps.getD kx ByteArray.empty).size)) :: un :: .string (ps.getD kx ByteArray.empty) :: pt q1 :: iN .u64 32 :: .agg (wc .u32 (begP 32)) :: .pointer (some ⟨q1, 1, none⟩) :: iN .i64 64 :: .slice (some ⟨q11, 0, none⟩) 0 64 :: .func (.func 32) #[] #[pt q1, pt q14, pt q6] :: .slice (some ⟨qp, 0, none⟩) ps.length c :: iN .i64 ps.length :: iN .i64 kx :: .bool true :: .pointer (some ⟨qp, kx, none⟩) :: .string (ps.getD kx ByteArray.empty) :: .func (.func 32) #[] #[pt q1, pt q14, pt q6] :: .string (ps.getD kx ByteArray.empty) :: v22 :: iN .i64 (szP ps kx) :: .string (ps.getD kx ByteArray.empty) :: iN .i64 ((ps.getD kx ByteArray.empty).size) :: iN .i64 ((szP ps kx) + ((ps.getD kx ByteArray.empty).size)) :: u19 31 :: List.replicate 9 un).toArray, []⟩) (by kernel_rfl) ?_
    -- region 10
    refine wl_region ?_
    refine wl_val (iN .i64 (kx + 1)) (by kernel_rfl) (run_add (k := .i64) (a := kx) (b := 1) (by kernel_rfl) (by kernel_rfl) (by simp only [top]; omega)) ?_
    refine wl_val (iN .i64 (kx + 1)) (by kernel_rfl) (by kernel_rfl) ?_
    refine wl_nil ?_
    exact then_I ⟨ps.length - (kx + 1), (by omega), kx + 1, buf2, fun ii => (([(10, .string (ps.getD kx ByteArray.empty)), (21, .bool true), (22, .pointer (some ⟨qp, kx, none⟩)), (23, .string (ps.getD kx ByteArray.empty)), (24, .func (.func 32) #[] #[.pointer (some ⟨q1, 0, none⟩), .pointer (some ⟨q14, 0, none⟩), .pointer (some ⟨q6, 0, none⟩)]), (25, .string (ps.getD kx ByteArray.empty)), (26, v22), (27, iN .i64 (szP ps kx)), (28, .string (ps.getD kx ByteArray.empty)), (29, iN .i64 ((ps.getD kx ByteArray.empty).size)), (30, iN .i64 ((szP ps kx) + ((ps.getD kx ByteArray.empty).size))), (31, iN .i64 (kx + 1))] : List (Nat × Value)).find? (·.1 == ii)).elim undef (·.2), rfl, by kernel_rfl, h24, hk, hbuf2, htk2⟩
  · -- region 6
    refine wl_region ?_
    refine wl_val (.bool false) (by kernel_rfl) (run_lss (k := .i64) (a := kx) (b := ps.length) (by kernel_rfl) (by kernel_rfl) false (decide_eq_false hk)) ?_
    refine wl_nil ?_
    refine then_at (F := ⟨(.agg kcS :: .slice o ps.length c :: pt q1 :: un :: .string { data := #[] } :: pt q6 :: pt q14 :: .func (.func 32) #[] #[pt q1, pt q14, pt q6] :: iN .i64 (szP ps kx) :: un :: u19 10 :: pt q1 :: iN .u64 32 :: .agg (wc .u32 (begP 32)) :: .pointer (some ⟨q1, 1, none⟩) :: iN .i64 64 :: .slice (some ⟨q11, 0, none⟩) 0 64 :: .func (.func 32) #[] #[pt q1, pt q14, pt q6] :: .slice o ps.length c :: iN .i64 ps.length :: iN .i64 kx :: .bool false :: u19 22 :: u19 23 :: u19 24 :: u19 25 :: u19 26 :: u19 27 :: u19 28 :: u19 29 :: u19 30 :: u19 31 :: List.replicate 9 un).toArray, []⟩) (by kernel_rfl) ?_
    refine wp_seq ?_
    refine wp_cond_false (by kernel_rfl) ?_
    refine wp_exit ?_
    repeat first | refine then_exit ?_ | refine block_exit ?_ | refine block_exit_ne (by decide) ?_
    refine then_at (F := ⟨(.agg kcS :: .slice o ps.length c :: pt q1 :: un :: .string { data := #[] } :: pt q6 :: pt q14 :: .func (.func 32) #[] #[pt q1, pt q14, pt q6] :: iN .i64 (szP ps kx) :: un :: u19 10 :: pt q1 :: iN .u64 32 :: .agg (wc .u32 (begP 32)) :: .pointer (some ⟨q1, 1, none⟩) :: iN .i64 64 :: .slice (some ⟨q11, 0, none⟩) 0 64 :: .func (.func 32) #[] #[pt q1, pt q14, pt q6] :: .slice o ps.length c :: iN .i64 ps.length :: iN .i64 kx :: .bool false :: u19 22 :: u19 23 :: u19 24 :: u19 25 :: u19 26 :: u19 27 :: u19 28 :: u19 29 :: u19 30 :: u19 31 :: List.replicate 9 un).toArray, []⟩) (by kernel_rfl) ?_
    refine wp_seq ?_
    -- region 11
    refine wl_region ?_
    refine wl_val (.func (.func 32) #[] #[.pointer (some ⟨q1, 0, none⟩), .pointer (some ⟨q14, 0, none⟩), .pointer (some ⟨q6, 0, none⟩)]) (by kernel_rfl) (by kernel_rfl) ?_
    refine wl_load h21 3 rfl (by kernel_rfl) (by kernel_rfl) Tryd.underlying52 rfl info36S ?_
    refine wl_val (iN .i64 (szP ps kx)) (by kernel_rfl) (by kernel_rfl) ?_
    refine wl_call (v := .string (⟨(fillP KS (szP ps kx)).toArray⟩)) h21 (by kernel_rfl) enter34 #[.agg kcS, iN .i64 (szP ps kx)] (by kernel_rfl) (fillS (szP ps kx) (hsz kx hkx) w20) ?_
    intro w25 h26
    refine wl_callv (by kernel_rfl) enter32 (cap := #[.pointer (some ⟨q1, 0, none⟩), .pointer (some ⟨q14, 0, none⟩), .pointer (some ⟨q6, 0, none⟩)]) (by kernel_rfl) #[.string (⟨(fillP KS (szP ps kx)).toArray⟩), .pointer (some ⟨q1, 0, none⟩), .pointer (some ⟨q14, 0, none⟩), .pointer (some ⟨q6, 0, none⟩)] (by kernel_rfl) (takeS (⟨(fillP KS (szP ps kx)).toArray⟩) q1 q14 q6 q11 (stS ps kx).2.length buf (stS ps kx).1 [] w w25 VV (stS_lt ps kx) hbuf (stS_len ps kx) h26) ?_
    rintro _ w28 ⟨⟨v27, rfl⟩, buf2, hbuf2, htk2, h29⟩
    refine ⟨v27, rfl, ?_⟩
    rw [en_stepS ps kx buf htk] at htk2 h29
    refine wl_nil ?_
    refine then_at (F := ⟨(.agg kcS :: .slice o ps.length c :: pt q1 :: un :: .string { data := #[] } :: pt q6 :: pt q14 :: .func (.func 32) #[] #[pt q1, pt q14, pt q6] :: iN .i64 (szP ps kx) :: un :: u19 10 :: pt q1 :: iN .u64 32 :: .agg (wc .u32 (begP 32)) :: .pointer (some ⟨q1, 1, none⟩) :: iN .i64 64 :: .slice (some ⟨q11, 0, none⟩) 0 64 :: .func (.func 32) #[] #[pt q1, pt q14, pt q6] :: .slice o ps.length c :: iN .i64 ps.length :: iN .i64 kx :: .bool false :: u19 22 :: u19 23 :: u19 24 :: u19 25 :: u19 26 :: u19 27 :: u19 28 :: u19 29 :: u19 30 :: u19 31 :: .func (.func 32) #[] #[pt q1, pt q14, pt q6] :: .agg kcS :: iN .i64 (szP ps kx) :: .string (⟨(fillP KS (szP ps kx)).toArray⟩) :: v27 :: List.replicate 4 un).toArray, []⟩) (by kernel_rfl) ?_
    refine wp_seq ?_
    -- region 12
    refine wl_region ?_
    refine wl_load h29 2 rfl (by kernel_rfl) (by kernel_rfl) Tryd.underlying53 rfl (info37 .u32 ((enS ps kx).1) (en_lenS ps kx)) ?_
    refine wl_val (.pointer (some ⟨q1, 0, none⟩)) (by kernel_rfl) (by kernel_rfl) ?_
    refine wl_val (iN .u64 32) (by kernel_rfl) (run_load1 (fun w => Tryd.isAgg46 w) (by kernel_rfl) (((h29.get 3 rfl).cell 0).trans (by kernel_rfl))) ?_
    refine wl_call (v := .string (⟨(outP (enS ps kx).1 8).toArray⟩)) h29 (by kernel_rfl) enter35 #[.agg (wc .u32 ((enS ps kx).1)), iN .u64 32] (by kernel_rfl) (layS (enS ps kx).1 (en_lenS ps kx) w28) ?_
    intro w30 h31
    refine wl_val (.string (⟨(outP (enS ps kx).1 8).toArray⟩)) (by kernel_rfl) (by kernel_rfl) ?_
    refine wl_nil ?_
    refine then_at (F := ⟨(.agg kcS :: .slice o ps.length c :: pt q1 :: un :: .string (⟨(outP (enS ps kx).1 8).toArray⟩) :: pt q6 :: pt q14 :: .func (.func 32) #[] #[pt q1, pt q14, pt q6] :: iN .i64 (szP ps kx) :: un :: u19 10 :: pt q1 :: iN .u64 32 :: .agg (wc .u32 (begP 32)) :: .pointer (some ⟨q1, 1, none⟩) :: iN .i64 64 :: .slice (some ⟨q11, 0, none⟩) 0 64 :: .func (.func 32) #[] #[pt q1, pt q14, pt q6] :: .slice o ps.length c :: iN .i64 ps.length :: iN .i64 kx :: .bool false :: u19 22 :: u19 23 :: u19 24 :: u19 25 :: u19 26 :: u19 27 :: u19 28 :: u19 29 :: u19 30 :: u19 31 :: .func (.func 32) #[] #[pt q1, pt q14, pt q6] :: .agg kcS :: iN .i64 (szP ps kx) :: .string (⟨(fillP KS (szP ps kx)).toArray⟩) :: v27 :: .agg (wc .u32 ((enS ps kx).1)) :: pt q1 :: iN .u64 32 :: .string (⟨(outP (enS ps kx).1 8).toArray⟩) :: List.replicate 0 un).toArray, []⟩) (by kernel_rfl) ?_
    refine wp_ret ?_
    repeat first | refine then_ret ?_ | refine block_ret ?_
    exact bodyPost_ret (v := .string ⟨(outP (enS ps kx).1 8).toArray⟩) (by kernel_rfl) rfl ⟨by rw [en_digS, show kx = ps.length by omega], h31.old⟩

set_option linter.unusedVariables false in
set_option maxRecDepth 100000 in
set_option maxHeartbeats 2000000 in
theorem shaS (ps : List ByteArray) (o : Option Addr) (c : Nat) (w : World) (VV : Vars w) (hps : ∀ i, i < ps.length → ∃ q, o = some ⟨q, 0, none⟩ ∧ w.cell? ⟨q, i, none⟩ = some (.string (ps.getD i ByteArray.empty))) (hsz : ∀ i, i ≤ ps.length → szP ps i ≤ 2251799813685248) (hpl : ps.length ≤ 1000000) :
    Calls Tryd.prog 22 #[.slice o ps.length c] w fun e w' => e = .returned (.string ⟨(digP KS (catP ps ps.length)).toArray⟩) ∧ Below w.heap.size w w' := by
  have H0 := HA.start w
  go_enter Tryd.func22, Tryd.ntmps22
  refine wp_seq ?_
  -- region 0
  refine wl_region ?_
  refine wl_val (.string { data := #[] }) (by kernel_rfl) (by kernel_rfl) ?_
  refine wl_nil ?_
  refine then_at (F := ⟨(.slice o ps.length c :: un :: .string { data := #[] } :: List.replicate 3 un).toArray, []⟩) (by kernel_rfl) ?_
  refine wp_seq ?_
  -- region 1
  refine wl_region ?_
  refine wl_val (.agg kcS) (by kernel_rfl) (run_load_range (q := 0) (by kernel_rfl) (VV.below H0.old VV.big).s Tryd.underlying52 rfl info36S) ?_
  refine wl_val (.slice o ps.length c) (by kernel_rfl) (by kernel_rfl) ?_
  refine wl_call (v := .string (⟨(digP KS (catP ps ps.length)).toArray⟩)) H0 (by kernel_rfl) enter27 #[.agg kcS, .slice o ps.length c] (by kernel_rfl) (digS ps o c w (VV.below H0.old VV.big) (fun i hi => (hps i hi).imp fun q h => ⟨h.1, (H0.old.cell (p := ⟨q, i, none⟩) (World.block_lt_of_cell? w ⟨q, i, none⟩ h.2)).trans h.2⟩) hsz hpl) ?_
  intro w1 h2
  refine wl_val (.string (⟨(digP KS (catP ps ps.length)).toArray⟩)) (by kernel_rfl) (by kernel_rfl) ?_
  refine wl_nil ?_
  refine then_at (F := ⟨(.slice o ps.length c :: un :: .string (⟨(digP KS (catP ps ps.length)).toArray⟩) :: .agg kcS :: .slice o ps.length c :: .string (⟨(digP KS (catP ps ps.length)).toArray⟩) :: List.replicate 0 un).toArray, []⟩) (by kernel_rfl) ?_
  refine wp_ret ?_
  repeat first | refine then_ret ?_ | refine block_ret ?_
  exact bodyPost_ret (v := .string ⟨(digP KS (catP ps ps.length)).toArray⟩) (by kernel_rfl) rfl ⟨rfl, h2.old⟩

def stL (ps : List ByteArray) (i : Nat) : List (BitVec 64) × List UInt8 := fedP KL (begP 64, []) (catP ps i)
theorem stL_lt (ps : List ByteArray) (i : Nat) : (stL ps i).2.length < 128 := fedP_lt KL (by decide) _ _ (by show 0 < 128; decide)
theorem stL_len (ps : List ByteArray) (i : Nat) : (stL ps i).1.length = 8 := (fedP_len KL _ _).trans (begP_len 64)
theorem stL_step (ps : List ByteArray) (i : Nat) (buf : List UInt8) (h : buf.take (stL ps i).2.length = (stL ps i).2) : fedP KL ((stL ps i).1, buf.take (stL ps i).2.length) (bl (ps.getD i ByteArray.empty)) = stL ps (i + 1) := by
  rw [h]; exact (fedP_app KL _ _ _).symm
def enL (ps : List ByteArray) (i : Nat) : List (BitVec 64) × List UInt8 := fedP KL (stL ps i) (fillP KL (szP ps i))
theorem en_lenL (ps : List ByteArray) (i : Nat) : (enL ps i).1.length = 8 := (fedP_len KL _ _).trans (stL_len ps i)
theorem en_stepL (ps : List ByteArray) (i : Nat) (buf : List UInt8) (h : buf.take (stL ps i).2.length = (stL ps i).2) : fedP KL ((stL ps i).1, buf.take (stL ps i).2.length) (bl ⟨(fillP KL (szP ps i)).toArray⟩) = enL ps i := by
  rw [h]; rfl
theorem en_digL (ps : List ByteArray) (i : Nat) : outP (enL ps i).1 8 = digP KL (catP ps i) := by
  unfold enL digP stL
  rw [← fedP_app, szP_len]

end Go.Proofs.YtmlldbkhphngeaaDoor
