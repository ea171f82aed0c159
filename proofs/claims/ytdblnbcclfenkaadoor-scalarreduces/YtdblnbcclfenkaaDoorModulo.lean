/-
  modulo: the number of parts that follow one another, modulo the order.
-/
import Derived.Test.YtdblnbcclfenkaaDoorMod0
namespace Go.Proofs.YtdblnbcclfenkaaDoor
open Go.RowKit Num Go.Shelf
attribute [local go_sem] Oper.semAt_some

theorem own_parts {w0 w : World} {L : List Wd → List (Nat × TypeId × Array Value)} {M : List (Nat × TypeId × Array Value)} {rs : List Nat} (h : HA w0 M w) (m : Marks w0 rs w) : OwnFrom w.heap.size (fun pre W => HA w0 (L pre) W ∧ Marks w0 rs W) :=
  fun s A B row hs hg hr => ⟨hs.1.grown hg (fun r e => ⟨Nat.le_trans h.old.size (hr r e).1, (hr r e).2⟩), hs.2.keep fun r hrs => hg.block r (hs.2.lt hrs) (fun e => by
    have h1 := (hr r e.symm).1
    have h2 := m.lt hrs
    omega)⟩

set_option linter.unusedVariables false in
set_option maxRecDepth 100000 in
set_option maxHeartbeats 4000000 in
theorem modulo_any (ps : List Nat) (hps : ∀ p ∈ ps, p < K ^ 4) (hlen : ps.length < 1000) (qs : Nat) (w : World) (VV : Vars w) (hP : Parts w qs ps) :
    Calls Tryd.prog 28 #[.slice (some ⟨qs, 0, none⟩) ps.length ps.length] w fun e w' => e = .returned (arr (mval ps)) ∧ Below w.heap.size w w' := by
  have H0 := HA.start w
  refine (callsIn_wide (n := 9)).1 (callsIn_of_wp_marks (F := Fence.wide) Tryd.func28 rfl trivial ?_)
  refine wpIn_wide.2 ?_
  refine wp_seq ?_
  -- region 0
  refine wl_region ?_
  refine wl_make H0 34 (by kernel_rfl) run_alloc34 ?_
  intro q1 w2 h3
  refine wl_nil ?_
  refine then_at (F := ⟨#[.slice (some ⟨qs, 0, none⟩) ps.length ps.length, undef, .pointer (some ⟨q1, 0, none⟩), undef, undef, undef, undef, undef, undef, undef, undef, undef, undef, undef, undef, undef, undef, undef, undef, undef, undef, undef, undef, undef, undef, undef, undef, undef, undef], []⟩) (by kernel_rfl) ?_
  refine wp_seq ?_
  -- region 1
  refine wl_region ?_
  refine wl_make h3 34 (by kernel_rfl) run_alloc34 ?_
  intro q4 w5 h6
  refine wl_nil ?_
  refine then_at (F := ⟨#[.slice (some ⟨qs, 0, none⟩) ps.length ps.length, undef, .pointer (some ⟨q1, 0, none⟩), .pointer (some ⟨q4, 0, none⟩), undef, undef, undef, undef, undef, undef, undef, undef, undef, undef, undef, undef, undef, undef, undef, undef, undef, undef, undef, undef, undef, undef, undef, undef, undef], []⟩) (by kernel_rfl) ?_
  refine wp_seq ?_
  -- region 2
  refine wl_region ?_
  refine wl_val (.func (.func 33) #[] #[.pointer (some ⟨q4, 0, none⟩)]) (by kernel_rfl) (by kernel_rfl) ?_
  refine wl_make h6 50 (by kernel_rfl) run_alloc50 ?_
  intro q7 w8 h9
  refine wl_putf (f := .func 33) (b := #[]) (c' := #[.pointer (some ⟨q4, 0, none⟩)]) h9 0 rfl (by decide) (by kernel_rfl) (fun w => Tryd.sizeOf50 w) (by kernel_rfl) (by kernel_rfl) ?_
  intro w10 (h11 : HA w [(q7, 50, #[.func (.func 33) #[] #[.pointer (some ⟨q4, 0, none⟩)]]), (q4, 34, el 0), (q1, 34, el 0)] w10)
  refine wl_nil ?_
  refine then_at (F := ⟨#[.slice (some ⟨qs, 0, none⟩) ps.length ps.length, undef, .pointer (some ⟨q1, 0, none⟩), .pointer (some ⟨q4, 0, none⟩), .pointer (some ⟨q7, 0, none⟩), undef, undef, undef, .func (.func 33) #[] #[.pointer (some ⟨q4, 0, none⟩)], undef, undef, undef, undef, undef, undef, undef, undef, undef, undef, undef, undef, undef, undef, undef, undef, undef, undef, undef, undef], []⟩) (by kernel_rfl) ?_
  refine wp_seq ?_
  refine wp_seq ?_
  -- region 3
  refine wl_region ?_
  refine wl_val (.slice (some ⟨qs, 0, none⟩) ps.length ps.length) (by kernel_rfl) (by kernel_rfl) ?_
  refine wl_val (iN .i64 ps.length) (by kernel_rfl) (run_len_parts (q := qs) (by kernel_rfl)) ?_
  refine wl_val (iN .i64 0) (by kernel_rfl) (by kernel_rfl) ?_
  refine wl_nil ?_
  refine then_at (F := ⟨#[.slice (some ⟨qs, 0, none⟩) ps.length ps.length, undef, .pointer (some ⟨q1, 0, none⟩), .pointer (some ⟨q4, 0, none⟩), .pointer (some ⟨q7, 0, none⟩), undef, undef, undef, .func (.func 33) #[] #[.pointer (some ⟨q4, 0, none⟩)], .slice (some ⟨qs, 0, none⟩) ps.length ps.length, iN .i64 ps.length, iN .i64 0, undef, undef, undef, undef, undef, undef, undef, undef, undef, undef, undef, undef, undef, undef, undef, undef, undef], []⟩) (by kernel_rfl) ?_
  refine wp_block ?_
  refine wp_count (fun k A w' => ∃ (u : Nat → Value) (rs : List Nat), A = ⟨#[.slice (some ⟨qs, 0, none⟩) ps.length ps.length, undef, .pointer (some ⟨q1, 0, none⟩), .pointer (some ⟨q4, 0, none⟩), .pointer (some ⟨q7, 0, none⟩), undef, u 6, u 7, .func (.func 33) #[] #[.pointer (some ⟨q4, 0, none⟩)], .slice (some ⟨qs, 0, none⟩) ps.length ps.length, iN .i64 ps.length, iN .i64 k, u 12, u 13, u 14, u 15, u 16, u 17, u 18, u 19, u 20, u 21, u 22, u 23, u 24, u 25, u 26, u 27, undef], mkd rs⟩ ∧ HA w [(q7, 50, #[.func (.func 33) #[] #[.pointer (some ⟨q4, 0, none⟩)]]), (q4, 34, el (mval (ps.take k))), (q1, 34, el 0)] w' ∧ Marks w rs w') ps.length ?_ ?_ ?_
  · exact ⟨fun ii => (([(6, undef), (7, undef), (12, undef), (13, undef), (14, undef), (15, undef), (16, undef), (17, undef), (18, undef), (19, undef), (20, undef), (21, undef), (22, undef), (23, undef), (24, undef), (25, undef), (26, undef), (27, undef)] : List (Nat × Value)).find? (·.1 == ii)).elim undef (·.2), [], by kernel_rfl, h11, Marks.nil _ _⟩
  · rintro k hk _ w1 ⟨u, rs, rfl, g1, m1⟩
    obtain ⟨p, hp⟩ : ∃ p, ps[k]? = some p := ⟨ps[k], List.getElem?_eq_getElem hk⟩
    have hpK := hps p (List.mem_of_getElem? hp)
    have hvt := mval_lt (ps.take k)
    have hvn := mval_take ps k p hp
    refine wp_seq ?_
    -- region 4
    refine wl_region ?_
    refine wl_val (.bool true) (by kernel_rfl) (run_lss (k := .i64) (a := k) (b := ps.length) (by kernel_rfl) (by kernel_rfl) true (decide_eq_true hk)) ?_
    refine wl_nil ?_
    refine then_at (F := ⟨#[.slice (some ⟨qs, 0, none⟩) ps.length ps.length, undef, .pointer (some ⟨q1, 0, none⟩), .pointer (some ⟨q4, 0, none⟩), .pointer (some ⟨q7, 0, none⟩), undef, u 6, u 7, .func (.func 33) #[] #[.pointer (some ⟨q4, 0, none⟩)], .slice (some ⟨qs, 0, none⟩) ps.length ps.length, iN .i64 ps.length, iN .i64 k, .bool true, u 13, u 14, u 15, u 16, u 17, u 18, u 19, u 20, u 21, u 22, u 23, u 24, u 25, u 26, u 27, undef], mkd rs⟩) (by kernel_rfl) ?_
    refine wp_seq ?_
    refine wp_cond_true (by kernel_rfl) ?_
    refine wp_skip ?_
    refine then_at (F := ⟨#[.slice (some ⟨qs, 0, none⟩) ps.length ps.length, undef, .pointer (some ⟨q1, 0, none⟩), .pointer (some ⟨q4, 0, none⟩), .pointer (some ⟨q7, 0, none⟩), undef, u 6, u 7, .func (.func 33) #[] #[.pointer (some ⟨q4, 0, none⟩)], .slice (some ⟨qs, 0, none⟩) ps.length ps.length, iN .i64 ps.length, iN .i64 k, .bool true, u 13, u 14, u 15, u 16, u 17, u 18, u 19, u 20, u 21, u 22, u 23, u 24, u 25, u 26, u 27, undef], mkd rs⟩) (by kernel_rfl) ?_
    refine wp_seq ?_
    refine wp_block ?_
    refine wp_seq ?_
    -- region 5
    refine wl_region ?_
    refine wl_val (.pointer (some ⟨qs, 4 * k, none⟩)) (by kernel_rfl) (run_part_addr (q := qs) (n := ps.length) (k := k) (by kernel_rfl) (by kernel_rfl) hk) ?_
    refine wl_val (arr p) (by kernel_rfl) (run_part_load (q := qs) (k := k) (by kernel_rfl) (hP.below g1.old hP.lt) hp) ?_
    refine wl_makeM g1 m1 34 (by kernel_rfl) run_alloc34 ?_
    intro q12 w13 h14 m15
    refine wl_fillM (c' := el p) h14 m15 0 rfl (by kernel_rfl) (by kernel_rfl) (by kernel_rfl) (el_sz _ _) info34 (one_cl _ _) ?_
    intro w16 (h17 : HA w [(q12, 34, el p), (q7, 50, #[.func (.func 33) #[] #[.pointer (some ⟨q4, 0, none⟩)]]), (q4, 34, el (mval (ps.take k))), (q1, 34, el 0)] w16) m18
    refine wl_nil ?_
    refine then_at (F := ⟨#[.slice (some ⟨qs, 0, none⟩) ps.length ps.length, undef, .pointer (some ⟨q1, 0, none⟩), .pointer (some ⟨q4, 0, none⟩), .pointer (some ⟨q7, 0, none⟩), undef, .pointer (some ⟨q12, 0, none⟩), u 7, .func (.func 33) #[] #[.pointer (some ⟨q4, 0, none⟩)], .slice (some ⟨qs, 0, none⟩) ps.length ps.length, iN .i64 ps.length, iN .i64 k, .bool true, .pointer (some ⟨qs, 4 * k, none⟩), arr p, u 15, u 16, u 17, u 18, u 19, u 20, u 21, u 22, u 23, u 24, u 25, u 26, u 27, undef], mkd rs⟩) (by kernel_rfl) ?_
    refine wp_seq ?_
    refine wl_region ?_
    refine wl_load h17 0 rfl (by kernel_rfl) (by kernel_rfl) Tryd.underlying34 rfl info34 ?_
    refine wl_callb (by kernel_rfl) enter35 #[arr p] (by kernel_rfl) (downward_any p w16) ?_
    rintro e w5 ⟨bv, rfl, hbq, rfl⟩
    refine ⟨_, rfl, ?_⟩
    refine wl_nil ?_
    have g5 : HA w [(bv, 34, el p), (q12, 34, el p), (q7, 50, #[.func (.func 33) #[] #[.pointer (some ⟨q4, 0, none⟩)]]), (q4, 34, el (mval (ps.take k))), (q1, 34, el 0)] (w16.alloc (.cells (el p) 34)) := by rw [hbq]; exact h17.make 34 (el p)
    have m5 : Marks w rs (w16.alloc (.cells (el p) 34)) := m18.below ((Below.refl _ _).alloc (Nat.le_refl _) _)
    refine then_at (F := ⟨#[.slice (some ⟨qs, 0, none⟩) ps.length ps.length, undef, .pointer (some ⟨q1, 0, none⟩), .pointer (some ⟨q4, 0, none⟩), .pointer (some ⟨q7, 0, none⟩), undef, .pointer (some ⟨q12, 0, none⟩), u 7, .func (.func 33) #[] #[.pointer (some ⟨q4, 0, none⟩)], .slice (some ⟨qs, 0, none⟩) ps.length ps.length, iN .i64 ps.length, iN .i64 k, .bool true, .pointer (some ⟨qs, 4 * k, none⟩), arr p, arr p, .func (.func 43) #[] #[.pointer (some ⟨bv, 0, none⟩)], u 17, u 18, u 19, u 20, u 21, u 22, u 23, u 24, u 25, u 26, u 27, undef], mkd rs⟩) (by kernel_rfl) ?_
    generalize w16.alloc (.cells (el p) 34) = w6 at g5 m5 ⊢
    clear hbq
    refine wp_block ?_
    generalize hv : mval (ps.take k) = v at *
    refine (wpIn_wide (n := 9)).1 (wpIn_rangeFunc_ownG (α := Wd) rfl (by decide) (gf := 43) (lb := #[.pointer (some ⟨bv, 0, none⟩)]) (by kernel_rfl) trivial (enters_of Tryd.func43 (by kernel_rfl) rfl) (down_stops _ bv p w6 (g5.get 0 rfl)) (fun h k => k.trans h) ?_ (Below.refl _ _) (fun _ => rfl)
      (fun pre W => HA w [(bv, 34, el p), (q12, 34, el p), (q7, 50, #[.func (.func 33) #[] #[.pointer (some ⟨q4, 0, none⟩)]]), (q4, 34, el (stt v pre)), (q1, 34, el 0)] W ∧ Marks w rs W) (fun _ _ _ => False) ?_ (fun _ _ _ _ _ hs _ _ => hs) ⟨g5, m5⟩ (fun x => ⟨#[.slice (some ⟨qs, 0, none⟩) ps.length ps.length, undef, .pointer (some ⟨q1, 0, none⟩), .pointer (some ⟨q4, 0, none⟩), .pointer (some ⟨q7, 0, none⟩), undef, .pointer (some ⟨q12, 0, none⟩), .int .u64 (x.1 : Int), .func (.func 33) #[] #[.pointer (some ⟨q4, 0, none⟩)], .slice (some ⟨qs, 0, none⟩) ps.length ps.length, iN .i64 ps.length, iN .i64 k, .bool true, .pointer (some ⟨qs, 4 * k, none⟩), arr p, arr p, .func (.func 43) #[] #[.pointer (some ⟨bv, 0, none⟩)], .int .u64 (x.1 : Int), u 18, u 19, u 20, u 21, u 22, u 23, u 24, u 25, u 26, u 27, undef], []⟩) ?_ ?_ ?_ ?_)
    · exact fun W l o o' hl _ _ _ => World.putObj_heap_other (by have := (g5.get 0 rfl).lt; omega)
    · exact own_parts g5 m5
    · intro l x W K hK; dsimp only [encW]; gi_wp2; exact hK
    · rintro l pre x W ⟨hH, hM⟩ hlen
      have hc4 := (hH.get 2 rfl).cell 0
      have hB3 := hH.get 3 rfl
      have hx := x.2
      have hst := stt_lt v hvt pre
      gi_wp2
      refine ⟨trivial, (CallsIn.inRound l (callsIn_wide.2 (move_any q4 (stt v pre) _ hst W (VV.below hH.old VV.big) hB3))).mono ?_⟩
      rintro e W1 ⟨⟨y1, rfl⟩, hB1, hg1⟩
      have hH1 : HA w [(bv, 34, el p), (q12, 34, el p), (q7, 50, #[.func (.func 33) #[] #[.pointer (some ⟨q4, 0, none⟩)]]), (q4, 34, el ((stt v pre * 2 ^ 32 + lowb (wrap32 ((x.1 : Int) / 4294967296))) % Lq)), (q1, 34, el 0)] W1 := hH.turn 3 rfl hg1 hB1
      have hM1 := hM.turn hH 3 rfl hg1
      have hc41 := (hH1.get 2 rfl).cell 0
      clear hc4 hB3
      gi_wp2
      refine ⟨trivial, (CallsIn.inRound l (callsIn_wide.2 (move_any q4 _ _ (Nat.mod_lt _ Lq_pos) W1 (VV.below hH1.old VV.big) hB1))).mono ?_⟩
      rintro e W2 ⟨⟨y2, rfl⟩, hB2, hg2⟩
      have hH2 : HA w [(bv, 34, el p), (q12, 34, el p), (q7, 50, #[.func (.func 33) #[] #[.pointer (some ⟨q4, 0, none⟩)]]), (q4, 34, el (stt v (pre ++ [x]))), (q1, 34, el 0)] W2 := by
        rw [stt_snoc, ← two_moves _ _ hx]
        exact hH1.turn 3 rfl hg2 hB2
      have hM2 := hM1.turn hH1 3 rfl hg2
      clear hc41
      gi_wp2
      have hq3 : q4 < w6.heap.size := (g5.get 3 rfl).lt
      exact ⟨(KeepsFrom.of_grownBy hg1 (fun j e => by cases e; exact hq3)).trans (KeepsFrom.of_grownBy hg2 (fun j e => by cases e; exact hq3)), (hH2.get 0 rfl).trans (hH.get 0 rfl).symm, hH2, hM2⟩
    · rintro D xs W hD rfl ⟨hH, hM⟩ hK
      have mD := hM.more (fun r hr => m5.lt hr) hD g5.old.size hK
      rw [stt_part v p hpK, ← hvn] at hH
      refine block_normal ?_
      refine block_normal ?_
      refine then_at (F := ⟨#[.slice (some ⟨qs, 0, none⟩) ps.length ps.length, undef, .pointer (some ⟨q1, 0, none⟩), .pointer (some ⟨q4, 0, none⟩), .pointer (some ⟨q7, 0, none⟩), undef, .pointer (some ⟨q12, 0, none⟩), u 7, .func (.func 33) #[] #[.pointer (some ⟨q4, 0, none⟩)], .slice (some ⟨qs, 0, none⟩) ps.length ps.length, iN .i64 ps.length, iN .i64 k, .bool true, .pointer (some ⟨qs, 4 * k, none⟩), arr p, arr p, .func (.func 43) #[] #[.pointer (some ⟨bv, 0, none⟩)], u 17, u 18, u 19, u 20, u 21, u 22, u 23, u 24, u 25, u 26, u 27, undef], mkd (D :: rs)⟩) (by kernel_rfl) ?_
      have hT : HA w [(q7, 50, #[.func (.func 33) #[] #[.pointer (some ⟨q4, 0, none⟩)]]), (q4, 34, el (mval (ps.take (k + 1)))), (q1, 34, el 0)] W := hH.tail.tail
      -- region 10
      refine wl_region ?_
      refine wl_val (iN .i64 (k + 1)) (by kernel_rfl) (run_add (k := .i64) (a := k) (b := 1) (by kernel_rfl) (by kernel_rfl) (by simp only [top]; omega)) ?_
      refine wl_val (iN .i64 (k + 1)) (by kernel_rfl) (by kernel_rfl) ?_
      refine wl_nil ?_
      exact then_I ⟨fun ii => (([(6, .pointer (some ⟨q12, 0, none⟩)), (7, u 7), (12, .bool true), (13, .pointer (some ⟨qs, 4 * k, none⟩)), (14, arr p), (15, arr p), (16, .func (.func 43) #[] #[.pointer (some ⟨bv, 0, none⟩)]), (17, u 17), (18, u 18), (19, u 19), (20, u 20), (21, u 21), (22, u 22), (23, u 23), (24, u 24), (25, u 25), (26, u 26), (27, iN .i64 (k + 1))] : List (Nat × Value)).find? (·.1 == ii)).elim undef (·.2), D :: rs, by kernel_rfl, hT, mD⟩
    · intro _ _ _ _ _ _ h _; exact h.elim
  · rintro _ w1 ⟨u, rs, rfl, g1, m1⟩
    rw [List.take_length] at g1
    refine wp_seq ?_
    -- region 4
    refine wl_region ?_
    refine wl_val (.bool false) (by kernel_rfl) (run_lss (k := .i64) (a := ps.length) (b := ps.length) (by kernel_rfl) (by kernel_rfl) false (decide_eq_false (Nat.lt_irrefl _))) ?_
    refine wl_nil ?_
    refine then_at (F := ⟨#[.slice (some ⟨qs, 0, none⟩) ps.length ps.length, undef, .pointer (some ⟨q1, 0, none⟩), .pointer (some ⟨q4, 0, none⟩), .pointer (some ⟨q7, 0, none⟩), undef, u 6, u 7, .func (.func 33) #[] #[.pointer (some ⟨q4, 0, none⟩)], .slice (some ⟨qs, 0, none⟩) ps.length ps.length, iN .i64 ps.length, iN .i64 ps.length, .bool false, u 13, u 14, u 15, u 16, u 17, u 18, u 19, u 20, u 21, u 22, u 23, u 24, u 25, u 26, u 27, undef], mkd rs⟩) (by kernel_rfl) ?_
    refine wp_seq ?_
    refine wp_cond_false (by kernel_rfl) ?_
    refine wp_exit ?_
    repeat first | refine then_exit ?_ | refine block_exit ?_ | refine block_exit_ne (by decide) ?_
    refine then_at (F := ⟨#[.slice (some ⟨qs, 0, none⟩) ps.length ps.length, undef, .pointer (some ⟨q1, 0, none⟩), .pointer (some ⟨q4, 0, none⟩), .pointer (some ⟨q7, 0, none⟩), undef, u 6, u 7, .func (.func 33) #[] #[.pointer (some ⟨q4, 0, none⟩)], .slice (some ⟨qs, 0, none⟩) ps.length ps.length, iN .i64 ps.length, iN .i64 ps.length, .bool false, u 13, u 14, u 15, u 16, u 17, u 18, u 19, u 20, u 21, u 22, u 23, u 24, u 25, u 26, u 27, undef], mkd rs⟩) (by kernel_rfl) ?_
    refine wp_seq ?_
    -- region 11
    refine wl_region ?_
    refine wl_load g1 1 rfl (by kernel_rfl) (by kernel_rfl) Tryd.underlying34 rfl info34 ?_
    refine wl_fillM (c' := el (mval ps)) g1 m1 2 rfl (by kernel_rfl) (by kernel_rfl) (by kernel_rfl) (el_sz _ _) info34 (one_cl _ _) ?_
    intro w19 (h20 : HA w [(q7, 50, #[.func (.func 33) #[] #[.pointer (some ⟨q4, 0, none⟩)]]), (q4, 34, el (mval ps)), (q1, 34, el (mval ps))] w19) m21
    refine wl_nil ?_
    refine then_at (F := ⟨#[.slice (some ⟨qs, 0, none⟩) ps.length ps.length, undef, .pointer (some ⟨q1, 0, none⟩), .pointer (some ⟨q4, 0, none⟩), .pointer (some ⟨q7, 0, none⟩), undef, u 6, u 7, .func (.func 33) #[] #[.pointer (some ⟨q4, 0, none⟩)], .slice (some ⟨qs, 0, none⟩) ps.length ps.length, iN .i64 ps.length, iN .i64 ps.length, .bool false, u 13, u 14, u 15, u 16, u 17, u 18, u 19, u 20, u 21, u 22, u 23, u 24, u 25, u 26, u 27, arr (mval ps)], mkd rs⟩) (by kernel_rfl) ?_
    refine wp_ret ?_
    exact leaves_marks (fun w9 h9 => ⟨arr (mval ps), res_cell (p := 2) (by kernel_rfl) (by kernel_rfl) (h9.get 2 rfl) Tryd.underlying34 rfl info34, rfl, h9.old⟩) rs _ h20 m21
end Go.Proofs.YtdblnbcclfenkaaDoor
