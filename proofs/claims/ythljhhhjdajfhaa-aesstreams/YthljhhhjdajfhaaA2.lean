/-
  Rounds and keys.
-/
import Derived.Test.YthljhhhjdajfhaaA1
namespace Go.Proofs.Ythljhhhjdajfhaa
open Go.RowKit

theorem ext4 (s : ByteArray) (a : Nat) (h : a + 4 ≤ s.size) : (s.extract a (a + 4)).size = 4 := by rw [ByteArray.size_extract]; omega

set_option linter.unusedVariables false in
set_option maxRecDepth 100000 in
set_option maxHeartbeats 2000000 in
theorem columnsOf_any (s : ByteArray) (hs : s.size = 16) (w : World) :
    Calls Try.prog 19 #[.string s] w fun e w' => e = .returned (.agg (qc (colS s))) ∧ Below w.heap.size w w' := by
  have H0 := HA.start w
  go_enter Try.func19, Try.ntmps19
  refine wp_seq ?_
  -- region 0
  refine wl_region ?_
  refine wl_make H0 40 (by kernel_rfl) run_alloc40 ?_
  intro q1 w2 h3
  refine wl_nil ?_
  refine then_at (F := ⟨(.string s :: un :: pt q1 :: List.replicate 13 un).toArray, []⟩) (by kernel_rfl) ?_
  refine wp_seq ?_
  -- region 1
  refine wp_region_ghost (fun _ : Nat → Nat => (⟨(.string s :: un :: pt q1 :: .string s :: .string (s.extract 0 4) :: bv .u32 (wS (s.extract 0 4)) :: .string s :: .string (s.extract 4 8) :: bv .u32 (wS (s.extract 4 8)) :: .string s :: .string (s.extract 8 12) :: bv .u32 (wS (s.extract 8 12)) :: .string s :: .string (s.extract 12 16) :: bv .u32 (wS (s.extract 12 16)) :: .agg (qc (colS s)) :: List.replicate 0 un).toArray, []⟩ : Act)) (GQ w [(q1, 40, qc (⟨0, 0, 0, 0⟩))] (fun i => ([[], [0], [1], [], [3], [4], [], [6], [7], [], [9], [10], [2, 5, 8, 11], [12]] : List (List Nat)).getD i []) 13 0 q1 40 (qc (colS s))) [.string s, .string (s.extract 0 4), bv .u32 (wS (s.extract 0 4)), .string s, .string (s.extract 4 8), bv .u32 (wS (s.extract 4 8)), .string s, .string (s.extract 8 12), bv .u32 (wS (s.extract 8 12)), .string s, .string (s.extract 12 16), bv .u32 (wS (s.extract 12 16)), .agg (qc (colS s)), undef] (by kernel_rfl) (by kernel_rfl) (by kernel_rfl) (by kernel_rfl) (fun _ _ _ _ h => h) (fun d hd => GQ.start h3.drew (hd 13 (by decide)) (Cl.start (n := 14) hd (by decide))) ?_ ?_
  · refine AllGhost.cons (gq_plain (v := .string s) (by decide) (by kernel_rfl) (fun _ => by kernel_rfl) (fun _ => by kernel_rfl) (fun _ _ => (by kernel_rfl))) ?_
    refine AllGhost.cons (gq_plain (v := .string (s.extract 0 4)) (by decide) (by kernel_rfl) (fun _ => by kernel_rfl) (fun _ => by kernel_rfl) (fun _ _ => (run_cut2 (s := s) (a := 0) (b := 4) (by kernel_rfl) (by kernel_rfl) (by kernel_rfl) (by omega) (by omega)))) ?_
    refine AllGhost.cons (gq_call (v := bv .u32 (wS (s.extract 0 4))) (by decide) (by kernel_rfl) (fun _ => by kernel_rfl) (fun _ => by kernel_rfl) enter27 #[.string (s.extract 0 4)] (fun _ => by kernel_rfl) (fun w' ho => wordOf_any (s.extract 0 4) (ext4 s 0 (by omega)) w')) ?_
    refine AllGhost.cons (gq_plain (v := .string s) (by decide) (by kernel_rfl) (fun _ => by kernel_rfl) (fun _ => by kernel_rfl) (fun _ _ => (by kernel_rfl))) ?_
    refine AllGhost.cons (gq_plain (v := .string (s.extract 4 8)) (by decide) (by kernel_rfl) (fun _ => by kernel_rfl) (fun _ => by kernel_rfl) (fun _ _ => (run_cut2 (s := s) (a := 4) (b := 8) (by kernel_rfl) (by kernel_rfl) (by kernel_rfl) (by omega) (by omega)))) ?_
    refine AllGhost.cons (gq_call (v := bv .u32 (wS (s.extract 4 8))) (by decide) (by kernel_rfl) (fun _ => by kernel_rfl) (fun _ => by kernel_rfl) enter27 #[.string (s.extract 4 8)] (fun _ => by kernel_rfl) (fun w' ho => wordOf_any (s.extract 4 8) (ext4 s 4 (by omega)) w')) ?_
    refine AllGhost.cons (gq_plain (v := .string s) (by decide) (by kernel_rfl) (fun _ => by kernel_rfl) (fun _ => by kernel_rfl) (fun _ _ => (by kernel_rfl))) ?_
    refine AllGhost.cons (gq_plain (v := .string (s.extract 8 12)) (by decide) (by kernel_rfl) (fun _ => by kernel_rfl) (fun _ => by kernel_rfl) (fun _ _ => (run_cut2 (s := s) (a := 8) (b := 12) (by kernel_rfl) (by kernel_rfl) (by kernel_rfl) (by omega) (by omega)))) ?_
    refine AllGhost.cons (gq_call (v := bv .u32 (wS (s.extract 8 12))) (by decide) (by kernel_rfl) (fun _ => by kernel_rfl) (fun _ => by kernel_rfl) enter27 #[.string (s.extract 8 12)] (fun _ => by kernel_rfl) (fun w' ho => wordOf_any (s.extract 8 12) (ext4 s 8 (by omega)) w')) ?_
    refine AllGhost.cons (gq_plain (v := .string s) (by decide) (by kernel_rfl) (fun _ => by kernel_rfl) (fun _ => by kernel_rfl) (fun _ _ => (by kernel_rfl))) ?_
    refine AllGhost.cons (gq_plain (v := .string (s.extract 12 16)) (by decide) (by kernel_rfl) (fun _ => by kernel_rfl) (fun _ => by kernel_rfl) (fun _ _ => (run_cut2 (s := s) (a := 12) (b := 16) (by kernel_rfl) (by kernel_rfl) (by kernel_rfl) (by omega) (by omega)))) ?_
    refine AllGhost.cons (gq_call (v := bv .u32 (wS (s.extract 12 16))) (by decide) (by kernel_rfl) (fun _ => by kernel_rfl) (fun _ => by kernel_rfl) enter27 #[.string (s.extract 12 16)] (fun _ => by kernel_rfl) (fun w' ho => wordOf_any (s.extract 12 16) (ext4 s 12 (by omega)) w')) ?_
    refine AllGhost.cons (gq_plain (v := .agg (qc (colS s))) (by decide) (by kernel_rfl) (fun _ => by kernel_rfl) (fun _ => by kernel_rfl) (fun _ _ => (run_build40 (a := wS (s.extract 0 4)) (b := wS (s.extract 4 8)) (d := wS (s.extract 8 12)) (e := wS (s.extract 12 16)) (by kernel_rfl) (by kernel_rfl) (by kernel_rfl) (by kernel_rfl)))) ?_
    refine AllGhost.cons (gq_fill rfl rfl (info40 (colS s)) (one_qc (colS s)) (by kernel_rfl) (fun _ => by kernel_rfl) (fun _ => by kernel_rfl) (fun _ => by kernel_rfl) (fun _ => by kernel_rfl)) ?_
    exact AllGhost.nil
  intro _ w4 g5
  have h6 : HA w [(q1, 40, qc (colS s))] w4 := g5.held
  clear g5
  refine then_at (F := ⟨(.string s :: un :: pt q1 :: .string s :: .string (s.extract 0 4) :: bv .u32 (wS (s.extract 0 4)) :: .string s :: .string (s.extract 4 8) :: bv .u32 (wS (s.extract 4 8)) :: .string s :: .string (s.extract 8 12) :: bv .u32 (wS (s.extract 8 12)) :: .string s :: .string (s.extract 12 16) :: bv .u32 (wS (s.extract 12 16)) :: .agg (qc (colS s)) :: List.replicate 0 un).toArray, []⟩) (by kernel_rfl) ?_
  refine wp_ret ?_
  repeat first | refine then_ret ?_ | refine block_ret ?_
  exact bodyPost_ret (v := .agg (qc (colS s))) (res_cell (p := 2) (by kernel_rfl) (by kernel_rfl) (h6.get 0 rfl) Try.underlying40 rfl (info40 (colS s))) rfl ⟨rfl, h6.old⟩

set_option linter.unusedVariables false in
set_option maxRecDepth 100000 in
set_option maxHeartbeats 2000000 in
theorem turned_any (q : Nat) (l : List (BitVec 32)) (x : Q4) (w : World) (hq : Blk w q 59 (cc l)) :
    Calls Try.prog 32 #[.pointer (some ⟨q, 0, none⟩), .agg (qc x)] w fun e w' => e = .returned (.agg (qc (trnQ x))) ∧ Below w.heap.size w w' := by
  have H0 := HA.start w
  go_enter Try.func32, Try.ntmps32
  refine wp_seq ?_
  -- region 0
  refine wl_region ?_
  refine wl_make H0 40 (by kernel_rfl) (run_box40 (c := qc x) (by kernel_rfl)) ?_
  intro q1 w2 h3
  refine wl_make h3 40 (by kernel_rfl) run_alloc40 ?_
  intro q4 w5 h6
  refine wl_nil ?_
  refine then_at (F := ⟨(pt q :: .agg (qc x) :: un :: pt q1 :: pt q4 :: List.replicate 41 un).toArray, []⟩) (by kernel_rfl) ?_
  refine wp_seq ?_
  -- region 1
  refine wp_region_ghost (fun _ : Nat → Nat => (⟨(pt q :: .agg (qc x) :: un :: pt q1 :: pt q4 :: pt q :: pt q1 :: bv .u32 x.a :: .pointer (some ⟨q1, 1, none⟩) :: bv .u32 x.b :: .pointer (some ⟨q1, 2, none⟩) :: bv .u32 x.c :: .pointer (some ⟨q1, 3, none⟩) :: bv .u32 x.d :: bv .u32 (bxW x.a x.b x.c x.d) :: pt q :: .pointer (some ⟨q1, 1, none⟩) :: bv .u32 x.b :: .pointer (some ⟨q1, 2, none⟩) :: bv .u32 x.c :: .pointer (some ⟨q1, 3, none⟩) :: bv .u32 x.d :: pt q1 :: bv .u32 x.a :: bv .u32 (bxW x.b x.c x.d x.a) :: pt q :: .pointer (some ⟨q1, 2, none⟩) :: bv .u32 x.c :: .pointer (some ⟨q1, 3, none⟩) :: bv .u32 x.d :: pt q1 :: bv .u32 x.a :: .pointer (some ⟨q1, 1, none⟩) :: bv .u32 x.b :: bv .u32 (bxW x.c x.d x.a x.b) :: pt q :: .pointer (some ⟨q1, 3, none⟩) :: bv .u32 x.d :: pt q1 :: bv .u32 x.a :: .pointer (some ⟨q1, 1, none⟩) :: bv .u32 x.b :: .pointer (some ⟨q1, 2, none⟩) :: bv .u32 x.c :: bv .u32 (bxW x.d x.a x.b x.c) :: .agg (qc (trnQ x)) :: List.replicate 0 un).toArray, []⟩ : Act)) (GQ w [(q4, 40, qc (⟨0, 0, 0, 0⟩)), (q1, 40, qc x)] (fun i => ([[], [], [1], [], [3], [], [5], [], [7], [0, 2, 4, 6, 8], [], [], [11], [], [13], [], [15], [], [17], [10, 12, 14, 16, 18], [], [], [21], [], [23], [], [25], [], [27], [20, 22, 24, 26, 28], [], [], [31], [], [33], [], [35], [], [37], [30, 32, 34, 36, 38], [9, 19, 29, 39], [40]] : List (List Nat)).getD i []) 41 0 q4 40 (qc (trnQ x))) [.pointer (some ⟨q, 0, none⟩), .pointer (some ⟨q1, 0, none⟩), bv .u32 x.a, .pointer (some ⟨q1, 1, none⟩), bv .u32 x.b, .pointer (some ⟨q1, 2, none⟩), bv .u32 x.c, .pointer (some ⟨q1, 3, none⟩), bv .u32 x.d, bv .u32 (bxW x.a x.b x.c x.d), .pointer (some ⟨q, 0, none⟩), .pointer (some ⟨q1, 1, none⟩), bv .u32 x.b, .pointer (some ⟨q1, 2, none⟩), bv .u32 x.c, .pointer (some ⟨q1, 3, none⟩), bv .u32 x.d, .pointer (some ⟨q1, 0, none⟩), bv .u32 x.a, bv .u32 (bxW x.b x.c x.d x.a), .pointer (some ⟨q, 0, none⟩), .pointer (some ⟨q1, 2, none⟩), bv .u32 x.c, .pointer (some ⟨q1, 3, none⟩), bv .u32 x.d, .pointer (some ⟨q1, 0, none⟩), bv .u32 x.a, .pointer (some ⟨q1, 1, none⟩), bv .u32 x.b, bv .u32 (bxW x.c x.d x.a x.b), .pointer (some ⟨q, 0, none⟩), .pointer (some ⟨q1, 3, none⟩), bv .u32 x.d, .pointer (some ⟨q1, 0, none⟩), bv .u32 x.a, .pointer (some ⟨q1, 1, none⟩), bv .u32 x.b, .pointer (some ⟨q1, 2, none⟩), bv .u32 x.c, bv .u32 (bxW x.d x.a x.b x.c), .agg (qc (trnQ x)), undef] (by kernel_rfl) (by kernel_rfl) (by kernel_rfl) (by kernel_rfl) (fun _ _ _ _ h => h) (fun d hd => GQ.start h6.drew (hd 41 (by decide)) (Cl.start (n := 42) hd (by decide))) ?_ ?_
  · refine AllGhost.cons (gq_plain (v := .pointer (some ⟨q, 0, none⟩)) (by decide) (by kernel_rfl) (fun _ => by kernel_rfl) (fun _ => by kernel_rfl) (fun _ _ => (by kernel_rfl))) ?_
    refine AllGhost.cons (gq_plain (v := .pointer (some ⟨q1, 0, none⟩)) (by decide) (by kernel_rfl) (fun _ => by kernel_rfl) (fun _ => by kernel_rfl) (fun _ _ => (by kernel_rfl))) ?_
    refine AllGhost.cons (gq_read (v := bv .u32 x.a) 1 rfl (.inl (by decide)) (by decide) (by kernel_rfl) (fun _ => by kernel_rfl) (fun _ => by kernel_rfl) (fun _ _ hb => run_load1 (fun w => Try.isAgg38 w) (by kernel_rfl) ((hb.cell 0).trans (by kernel_rfl)))) ?_
    refine AllGhost.cons (gq_plain (v := .pointer (some ⟨q1, 1, none⟩)) (by decide) (by kernel_rfl) (fun _ => by kernel_rfl) (fun _ => by kernel_rfl) (fun _ _ => (by kernel_rfl))) ?_
    refine AllGhost.cons (gq_read (v := bv .u32 x.b) 1 rfl (.inl (by decide)) (by decide) (by kernel_rfl) (fun _ => by kernel_rfl) (fun _ => by kernel_rfl) (fun _ _ hb => run_load1 (fun w => Try.isAgg38 w) (by kernel_rfl) ((hb.cell 1).trans (by kernel_rfl)))) ?_
    refine AllGhost.cons (gq_plain (v := .pointer (some ⟨q1, 2, none⟩)) (by decide) (by kernel_rfl) (fun _ => by kernel_rfl) (fun _ => by kernel_rfl) (fun _ _ => (by kernel_rfl))) ?_
    refine AllGhost.cons (gq_read (v := bv .u32 x.c) 1 rfl (.inl (by decide)) (by decide) (by kernel_rfl) (fun _ => by kernel_rfl) (fun _ => by kernel_rfl) (fun _ _ hb => run_load1 (fun w => Try.isAgg38 w) (by kernel_rfl) ((hb.cell 2).trans (by kernel_rfl)))) ?_
    refine AllGhost.cons (gq_plain (v := .pointer (some ⟨q1, 3, none⟩)) (by decide) (by kernel_rfl) (fun _ => by kernel_rfl) (fun _ => by kernel_rfl) (fun _ _ => (by kernel_rfl))) ?_
    refine AllGhost.cons (gq_read (v := bv .u32 x.d) 1 rfl (.inl (by decide)) (by decide) (by kernel_rfl) (fun _ => by kernel_rfl) (fun _ => by kernel_rfl) (fun _ _ hb => run_load1 (fun w => Try.isAgg38 w) (by kernel_rfl) ((hb.cell 3).trans (by kernel_rfl)))) ?_
    refine AllGhost.cons (gq_call (v := bv .u32 (bxW x.a x.b x.c x.d)) (by decide) (by kernel_rfl) (fun _ => by kernel_rfl) (fun _ => by kernel_rfl) enter29 #[.pointer (some ⟨q, 0, none⟩), bv .u32 x.a, bv .u32 x.b, bv .u32 x.c, bv .u32 x.d] (fun _ => by kernel_rfl) (fun w' ho => boxed_any q l x.a x.b x.c x.d w' (hq.keep ho))) ?_
    refine AllGhost.cons (gq_plain (v := .pointer (some ⟨q, 0, none⟩)) (by decide) (by kernel_rfl) (fun _ => by kernel_rfl) (fun _ => by kernel_rfl) (fun _ _ => (by kernel_rfl))) ?_
    refine AllGhost.cons (gq_plain (v := .pointer (some ⟨q1, 1, none⟩)) (by decide) (by kernel_rfl) (fun _ => by kernel_rfl) (fun _ => by kernel_rfl) (fun _ _ => (by kernel_rfl))) ?_
    refine AllGhost.cons (gq_read (v := bv .u32 x.b) 1 rfl (.inl (by decide)) (by decide) (by kernel_rfl) (fun _ => by kernel_rfl) (fun _ => by kernel_rfl) (fun _ _ hb => run_load1 (fun w => Try.isAgg38 w) (by kernel_rfl) ((hb.cell 1).trans (by kernel_rfl)))) ?_
    refine AllGhost.cons (gq_plain (v := .pointer (some ⟨q1, 2, none⟩)) (by decide) (by kernel_rfl) (fun _ => by kernel_rfl) (fun _ => by kernel_rfl) (fun _ _ => (by kernel_rfl))) ?_
    refine AllGhost.cons (gq_read (v := bv .u32 x.c) 1 rfl (.inl (by decide)) (by decide) (by kernel_rfl) (fun _ => by kernel_rfl) (fun _ => by kernel_rfl) (fun _ _ hb => run_load1 (fun w => Try.isAgg38 w) (by kernel_rfl) ((hb.cell 2).trans (by kernel_rfl)))) ?_
    refine AllGhost.cons (gq_plain (v := .pointer (some ⟨q1, 3, none⟩)) (by decide) (by kernel_rfl) (fun _ => by kernel_rfl) (fun _ => by kernel_rfl) (fun _ _ => (by kernel_rfl))) ?_
    refine AllGhost.cons (gq_read (v := bv .u32 x.d) 1 rfl (.inl (by decide)) (by decide) (by kernel_rfl) (fun _ => by kernel_rfl) (fun _ => by kernel_rfl) (fun _ _ hb => run_load1 (fun w => Try.isAgg38 w) (by kernel_rfl) ((hb.cell 3).trans (by kernel_rfl)))) ?_
    refine AllGhost.cons (gq_plain (v := .pointer (some ⟨q1, 0, none⟩)) (by decide) (by kernel_rfl) (fun _ => by kernel_rfl) (fun _ => by kernel_rfl) (fun _ _ => (by kernel_rfl))) ?_
    refine AllGhost.cons (gq_read (v := bv .u32 x.a) 1 rfl (.inl (by decide)) (by decide) (by kernel_rfl) (fun _ => by kernel_rfl) (fun _ => by kernel_rfl) (fun _ _ hb => run_load1 (fun w => Try.isAgg38 w) (by kernel_rfl) ((hb.cell 0).trans (by kernel_rfl)))) ?_
    refine AllGhost.cons (gq_call (v := bv .u32 (bxW x.b x.c x.d x.a)) (by decide) (by kernel_rfl) (fun _ => by kernel_rfl) (fun _ => by kernel_rfl) enter29 #[.pointer (some ⟨q, 0, none⟩), bv .u32 x.b, bv .u32 x.c, bv .u32 x.d, bv .u32 x.a] (fun _ => by kernel_rfl) (fun w' ho => boxed_any q l x.b x.c x.d x.a w' (hq.keep ho))) ?_
    refine AllGhost.cons (gq_plain (v := .pointer (some ⟨q, 0, none⟩)) (by decide) (by kernel_rfl) (fun _ => by kernel_rfl) (fun _ => by kernel_rfl) (fun _ _ => (by kernel_rfl))) ?_
    refine AllGhost.cons (gq_plain (v := .pointer (some ⟨q1, 2, none⟩)) (by decide) (by kernel_rfl) (fun _ => by kernel_rfl) (fun _ => by kernel_rfl) (fun _ _ => (by kernel_rfl))) ?_
    refine AllGhost.cons (gq_read (v := bv .u32 x.c) 1 rfl (.inl (by decide)) (by decide) (by kernel_rfl) (fun _ => by kernel_rfl) (fun _ => by kernel_rfl) (fun _ _ hb => run_load1 (fun w => Try.isAgg38 w) (by kernel_rfl) ((hb.cell 2).trans (by kernel_rfl)))) ?_
    refine AllGhost.cons (gq_plain (v := .pointer (some ⟨q1, 3, none⟩)) (by decide) (by kernel_rfl) (fun _ => by kernel_rfl) (fun _ => by kernel_rfl) (fun _ _ => (by kernel_rfl))) ?_
    refine AllGhost.cons (gq_read (v := bv .u32 x.d) 1 rfl (.inl (by decide)) (by decide) (by kernel_rfl) (fun _ => by kernel_rfl) (fun _ => by kernel_rfl) (fun _ _ hb => run_load1 (fun w => Try.isAgg38 w) (by kernel_rfl) ((hb.cell 3).trans (by kernel_rfl)))) ?_
    refine AllGhost.cons (gq_plain (v := .pointer (some ⟨q1, 0, none⟩)) (by decide) (by kernel_rfl) (fun _ => by kernel_rfl) (fun _ => by kernel_rfl) (fun _ _ => (by kernel_rfl))) ?_
    refine AllGhost.cons (gq_read (v := bv .u32 x.a) 1 rfl (.inl (by decide)) (by decide) (by kernel_rfl) (fun _ => by kernel_rfl) (fun _ => by kernel_rfl) (fun _ _ hb => run_load1 (fun w => Try.isAgg38 w) (by kernel_rfl) ((hb.cell 0).trans (by kernel_rfl)))) ?_
    refine AllGhost.cons (gq_plain (v := .pointer (some ⟨q1, 1, none⟩)) (by decide) (by kernel_rfl) (fun _ => by kernel_rfl) (fun _ => by kernel_rfl) (fun _ _ => (by kernel_rfl))) ?_
    refine AllGhost.cons (gq_read (v := bv .u32 x.b) 1 rfl (.inl (by decide)) (by decide) (by kernel_rfl) (fun _ => by kernel_rfl) (fun _ => by kernel_rfl) (fun _ _ hb => run_load1 (fun w => Try.isAgg38 w) (by kernel_rfl) ((hb.cell 1).trans (by kernel_rfl)))) ?_
    refine AllGhost.cons (gq_call (v := bv .u32 (bxW x.c x.d x.a x.b)) (by decide) (by kernel_rfl) (fun _ => by kernel_rfl) (fun _ => by kernel_rfl) enter29 #[.pointer (some ⟨q, 0, none⟩), bv .u32 x.c, bv .u32 x.d, bv .u32 x.a, bv .u32 x.b] (fun _ => by kernel_rfl) (fun w' ho => boxed_any q l x.c x.d x.a x.b w' (hq.keep ho))) ?_
    refine AllGhost.cons (gq_plain (v := .pointer (some ⟨q, 0, none⟩)) (by decide) (by kernel_rfl) (fun _ => by kernel_rfl) (fun _ => by kernel_rfl) (fun _ _ => (by kernel_rfl))) ?_
    refine AllGhost.cons (gq_plain (v := .pointer (some ⟨q1, 3, none⟩)) (by decide) (by kernel_rfl) (fun _ => by kernel_rfl) (fun _ => by kernel_rfl) (fun _ _ => (by kernel_rfl))) ?_
    refine AllGhost.cons (gq_read (v := bv .u32 x.d) 1 rfl (.inl (by decide)) (by decide) (by kernel_rfl) (fun _ => by kernel_rfl) (fun _ => by kernel_rfl) (fun _ _ hb => run_load1 (fun w => Try.isAgg38 w) (by kernel_rfl) ((hb.cell 3).trans (by kernel_rfl)))) ?_
    refine AllGhost.cons (gq_plain (v := .pointer (some ⟨q1, 0, none⟩)) (by decide) (by kernel_rfl) (fun _ => by kernel_rfl) (fun _ => by kernel_rfl) (fun _ _ => (by kernel_rfl))) ?_
    refine AllGhost.cons (gq_read (v := bv .u32 x.a) 1 rfl (.inl (by decide)) (by decide) (by kernel_rfl) (fun _ => by kernel_rfl) (fun _ => by kernel_rfl) (fun _ _ hb => run_load1 (fun w => Try.isAgg38 w) (by kernel_rfl) ((hb.cell 0).trans (by kernel_rfl)))) ?_
    refine AllGhost.cons (gq_plain (v := .pointer (some ⟨q1, 1, none⟩)) (by decide) (by kernel_rfl) (fun _ => by kernel_rfl) (fun _ => by kernel_rfl) (fun _ _ => (by kernel_rfl))) ?_
    refine AllGhost.cons (gq_read (v := bv .u32 x.b) 1 rfl (.inl (by decide)) (by decide) (by kernel_rfl) (fun _ => by kernel_rfl) (fun _ => by kernel_rfl) (fun _ _ hb => run_load1 (fun w => Try.isAgg38 w) (by kernel_rfl) ((hb.cell 1).trans (by kernel_rfl)))) ?_
    refine AllGhost.cons (gq_plain (v := .pointer (some ⟨q1, 2, none⟩)) (by decide) (by kernel_rfl) (fun _ => by kernel_rfl) (fun _ => by kernel_rfl) (fun _ _ => (by kernel_rfl))) ?_
    refine AllGhost.cons (gq_read (v := bv .u32 x.c) 1 rfl (.inl (by decide)) (by decide) (by kernel_rfl) (fun _ => by kernel_rfl) (fun _ => by kernel_rfl) (fun _ _ hb => run_load1 (fun w => Try.isAgg38 w) (by kernel_rfl) ((hb.cell 2).trans (by kernel_rfl)))) ?_
    refine AllGhost.cons (gq_call (v := bv .u32 (bxW x.d x.a x.b x.c)) (by decide) (by kernel_rfl) (fun _ => by kernel_rfl) (fun _ => by kernel_rfl) enter29 #[.pointer (some ⟨q, 0, none⟩), bv .u32 x.d, bv .u32 x.a, bv .u32 x.b, bv .u32 x.c] (fun _ => by kernel_rfl) (fun w' ho => boxed_any q l x.d x.a x.b x.c w' (hq.keep ho))) ?_
    refine AllGhost.cons (gq_plain (v := .agg (qc (trnQ x))) (by decide) (by kernel_rfl) (fun _ => by kernel_rfl) (fun _ => by kernel_rfl) (fun _ _ => (run_build40 (a := bxW x.a x.b x.c x.d) (b := bxW x.b x.c x.d x.a) (d := bxW x.c x.d x.a x.b) (e := bxW x.d x.a x.b x.c) (by kernel_rfl) (by kernel_rfl) (by kernel_rfl) (by kernel_rfl)))) ?_
    refine AllGhost.cons (gq_fill rfl rfl (info40 (trnQ x)) (one_qc (trnQ x)) (by kernel_rfl) (fun _ => by kernel_rfl) (fun _ => by kernel_rfl) (fun _ => by kernel_rfl) (fun _ => by kernel_rfl)) ?_
    exact AllGhost.nil
  intro _ w7 g8
  have h9 : HA w [(q4, 40, qc (trnQ x)), (q1, 40, qc x)] w7 := g8.held
  clear g8
  refine then_at (F := ⟨(pt q :: .agg (qc x) :: un :: pt q1 :: pt q4 :: pt q :: pt q1 :: bv .u32 x.a :: .pointer (some ⟨q1, 1, none⟩) :: bv .u32 x.b :: .pointer (some ⟨q1, 2, none⟩) :: bv .u32 x.c :: .pointer (some ⟨q1, 3, none⟩) :: bv .u32 x.d :: bv .u32 (bxW x.a x.b x.c x.d) :: pt q :: .pointer (some ⟨q1, 1, none⟩) :: bv .u32 x.b :: .pointer (some ⟨q1, 2, none⟩) :: bv .u32 x.c :: .pointer (some ⟨q1, 3, none⟩) :: bv .u32 x.d :: pt q1 :: bv .u32 x.a :: bv .u32 (bxW x.b x.c x.d x.a) :: pt q :: .pointer (some ⟨q1, 2, none⟩) :: bv .u32 x.c :: .pointer (some ⟨q1, 3, none⟩) :: bv .u32 x.d :: pt q1 :: bv .u32 x.a :: .pointer (some ⟨q1, 1, none⟩) :: bv .u32 x.b :: bv .u32 (bxW x.c x.d x.a x.b) :: pt q :: .pointer (some ⟨q1, 3, none⟩) :: bv .u32 x.d :: pt q1 :: bv .u32 x.a :: .pointer (some ⟨q1, 1, none⟩) :: bv .u32 x.b :: .pointer (some ⟨q1, 2, none⟩) :: bv .u32 x.c :: bv .u32 (bxW x.d x.a x.b x.c) :: .agg (qc (trnQ x)) :: List.replicate 0 un).toArray, []⟩) (by kernel_rfl) ?_
  refine wp_ret ?_
  repeat first | refine then_ret ?_ | refine block_ret ?_
  exact bodyPost_ret (v := .agg (qc (trnQ x))) (res_cell (p := 4) (by kernel_rfl) (by kernel_rfl) (h9.get 0 rfl) Try.underlying40 rfl (info40 (trnQ x))) rfl ⟨rfl, h9.old⟩

set_option linter.unusedVariables false in
set_option maxRecDepth 100000 in
set_option maxHeartbeats 2000000 in
theorem theBox_any (w : World) :
    Calls Try.prog 26 #[] w fun e w' => e = .returned (.agg (bc boxL)) ∧ Below w.heap.size w w' := by
  have H0 := HA.start w
  go_enter Try.func26, Try.ntmps26
  refine wp_seq ?_
  -- region 0
  refine wl_region ?_
  refine wl_make H0 46 (by kernel_rfl) run_alloc46 ?_
  intro q1 w2 h3
  refine wl_nil ?_
  refine then_at (F := ⟨(pt q1 :: List.replicate 1 un).toArray, []⟩) (by kernel_rfl) ?_
  refine wp_seq ?_
  -- region 1
  refine wl_region ?_
  refine wl_val (.agg (bc boxL)) (by kernel_rfl) (by kernel_rfl) ?_
  refine wl_fill (c' := bc boxL) h3 0 rfl (by kernel_rfl) (by kernel_rfl) (by kernel_rfl) (by rw [bc_size, bc_size, boxL_len, (List.length_replicate)]) (info46 boxL boxL_len) (one_bc boxL) ?_
  intro w4 (h5 : HA w [(q1, 46, bc boxL)] w4)
  refine wl_nil ?_
  refine then_at (F := ⟨(pt q1 :: .agg (bc boxL) :: List.replicate 0 un).toArray, []⟩) (by kernel_rfl) ?_
  refine wp_ret ?_
  repeat first | refine then_ret ?_ | refine block_ret ?_
  exact bodyPost_ret (v := .agg (bc boxL)) (res_cell (p := 0) (by kernel_rfl) (by kernel_rfl) (h5.get 0 rfl) Try.underlying46 rfl (info46 boxL boxL_len)) rfl ⟨rfl, h5.old⟩
end Go.Proofs.Ythljhhhjdajfhaa
