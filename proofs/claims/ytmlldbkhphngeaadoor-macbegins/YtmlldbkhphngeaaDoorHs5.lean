/-
  what a text adds.
-/
import Derived.Test.YtmlldbkhphngeaaDoorHU
import Derived.Test.YtmlldbkhphngeaaDoorHs3
namespace Go.Proofs.YtmlldbkhphngeaaDoor
open Go.RowKit


set_option linter.unusedVariables false in
set_option maxRecDepth 100000 in
set_option maxHeartbeats 2000000 in
theorem takeS (s : ByteArray) (qk qb qs qa n0 : Nat) (buf0 : List UInt8) (st0 : List (BitVec 32)) (L' : List (Nat × TypeId × Array Value)) (w0 w : World) (VV : Vars w0) (hn0 : n0 < 64) (hbuf0 : buf0.length = 64) (hst0 : st0.length = 8)
    (H0 : HA w0 ((qb, 31, #[.slice (some ⟨qa, 0, none⟩) n0 64]) :: (qa, 5, bc buf0) :: (qs, 53, wc .u32 st0) :: (qk, 52, kcS) :: L') w) :
    Calls Tryd.prog 32 #[.string s, .pointer (some ⟨qk, 0, none⟩), .pointer (some ⟨qb, 0, none⟩), .pointer (some ⟨qs, 0, none⟩)] w fun e w' => (∃ v, e = .returned v) ∧ ∃ buf : List UInt8, buf.length = 64 ∧ buf.take (fedP KS (st0, buf0.take n0) (bl s)).2.length = (fedP KS (st0, buf0.take n0) (bl s)).2 ∧
      HA w0 ((qb, 31, #[.slice (some ⟨qa, 0, none⟩) (fedP KS (st0, buf0.take n0) (bl s)).2.length 64]) :: (qa, 5, bc buf) :: (qs, 53, wc .u32 (fedP KS (st0, buf0.take n0) (bl s)).1) :: (qk, 52, kcS) :: L') w' := by
  go_enter Tryd.func32, Tryd.ntmps32
  refine wp_block ?_
  refine wp_while (fun mq A w' => ∃ (t : ByteArray) (n : Nat) (buf : List UInt8) (st : List (BitVec 32)) (u1 : Nat → Value), mq = t.size ∧ A = ⟨(.string t :: pt qk :: pt qb :: pt qs :: un :: u1 5 :: u1 6 :: u1 7 :: u1 8 :: u1 9 :: u1 10 :: u1 11 :: u1 12 :: u1 13 :: u1 14 :: u1 15 :: u1 16 :: u1 17 :: u1 18 :: u1 19 :: u1 20 :: u1 21 :: u1 22 :: u1 23 :: u1 24 :: u1 25 :: u1 26 :: u1 27 :: u1 28 :: u1 29 :: u1 30 :: u1 31 :: u1 32 :: u1 33 :: u1 34 :: u1 35 :: List.replicate 0 un).toArray, []⟩ ∧ HA w0 ((qb, 31, #[.slice (some ⟨qa, 0, none⟩) n 64]) :: (qa, 5, bc buf) :: (qs, 53, wc .u32 st) :: (qk, 52, kcS) :: L') w' ∧ fedP KS (st, buf.take n) (bl t) = fedP KS (st0, buf0.take n0) (bl s) ∧ n < 64 ∧ buf.length = 64 ∧ st.length = 8) s.size ?_ ?_
  · exact ⟨s, n0, buf0, st0, fun ii => (([(5, undef), (6, undef), (7, undef), (8, undef), (9, undef), (10, undef), (11, undef), (12, undef), (13, undef), (14, undef), (15, undef), (16, undef), (17, undef), (18, undef), (19, undef), (20, undef), (21, undef), (22, undef), (23, undef), (24, undef), (25, undef), (26, undef), (27, undef), (28, undef), (29, undef), (30, undef), (31, undef), (32, undef), (33, undef), (34, undef), (35, undef)] : List (Nat × Value)).find? (·.1 == ii)).elim undef (·.2), rfl, by kernel_rfl, H0, rfl, hn0, hbuf0, hst0⟩
  rintro _ _ w2 ⟨t, n, buf, st, u1, rfl, rfl, h3, hfe, hn, hbuf, hst⟩
  refine wp_seq ?_
  refine wp_seq ?_
  by_cases ht : 0 < t.size
  · -- region 0
    refine wl_region ?_
    refine wl_val (.string t) (by kernel_rfl) (by kernel_rfl) ?_
    refine wl_val (iN .i64 t.size) (by kernel_rfl) (run_len (s := t) (by kernel_rfl)) ?_
    refine wl_val (.bool true) (by kernel_rfl) (run_gtr (k := .i64) (a := t.size) (b := 0) (by kernel_rfl) (by kernel_rfl) true (decide_eq_true ht)) ?_
    refine wl_nil ?_
    refine then_at (F := ⟨(.string t :: pt qk :: pt qb :: pt qs :: un :: u1 5 :: .string t :: iN .i64 t.size :: .bool true :: u1 9 :: u1 10 :: u1 11 :: u1 12 :: u1 13 :: u1 14 :: u1 15 :: u1 16 :: u1 17 :: u1 18 :: u1 19 :: u1 20 :: u1 21 :: u1 22 :: u1 23 :: u1 24 :: u1 25 :: u1 26 :: u1 27 :: u1 28 :: u1 29 :: u1 30 :: u1 31 :: u1 32 :: u1 33 :: u1 34 :: u1 35 :: List.replicate 0 un).toArray, []⟩) (by kernel_rfl) ?_
    refine wp_cond_true (by kernel_rfl) ?_
    refine wp_skip ?_
    refine then_at (F := ⟨(.string t :: pt qk :: pt qb :: pt qs :: un :: u1 5 :: .string t :: iN .i64 t.size :: .bool true :: u1 9 :: u1 10 :: u1 11 :: u1 12 :: u1 13 :: u1 14 :: u1 15 :: u1 16 :: u1 17 :: u1 18 :: u1 19 :: u1 20 :: u1 21 :: u1 22 :: u1 23 :: u1 24 :: u1 25 :: u1 26 :: u1 27 :: u1 28 :: u1 29 :: u1 30 :: u1 31 :: u1 32 :: u1 33 :: u1 34 :: u1 35 :: List.replicate 0 un).toArray, []⟩) (by kernel_rfl) ?_
    refine wp_block ?_
    refine wp_seq ?_
    -- region 1
    refine wl_region ?_
    refine wl_val (.string t) (by kernel_rfl) (by kernel_rfl) ?_
    refine wl_val (iN .i64 t.size) (by kernel_rfl) (run_len (s := t) (by kernel_rfl)) ?_
    refine wl_val (.pointer (some ⟨qk, 1, none⟩)) (by kernel_rfl) (by kernel_rfl) ?_
    refine wl_val (iN .i64 64) (by kernel_rfl) (run_load1 (fun w => Tryd.isAgg3 w) (by kernel_rfl) (((h3.get 3 rfl).cell 1).trans (by kernel_rfl))) ?_
    refine wl_val (.slice (some ⟨qa, 0, none⟩) n 64) (by kernel_rfl) (run_load1 (fun w => Tryd.isAgg31 w) (by kernel_rfl) (((h3.get 0 rfl).cell 0).trans rfl)) ?_
    refine wl_val (iN .i64 n) (by kernel_rfl) (run_len28 (q := some ⟨qa, 0, none⟩) (m := n) (c := 64) (by kernel_rfl)) ?_
    refine wl_val (iN .i64 (64 - n)) (by kernel_rfl) (run_sub (k := .i64) (a := 64) (b := n) (by kernel_rfl) (by kernel_rfl) (by omega) (by simp only [top]; omega)) ?_
    refine wl_val (iN .i64 (min t.size (64 - n))) (by kernel_rfl) (run_min (i := t.size) (j := 64 - n) (by kernel_rfl) (by kernel_rfl)) ?_
    refine wl_val (iN .i64 (min t.size (64 - n))) (by kernel_rfl) (by kernel_rfl) ?_
    refine wl_nil ?_
    refine then_at (F := ⟨(.string t :: pt qk :: pt qb :: pt qs :: un :: iN .i64 (min t.size (64 - n)) :: .string t :: iN .i64 t.size :: .bool true :: .string t :: iN .i64 t.size :: .pointer (some ⟨qk, 1, none⟩) :: iN .i64 64 :: .slice (some ⟨qa, 0, none⟩) n 64 :: iN .i64 n :: iN .i64 (64 - n) :: iN .i64 (min t.size (64 - n)) :: u1 17 :: u1 18 :: u1 19 :: u1 20 :: u1 21 :: u1 22 :: u1 23 :: u1 24 :: u1 25 :: u1 26 :: u1 27 :: u1 28 :: u1 29 :: u1 30 :: u1 31 :: u1 32 :: u1 33 :: u1 34 :: u1 35 :: List.replicate 0 un).toArray, []⟩) (by kernel_rfl) ?_
    refine wp_seq ?_
    obtain ⟨m2, hm2⟩ : ∃ x, x = n + (t.extract 0 (min t.size (64 - n))).size := ⟨_, rfl⟩
    obtain ⟨b2, hb2⟩ : ∃ x, x = laidOn buf n (bl (t.extract 0 (min t.size (64 - n)))) := ⟨_, rfl⟩
    obtain ⟨t2, ht2⟩ : ∃ x, x = t.extract (min t.size (64 - n)) t.size := ⟨_, rfl⟩
    obtain ⟨r1, r2, r3, r4, r5, r6⟩ := take_round KS t n buf st ht hn hbuf m2 b2 t2 hm2 hb2 ht2
    have r1 : m2 ≤ 64 := r1
    have r2 : b2.length = 64 := r2
    -- region 2
    refine wp_region_ghost (fun _ : Nat → Nat => (⟨(.string t :: pt qk :: pt qb :: pt qs :: un :: iN .i64 (min t.size (64 - n)) :: .string t :: iN .i64 t.size :: .bool true :: .string t :: iN .i64 t.size :: .pointer (some ⟨qk, 1, none⟩) :: iN .i64 64 :: .slice (some ⟨qa, 0, none⟩) n 64 :: iN .i64 n :: iN .i64 (64 - n) :: iN .i64 (min t.size (64 - n)) :: .slice (some ⟨qa, 0, none⟩) n 64 :: .string t :: iN .i64 (min t.size (64 - n)) :: .string (t.extract 0 (min t.size (64 - n))) :: .slice (some ⟨qa, 0, none⟩) m2 64 :: u1 22 :: u1 23 :: u1 24 :: u1 25 :: u1 26 :: u1 27 :: u1 28 :: u1 29 :: u1 30 :: u1 31 :: u1 32 :: u1 33 :: u1 34 :: u1 35 :: List.replicate 0 un).toArray, []⟩ : Act)) (GE w0 ((qb, 31, #[.slice (some ⟨qa, 0, none⟩) n 64]) :: (qa, 5, bc buf) :: (qs, 53, wc .u32 st) :: (qk, 52, kcS) :: L') (fun _ => ((qb, 31, #[.slice (some ⟨qa, 0, none⟩) n 64]) :: (qa, 5, bc b2) :: (qs, 53, wc .u32 st) :: (qk, 52, kcS) :: L')) (fun _ => ((qb, 31, #[.slice (some ⟨qa, 0, none⟩) m2 64]) :: (qa, 5, bc b2) :: (qs, 53, wc .u32 st) :: (qk, 52, kcS) :: L')) (fun i => ([[], [], [], [1, 2], [0, 3], [4]] : List (List Nat)).getD i []) 4 5) [.slice (some ⟨qa, 0, none⟩) n 64, .string t, iN .i64 (min t.size (64 - n)), .string (t.extract 0 (min t.size (64 - n))), .slice (some ⟨qa, 0, none⟩) m2 64, undef] (by kernel_rfl) (by kernel_rfl) (by kernel_rfl) (by kernel_rfl) (fun _ _ _ _ h => h) (fun d hd => GE.start h3.drew (hd 4 (by decide)) (hd 5 (by decide)) (Cl.start (n := 6) hd (by decide))) ?_ ?_
    · refine AllGhost.cons (ge_read (v := .slice (some ⟨qa, 0, none⟩) n 64) (by decide) (by decide) (fun d C h => (C 4 h 0 (by decide))) (by decide) (by kernel_rfl) (fun _ => by kernel_rfl) (fun _ => by kernel_rfl) (fun _ w' h' => run_load1 (fun w => Tryd.isAgg31 w) (by kernel_rfl) (((h'.get 0 rfl).cell 0).trans rfl))) ?_
      refine AllGhost.cons (ge_plain (v := .string t) (by decide) (by decide) (by kernel_rfl) (fun _ => by kernel_rfl) (fun _ => by kernel_rfl) (fun _ _ => (by kernel_rfl))) ?_
      refine AllGhost.cons (ge_plain (v := iN .i64 (min t.size (64 - n))) (by decide) (by decide) (by kernel_rfl) (fun _ => by kernel_rfl) (fun _ => by kernel_rfl) (fun _ _ => (by kernel_rfl))) ?_
      refine AllGhost.cons (ge_plain (v := .string (t.extract 0 (min t.size (64 - n)))) (by decide) (by decide) (by kernel_rfl) (fun _ => by kernel_rfl) (fun _ => by kernel_rfl) (fun _ _ => run_cut_hi (s := t) (b := min t.size (64 - n)) (by kernel_rfl) (by kernel_rfl) (Nat.min_le_left _ _))) ?_
      refine AllGhost.cons (ge_act0 (v := fun _ _ => .slice (some ⟨qa, 0, none⟩) m2 64) (W := fun _ w => w.setCells qa n ((bl (t.extract 0 (min t.size (64 - n)))).map by8)) (n := fun _ _ => 0) (by decide) (by decide) (by kernel_rfl) (fun _ => by kernel_rfl) (fun _ _ => by kernel_rfl) (fun g w' h' => ⟨by rw [hm2]; exact run_apps (q := qa) (m := n) (c := 64) (l := buf) (s := t.extract 0 (min t.size (64 - n))) (by kernel_rfl) (by kernel_rfl) (h'.get 1 rfl) (by rw [← hm2]; exact r1) hbuf, h'.app (q := qa) 1 rfl r4 hb2.symm⟩)) ?_
      refine AllGhost.cons (ge_act1s (W := fun _ w => w.setCell ⟨qb, 0, none⟩ (.slice (some ⟨qa, 0, none⟩) m2 64)) (by decide) (by kernel_rfl) (fun _ => by kernel_rfl) (fun _ => by kernel_rfl) (fun g w' h' => ⟨run_store_sl (q := qb) (i := 0) (by kernel_rfl) (by kernel_rfl) (by rw [(h'.get 0 rfl).cell 0]; rfl) ((h'.get 0 rfl).free 0 Nat.zero_lt_one), h'.putsl 0 rfl⟩)) ?_
      exact AllGhost.nil
    intro _ w4 g5
    have h6 : HA w0 ((qb, 31, #[.slice (some ⟨qa, 0, none⟩) m2 64]) :: (qa, 5, bc b2) :: (qs, 53, wc .u32 st) :: (qk, 52, kcS) :: L') w4 := g5.held
    clear g5
    refine then_at (F := ⟨(.string t :: pt qk :: pt qb :: pt qs :: un :: iN .i64 (min t.size (64 - n)) :: .string t :: iN .i64 t.size :: .bool true :: .string t :: iN .i64 t.size :: .pointer (some ⟨qk, 1, none⟩) :: iN .i64 64 :: .slice (some ⟨qa, 0, none⟩) n 64 :: iN .i64 n :: iN .i64 (64 - n) :: iN .i64 (min t.size (64 - n)) :: .slice (some ⟨qa, 0, none⟩) n 64 :: .string t :: iN .i64 (min t.size (64 - n)) :: .string (t.extract 0 (min t.size (64 - n))) :: .slice (some ⟨qa, 0, none⟩) m2 64 :: u1 22 :: u1 23 :: u1 24 :: u1 25 :: u1 26 :: u1 27 :: u1 28 :: u1 29 :: u1 30 :: u1 31 :: u1 32 :: u1 33 :: u1 34 :: u1 35 :: List.replicate 0 un).toArray, []⟩) (by kernel_rfl) ?_
    refine wp_seq ?_
    -- region 3
    refine wl_region ?_
    refine wl_val (.string t) (by kernel_rfl) (by kernel_rfl) ?_
    refine wl_val (iN .i64 (min t.size (64 - n))) (by kernel_rfl) (by kernel_rfl) ?_
    refine wl_val (.string t2) (by kernel_rfl) (by rw [ht2]; exact run_cut_lo (s := t) (a := min t.size (64 - n)) (by kernel_rfl) (by kernel_rfl) (Nat.min_le_left _ _)) ?_
    refine wl_val (.string t2) (by kernel_rfl) (by kernel_rfl) ?_
    refine wl_nil ?_
    refine then_at (F := ⟨(.string t2 :: pt qk :: pt qb :: pt qs :: un :: iN .i64 (min t.size (64 - n)) :: .string t :: iN .i64 t.size :: .bool true :: .string t :: iN .i64 t.size :: .pointer (some ⟨qk, 1, none⟩) :: iN .i64 64 :: .slice (some ⟨qa, 0, none⟩) n 64 :: iN .i64 n :: iN .i64 (64 - n) :: iN .i64 (min t.size (64 - n)) :: .slice (some ⟨qa, 0, none⟩) n 64 :: .string t :: iN .i64 (min t.size (64 - n)) :: .string (t.extract 0 (min t.size (64 - n))) :: .slice (some ⟨qa, 0, none⟩) m2 64 :: .string t :: iN .i64 (min t.size (64 - n)) :: .string t2 :: u1 25 :: u1 26 :: u1 27 :: u1 28 :: u1 29 :: u1 30 :: u1 31 :: u1 32 :: u1 33 :: u1 34 :: u1 35 :: List.replicate 0 un).toArray, []⟩) (by kernel_rfl) ?_
    refine wp_seq ?_
    by_cases hf : m2 = 64
    · subst hf
      -- region 4
      refine wl_region ?_
      refine wl_val (.slice (some ⟨qa, 0, none⟩) 64 64) (by kernel_rfl) (run_load1 (fun w => Tryd.isAgg31 w) (by kernel_rfl) (((h6.get 0 rfl).cell 0).trans rfl)) ?_
      refine wl_val (iN .i64 64) (by kernel_rfl) (run_len28 (q := some ⟨qa, 0, none⟩) (m := 64) (c := 64) (by kernel_rfl)) ?_
      refine wl_val (.pointer (some ⟨qk, 1, none⟩)) (by kernel_rfl) (by kernel_rfl) ?_
      refine wl_val (iN .i64 64) (by kernel_rfl) (run_load1 (fun w => Tryd.isAgg3 w) (by kernel_rfl) (((h6.get 3 rfl).cell 1).trans (by kernel_rfl))) ?_
      refine wl_val (.bool true) (by kernel_rfl) (run_eqi (k := .i64) (a := 64) (b := 64) (by kernel_rfl) (by kernel_rfl) true (by decide)) ?_
      refine wl_nil ?_
      refine then_at (F := ⟨(.string t2 :: pt qk :: pt qb :: pt qs :: un :: iN .i64 (min t.size (64 - n)) :: .string t :: iN .i64 t.size :: .bool true :: .string t :: iN .i64 t.size :: .pointer (some ⟨qk, 1, none⟩) :: iN .i64 64 :: .slice (some ⟨qa, 0, none⟩) n 64 :: iN .i64 n :: iN .i64 (64 - n) :: iN .i64 (min t.size (64 - n)) :: .slice (some ⟨qa, 0, none⟩) n 64 :: .string t :: iN .i64 (min t.size (64 - n)) :: .string (t.extract 0 (min t.size (64 - n))) :: .slice (some ⟨qa, 0, none⟩) 64 64 :: .string t :: iN .i64 (min t.size (64 - n)) :: .string t2 :: .slice (some ⟨qa, 0, none⟩) 64 64 :: iN .i64 64 :: .pointer (some ⟨qk, 1, none⟩) :: iN .i64 64 :: .bool true :: u1 30 :: u1 31 :: u1 32 :: u1 33 :: u1 34 :: u1 35 :: List.replicate 0 un).toArray, []⟩) (by kernel_rfl) ?_
      refine wp_cond_true (by kernel_rfl) ?_
      refine wp_seq ?_
      -- region 5
      refine wl_region ?_
      refine wl_load h6 3 rfl (by kernel_rfl) (by kernel_rfl) Tryd.underlying52 rfl info36S ?_
      refine wl_load h6 2 rfl (by kernel_rfl) (by kernel_rfl) Tryd.underlying53 rfl (info37 .u32 st hst) ?_
      refine wl_val (.slice (some ⟨qa, 0, none⟩) 64 64) (by kernel_rfl) (run_load1 (fun w => Tryd.isAgg31 w) (by kernel_rfl) (((h6.get 0 rfl).cell 0).trans rfl)) ?_
      refine wl_call (v := .agg (wc .u32 (turnP KS st b2))) h6 (by kernel_rfl) enter33 #[.agg kcS, .agg (wc .u32 st), .slice (some ⟨qa, 0, none⟩) 64 64] (by kernel_rfl) (trnS st hst b2 r2 qa w4 (VV.below h6.old VV.big) (h6.get 1 rfl)) ?_
      intro w7 h8
      refine wl_fill (c' := wc .u32 (turnP KS st b2)) h8 2 rfl (by kernel_rfl) (by kernel_rfl) (by kernel_rfl) (by rw [wc_size, wc_size, ((turnP_len KS st b2).trans hst), hst]) (info37 .u32 (turnP KS st b2) ((turnP_len KS st b2).trans hst)) (one_wc .u32 (turnP KS st b2)) ?_
      intro w9 (h10 : HA w0 ((qb, 31, #[.slice (some ⟨qa, 0, none⟩) 64 64]) :: (qa, 5, bc b2) :: (qs, 53, wc .u32 (turnP KS st b2)) :: (qk, 52, kcS) :: L') w9)
      refine wl_nil ?_
      refine then_at (F := ⟨(.string t2 :: pt qk :: pt qb :: pt qs :: un :: iN .i64 (min t.size (64 - n)) :: .string t :: iN .i64 t.size :: .bool true :: .string t :: iN .i64 t.size :: .pointer (some ⟨qk, 1, none⟩) :: iN .i64 64 :: .slice (some ⟨qa, 0, none⟩) n 64 :: iN .i64 n :: iN .i64 (64 - n) :: iN .i64 (min t.size (64 - n)) :: .slice (some ⟨qa, 0, none⟩) n 64 :: .string t :: iN .i64 (min t.size (64 - n)) :: .string (t.extract 0 (min t.size (64 - n))) :: .slice (some ⟨qa, 0, none⟩) 64 64 :: .string t :: iN .i64 (min t.size (64 - n)) :: .string t2 :: .slice (some ⟨qa, 0, none⟩) 64 64 :: iN .i64 64 :: .pointer (some ⟨qk, 1, none⟩) :: iN .i64 64 :: .bool true :: .agg kcS :: .agg (wc .u32 st) :: .slice (some ⟨qa, 0, none⟩) 64 64 :: .agg (wc .u32 (turnP KS st b2)) :: u1 34 :: u1 35 :: List.replicate 0 un).toArray, []⟩) (by kernel_rfl) ?_
      -- region 6
      refine wl_region ?_
      refine wl_val (.slice (some ⟨qa, 0, none⟩) 64 64) (by kernel_rfl) (run_load1 (fun w => Tryd.isAgg31 w) (by kernel_rfl) (((h10.get 0 rfl).cell 0).trans rfl)) ?_
      refine wl_val (.slice (some ⟨qa, 0, none⟩) 0 64) (by kernel_rfl) (run_cut0 (q := qa) (m := 64) (c := 64) (by kernel_rfl) (by kernel_rfl)) ?_
      refine wl_putsl (q := qb) (n := 0) (m := 64) (o := some ⟨qa, 0, none⟩) h10 0 rfl (by kernel_rfl) (by kernel_rfl) (by kernel_rfl) ?_
      intro w11 (h12 : HA w0 ((qb, 31, #[.slice (some ⟨qa, 0, none⟩) 0 64]) :: (qa, 5, bc b2) :: (qs, 53, wc .u32 (turnP KS st b2)) :: (qk, 52, kcS) :: L') w11)
      refine wl_nil ?_
      refine block_normal ?_
      exact then_I ⟨t2.size, r3, t2, 0, b2, turnP KS st b2, fun ii => (([(5, iN .i64 (min t.size (64 - n))), (6, .string t), (7, iN .i64 t.size), (8, .bool true), (9, .string t), (10, iN .i64 t.size), (11, .pointer (some ⟨qk, 1, none⟩)), (12, iN .i64 64), (13, .slice (some ⟨qa, 0, none⟩) n 64), (14, iN .i64 n), (15, iN .i64 (64 - n)), (16, iN .i64 (min t.size (64 - n))), (17, .slice (some ⟨qa, 0, none⟩) n 64), (18, .string t), (19, iN .i64 (min t.size (64 - n))), (20, .string (t.extract 0 (min t.size (64 - n)))), (21, .slice (some ⟨qa, 0, none⟩) 64 64), (22, .string t), (23, iN .i64 (min t.size (64 - n))), (24, .string t2), (25, .slice (some ⟨qa, 0, none⟩) 64 64), (26, iN .i64 64), (27, .pointer (some ⟨qk, 1, none⟩)), (28, iN .i64 64), (29, .bool true), (30, .agg kcS), (31, .agg (wc .u32 st)), (32, .slice (some ⟨qa, 0, none⟩) 64 64), (33, .agg (wc .u32 (turnP KS st b2))), (34, .slice (some ⟨qa, 0, none⟩) 64 64), (35, .slice (some ⟨qa, 0, none⟩) 0 64)] : List (Nat × Value)).find? (·.1 == ii)).elim undef (·.2), rfl, by kernel_rfl, h12, ((r6 rfl).symm.trans hfe), (by decide), r2, ((turnP_len KS st b2).trans hst)⟩
    · -- region 4
      refine wl_region ?_
      refine wl_val (.slice (some ⟨qa, 0, none⟩) m2 64) (by kernel_rfl) (run_load1 (fun w => Tryd.isAgg31 w) (by kernel_rfl) (((h6.get 0 rfl).cell 0).trans rfl)) ?_
      refine wl_val (iN .i64 m2) (by kernel_rfl) (run_len28 (q := some ⟨qa, 0, none⟩) (m := m2) (c := 64) (by kernel_rfl)) ?_
      refine wl_val (.pointer (some ⟨qk, 1, none⟩)) (by kernel_rfl) (by kernel_rfl) ?_
      refine wl_val (iN .i64 64) (by kernel_rfl) (run_load1 (fun w => Tryd.isAgg3 w) (by kernel_rfl) (((h6.get 3 rfl).cell 1).trans (by kernel_rfl))) ?_
      refine wl_val (.bool false) (by kernel_rfl) (run_eqi (k := .i64) (a := m2) (b := 64) (by kernel_rfl) (by kernel_rfl) false (decide_eq_false hf)) ?_
      refine wl_nil ?_
      refine then_at (F := ⟨(.string t2 :: pt qk :: pt qb :: pt qs :: un :: iN .i64 (min t.size (64 - n)) :: .string t :: iN .i64 t.size :: .bool true :: .string t :: iN .i64 t.size :: .pointer (some ⟨qk, 1, none⟩) :: iN .i64 64 :: .slice (some ⟨qa, 0, none⟩) n 64 :: iN .i64 n :: iN .i64 (64 - n) :: iN .i64 (min t.size (64 - n)) :: .slice (some ⟨qa, 0, none⟩) n 64 :: .string t :: iN .i64 (min t.size (64 - n)) :: .string (t.extract 0 (min t.size (64 - n))) :: .slice (some ⟨qa, 0, none⟩) m2 64 :: .string t :: iN .i64 (min t.size (64 - n)) :: .string t2 :: .slice (some ⟨qa, 0, none⟩) m2 64 :: iN .i64 m2 :: .pointer (some ⟨qk, 1, none⟩) :: iN .i64 64 :: .bool false :: u1 30 :: u1 31 :: u1 32 :: u1 33 :: u1 34 :: u1 35 :: List.replicate 0 un).toArray, []⟩) (by kernel_rfl) ?_
      refine wp_cond_false (by kernel_rfl) ?_
      refine wp_skip ?_
      refine block_normal ?_
      exact then_I ⟨t2.size, r3, t2, m2, b2, st, fun ii => (([(5, iN .i64 (min t.size (64 - n))), (6, .string t), (7, iN .i64 t.size), (8, .bool true), (9, .string t), (10, iN .i64 t.size), (11, .pointer (some ⟨qk, 1, none⟩)), (12, iN .i64 64), (13, .slice (some ⟨qa, 0, none⟩) n 64), (14, iN .i64 n), (15, iN .i64 (64 - n)), (16, iN .i64 (min t.size (64 - n))), (17, .slice (some ⟨qa, 0, none⟩) n 64), (18, .string t), (19, iN .i64 (min t.size (64 - n))), (20, .string (t.extract 0 (min t.size (64 - n)))), (21, .slice (some ⟨qa, 0, none⟩) m2 64), (22, .string t), (23, iN .i64 (min t.size (64 - n))), (24, .string t2), (25, .slice (some ⟨qa, 0, none⟩) m2 64), (26, iN .i64 m2), (27, .pointer (some ⟨qk, 1, none⟩)), (28, iN .i64 64), (29, .bool false), (30, u1 30), (31, u1 31), (32, u1 32), (33, u1 33), (34, u1 34), (35, u1 35)] : List (Nat × Value)).find? (·.1 == ii)).elim undef (·.2), rfl, by kernel_rfl, h6, ((r5 hf).symm.trans hfe), (Nat.lt_of_le_of_ne r1 hf), r2, hst⟩
  · -- region 0
    refine wl_region ?_
    refine wl_val (.string t) (by kernel_rfl) (by kernel_rfl) ?_
    refine wl_val (iN .i64 t.size) (by kernel_rfl) (run_len (s := t) (by kernel_rfl)) ?_
    refine wl_val (.bool false) (by kernel_rfl) (run_gtr (k := .i64) (a := t.size) (b := 0) (by kernel_rfl) (by kernel_rfl) false (decide_eq_false ht)) ?_
    refine wl_nil ?_
    refine then_at (F := ⟨(.string t :: pt qk :: pt qb :: pt qs :: un :: u1 5 :: .string t :: iN .i64 t.size :: .bool false :: u1 9 :: u1 10 :: u1 11 :: u1 12 :: u1 13 :: u1 14 :: u1 15 :: u1 16 :: u1 17 :: u1 18 :: u1 19 :: u1 20 :: u1 21 :: u1 22 :: u1 23 :: u1 24 :: u1 25 :: u1 26 :: u1 27 :: u1 28 :: u1 29 :: u1 30 :: u1 31 :: u1 32 :: u1 33 :: u1 34 :: u1 35 :: List.replicate 0 un).toArray, []⟩) (by kernel_rfl) ?_
    refine wp_cond_false (by kernel_rfl) ?_
    refine wp_exit ?_
    repeat first | refine then_exit ?_ | refine block_exit ?_ | refine block_exit_ne (by decide) ?_
    go_end0
    have e : fedP KS (st0, buf0.take n0) (bl s) = (st, buf.take n) := by rw [← hfe]; rw [show bl t = [] from List.eq_nil_of_length_eq_zero (by rw [bl_len]; omega)]; rfl
    rw [e]
    have e2 : (buf.take n).length = n := by rw [List.length_take]; omega
    exact ⟨⟨_, rfl⟩, buf, hbuf, by rw [e2], by rw [e2]; exact h3⟩

end Go.Proofs.YtmlldbkhphngeaaDoor
