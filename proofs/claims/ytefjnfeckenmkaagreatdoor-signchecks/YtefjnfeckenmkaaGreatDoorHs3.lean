/-
 the state behind a block.
-/
import Derived.Test.YtefjnfeckenmkaaGreatDoorH1
namespace Go.Proofs.YtefjnfeckenmkaaGreatDoor.Hh
set_option linter.unusedVariables false
set_option maxRecDepth 100000
set_option maxHeartbeats 2000000
open Go.RowKit
def rrL (st : List (BitVec 64)) (blk : List UInt8) (i : Nat) : V8 64 := rndsP KL (sprP KL blk) (v8 st) i
def suL (st : List (BitVec 64)) (blk : List UInt8) (i : Nat) : List (BitVec 64) := sumL st (l8 (rrL st blk 80)) i
theorem su_lenL (st : List (BitVec 64)) (hst : st.length = 8) (blk : List UInt8) (i : Nat) : (suL st blk i).length = 8 := by unfold suL; rw [sumL_len]; exact hst
theorem su_endL (st : List (BitVec 64)) (blk : List UInt8) : suL st blk 8 = turnP KL st blk := rfl
theorem l8_lenL (v : V8 64) : (l8 v).length = 8 := rfl
theorem su_putL (st : List (BitVec 64)) (blk : List UInt8) (i : Nat) : (wc .u64 (suL st blk i)).setIfInBounds i (.int .u64 (((suL st blk i).getD i 0 + (l8 (rrL st blk 80)).getD i 0).toNat : Int)) = wc .u64 (suL st blk (i + 1)) := wc_put .u64 (suL st blk i) i _
def zHs3_0 (st : List (BitVec 64)) (qb : Nat) q1 q4 q7 q12 q21 q22 (blk : List UInt8) (zx11 zx12 zx13 zx14 zx15 zx16 zx17 zx18 zx19 zx20 zx21 : Value) (zt : List Value) := (.agg kcL :: .agg (wc .u64 st) :: .slice (some ⟨qb, 0, none⟩) 128 128 :: pt q1 :: pt q4 :: un :: pt q7 :: pt q12 :: iN .u64 64 :: pt q21 :: pt q22 :: zx11 :: zx12 :: zx13 :: zx14 :: zx15 :: zx16 :: zx17 :: zx18 :: zx19 :: zx20 :: zx21 :: un :: un :: .agg kcL :: .slice (some ⟨qb, 0, none⟩) 128 128 :: .agg (wc .u64 (sprP KL blk)) :: pt q1 :: iN .u64 64 :: .pointer (some ⟨q1, 4, none⟩) :: .agg (tc 28 34 39) :: .pointer (some ⟨q1, 7, none⟩) :: .agg (tc 14 18 41) :: pt q4 :: bv .u64 (st.getD 0 0) :: .pointer (some ⟨q4, 1, none⟩) :: bv .u64 (st.getD 1 0) :: .pointer (some ⟨q4, 2, none⟩) :: bv .u64 (st.getD 2 0) :: .pointer (some ⟨q4, 3, none⟩) :: bv .u64 (st.getD 3 0) :: .pointer (some ⟨q4, 4, none⟩) :: bv .u64 (st.getD 4 0) :: .pointer (some ⟨q4, 5, none⟩) :: bv .u64 (st.getD 5 0) :: .pointer (some ⟨q4, 6, none⟩) :: bv .u64 (st.getD 6 0) :: .pointer (some ⟨q4, 7, none⟩) :: bv .u64 (st.getD 7 0) :: zt : List Value)
def zHs3_1 (st : List (BitVec 64)) (qb : Nat) q1 q4 q7 q12 q21 q22 (blk : List UInt8) (u25 : Nat → Value) (zx22 zx23 zx117 : Value) (zt : List Value) := (.agg kcL :: .agg (wc .u64 st) :: .slice (some ⟨qb, 0, none⟩) 128 128 :: pt q1 :: pt q4 :: un :: pt q7 :: pt q12 :: iN .u64 64 :: pt q21 :: pt q22 :: bv .u64 ((rrL st blk 80).a) :: bv .u64 ((rrL st blk 80).b) :: bv .u64 ((rrL st blk 80).c) :: bv .u64 ((rrL st blk 80).d) :: bv .u64 ((rrL st blk 80).e) :: bv .u64 ((rrL st blk 80).f) :: bv .u64 ((rrL st blk 80).g) :: bv .u64 ((rrL st blk 80).h) :: u25 19 :: u25 20 :: u25 21 :: zx22 :: zx23 :: .agg kcL :: .slice (some ⟨qb, 0, none⟩) 128 128 :: .agg (wc .u64 (sprP KL blk)) :: pt q1 :: iN .u64 64 :: .pointer (some ⟨q1, 4, none⟩) :: .agg (tc 28 34 39) :: .pointer (some ⟨q1, 7, none⟩) :: .agg (tc 14 18 41) :: pt q4 :: bv .u64 (st.getD 0 0) :: .pointer (some ⟨q4, 1, none⟩) :: bv .u64 (st.getD 1 0) :: .pointer (some ⟨q4, 2, none⟩) :: bv .u64 (st.getD 2 0) :: .pointer (some ⟨q4, 3, none⟩) :: bv .u64 (st.getD 3 0) :: .pointer (some ⟨q4, 4, none⟩) :: bv .u64 (st.getD 4 0) :: .pointer (some ⟨q4, 5, none⟩) :: bv .u64 (st.getD 5 0) :: .pointer (some ⟨q4, 6, none⟩) :: bv .u64 (st.getD 6 0) :: .pointer (some ⟨q4, 7, none⟩) :: bv .u64 (st.getD 7 0) :: .pointer (some ⟨q1, 2, none⟩) :: iN .i64 80 :: iN .i64 80 :: .bool false :: u25 53 :: u25 54 :: u25 55 :: u25 56 :: u25 57 :: u25 58 :: u25 59 :: u25 60 :: u25 61 :: u25 62 :: u25 63 :: u25 64 :: u25 65 :: u25 66 :: u25 67 :: u25 68 :: u25 69 :: u25 70 :: u25 71 :: u25 72 :: u25 73 :: u25 74 :: u25 75 :: u25 76 :: u25 77 :: u25 78 :: u25 79 :: u25 80 :: u25 81 :: u25 82 :: u25 83 :: u25 84 :: u25 85 :: u25 86 :: u25 87 :: u25 88 :: u25 89 :: u25 90 :: u25 91 :: u25 92 :: u25 93 :: u25 94 :: u25 95 :: u25 96 :: u25 97 :: u25 98 :: u25 99 :: u25 100 :: u25 101 :: u25 102 :: u25 103 :: u25 104 :: u25 105 :: u25 106 :: u25 107 :: bv .u64 ((rrL st blk 80).a) :: bv .u64 ((rrL st blk 80).b) :: bv .u64 ((rrL st blk 80).c) :: bv .u64 ((rrL st blk 80).d) :: bv .u64 ((rrL st blk 80).e) :: bv .u64 ((rrL st blk 80).f) :: bv .u64 ((rrL st blk 80).g) :: bv .u64 ((rrL st blk 80).h) :: .agg (wc .u64 (l8 (rrL st blk 80))) :: zx117 :: zt : List Value)
theorem trnL (st : List (BitVec 64)) (hst : st.length = 8) (blk : List UInt8) (hl : blk.length = 128) (qb : Nat) (w : World) (VV : Vars w) (hb : Blk w qb 5 (bc blk)) :
  Calls Tryz.prog 116 #[.agg kcL, .agg (wc .u64 st), .slice (some ⟨qb, 0, none⟩) 128 128] w fun e w' => e = .returned (.agg (wc .u64 (turnP KL st blk))) ∧ Below w.heap.size w w' := by
 have H0 := HA.start w
 go_enter Tryz.func116, Tryz.ntmps116
 refine zsr ?_
 refine wl_make H0 103 (run_box36 (c := kcL) (by kernel_rfl)) ?_
 intro q1 w2 h3
 refine wl_make h3 107 (run_box43 (c := wc .u64 st) (by kernel_rfl)) ?_
 intro q4 w5 h6
 refine wl_make h6 107 run_alloc43 ?_
 intro q7 w8 h9
 refine znt ?_
 refine zsr ?_
 refine wl_load h9 2 rfl Tryz.underlying103 rfl info36L ?_
 refine zwv (.slice (some ⟨qb, 0, none⟩) 128 128) ?_
 refine zwc h9 enter33 (sprL blk hl qb w8 (hb.keep h9.old)) ?_
 intro w10 h11
 refine wl_make h11 109 run_alloc44 ?_
 intro q12 w13 h14
 refine wl_fill (c' := wc .u64 (sprP KL blk)) h14 0 rfl (by rw [wc_size, wc_size, (spr_lenL blk), (List.length_replicate)]) (info44 .u64 (sprP KL blk) (spr_lenL blk)) (one_wc .u64 (sprP KL blk)) ?_
 intro w15 (h16 : HA w [(q12, 109, wc .u64 (sprP KL blk)), (q7, 107, wc .u64 (List.replicate 8 (0 : BitVec 64))), (q4, 107, wc .u64 st), (q1, 103, kcL)] w15)
 refine znt ?_
 refine wp_seq ?_
 obtain ⟨B17, eB17⟩ : ∃ B, B = w15.heap.size := ⟨_, rfl⟩
 refine zrg (fun g : Nat → Nat => (⟨(.agg kcL :: .agg (wc .u64 st) :: .slice (some ⟨qb, 0, none⟩) 128 128 :: pt q1 :: pt q4 :: un :: pt q7 :: pt q12 :: iN .u64 64 :: pt (g 6) :: pt (g 7) :: un :: un :: un :: un :: un :: un :: un :: un :: un :: un :: un :: un :: un :: .agg kcL :: .slice (some ⟨qb, 0, none⟩) 128 128 :: .agg (wc .u64 (sprP KL blk)) :: pt q1 :: iN .u64 64 :: .pointer (some ⟨q1, 4, none⟩) :: .agg (tc 28 34 39) :: .pointer (some ⟨q1, 7, none⟩) :: .agg (tc 14 18 41) :: List.replicate 96 un).toArray, []⟩ : Act)) (GS w [(q12, 109, wc .u64 (sprP KL blk)), (q7, 107, wc .u64 (List.replicate 8 (0 : BitVec 64))), (q4, 107, wc .u64 st), (q1, 103, kcL)] B17 2 6 9 101 (tc 0 0 0) (fun j => match j with | 0 => tc 28 34 39 | _ => tc 14 18 41)) (fun d hd => GS.start h16.drew eB17 (by decide) (fun j _ => by rcases j with _ | j <;> exact rfl) (fun j hj => hd j (Nat.lt_of_lt_of_le hj (by decide)))) ?_ ?_
 ·refine zg (ghost_plain (v := .pointer (some ⟨q1, 0, none⟩))) ?_
  refine zg (ghost_held (v := iN .u64 64) (fun _ w' h' => run_load1 Tryz.isAgg86 (((h'.get 3 rfl).cell 0).trans (by kernel_rfl)))) ?_
  refine zg (ghost_plain (v := .pointer (some ⟨q1, 4, none⟩))) ?_
  refine zg (ghost_held (v := .agg (tc 28 34 39)) (fun _ w' h' => run_part34 (q := q1) (off := 4) (a := 28) (b := 34) (d := 39) (by kernel_rfl) (h'.get 3 rfl) (by kernel_rfl))) ?_
  refine zg (ghost_plain (v := .pointer (some ⟨q1, 7, none⟩))) ?_
  refine zg (ghost_held (v := .agg (tc 14 18 41)) (fun _ w' h' => run_part34 (q := q1) (off := 7) (a := 14) (b := 18) (d := 41) (by kernel_rfl) (h'.get 3 rfl) (by kernel_rfl))) ?_
  refine zg (ghost_make 0 rfl (fun _ _ => run_alloc34)) ?_
  refine zg (ghost_make 1 rfl (fun _ _ => run_alloc34)) ?_
  refine zg (ghost_plain (v := iN .u64 64)) ?_
  refine zg (ghost_fill 0 rfl (info34 28 34 39) (one_tc 28 34 39)) ?_
  refine zg (ghost_fill 1 rfl (info34 14 18 41) (one_tc 14 18 41)) ?_
  exact AllGhost.nil
 intro g w18 g19
 have h20 : HA w [(g 7, 101, tc 14 18 41), (g 6, 101, tc 28 34 39), (q12, 109, wc .u64 (sprP KL blk)), (q7, 107, wc .u64 (List.replicate 8 (0 : BitVec 64))), (q4, 107, wc .u64 st), (q1, 103, kcL)] w18 := g19.two
 clear g19 eB17
 generalize g 6 = q21 at h20 ⊢
 generalize g 7 = q22 at h20 ⊢
 clear g
 refine then_at rfl ?_
 refine wp_seq ?_
 refine zrs ⟨(zHs3_0 st qb q1 q4 q7 q12 q21 q22 blk (bv .u64 (st.getD 0 0)) (bv .u64 (st.getD 1 0)) (bv .u64 (st.getD 2 0)) (bv .u64 (st.getD 3 0)) (bv .u64 (st.getD 4 0)) (bv .u64 (st.getD 5 0)) (bv .u64 (st.getD 6 0)) (bv .u64 (st.getD 7 0)) un un un (List.replicate 80 un)).toArray, []⟩ (HA w [(q22, 101, tc 14 18 41), (q21, 101, tc 28 34 39), (q12, 109, wc .u64 (sprP KL blk)), (q7, 107, wc .u64 (List.replicate 8 (0 : BitVec 64))), (q4, 107, wc .u64 st), (q1, 103, kcL)]) h20.drew ?_ ?_
 ·refine zst (fun _ _ => (run_addr_arr (q := q4) (a := 0) Tryz.underlying107 Tryz.sizeOf34 (by decide))) ?_
  refine zst (fun _ h => run_load1 Tryz.isAgg34 (((h.get 4 rfl).cell 0).trans (wc_get .u64 st 0 (by rw [hst]; decide)))) ?_
  refine zst (fun _ _ => (run_addr_arr (q := q4) (a := 1) Tryz.underlying107 Tryz.sizeOf34 (by decide))) ?_
  refine zst (fun _ h => run_load1 Tryz.isAgg34 (((h.get 4 rfl).cell 1).trans (wc_get .u64 st 1 (by rw [hst]; decide)))) ?_
  refine zst (fun _ _ => (run_addr_arr (q := q4) (a := 2) Tryz.underlying107 Tryz.sizeOf34 (by decide))) ?_
  refine zst (fun _ h => run_load1 Tryz.isAgg34 (((h.get 4 rfl).cell 2).trans (wc_get .u64 st 2 (by rw [hst]; decide)))) ?_
  refine zst (fun _ _ => (run_addr_arr (q := q4) (a := 3) Tryz.underlying107 Tryz.sizeOf34 (by decide))) ?_
  refine zst (fun _ h => run_load1 Tryz.isAgg34 (((h.get 4 rfl).cell 3).trans (wc_get .u64 st 3 (by rw [hst]; decide)))) ?_
  refine zst (fun _ _ => (run_addr_arr (q := q4) (a := 4) Tryz.underlying107 Tryz.sizeOf34 (by decide))) ?_
  refine zst (fun _ h => run_load1 Tryz.isAgg34 (((h.get 4 rfl).cell 4).trans (wc_get .u64 st 4 (by rw [hst]; decide)))) ?_
  refine zst (fun _ _ => (run_addr_arr (q := q4) (a := 5) Tryz.underlying107 Tryz.sizeOf34 (by decide))) ?_
  refine zst (fun _ h => run_load1 Tryz.isAgg34 (((h.get 4 rfl).cell 5).trans (wc_get .u64 st 5 (by rw [hst]; decide)))) ?_
  refine zst (fun _ _ => (run_addr_arr (q := q4) (a := 6) Tryz.underlying107 Tryz.sizeOf34 (by decide))) ?_
  refine zst (fun _ h => run_load1 Tryz.isAgg34 (((h.get 4 rfl).cell 6).trans (wc_get .u64 st 6 (by rw [hst]; decide)))) ?_
  refine zst (fun _ _ => (run_addr_arr (q := q4) (a := 7) Tryz.underlying107 Tryz.sizeOf34 (by decide))) ?_
  refine zst (fun _ h => run_load1 Tryz.isAgg34 (((h.get 4 rfl).cell 7).trans (wc_get .u64 st 7 (by rw [hst]; decide)))) ?_
  refine zsp (bv .u64 (st.getD 0 0)) ?_
  refine zsp (bv .u64 (st.getD 1 0)) ?_
  refine zsp (bv .u64 (st.getD 2 0)) ?_
  refine zsp (bv .u64 (st.getD 3 0)) ?_
  refine zsp (bv .u64 (st.getD 4 0)) ?_
  refine zsp (bv .u64 (st.getD 5 0)) ?_
  refine zsp (bv .u64 (st.getD 6 0)) ?_
  refine zsp (bv .u64 (st.getD 7 0)) ?_
  exact AllSure.nil
 intro w23 h24
 refine then_at rfl ?_
 refine wp_seq ?_
 refine zsr ?_
 refine zwv (.pointer (some ⟨q1, 2, none⟩)) ?_
 refine zwu (v := iN .i64 80) (run_load1 Tryz.isAgg3 (((h24.get 5 rfl).cell 2).trans (by kernel_rfl))) ?_
 refine zwv (iN .i64 0) ?_
 refine znt ?_
 refine wp_block ?_
 refine wp_count (fun k A w' => ∃ u25 : Nat → Value, A = ⟨(zHs3_0 st qb q1 q4 q7 q12 q21 q22 blk (bv .u64 ((rrL st blk k).a)) (bv .u64 ((rrL st blk k).b)) (bv .u64 ((rrL st blk k).c)) (bv .u64 ((rrL st blk k).d)) (bv .u64 ((rrL st blk k).e)) (bv .u64 ((rrL st blk k).f)) (bv .u64 ((rrL st blk k).g)) (bv .u64 ((rrL st blk k).h)) (u25 19) (u25 20) (u25 21) (.pointer (some ⟨q1, 2, none⟩) :: iN .i64 80 :: iN .i64 k :: u25 52 :: u25 53 :: u25 54 :: u25 55 :: u25 56 :: u25 57 :: u25 58 :: u25 59 :: u25 60 :: u25 61 :: u25 62 :: u25 63 :: u25 64 :: u25 65 :: u25 66 :: u25 67 :: u25 68 :: u25 69 :: u25 70 :: u25 71 :: u25 72 :: u25 73 :: u25 74 :: u25 75 :: u25 76 :: u25 77 :: u25 78 :: u25 79 :: u25 80 :: u25 81 :: u25 82 :: u25 83 :: u25 84 :: u25 85 :: u25 86 :: u25 87 :: u25 88 :: u25 89 :: u25 90 :: u25 91 :: u25 92 :: u25 93 :: u25 94 :: u25 95 :: u25 96 :: u25 97 :: u25 98 :: u25 99 :: u25 100 :: u25 101 :: u25 102 :: u25 103 :: u25 104 :: u25 105 :: u25 106 :: u25 107 :: List.replicate 21 un)).toArray, []⟩ ∧ HA w [(q22, 101, tc 14 18 41), (q21, 101, tc 28 34 39), (q12, 109, wc .u64 (sprP KL blk)), (q7, 107, wc .u64 (List.replicate 8 (0 : BitVec 64))), (q4, 107, wc .u64 st), (q1, 103, kcL)] w') 80 ?_ ?_ ?_
 ·exact zex h24
 ·rintro k hk _ w26 ⟨u25, rfl, h27⟩
  refine zsr ?_
  refine zwu (run_lss (k := .i64) (a := k) (b := 80) true (decide_eq_true hk)) ?_
  refine znt ?_
  refine zit ?_
  refine wp_seq ?_
  refine wp_block ?_
  refine zsr ?_
  refine zwv (iN .i64 k) ?_
  refine zwv (iN .i64 k) ?_
  refine znt ?_
  refine wp_seq ?_
  refine zrs ⟨(zHs3_0 st qb q1 q4 q7 q12 q21 q22 blk (bv .u64 ((rrL st blk k).a)) (bv .u64 ((rrL st blk k).b)) (bv .u64 ((rrL st blk k).c)) (bv .u64 ((rrL st blk k).d)) (bv .u64 ((rrL st blk k).e)) (bv .u64 ((rrL st blk k).f)) (bv .u64 ((rrL st blk k).g)) (bv .u64 ((rrL st blk k).h)) (iN .i64 k) (bv .u64 ((((((rrL st blk k).h) + (turP ((rrL st blk k).e) (14, 18, 41))) + ((((rrL st blk k).e) &&& ((rrL st blk k).f)) ^^^ ((~~~((rrL st blk k).e)) &&& ((rrL st blk k).g)))) + (cutP 64 (rws.getD k 0))) + ((sprP KL blk).getD k 0))) (u25 21) (.pointer (some ⟨q1, 2, none⟩) :: iN .i64 80 :: iN .i64 k :: .bool true :: iN .i64 k :: bv .u64 ((rrL st blk k).h) :: bv .u64 ((rrL st blk k).e) :: .agg (tc 14 18 41) :: iN .u64 64 :: bv .u64 (turP ((rrL st blk k).e) (14, 18, 41)) :: bv .u64 (((rrL st blk k).h) + (turP ((rrL st blk k).e) (14, 18, 41))) :: bv .u64 ((rrL st blk k).e) :: bv .u64 ((rrL st blk k).f) :: bv .u64 (((rrL st blk k).e) &&& ((rrL st blk k).f)) :: bv .u64 ((rrL st blk k).e) :: bv .u64 (~~~((rrL st blk k).e)) :: bv .u64 ((rrL st blk k).g) :: bv .u64 ((~~~((rrL st blk k).e)) &&& ((rrL st blk k).g)) :: bv .u64 ((((rrL st blk k).e) &&& ((rrL st blk k).f)) ^^^ ((~~~((rrL st blk k).e)) &&& ((rrL st blk k).g))) :: bv .u64 ((((rrL st blk k).h) + (turP ((rrL st blk k).e) (14, 18, 41))) + ((((rrL st blk k).e) &&& ((rrL st blk k).f)) ^^^ ((~~~((rrL st blk k).e)) &&& ((rrL st blk k).g)))) :: iN .i64 k :: .pointer (some ⟨8, k, none⟩) :: bv .u64 (rws.getD k 0) :: iN .u64 64 :: bv .u64 (cutP 64 (rws.getD k 0)) :: bv .u64 (((((rrL st blk k).h) + (turP ((rrL st blk k).e) (14, 18, 41))) + ((((rrL st blk k).e) &&& ((rrL st blk k).f)) ^^^ ((~~~((rrL st blk k).e)) &&& ((rrL st blk k).g)))) + (cutP 64 (rws.getD k 0))) :: iN .i64 k :: .pointer (some ⟨q12, k, none⟩) :: bv .u64 ((sprP KL blk).getD k 0) :: bv .u64 ((((((rrL st blk k).h) + (turP ((rrL st blk k).e) (14, 18, 41))) + ((((rrL st blk k).e) &&& ((rrL st blk k).f)) ^^^ ((~~~((rrL st blk k).e)) &&& ((rrL st blk k).g)))) + (cutP 64 (rws.getD k 0))) + ((sprP KL blk).getD k 0)) :: u25 79 :: u25 80 :: u25 81 :: u25 82 :: u25 83 :: u25 84 :: u25 85 :: u25 86 :: u25 87 :: u25 88 :: u25 89 :: u25 90 :: u25 91 :: u25 92 :: u25 93 :: u25 94 :: u25 95 :: u25 96 :: u25 97 :: u25 98 :: u25 99 :: u25 100 :: u25 101 :: u25 102 :: u25 103 :: u25 104 :: u25 105 :: u25 106 :: u25 107 :: List.replicate 21 un)).toArray, []⟩ (HA w [(q22, 101, tc 14 18 41), (q21, 101, tc 28 34 39), (q12, 109, wc .u64 (sprP KL blk)), (q7, 107, wc .u64 (List.replicate 8 (0 : BitVec 64))), (q4, 107, wc .u64 st), (q1, 103, kcL)]) h27.drew ?_ ?_
  ·refine zsp (bv .u64 ((rrL st blk k).h)) ?_
   refine zsp (bv .u64 ((rrL st blk k).e)) ?_
   refine zst (v := .agg (tc 14 18 41)) (fun _ h => run_load_blk (h.get 0 rfl) Tryz.underlying101 rfl (info34 14 18 41)) ?_
   refine zsp (iN .u64 64) ?_
   refine zsc enter34 HA.keep (fun w' h' => tbL ((rrL st blk k).e) 14 18 41 (by decide) (by decide) (by decide) w') ?_
   refine zst (fun _ _ => (run_addv WK.l (a := (rrL st blk k).h) (b := turP ((rrL st blk k).e) (14, 18, 41)))) ?_
   refine zsp (bv .u64 ((rrL st blk k).e)) ?_
   refine zsp (bv .u64 ((rrL st blk k).f)) ?_
   refine zst (fun _ _ => (run_andv WK.l (a := (rrL st blk k).e) (b := (rrL st blk k).f))) ?_
   refine zsp (bv .u64 ((rrL st blk k).e)) ?_
   refine zst (fun _ _ => (run_notv64 (a := (rrL st blk k).e) (by kernel_rfl))) ?_
   refine zsp (bv .u64 ((rrL st blk k).g)) ?_
   refine zst (fun _ _ => (run_andv WK.l (a := ~~~((rrL st blk k).e)) (b := (rrL st blk k).g))) ?_
   refine zst (fun _ _ => (run_xorv WK.l (a := ((rrL st blk k).e) &&& ((rrL st blk k).f)) (b := (~~~((rrL st blk k).e)) &&& ((rrL st blk k).g)))) ?_
   refine zst (fun _ _ => (run_addv WK.l (a := ((rrL st blk k).h) + (turP ((rrL st blk k).e) (14, 18, 41))) (b := (((rrL st blk k).e) &&& ((rrL st blk k).f)) ^^^ ((~~~((rrL st blk k).e)) &&& ((rrL st blk k).g))))) ?_
   refine zsp (iN .i64 k) ?_
   refine zst (fun _ _ => (run_addr_arr (q := 8) (a := k) Tryz.underlying109 Tryz.sizeOf34 (by omega))) ?_
   refine zst (fun w' h' => run_load1 Tryz.isAgg34 ((VV.below h'.old VV.big).rw k (by omega))) ?_
   refine zsp (iN .u64 64) ?_
   refine zsc enter32 HA.keep (fun w' h' => cutL (rws.getD k 0) w') ?_
   refine zst (fun _ _ => (run_addv WK.l (a := (((rrL st blk k).h) + (turP ((rrL st blk k).e) (14, 18, 41))) + ((((rrL st blk k).e) &&& ((rrL st blk k).f)) ^^^ ((~~~((rrL st blk k).e)) &&& ((rrL st blk k).g)))) (b := cutP 64 (rws.getD k 0)))) ?_
   refine zsp (iN .i64 k) ?_
   refine zst (fun _ _ => (run_addr_arr (q := q12) (a := k) Tryz.underlying109 Tryz.sizeOf34 (by omega))) ?_
   refine zst (fun _ h => run_load1 Tryz.isAgg34 (((h.get 2 rfl).cell k).trans (wc_get .u64 (sprP KL blk) k (by rw [(spr_lenL blk)]; omega)))) ?_
   refine zst (fun _ _ => (run_addv WK.l (a := ((((rrL st blk k).h) + (turP ((rrL st blk k).e) (14, 18, 41))) + ((((rrL st blk k).e) &&& ((rrL st blk k).f)) ^^^ ((~~~((rrL st blk k).e)) &&& ((rrL st blk k).g)))) + (cutP 64 (rws.getD k 0))) (b := (sprP KL blk).getD k 0))) ?_
   refine zsp (bv .u64 ((((((rrL st blk k).h) + (turP ((rrL st blk k).e) (14, 18, 41))) + ((((rrL st blk k).e) &&& ((rrL st blk k).f)) ^^^ ((~~~((rrL st blk k).e)) &&& ((rrL st blk k).g)))) + (cutP 64 (rws.getD k 0))) + ((sprP KL blk).getD k 0))) ?_
   exact AllSure.nil
  intro w28 h29
  refine then_at rfl ?_
  refine zsr ?_
  refine zwv (bv .u64 ((rrL st blk k).a)) ?_
  refine wl_load h29 1 rfl Tryz.underlying101 rfl (info34 28 34 39) ?_
  refine zwv (iN .u64 64) ?_
  refine zwc h29 enter34 (tbL ((rrL st blk k).a) 28 34 39 (by decide) (by decide) (by decide) w28) ?_
  intro w30 h31
  refine zwv (bv .u64 ((rrL st blk k).a)) ?_
  refine zwv (bv .u64 ((rrL st blk k).b)) ?_
  refine zwu (run_andv WK.l (a := (rrL st blk k).a) (b := (rrL st blk k).b)) ?_
  refine zwv (bv .u64 ((rrL st blk k).a)) ?_
  refine zwv (bv .u64 ((rrL st blk k).c)) ?_
  refine zwu (run_andv WK.l (a := (rrL st blk k).a) (b := (rrL st blk k).c)) ?_
  refine zwu (run_xorv WK.l (a := ((rrL st blk k).a) &&& ((rrL st blk k).b)) (b := ((rrL st blk k).a) &&& ((rrL st blk k).c))) ?_
  refine zwv (bv .u64 ((rrL st blk k).b)) ?_
  refine zwv (bv .u64 ((rrL st blk k).c)) ?_
  refine zwu (run_andv WK.l (a := (rrL st blk k).b) (b := (rrL st blk k).c)) ?_
  refine zwu (run_xorv WK.l (a := (((rrL st blk k).a) &&& ((rrL st blk k).b)) ^^^ (((rrL st blk k).a) &&& ((rrL st blk k).c))) (b := ((rrL st blk k).b) &&& ((rrL st blk k).c))) ?_
  refine zwu (run_addv WK.l (a := turP ((rrL st blk k).a) (28, 34, 39)) (b := ((((rrL st blk k).a) &&& ((rrL st blk k).b)) ^^^ (((rrL st blk k).a) &&& ((rrL st blk k).c))) ^^^ (((rrL st blk k).b) &&& ((rrL st blk k).c)))) ?_
  refine zwv (bv .u64 ((turP ((rrL st blk k).a) (28, 34, 39)) + (((((rrL st blk k).a) &&& ((rrL st blk k).b)) ^^^ (((rrL st blk k).a) &&& ((rrL st blk k).c))) ^^^ (((rrL st blk k).b) &&& ((rrL st blk k).c))))) ?_
  refine znt ?_
  refine wl_region ?_
  refine zwv (bv .u64 ((rrL st blk k).g)) ?_
  refine zwv (bv .u64 ((rrL st blk k).f)) ?_
  refine zwv (bv .u64 ((rrL st blk k).e)) ?_
  refine zwv (bv .u64 ((rrL st blk k).d)) ?_
  refine zwv (bv .u64 ((((((rrL st blk k).h) + (turP ((rrL st blk k).e) (14, 18, 41))) + ((((rrL st blk k).e) &&& ((rrL st blk k).f)) ^^^ ((~~~((rrL st blk k).e)) &&& ((rrL st blk k).g)))) + (cutP 64 (rws.getD k 0))) + ((sprP KL blk).getD k 0))) ?_
  refine zwu (run_addv WK.l (a := (rrL st blk k).d) (b := (((((rrL st blk k).h) + (turP ((rrL st blk k).e) (14, 18, 41))) + ((((rrL st blk k).e) &&& ((rrL st blk k).f)) ^^^ ((~~~((rrL st blk k).e)) &&& ((rrL st blk k).g)))) + (cutP 64 (rws.getD k 0))) + ((sprP KL blk).getD k 0))) ?_
  refine zwv (bv .u64 ((rrL st blk k).c)) ?_
  refine zwv (bv .u64 ((rrL st blk k).b)) ?_
  refine zwv (bv .u64 ((rrL st blk k).a)) ?_
  refine zwv (bv .u64 ((((((rrL st blk k).h) + (turP ((rrL st blk k).e) (14, 18, 41))) + ((((rrL st blk k).e) &&& ((rrL st blk k).f)) ^^^ ((~~~((rrL st blk k).e)) &&& ((rrL st blk k).g)))) + (cutP 64 (rws.getD k 0))) + ((sprP KL blk).getD k 0))) ?_
  refine zwv (bv .u64 ((turP ((rrL st blk k).a) (28, 34, 39)) + (((((rrL st blk k).a) &&& ((rrL st blk k).b)) ^^^ (((rrL st blk k).a) &&& ((rrL st blk k).c))) ^^^ (((rrL st blk k).b) &&& ((rrL st blk k).c))))) ?_
  refine zwu (run_addv WK.l (a := (((((rrL st blk k).h) + (turP ((rrL st blk k).e) (14, 18, 41))) + ((((rrL st blk k).e) &&& ((rrL st blk k).f)) ^^^ ((~~~((rrL st blk k).e)) &&& ((rrL st blk k).g)))) + (cutP 64 (rws.getD k 0))) + ((sprP KL blk).getD k 0)) (b := (turP ((rrL st blk k).a) (28, 34, 39)) + (((((rrL st blk k).a) &&& ((rrL st blk k).b)) ^^^ (((rrL st blk k).a) &&& ((rrL st blk k).c))) ^^^ (((rrL st blk k).b) &&& ((rrL st blk k).c))))) ?_
  refine zwv (bv .u64 ((rrL st blk k).g)) ?_
  refine zwv (bv .u64 ((rrL st blk k).f)) ?_
  refine zwv (bv .u64 ((rrL st blk k).e)) ?_
  refine zwv (bv .u64 (((rrL st blk k).d) + ((((((rrL st blk k).h) + (turP ((rrL st blk k).e) (14, 18, 41))) + ((((rrL st blk k).e) &&& ((rrL st blk k).f)) ^^^ ((~~~((rrL st blk k).e)) &&& ((rrL st blk k).g)))) + (cutP 64 (rws.getD k 0))) + ((sprP KL blk).getD k 0)))) ?_
  refine zwv (bv .u64 ((rrL st blk k).c)) ?_
  refine zwv (bv .u64 ((rrL st blk k).b)) ?_
  refine zwv (bv .u64 ((rrL st blk k).a)) ?_
  refine zwv (bv .u64 (((((((rrL st blk k).h) + (turP ((rrL st blk k).e) (14, 18, 41))) + ((((rrL st blk k).e) &&& ((rrL st blk k).f)) ^^^ ((~~~((rrL st blk k).e)) &&& ((rrL st blk k).g)))) + (cutP 64 (rws.getD k 0))) + ((sprP KL blk).getD k 0)) + ((turP ((rrL st blk k).a) (28, 34, 39)) + (((((rrL st blk k).a) &&& ((rrL st blk k).b)) ^^^ (((rrL st blk k).a) &&& ((rrL st blk k).c))) ^^^ (((rrL st blk k).b) &&& ((rrL st blk k).c)))))) ?_
  refine wl_nil ?_
  refine block_normal ?_
  refine then_at rfl ?_
  refine wl_region ?_
  refine zwu (run_add (k := .i64) (a := k) (b := 1) (by simp only [top]; omega)) ?_
  refine zwv (iN .i64 (k + 1)) ?_
  refine wl_nil ?_
  exact then_I (zex h31)
 ·rintro _ w32 ⟨u25, rfl, h33⟩
  refine zsr ?_
  refine zwu (run_lss (k := .i64) (a := 80) (b := 80) false (by decide)) ?_
  refine znt ?_
  refine wp_seq ?_
  refine zcf ?_
  refine wp_exit ?_
  repeat first | refine then_exit ?_ | refine block_exit ?_ | refine block_exit_ne (by decide) ?_
  refine then_at rfl ?_
  refine wp_seq ?_
  refine zsr ?_
  refine zwv (bv .u64 ((rrL st blk 80).a)) ?_
  refine zwv (bv .u64 ((rrL st blk 80).b)) ?_
  refine zwv (bv .u64 ((rrL st blk 80).c)) ?_
  refine zwv (bv .u64 ((rrL st blk 80).d)) ?_
  refine zwv (bv .u64 ((rrL st blk 80).e)) ?_
  refine zwv (bv .u64 ((rrL st blk 80).f)) ?_
  refine zwv (bv .u64 ((rrL st blk 80).g)) ?_
  refine zwv (bv .u64 ((rrL st blk 80).h)) ?_
  refine zwv (.agg (wc .u64 (l8 (rrL st blk 80)))) ?_
  refine zwv (iN .i64 0) ?_
  refine zna ⟨(zHs3_1 st qb q1 q4 q7 q12 q21 q22 blk u25 un un (iN .i64 0) (List.replicate 11 un)).toArray, []⟩ ?_
  refine wp_block ?_
  refine wp_count (fun k A w' => ∃ u34 : Nat → Value, A = ⟨(zHs3_1 st qb q1 q4 q7 q12 q21 q22 blk u25 (u34 22) (u34 23) (iN .i64 k) (u34 118 :: u34 119 :: u34 120 :: u34 121 :: u34 122 :: u34 123 :: u34 124 :: u34 125 :: u34 126 :: u34 127 :: un :: [])).toArray, []⟩ ∧ HA w [(q22, 101, tc 14 18 41), (q21, 101, tc 28 34 39), (q12, 109, wc .u64 (sprP KL blk)), (q7, 107, wc .u64 (List.replicate 8 (0 : BitVec 64))), (q4, 107, wc .u64 (suL st blk k)), (q1, 103, kcL)] w') 8 ?_ ?_ ?_
  ·exact zex h33
  ·rintro k hk _ w35 ⟨u34, rfl, h36⟩
   refine zsr ?_
   refine zwu (run_lss (k := .i64) (a := k) (b := 8) true (decide_eq_true hk)) ?_
   refine znt ?_
   refine zit ?_
   refine wp_seq ?_
   refine wp_block ?_
   refine zsr ?_
   refine zwv (iN .i64 k) ?_
   refine zwu (run_index43 (i := k) (by kernel_rfl) (by kernel_rfl) (by omega) (wc_get .u64 (l8 (rrL st blk 80)) k (by rw [(l8_lenL _)]; omega))) ?_
   refine zwv (iN .i64 k) ?_
   refine zwv (bv .u64 ((l8 (rrL st blk 80)).getD k 0)) ?_
   refine znt ?_
   refine wl_region ?_
   refine zwv (iN .i64 k) ?_
   refine zwu (run_addr_arr (q := q4) (a := k) Tryz.underlying107 Tryz.sizeOf34 (by omega)) ?_
   refine zwu (run_load1 Tryz.isAgg34 (((h36.get 4 rfl).cell k).trans (wc_get .u64 (suL st blk k) k (by rw [(su_lenL st hst blk k)]; omega)))) ?_
   refine zwv (bv .u64 ((l8 (rrL st blk 80)).getD k 0)) ?_
   refine zwu (run_addv WK.l (a := (suL st blk k).getD k 0) (b := (l8 (rrL st blk 80)).getD k 0)) ?_
   refine zwu (run_addr_arr (q := q4) (a := k) Tryz.underlying107 Tryz.sizeOf34 (by omega)) ?_
   refine wl_put (k := .u64) (z := (((((suL st blk k).getD k 0) + ((l8 (rrL st blk 80)).getD k 0)).toNat : Nat) : Int)) h36 4 rfl k (by rw [wc_size, (su_lenL st hst blk k)]; omega) Tryz.sizeOf34 ?_
   intro w37 h38
   have h39 : HA w [(q22, 101, tc 14 18 41), (q21, 101, tc 28 34 39), (q12, 109, wc .u64 (sprP KL blk)), (q7, 107, wc .u64 (List.replicate 8 (0 : BitVec 64))), (q4, 107, wc .u64 (suL st blk (k + 1))), (q1, 103, kcL)] w37 := by
    have e : (wc .u64 (suL st blk k)).setIfInBounds k (.int .u64 (((((suL st blk k).getD k 0) + ((l8 (rrL st blk 80)).getD k 0)).toNat : Nat) : Int)) = wc .u64 (suL st blk (k + 1)) := (su_putL st blk k)
    rw [← e]; exact h38
   clear h38
   refine wl_nil ?_
   refine block_normal ?_
   refine then_at rfl ?_
   refine wl_region ?_
   refine zwu (run_add (k := .i64) (a := k) (b := 1) (by simp only [top]; omega)) ?_
   refine zwv (iN .i64 (k + 1)) ?_
   refine wl_nil ?_
   exact then_I (zex h39)
  ·rintro _ w40 ⟨u34, rfl, h41⟩
   refine zsr ?_
   refine zwu (run_lss (k := .i64) (a := 8) (b := 8) false (by decide)) ?_
   refine znt ?_
   refine wp_seq ?_
   refine zcf ?_
   refine wp_exit ?_
   repeat first | refine then_exit ?_ | refine block_exit ?_ | refine block_exit_ne (by decide) ?_
   refine then_at rfl ?_
   refine zsr ?_
   refine wl_load h41 4 rfl Tryz.underlying107 rfl (info43 .u64 (suL st blk 8) (su_lenL st hst blk 8)) ?_
   refine wl_fill (c' := wc .u64 (suL st blk 8)) h41 3 rfl (by rw [wc_size, wc_size, (su_lenL st hst blk 8), (List.length_replicate)]) (info43 .u64 (suL st blk 8) (su_lenL st hst blk 8)) (one_wc .u64 (suL st blk 8)) ?_
   intro w42 (h43 : HA w [(q22, 101, tc 14 18 41), (q21, 101, tc 28 34 39), (q12, 109, wc .u64 (sprP KL blk)), (q7, 107, wc .u64 (suL st blk 8)), (q4, 107, wc .u64 (suL st blk 8)), (q1, 103, kcL)] w42)
   refine znt ?_
   refine wp_ret ?_
   repeat first | refine then_ret ?_ | refine block_ret ?_
   exact bodyPost_ret (v := .agg (wc .u64 (suL st blk 8))) (res_cell (p := 6) (by kernel_rfl) (by kernel_rfl) (h43.get 3 rfl) Tryz.underlying107 rfl (info43 .u64 _ (su_lenL st hst blk 8))) rfl ⟨by rw [su_endL st blk], h43.old⟩
end Go.Proofs.YtefjnfeckenmkaaGreatDoor.Hh
