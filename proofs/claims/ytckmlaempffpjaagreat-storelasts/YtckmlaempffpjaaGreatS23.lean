/-
 change.
-/
import Derived.Test.YtckmlaempffpjaaGreatS22
import Derived.Test.YtckmlaempffpjaaGreatSO
namespace Go.Proofs.YtckmlaempffpjaaGreat
open Go.RowKit

/-- a turn in memory -/
def tnc (x : Tn) : Array Value := #[iN .u8 (x.ps.getD 0 0), iN .u8 (x.ps.getD 1 0), iN .u8 (x.ps.getD 2 0), iN .u8 (x.ds.getD 0 0), iN .u8 (x.ds.getD 1 0), iN .u8 (x.ds.getD 2 0), iN .u8 x.many, iN .u16 x.size, iN .u8 x.arm, .int .i64 x.keep, .bool x.pack]
theorem tnc_p (x : Tn) {i : Nat} (h : i < 3) : (tnc x)[i]? = some (iN .u8 (x.ps.getD i 0)) := by
 match i, h with
 | 0, _ => rfl
 | 1, _ => rfl
 | 2, _ => rfl
theorem tnc_d (x : Tn) {i : Nat} (h : i < 3) : (tnc x)[3 + i]? = some (iN .u8 (x.ds.getD i 0)) := by
 match i, h with
 | 0, _ => rfl
 | 1, _ => rfl
 | 2, _ => rfl
theorem bcs_size (l : List UInt8) : (bc l).size = l.length := by simp [bc]
theorem bc_put8 {l : List UInt8} {i n : Nat} (h : n < 256) : (bc l).setIfInBounds i (iN .u8 n) = bc (l.set i (UInt8.ofNat n)) := by
 rw [by8_of h]
 exact bc_put l i (UInt8.ofNat n)
set_option linter.unusedSimpArgs false in
theorem res_ttc {w : World} {fn : Func} {p r q8 : Tmp} {t ty : TypeId} {ts : Array Value} {q : Nat} {c : Array Value} {D : TypeDesc} {v v2 : Value} (hf : fn.results = #[.tmp p, .tmp r, .cell q8 ty]) (hv : ts.getD p undef = v) (hv2 : ts.getD r undef = v2) (ht : ts.getD q8 undef = .pointer (some ⟨q, 0, none⟩)) (h : Blk w q t c) (hu : Tryz.prog.underlying ty = some D) (hd : D.isRow = true) (hi : (Tryz.prog.info? ty).map (·.size) = some c.size) :
  (results fn ts).run Tryz.prog w = .ok (.tuple #[v, v2, .agg c]) w := by
 have := run_loadVar_mid (P := Tryz.prog) w q 0 ty c.toList D h.range hu hd (by simpa using hi)
 have ht2 : ts[q8]?.getD undef = .pointer (some ⟨q, 0, none⟩) := by simpa using ht
 have hv' : ts[p]?.getD undef = v := by simpa using hv
 have hv3 : ts[r]?.getD undef = v2 := by simpa using hv2
 simp [results, hf, Sem.run_bind, Sem.run_pure, Result.andThen_ok, asAddr, ht2, hv', hv3, this]
theorem info48 : (Tryz.prog.info? 48).map (·.size) = some 16 := by kernel_rfl
set_option linter.unusedVariables false in
set_option maxRecDepth 100000 in
set_option maxHeartbeats 4000000 in
theorem change_any {now : List ByteArray} {x : Tn} {n : Nat} (hnl : now.length = 16) (hx : TnOk x) (hn : n < 100) (w : World) :
  Calls Tryz.prog 16 #[.agg (stc now), .agg (tnc x), iN .i64 n] w fun e w' => ∃ vp vd Lp Ld, e = .returned (.tuple #[vp, vd, .agg (stc (nextR now x n))]) ∧ Row 64 2 vp (nP x) (rcl (chP x n (nP x))) Lp ∧ Row 9 1 vd (nD x) (scl (chD x (nD x))) Ld ∧ HA (bs w) (Lp ++ Ld) w' := by
 have H0 := HA.start w
 have hnp : nP x < 4 := Nat.mod_lt _ (by decide)
 have hnd : nD x < 4 := Nat.mod_lt _ (by decide)
 have hnp2 : nP x = x.many % 4 := rfl
 have hnd2 : nD x = x.many / 4 % 4 := rfl
 have hm8 := hx.m
 have hs8 := hx.s
 go_enter Tryz.func16, Tryz.ntmps16
 refine wp_seq ?_
 refine wl_region ?_
 refine wl_make (c := stc now) H0 48 (by kernel_rfl) (by kernel_rfl) ?_
 intro q1 w2 (h3 : HA (bs w) [(q1, 48, stc now)] w2)
 refine wl_make (c := tnc x) h3 52 (by kernel_rfl) (by kernel_rfl) ?_
 intro q4 w5 (h6 : HA (bs w) [(q4, 52, tnc x), (q1, 48, stc now)] w5)
 refine zwv (.slice none 0 0) ?_
 refine zwv (.slice none 0 0) ?_
 refine wl_make (c := stc (List.replicate 16 eB)) h6 48 (by kernel_rfl) (by kernel_rfl) ?_
 intro q7 w8 (h9 : HA (bs w) [(q7, 48, stc (List.replicate 16 eB)), (q4, 52, tnc x), (q1, 48, stc now)] w8)
 refine wl_nil ?_
 refine then_at rfl ?_
 refine wp_seq ?_
 have h10 := h9
 clear h9
 generalize q7 = q8_ at h10 ⊢
 generalize q4 = q4_ at h10 ⊢
 generalize q1 = q3_ at h10 ⊢
 generalize q8_ = q8 at h10 ⊢
 generalize q4_ = q4 at h10 ⊢
 generalize q3_ = q3 at h10 ⊢
 have h11 : HA (bs w) [(q8, 48, stc (List.replicate 16 eB)), (q4, 52, tnc x), (q3, 48, stc now)] w8 := h10
 refine wl_region ?_
 refine zwv (.slice none 0 0) ?_
 refine wl_nil ?_
 refine then_at rfl ?_
 refine wp_seq ?_
 refine wl_region ?_
 refine zwv (.slice none 0 0) ?_
 refine wl_nil ?_
 refine then_at rfl ?_
 refine wp_seq ?_
 refine wp_seq ?_
 refine wl_region ?_
 refine zwv (iN .i64 0) ?_
 refine wl_nil ?_
 refine then_at rfl ?_
 refine wp_block ?_
 refine wp_count (fun k A w' => ∃ u12 : Nat → Value, A = ⟨(.agg (stc now) :: .agg (tnc x) :: iN .i64 n :: pt q3 :: pt q4 :: un :: .slice none 0 0 :: .slice none 0 0 :: pt q8 :: u12 9 :: .slice none 0 0 :: iN .i64 k :: u12 12 :: u12 13 :: un :: un :: u12 16 :: u12 17 :: u12 18 :: u12 19 :: u12 20 :: u12 21 :: u12 22 :: u12 23 :: u12 24 :: u12 25 :: u12 26 :: u12 27 :: u12 28 :: u12 29 :: u12 30 :: u12 31 :: u12 32 :: u12 33 :: u12 34 :: u12 35 :: u12 36 :: u12 37 :: u12 38 :: u12 39 :: u12 40 :: u12 41 :: u12 42 :: u12 43 :: u12 44 :: u12 45 :: u12 46 :: u12 47 :: u12 48 :: u12 49 :: u12 50 :: u12 51 :: u12 52 :: u12 53 :: u12 54 :: u12 55 :: u12 56 :: u12 57 :: u12 58 :: u12 59 :: u12 60 :: u12 61 :: u12 62 :: u12 63 :: u12 64 :: List.replicate 29 un).toArray, []⟩ ∧ ∃ vp Lp, Row 64 2 vp k (rcl (chP x n k)) Lp ∧ u12 9 = vp ∧ HA (bs w) ([(q8, 48, stc (List.replicate 16 eB)), (q4, 52, tnc x), (q3, 48, stc (chN now x n k))] ++ (Lp ++ [])) w') (nP x) ?_ ?_ ?_
 ·exact ⟨fun ii => (([(9, .slice none 0 0), (12, undef), (13, undef), (16, undef), (17, undef), (18, undef), (19, undef), (20, undef), (21, undef), (22, undef), (23, undef), (24, undef), (25, undef), (26, undef), (27, undef), (28, undef), (29, undef), (30, undef), (31, undef), (32, undef), (33, undef), (34, undef), (35, undef), (36, undef), (37, undef), (38, undef), (39, undef), (40, undef), (41, undef), (42, undef), (43, undef), (44, undef), (45, undef), (46, undef), (47, undef), (48, undef), (49, undef), (50, undef), (51, undef), (52, undef), (53, undef), (54, undef), (55, undef), (56, undef), (57, undef), (58, undef), (59, undef), (60, undef), (61, undef), (62, undef), (63, undef), (64, undef)] : List (Nat × Value)).find? (·.1 == ii)).elim undef (·.2), by kernel_rfl, _, [], Row.nil 64 2, rfl, h11⟩
 ·rintro k hk _ w13 ⟨u12, rfl, vp, Lp, hR, rfl, hL⟩
  have hcl : (chN now x n (k)).length = 16 := (chN_len now x n _).trans hnl
  have hpk : x.ps.getD k 0 % 16 < 16 := Nat.mod_lt _ (by decide)
  have hp8 := hx.p k
  refine wp_seq ?_
  refine wp_seq ?_
  refine wl_region ?_
  refine zwv (iN .i64 k) ?_
  refine zwx (.bool true) (run_lss (k := .i64) (a := k) (b := 3) (by kernel_rfl) (by kernel_rfl) true (decide_eq_true (by omega))) ?_
  refine zwv (.bool true) ?_
  refine zwv (iN .i64 k) ?_
  refine zwv (.pointer (some ⟨q4, 6, none⟩)) ?_
  refine zwx (iN .u8 x.many) (run_load1 (fun w => Tryz.isAgg5 w) (by kernel_rfl) (((hL.get 1 rfl).cell 6).trans rfl)) ?_
  refine zwx (iN .u8 (x.many % 4)) (run_remb (k := .u8) (a := x.many) (n := 4) (by kernel_rfl) (by kernel_rfl) (by decide)) ?_
  refine zwx (iN .i64 (x.many % 4)) (run_conv .i64 Tryz.underlying5 Tryz.underlying3 (by kernel_rfl) (by simp only [top]; omega)) ?_
  refine zwx (.bool true) (run_lss (k := .i64) (a := k) (b := x.many % 4) (by kernel_rfl) (by kernel_rfl) true (decide_eq_true (by omega))) ?_
  refine zwv (.bool true) ?_
  refine wl_nil ?_
  refine then_at rfl ?_
  refine wp_cond_true (by kernel_rfl) ?_
  refine wp_skip ?_
  refine then_at rfl ?_
  refine wp_seq ?_
  refine wp_block ?_
  refine wp_seq ?_
  refine wl_region ?_
  refine zwv (iN .i64 k) ?_
  refine zwv (.pointer (some ⟨q4, 0, none⟩)) ?_
  refine zwx (.pointer (some ⟨q4, k, none⟩)) ((run_addr3b (q := q4) (o := 0) (i := k) (by kernel_rfl) (by kernel_rfl) (by omega)).trans (by rw [Nat.zero_add])) ?_
  refine zwx (iN .u8 (x.ps.getD k 0)) (run_load1 (fun w => Tryz.isAgg5 w) (by kernel_rfl) (((hL.get 1 rfl).cell k).trans (tnc_p x (i := k) (by omega)))) ?_
  refine zwx (iN .u8 ((x.ps.getD k 0) % 16)) (run_remb (k := .u8) (a := x.ps.getD k 0) (n := 16) (by kernel_rfl) (by kernel_rfl) (by decide)) ?_
  refine zwv (iN .u8 ((x.ps.getD k 0) % 16)) ?_
  refine wl_nil ?_
  refine then_at rfl ?_
  refine wp_seq ?_
  refine wl_region ?_
  refine zwv (.pointer (some ⟨q4, 7, none⟩)) ?_
  refine zwx (iN .u16 x.size) (run_load1 (fun w => Tryz.isAgg50 w) (by kernel_rfl) (((hL.get 1 rfl).cell 7).trans rfl)) ?_
  refine zwx (iN .u16 (x.size % 300)) (run_remb (k := .u16) (a := x.size) (n := 300) (by kernel_rfl) (by kernel_rfl) (by decide)) ?_
  refine zwx (iN .i64 (x.size % 300)) (run_conv .i64 Tryz.underlying50 Tryz.underlying3 (by kernel_rfl) (by simp only [top]; omega)) ?_
  refine zwx (iN .i64 (1 + (x.size % 300))) (run_add (k := .i64) (a := 1) (b := x.size % 300) (by kernel_rfl) (by kernel_rfl) (by first | omega | (simp only [top]; omega))) ?_
  refine wl_mks (n := 1 + (x.size % 300)) (m := 1 + (x.size % 300)) (c := bc (List.replicate (1 + (x.size % 300)) 0)) hL 5 (by kernel_rfl) (run_mk (k := .i64) (m := 1 + (x.size % 300)) (c := 1 + (x.size % 300)) (by kernel_rfl) (by kernel_rfl) (Nat.le_refl _) (by omega)) ?_
  intro q14 w15 (h16 : HA (bs w) ((q14, 5, bc (List.replicate (1 + (x.size % 300)) 0)) :: (q8, 48, stc (List.replicate 16 eB)) :: (q4, 52, tnc x) :: (q3, 48, stc (chN now x n k)) :: (Lp ++ [])) w15)
  refine zwv (.slice (some ⟨q14, 0, none⟩) (1 + (x.size % 300)) (1 + (x.size % 300))) ?_
  refine wl_nil ?_
  refine then_at rfl ?_
  refine wp_seq ?_
  refine wl_region ?_
  refine zwv (.slice (some ⟨q14, 0, none⟩) (1 + (x.size % 300)) (1 + (x.size % 300))) ?_
  refine zwv (iN .i64 n) ?_
  refine zwx (iN .u8 n) (run_conv .u8 Tryz.underlying3 Tryz.underlying5 (by kernel_rfl) (by simp only [top]; omega)) ?_
  refine zwx (.pointer (some ⟨q14, 0, none⟩)) (run_addr_slice (q := q14) (n := 1 + (x.size % 300)) (m := 1 + (x.size % 300)) (a := 0) Tryz.underlying62 (fun w => Tryz.sizeOf5 w) (by kernel_rfl) (by kernel_rfl) (by omega)) ?_
  refine wl_putv (v := iN .u8 n) h16 0 rfl 0 (by rw [bcs_size, List.length_replicate]; omega) (by kernel_rfl) (fun w => Tryz.sizeOf5 w) (by kernel_rfl) (by kernel_rfl) (by kernel_rfl) ?_
  intro w17 h18
  have h19 : HA (bs w) ((q14, 5, bc ((List.replicate (1 + (x.size % 300)) 0).set 0 (UInt8.ofNat (n)))) :: (q8, 48, stc (List.replicate 16 eB)) :: (q4, 52, tnc x) :: (q3, 48, stc (chN now x n k)) :: (Lp ++ [])) w17 := (by rw [← bc_put8 (l := List.replicate (1 + (x.size % 300)) 0) (i := 0) (n := n) (by omega)]; exact h18)
  clear h18
  refine wl_nil ?_
  refine then_at rfl ?_
  refine wp_seq ?_
  refine wl_region ?_
  refine zwv (.slice (some ⟨q14, 0, none⟩) (1 + (x.size % 300)) (1 + (x.size % 300))) ?_
  refine zwv (.slice (some ⟨q14, 0, none⟩) (1 + (x.size % 300)) (1 + (x.size % 300))) ?_
  refine zwv (iN .i64 (1 + (x.size % 300))) ?_
  refine wl_val (iN .i64 ((1 + (x.size % 300)) - 1)) (by kernel_rfl) (run_sub (k := .i64) (a := 1 + (x.size % 300)) (b := 1) (by kernel_rfl) (by kernel_rfl) (by first | omega | (simp only [top]; omega)) (by first | omega | (simp only [top]; omega))) ?_
  refine zwv (iN .i64 n) ?_
  refine zwv (iN .i64 k) ?_
  refine zwx (iN .i64 (n + k)) (run_add (k := .i64) (a := n) (b := k) (by kernel_rfl) (by kernel_rfl) (by first | omega | (simp only [top]; omega))) ?_
  refine zwx (iN .u8 (n + k)) (run_conv .u8 Tryz.underlying3 Tryz.underlying5 (by kernel_rfl) (by simp only [top]; omega)) ?_
  refine wl_val (.pointer (some ⟨q14, (1 + (x.size % 300)) - 1, none⟩)) (by kernel_rfl) (run_addr_slice (q := q14) (n := 1 + (x.size % 300)) (m := 1 + (x.size % 300)) (a := (1 + (x.size % 300)) - 1) Tryz.underlying62 (fun w => Tryz.sizeOf5 w) (by kernel_rfl) (by kernel_rfl) (by omega)) ?_
  refine wl_putv (v := iN .u8 (n + k)) h19 0 rfl ((1 + (x.size % 300)) - 1) (by rw [bcs_size, List.length_set, List.length_replicate]; omega) (by kernel_rfl) (fun w => Tryz.sizeOf5 w) (by kernel_rfl) (by kernel_rfl) (by kernel_rfl) ?_
  intro w20 h21
  have h22 : HA (bs w) ((q14, 5, bc (((List.replicate (1 + (x.size % 300)) 0).set 0 (UInt8.ofNat (n))).set ((1 + (x.size % 300)) - 1) (UInt8.ofNat (n + k)))) :: (q8, 48, stc (List.replicate 16 eB)) :: (q4, 52, tnc x) :: (q3, 48, stc (chN now x n k)) :: (Lp ++ [])) w20 := (by rw [← bc_put8 (l := (List.replicate (1 + (x.size % 300)) 0).set 0 (UInt8.ofNat (n))) (i := (1 + (x.size % 300)) - 1) (n := n + k) (by omega)]; exact h21)
  clear h21
  refine wl_nil ?_
  refine then_at rfl ?_
  refine wp_seq ?_
  have h23 : HA (bs w) ((q14, 5, bc (valL n k x.size)) :: (q8, 48, stc (List.replicate 16 eB)) :: (q4, 52, tnc x) :: (q3, 48, stc (chN now x n k)) :: (Lp ++ [])) w20 := by have h9 := h22; rw [show 1 + x.size % 300 - 1 = x.size % 300 by omega] at h9; exact h9
  refine wp_region_wxo (S := HA (bs w) [(q14, 5, bc (valL n k x.size))]) (J := fun AQ w' => ∃ (q27 : Nat) (v3 : Value) (L3 : BL), AQ = ⟨(.agg (stc now) :: .agg (tnc x) :: iN .i64 n :: pt q3 :: pt q4 :: un :: .slice none 0 0 :: .slice none 0 0 :: pt q8 :: v3 :: .slice none 0 0 :: iN .i64 k :: iN .u8 ((x.ps.getD k 0) % 16) :: .slice (some ⟨q14, 0, none⟩) (1 + (x.size % 300)) (1 + (x.size % 300)) :: un :: un :: iN .i64 k :: .bool true :: .bool true :: iN .i64 k :: .pointer (some ⟨q4, 6, none⟩) :: iN .u8 x.many :: iN .u8 (x.many % 4) :: iN .i64 (x.many % 4) :: .bool true :: .bool true :: u12 26 :: u12 27 :: iN .i64 k :: pt q4 :: .pointer (some ⟨q4, k, none⟩) :: iN .u8 (x.ps.getD k 0) :: iN .u8 ((x.ps.getD k 0) % 16) :: .pointer (some ⟨q4, 7, none⟩) :: iN .u16 x.size :: iN .u16 (x.size % 300) :: iN .i64 (x.size % 300) :: iN .i64 (1 + (x.size % 300)) :: .slice (some ⟨q14, 0, none⟩) (1 + (x.size % 300)) (1 + (x.size % 300)) :: .slice (some ⟨q14, 0, none⟩) (1 + (x.size % 300)) (1 + (x.size % 300)) :: iN .i64 n :: iN .u8 n :: pt q14 :: .slice (some ⟨q14, 0, none⟩) (1 + (x.size % 300)) (1 + (x.size % 300)) :: .slice (some ⟨q14, 0, none⟩) (1 + (x.size % 300)) (1 + (x.size % 300)) :: iN .i64 (1 + (x.size % 300)) :: iN .i64 ((1 + (x.size % 300)) - 1) :: iN .i64 n :: iN .i64 k :: iN .i64 (n + k) :: iN .u8 (n + k) :: .pointer (some ⟨q14, (1 + (x.size % 300)) - 1, none⟩) :: u12 9 :: iN .u8 ((x.ps.getD k 0) % 16) :: iN .i64 ((x.ps.getD k 0) % 16) :: .string (nmR ((x.ps.getD k 0) % 16)) :: .slice (some ⟨q14, 0, none⟩) (1 + (x.size % 300)) (1 + (x.size % 300)) :: .string (valB n k x.size) :: rwv ⟨nmR ((x.ps.getD k 0) % 16), valB n k x.size⟩ :: .slice (some ⟨q27, 0, none⟩) 1 1 :: v3 :: u12 61 :: u12 62 :: u12 63 :: u12 64 :: List.replicate 29 un).toArray, []⟩ ∧ Row 64 2 v3 (k + 1) (rcl (chP x n k) ++ [.string (nmR ((x.ps.getD k 0) % 16)), .string (valB n k x.size)]) L3 ∧ HA (bs w) ((q14, 5, bc (valL n k x.size)) :: (q8, 48, stc (List.replicate 16 eB)) :: (q4, 52, tnc x) :: (q3, 48, stc (chN now x n k)) :: (L3 ++ [])) w') (n := 10) 0 (u12 9) rfl (by kernel_rfl) (by kernel_rfl) (by kernel_rfl) (by kernel_rfl) (by kernel_rfl) (by kernel_rfl) (by kernel_rfl) (h23.drew.sub (List.Sublist.cons_cons _ (List.Sublist.cons _ (List.Sublist.cons _ (List.Sublist.cons _ (List.nil_sublist _)))))) ?_ ?_
  ·have h24 := h23.drew
   refine wx_pure (i := 0) (u12 9) rfl rfl (by kernel_rfl) (by kernel_rfl) (fun _ => (by kernel_rfl)) ?_
   refine wx_pure (i := 1) (iN .u8 ((x.ps.getD k 0) % 16)) rfl rfl (by kernel_rfl) (by kernel_rfl) (fun _ => (by kernel_rfl)) ?_
   refine wx_pure (i := 2) (iN .i64 ((x.ps.getD k 0) % 16)) rfl rfl (by kernel_rfl) (by kernel_rfl) (fun _ => (run_conv .i64 Tryz.underlying5 Tryz.underlying3 (by kernel_rfl) (by simp only [top]; omega))) ?_
   refine wx_call (i := 3) (.string (nmR ((x.ps.getD k 0) % 16))) (fun _ _ h hb => HA.keep _ _ h hb) rfl rfl (by kernel_rfl) (by kernel_rfl) enter50 #[iN .i64 ((x.ps.getD k 0) % 16)] (by kernel_rfl) (fun w' h' => name_any (k := (x.ps.getD k 0) % 16) (by omega) w') ?_
   refine wx_pure (i := 4) (.slice (some ⟨q14, 0, none⟩) (1 + (x.size % 300)) (1 + (x.size % 300))) rfl rfl (by kernel_rfl) (by kernel_rfl) (fun _ => (by kernel_rfl)) ?_
   refine wx_val (i := 5) (.string (valB n k x.size)) rfl rfl (by kernel_rfl) (by kernel_rfl) (fun w' h' => ((run_textg (m := 1 + (x.size % 300)) (c := 1 + (x.size % 300)) (l := valL n k x.size) (by kernel_rfl) ((h'.get 0 rfl)) (by rw [valL_len]; omega)).trans (by rw [List.take_of_length_le (by rw [valL_len]; omega)]; rfl))) ?_
   refine wx_call (i := 6) (rwv ⟨nmR ((x.ps.getD k 0) % 16), valB n k x.size⟩) (fun _ _ h hb => HA.keep _ _ h hb) rfl rfl (by kernel_rfl) (by kernel_rfl) enter21 #[.string (nmR ((x.ps.getD k 0) % 16)), .string (valB n k x.size)] (by kernel_rfl) (fun w' h' => row_any _ _ w') ?_
   refine wx_one 7 (by kernel_rfl) ?_
   refine ex_mksS (c := #[.string (nmR ((x.ps.getD k 0) % 16)), .string (valB n k x.size)]) rfl (by kernel_rfl) h24 64 1 1 (fun _ => (by kernel_rfl)) ?_
   intro q27 w25 h26
   refine ⟨(HA.sub h26 (List.Sublist.cons _ (List.Sublist.cons_cons _ (List.Sublist.cons _ (List.Sublist.cons _ (List.Sublist.cons _ (List.nil_sublist _))))))), ?_⟩
   refine wx_one 8 (by kernel_rfl) ?_
   refine ex_doS rfl (by kernel_rfl) h26 fun w28 h29 => ?_
   obtain ⟨v3, wa3, L3, hrun3, hR3, ha3⟩ := row_more (t := 30) hR (h29.perm (List.Perm.cons _ (perm_mv [(q14, 5, bc (valL n k x.size)), (q8, 48, stc (List.replicate 16 eB)), (q4, 52, tnc x), (q3, 48, stc (chN now x n k))] Lp []))) (by decide) (.agg #[.string { data := #[] }, .string { data := #[] }]) 32 30 Tryz.underlying30 info64 rfl (by decide) rfl (by kernel_rfl) (by unfold maxLen; omega) (by omega)
   have h30 : HA (bs w) ((q14, 5, bc (valL n k x.size)) :: (q8, 48, stc (List.replicate 16 eB)) :: (q4, 52, tnc x) :: (q3, 48, stc (chN now x n k)) :: (L3 ++ [])) wa3 := ha3.perm (perm_mv [(q14, 5, bc (valL n k x.size)), (q8, 48, stc (List.replicate 16 eB)), (q4, 52, tnc x), (q3, 48, stc (chN now x n k))] L3 []).symm
   refine ⟨_, _, run_app_ops (by kernel_rfl) (by kernel_rfl) hrun3, (HA.sub h30 (List.Sublist.cons_cons _ (List.Sublist.cons _ (List.Sublist.cons _ (List.Sublist.cons _ (List.nil_sublist _)))))), ?_⟩
   refine wx_pure (i := 9) (v3) rfl rfl (by kernel_rfl) (by kernel_rfl) (fun _ => (by kernel_rfl)) ?_
   refine wx_end fun w31 hbx _ => ?_
   have h32 := HA.keep _ _ h30 hbx
   exact ⟨q27, v3, L3, by kernel_rfl, hR3, h32⟩
  ·rintro _ w33 ⟨q27, v3, L3, rfl, hR3, h34⟩
   refine then_at rfl ?_
   refine wl_region ?_
   refine zwv (iN .u8 ((x.ps.getD k 0) % 16)) ?_
   refine zwv (.slice (some ⟨q14, 0, none⟩) (1 + (x.size % 300)) (1 + (x.size % 300))) ?_
   refine zwx (.string (valB n k x.size)) (((run_textg (m := 1 + (x.size % 300)) (c := 1 + (x.size % 300)) (l := valL n k x.size) (by kernel_rfl) ((h34.get 0 rfl)) (by rw [valL_len]; omega)).trans (by rw [List.take_of_length_le (by rw [valL_len]; omega)]; rfl))) ?_
   refine zwx (.pointer (some ⟨q3, (x.ps.getD k 0) % 16, none⟩)) (run_addr16u (q := q3) (i := (x.ps.getD k 0) % 16) (by kernel_rfl) (by kernel_rfl) (by omega)) ?_
   refine wl_putv (v := .string (valB n k x.size)) h34 3 rfl ((x.ps.getD k 0) % 16) (by rw [stc_size, hcl]; omega) (by kernel_rfl) (fun w => Tryz.sizeOf9 w) (by kernel_rfl) (by kernel_rfl) (by kernel_rfl) ?_
   intro w35 h36
   have h37 : HA (bs w) ((q14, 5, bc (valL n k x.size)) :: (q8, 48, stc (List.replicate 16 eB)) :: (q4, 52, tnc x) :: (q3, 48, stc ((chN now x n k).set ((x.ps.getD k 0) % 16) (valB n k x.size))) :: (L3 ++ [])) w35 := (by rw [← stc_put (chN now x n k) ((x.ps.getD k 0) % 16) (valB n k x.size)]; exact h36)
   clear h36
   refine wl_nil ?_
   refine block_normal ?_
   refine then_at rfl ?_
   refine wl_region ?_
   refine zwv (iN .i64 k) ?_
   refine zwx (iN .i64 (k + 1)) (run_add (k := .i64) (a := k) (b := 1) (by kernel_rfl) (by kernel_rfl) (by first | omega | (simp only [top]; omega))) ?_
   refine zwv (iN .i64 (k + 1)) ?_
   refine wl_nil ?_
   exact then_I ⟨fun ii => (([(9, v3), (12, iN .u8 ((x.ps.getD k 0) % 16)), (13, .slice (some ⟨q14, 0, none⟩) (1 + (x.size % 300)) (1 + (x.size % 300))), (16, iN .i64 k), (17, .bool true), (18, .bool true), (19, iN .i64 k), (20, .pointer (some ⟨q4, 6, none⟩)), (21, iN .u8 x.many), (22, iN .u8 (x.many % 4)), (23, iN .i64 (x.many % 4)), (24, .bool true), (25, .bool true), (26, iN .i64 k), (27, iN .i64 (k + 1)), (28, iN .i64 k), (29, .pointer (some ⟨q4, 0, none⟩)), (30, .pointer (some ⟨q4, k, none⟩)), (31, iN .u8 (x.ps.getD k 0)), (32, iN .u8 ((x.ps.getD k 0) % 16)), (33, .pointer (some ⟨q4, 7, none⟩)), (34, iN .u16 x.size), (35, iN .u16 (x.size % 300)), (36, iN .i64 (x.size % 300)), (37, iN .i64 (1 + (x.size % 300))), (38, .slice (some ⟨q14, 0, none⟩) (1 + (x.size % 300)) (1 + (x.size % 300))), (39, .slice (some ⟨q14, 0, none⟩) (1 + (x.size % 300)) (1 + (x.size % 300))), (40, iN .i64 n), (41, iN .u8 n), (42, .pointer (some ⟨q14, 0, none⟩)), (43, .slice (some ⟨q14, 0, none⟩) (1 + (x.size % 300)) (1 + (x.size % 300))), (44, .slice (some ⟨q14, 0, none⟩) (1 + (x.size % 300)) (1 + (x.size % 300))), (45, iN .i64 (1 + (x.size % 300))), (46, iN .i64 ((1 + (x.size % 300)) - 1)), (47, iN .i64 n), (48, iN .i64 k), (49, iN .i64 (n + k)), (50, iN .u8 (n + k)), (51, .pointer (some ⟨q14, (1 + (x.size % 300)) - 1, none⟩)), (52, u12 9), (53, iN .u8 ((x.ps.getD k 0) % 16)), (54, iN .i64 ((x.ps.getD k 0) % 16)), (55, .string (nmR ((x.ps.getD k 0) % 16))), (56, .slice (some ⟨q14, 0, none⟩) (1 + (x.size % 300)) (1 + (x.size % 300))), (57, .string (valB n k x.size)), (58, rwv ⟨nmR ((x.ps.getD k 0) % 16), valB n k x.size⟩), (59, .slice (some ⟨q27, 0, none⟩) 1 1), (60, v3), (61, iN .u8 ((x.ps.getD k 0) % 16)), (62, .slice (some ⟨q14, 0, none⟩) (1 + (x.size % 300)) (1 + (x.size % 300))), (63, .string (valB n k x.size)), (64, .pointer (some ⟨q3, (x.ps.getD k 0) % 16, none⟩))] : List (Nat × Value)).find? (·.1 == ii)).elim undef (·.2), by kernel_rfl, _, L3, (by have h9 := hR3; rw [chP_succ, rcl_snoc]; exact h9), rfl, by rw [chN_succ]; exact h37.sub (List.Sublist.cons _ (List.Sublist.cons_cons _ (List.Sublist.cons_cons _ (List.Sublist.cons_cons _ (List.Sublist.refl _)))))⟩
 ·rintro _ w38 ⟨u12, rfl, vp, Lp, hR, rfl, hL⟩
  have hcl : (chN now x n (nP x)).length = 16 := (chN_len now x n _).trans hnl
  refine wp_seq ?_
  refine wp_seq ?_
  by_cases h3 : nP x < 3
  ·refine wl_region ?_
   refine zwv (iN .i64 (nP x)) ?_
   refine zwx (.bool true) (run_lss (k := .i64) (a := nP x) (b := 3) (by kernel_rfl) (by kernel_rfl) true (decide_eq_true h3)) ?_
   refine zwv (.bool true) ?_
   refine zwv (iN .i64 (nP x)) ?_
   refine zwv (.pointer (some ⟨q4, 6, none⟩)) ?_
   refine zwx (iN .u8 x.many) (run_load1 (fun w => Tryz.isAgg5 w) (by kernel_rfl) (((hL.get 1 rfl).cell 6).trans rfl)) ?_
   refine zwx (iN .u8 (x.many % 4)) (run_remb (k := .u8) (a := x.many) (n := 4) (by kernel_rfl) (by kernel_rfl) (by decide)) ?_
   refine zwx (iN .i64 (x.many % 4)) (run_conv .i64 Tryz.underlying5 Tryz.underlying3 (by kernel_rfl) (by simp only [top]; omega)) ?_
   refine zwx (.bool false) (run_lss (k := .i64) (a := nP x) (b := x.many % 4) (by kernel_rfl) (by kernel_rfl) false (decide_eq_false (by omega))) ?_
   refine zwv (.bool false) ?_
   refine wl_nil ?_
   refine then_at rfl ?_
   refine wp_cond_false (by kernel_rfl) ?_
   refine wp_exit ?_
   repeat first | refine then_exit ?_ | refine block_exit ?_ | refine block_exit_ne (by decide) ?_
   refine then_at rfl ?_
   refine wp_seq ?_
   refine wp_seq ?_
   refine wl_region ?_
   refine zwv (iN .i64 0) ?_
   refine wl_nil ?_
   refine then_at rfl ?_
   refine wp_block ?_
   refine wp_count (fun k A w' => ∃ u39 : Nat → Value, A = ⟨(.agg (stc now) :: .agg (tnc x) :: iN .i64 n :: pt q3 :: pt q4 :: un :: .slice none 0 0 :: .slice none 0 0 :: pt q8 :: u12 9 :: u39 10 :: iN .i64 (nP x) :: u12 12 :: u12 13 :: iN .i64 k :: u39 15 :: iN .i64 (nP x) :: .bool true :: .bool true :: iN .i64 (nP x) :: .pointer (some ⟨q4, 6, none⟩) :: iN .u8 x.many :: iN .u8 (x.many % 4) :: iN .i64 (x.many % 4) :: .bool false :: .bool false :: u12 26 :: u12 27 :: u12 28 :: u12 29 :: u12 30 :: u12 31 :: u12 32 :: u12 33 :: u12 34 :: u12 35 :: u12 36 :: u12 37 :: u12 38 :: u12 39 :: u12 40 :: u12 41 :: u12 42 :: u12 43 :: u12 44 :: u12 45 :: u12 46 :: u12 47 :: u12 48 :: u12 49 :: u12 50 :: u12 51 :: u12 52 :: u12 53 :: u12 54 :: u12 55 :: u12 56 :: u12 57 :: u12 58 :: u12 59 :: u12 60 :: u12 61 :: u12 62 :: u12 63 :: u12 64 :: u39 65 :: u39 66 :: u39 67 :: u39 68 :: u39 69 :: u39 70 :: u39 71 :: u39 72 :: u39 73 :: u39 74 :: u39 75 :: u39 76 :: u39 77 :: u39 78 :: u39 79 :: u39 80 :: u39 81 :: u39 82 :: u39 83 :: u39 84 :: u39 85 :: u39 86 :: u39 87 :: u39 88 :: u39 89 :: u39 90 :: List.replicate 3 un).toArray, []⟩ ∧ ∃ vd Ld, Row 9 1 vd k (scl (chD x k)) Ld ∧ u39 10 = vd ∧ HA (bs w) ([(q8, 48, stc (List.replicate 16 eB)), (q4, 52, tnc x), (q3, 48, stc (chM (chN now x n (nP x)) x k))] ++ (Ld ++ (Lp ++ []))) w') (nD x) ?_ ?_ ?_
   ·exact ⟨fun ii => (([(10, .slice none 0 0), (15, undef), (65, undef), (66, undef), (67, undef), (68, undef), (69, undef), (70, undef), (71, undef), (72, undef), (73, undef), (74, undef), (75, undef), (76, undef), (77, undef), (78, undef), (79, undef), (80, undef), (81, undef), (82, undef), (83, undef), (84, undef), (85, undef), (86, undef), (87, undef), (88, undef), (89, undef), (90, undef)] : List (Nat × Value)).find? (·.1 == ii)).elim undef (·.2), by kernel_rfl, _, [], Row.nil 9 1, rfl, hL⟩
   ·rintro k hk _ w40 ⟨u39, rfl, vd, Ld, hRd, rfl, hL2⟩
    have hcl : (chM (chN now x n (nP x)) x (k)).length = 16 := (chM_len _ x _).trans ((chN_len now x n _).trans hnl)
    have hdk : x.ds.getD k 0 % 16 < 16 := Nat.mod_lt _ (by decide)
    have hd8 := hx.d k
    refine wp_seq ?_
    refine wp_seq ?_
    refine wl_region ?_
    refine zwv (iN .i64 k) ?_
    refine zwx (.bool true) (run_lss (k := .i64) (a := k) (b := 3) (by kernel_rfl) (by kernel_rfl) true (decide_eq_true (by omega))) ?_
    refine zwv (.bool true) ?_
    refine zwv (iN .i64 k) ?_
    refine zwv (.pointer (some ⟨q4, 6, none⟩)) ?_
    refine zwx (iN .u8 x.many) (run_load1 (fun w => Tryz.isAgg5 w) (by kernel_rfl) (((hL2.get 1 rfl).cell 6).trans rfl)) ?_
    refine zwx (iN .u8 (x.many / 4)) (run_quo (k := .u8) (a := x.many) (b := 4) (by kernel_rfl) (by kernel_rfl) (by decide) (by simp only [top]; omega)) ?_
    refine zwx (iN .u8 ((x.many / 4) % 4)) (run_remb (k := .u8) (a := x.many / 4) (n := 4) (by kernel_rfl) (by kernel_rfl) (by decide)) ?_
    refine zwx (iN .i64 ((x.many / 4) % 4)) (run_conv .i64 Tryz.underlying5 Tryz.underlying3 (by kernel_rfl) (by simp only [top]; omega)) ?_
    refine zwx (.bool true) (run_lss (k := .i64) (a := k) (b := (x.many / 4) % 4) (by kernel_rfl) (by kernel_rfl) true (decide_eq_true (by omega))) ?_
    refine zwv (.bool true) ?_
    refine wl_nil ?_
    refine then_at rfl ?_
    refine wp_cond_true (by kernel_rfl) ?_
    refine wp_skip ?_
    refine then_at rfl ?_
    refine wp_seq ?_
    refine wp_block ?_
    refine wp_seq ?_
    refine wl_region ?_
    refine zwv (iN .i64 k) ?_
    refine zwv (.pointer (some ⟨q4, 3, none⟩)) ?_
    refine zwx (.pointer (some ⟨q4, 3 + k, none⟩)) (run_addr3b (q := q4) (o := 3) (i := k) (by kernel_rfl) (by kernel_rfl) (by omega)) ?_
    refine zwx (iN .u8 (x.ds.getD k 0)) (run_load1 (fun w => Tryz.isAgg5 w) (by kernel_rfl) (((hL2.get 1 rfl).cell (3 + k)).trans (tnc_d x (i := k) (by omega)))) ?_
    refine zwx (iN .u8 ((x.ds.getD k 0) % 16)) (run_remb (k := .u8) (a := x.ds.getD k 0) (n := 16) (by kernel_rfl) (by kernel_rfl) (by decide)) ?_
    refine zwv (iN .u8 ((x.ds.getD k 0) % 16)) ?_
    refine wl_nil ?_
    refine then_at rfl ?_
    refine wp_seq ?_
    refine wl_region ?_
    refine zwv (u39 10) ?_
    refine zwv (iN .u8 ((x.ds.getD k 0) % 16)) ?_
    refine zwx (iN .i64 ((x.ds.getD k 0) % 16)) (run_conv .i64 Tryz.underlying5 Tryz.underlying3 (by kernel_rfl) (by simp only [top]; omega)) ?_
    refine wl_call (v := .string (nmR ((x.ds.getD k 0) % 16))) hL2 (by kernel_rfl) enter50 #[iN .i64 ((x.ds.getD k 0) % 16)] (by kernel_rfl) (name_any (k := (x.ds.getD k 0) % 16) (by omega) w40) ?_
    intro w41 h42
    refine wl_mks (n := 1) (m := 1) (c := #[.string (nmR ((x.ds.getD k 0) % 16))]) h42 9 (by kernel_rfl) (by kernel_rfl) ?_
    intro q43 w44 (h45 : HA (bs w) ((q43, 9, #[.string (nmR ((x.ds.getD k 0) % 16))]) :: (q8, 48, stc (List.replicate 16 eB)) :: (q4, 52, tnc x) :: (q3, 48, stc (chM (chN now x n (nP x)) x k)) :: (Ld ++ (Lp ++ []))) w44)
    have h46 := h45.perm (List.Perm.cons _ (perm_mv [(q8, 48, stc (List.replicate 16 eB)), (q4, 52, tnc x), (q3, 48, stc (chM (chN now x n (nP x)) x k))] Ld (Lp ++ [])))
    refine wl_append (Lr := Ld) (L := [(q8, 48, stc (List.replicate 16 eB)), (q4, 52, tnc x), (q3, 48, stc (chM (chN now x n (nP x)) x k))] ++ (Lp ++ [])) (m := 1) (c := 1) hRd h46 (by decide) (.string { data := #[] }) 16 Tryz.underlying39 info9s rfl (by decide) (by kernel_rfl) (by kernel_rfl) (by kernel_rfl) rfl (by kernel_rfl) (by unfold maxLen; omega) (by omega) (by decide) ?_
    intro v3 w47 L3 hR3 h48
    have h49 : HA (bs w) ((q8, 48, stc (List.replicate 16 eB)) :: (q4, 52, tnc x) :: (q3, 48, stc (chM (chN now x n (nP x)) x k)) :: (L3 ++ (Lp ++ []))) w47 := h48.perm (perm_mv [(q8, 48, stc (List.replicate 16 eB)), (q4, 52, tnc x), (q3, 48, stc (chM (chN now x n (nP x)) x k))] L3 (Lp ++ [])).symm
    refine zwv (v3) ?_
    refine wl_nil ?_
    refine then_at rfl ?_
    refine wl_region ?_
    refine zwv (iN .u8 ((x.ds.getD k 0) % 16)) ?_
    refine zwx (.pointer (some ⟨q3, (x.ds.getD k 0) % 16, none⟩)) (run_addr16u (q := q3) (i := (x.ds.getD k 0) % 16) (by kernel_rfl) (by kernel_rfl) (by omega)) ?_
    refine wl_putv (v := .string ({ data := #[] })) h49 2 rfl ((x.ds.getD k 0) % 16) (by rw [stc_size, hcl]; omega) (by kernel_rfl) (fun w => Tryz.sizeOf9 w) (by kernel_rfl) (by kernel_rfl) (by kernel_rfl) ?_
    intro w50 h51
    have h52 : HA (bs w) ((q8, 48, stc (List.replicate 16 eB)) :: (q4, 52, tnc x) :: (q3, 48, stc ((chM (chN now x n (nP x)) x k).set ((x.ds.getD k 0) % 16) ({ data := #[] }))) :: (L3 ++ (Lp ++ []))) w50 := (by rw [← stc_put (chM (chN now x n (nP x)) x k) ((x.ds.getD k 0) % 16) ({ data := #[] })]; exact h51)
    clear h51
    refine wl_nil ?_
    refine block_normal ?_
    refine then_at rfl ?_
    refine wl_region ?_
    refine zwv (iN .i64 k) ?_
    refine zwx (iN .i64 (k + 1)) (run_add (k := .i64) (a := k) (b := 1) (by kernel_rfl) (by kernel_rfl) (by first | omega | (simp only [top]; omega))) ?_
    refine zwv (iN .i64 (k + 1)) ?_
    refine wl_nil ?_
    exact then_I ⟨fun ii => (([(10, v3), (15, iN .u8 ((x.ds.getD k 0) % 16)), (65, iN .i64 k), (66, .bool true), (67, .bool true), (68, iN .i64 k), (69, .pointer (some ⟨q4, 6, none⟩)), (70, iN .u8 x.many), (71, iN .u8 (x.many / 4)), (72, iN .u8 ((x.many / 4) % 4)), (73, iN .i64 ((x.many / 4) % 4)), (74, .bool true), (75, .bool true), (76, iN .i64 k), (77, iN .i64 (k + 1)), (78, iN .i64 k), (79, .pointer (some ⟨q4, 3, none⟩)), (80, .pointer (some ⟨q4, 3 + k, none⟩)), (81, iN .u8 (x.ds.getD k 0)), (82, iN .u8 ((x.ds.getD k 0) % 16)), (83, u39 10), (84, iN .u8 ((x.ds.getD k 0) % 16)), (85, iN .i64 ((x.ds.getD k 0) % 16)), (86, .string (nmR ((x.ds.getD k 0) % 16))), (87, .slice (some ⟨q43, 0, none⟩) 1 1), (88, v3), (89, iN .u8 ((x.ds.getD k 0) % 16)), (90, .pointer (some ⟨q3, (x.ds.getD k 0) % 16, none⟩))] : List (Nat × Value)).find? (·.1 == ii)).elim undef (·.2), by kernel_rfl, _, L3, (by have h9 := hR3; rw [chD_succ, scl_snoc]; exact h9), rfl, by rw [chM_succ]; exact h52⟩
   ·rintro _ w53 ⟨u39, rfl, vd, Ld, hRd, rfl, hL2⟩
    have hcl : (chM (chN now x n (nP x)) x (nD x)).length = 16 := (chM_len _ x _).trans ((chN_len now x n _).trans hnl)
    refine wp_seq ?_
    refine wp_seq ?_
    by_cases h3 : nD x < 3
    ·refine wl_region ?_
     refine zwv (iN .i64 (nD x)) ?_
     refine zwx (.bool true) (run_lss (k := .i64) (a := nD x) (b := 3) (by kernel_rfl) (by kernel_rfl) true (decide_eq_true h3)) ?_
     refine zwv (.bool true) ?_
     refine zwv (iN .i64 (nD x)) ?_
     refine zwv (.pointer (some ⟨q4, 6, none⟩)) ?_
     refine zwx (iN .u8 x.many) (run_load1 (fun w => Tryz.isAgg5 w) (by kernel_rfl) (((hL2.get 1 rfl).cell 6).trans rfl)) ?_
     refine zwx (iN .u8 (x.many / 4)) (run_quo (k := .u8) (a := x.many) (b := 4) (by kernel_rfl) (by kernel_rfl) (by decide) (by simp only [top]; omega)) ?_
     refine zwx (iN .u8 ((x.many / 4) % 4)) (run_remb (k := .u8) (a := x.many / 4) (n := 4) (by kernel_rfl) (by kernel_rfl) (by decide)) ?_
     refine zwx (iN .i64 ((x.many / 4) % 4)) (run_conv .i64 Tryz.underlying5 Tryz.underlying3 (by kernel_rfl) (by simp only [top]; omega)) ?_
     refine zwx (.bool false) (run_lss (k := .i64) (a := nD x) (b := (x.many / 4) % 4) (by kernel_rfl) (by kernel_rfl) false (decide_eq_false (by omega))) ?_
     refine zwv (.bool false) ?_
     refine wl_nil ?_
     refine then_at rfl ?_
     refine wp_cond_false (by kernel_rfl) ?_
     refine wp_exit ?_
     repeat first | refine then_exit ?_ | refine block_exit ?_ | refine block_exit_ne (by decide) ?_
     refine then_at rfl ?_
     refine wp_seq ?_
     refine wp_region_wx (HA (bs w) ((q8, 48, stc (List.replicate 16 eB)) :: (q4, 52, tnc x) :: (q3, 48, stc (chM (chN now x n (nP x)) x (nD x))) :: (Ld ++ (Lp ++ [])))) (fun AQ w' => AQ = ⟨(.agg (stc now) :: .agg (tnc x) :: iN .i64 n :: pt q3 :: pt q4 :: un :: u12 9 :: u39 10 :: pt q8 :: u12 9 :: u39 10 :: iN .i64 (nP x) :: u12 12 :: u12 13 :: iN .i64 (nD x) :: u39 15 :: iN .i64 (nP x) :: .bool true :: .bool true :: iN .i64 (nP x) :: .pointer (some ⟨q4, 6, none⟩) :: iN .u8 x.many :: iN .u8 (x.many % 4) :: iN .i64 (x.many % 4) :: .bool false :: .bool false :: u12 26 :: u12 27 :: u12 28 :: u12 29 :: u12 30 :: u12 31 :: u12 32 :: u12 33 :: u12 34 :: u12 35 :: u12 36 :: u12 37 :: u12 38 :: u12 39 :: u12 40 :: u12 41 :: u12 42 :: u12 43 :: u12 44 :: u12 45 :: u12 46 :: u12 47 :: u12 48 :: u12 49 :: u12 50 :: u12 51 :: u12 52 :: u12 53 :: u12 54 :: u12 55 :: u12 56 :: u12 57 :: u12 58 :: u12 59 :: u12 60 :: u12 61 :: u12 62 :: u12 63 :: u12 64 :: iN .i64 (nD x) :: .bool true :: .bool true :: iN .i64 (nD x) :: .pointer (some ⟨q4, 6, none⟩) :: iN .u8 x.many :: iN .u8 (x.many / 4) :: iN .u8 ((x.many / 4) % 4) :: iN .i64 ((x.many / 4) % 4) :: .bool false :: .bool false :: u39 76 :: u39 77 :: u39 78 :: u39 79 :: u39 80 :: u39 81 :: u39 82 :: u39 83 :: u39 84 :: u39 85 :: u39 86 :: u39 87 :: u39 88 :: u39 89 :: u39 90 :: u12 9 :: u39 10 :: .agg (stc (chM (chN now x n (nP x)) x (nD x))) :: List.replicate 0 un).toArray, []⟩ ∧ HA (bs w) ((q8, 48, stc (chM (chN now x n (nP x)) x (nD x))) :: (q4, 52, tnc x) :: (q3, 48, stc (chM (chN now x n (nP x)) x (nD x))) :: (Ld ++ (Lp ++ []))) w') 6 (by kernel_rfl) (by kernel_rfl) (by kernel_rfl) (by kernel_rfl) (by kernel_rfl) (hL2.drew) ?_ ?_
     ·have h54 := hL2.drew
      refine wx_pure (i := 0) (u12 9) rfl rfl (by kernel_rfl) (by kernel_rfl) (fun _ => (by kernel_rfl)) ?_
      refine wx_pure (i := 1) (u39 10) rfl rfl (by kernel_rfl) (by kernel_rfl) (fun _ => (by kernel_rfl)) ?_
      refine wx_val (i := 2) (.agg (stc (chM (chN now x n (nP x)) x (nD x)))) rfl rfl (by kernel_rfl) (by kernel_rfl) (fun w' h' => run_load_blk (by kernel_rfl) (h'.get 2 rfl) Tryz.underlying48 rfl (by rw [info48, stc_size, hcl])) ?_
      refine wx_pure (i := 3) (u12 9) rfl rfl (by kernel_rfl) (by kernel_rfl) (fun _ => (by kernel_rfl)) ?_
      refine wx_pure (i := 4) (u39 10) rfl rfl (by kernel_rfl) (by kernel_rfl) (fun _ => (by kernel_rfl)) ?_
      refine wx_one 5 (by kernel_rfl) ?_
      refine ex_skip rfl (by kernel_rfl) (by kernel_rfl) h54 fun w55 h56 => ⟨_, run_store_blk (c' := stc (chM (chN now x n (nP x)) x (nD x))) (by kernel_rfl) (by kernel_rfl) (h56.get 0 rfl) (by rw [stc_size, stc_size, hcl, List.length_replicate]) (by rw [info48, stc_size, hcl]) (stc_one _), _, h56.fill 0 rfl (c' := stc (chM (chN now x n (nP x)) x (nD x))) (by rw [stc_size, stc_size, hcl, List.length_replicate]), ?_⟩
      have h57 : HA (bs w) ((q8, 48, stc (chM (chN now x n (nP x)) x (nD x))) :: (q4, 52, tnc x) :: (q3, 48, stc (chM (chN now x n (nP x)) x (nD x))) :: (Ld ++ (Lp ++ []))) _ := h56.fill 0 rfl (c' := stc (chM (chN now x n (nP x)) x (nD x))) (by rw [stc_size, stc_size, hcl, List.length_replicate])
      refine wx_end fun w58 hbx _ => ?_
      have h59 := HA.keep _ _ h57 hbx
      exact ⟨by kernel_rfl, h59⟩
     ·rintro _ w60 ⟨rfl, h61⟩
      refine then_at rfl ?_
      refine wp_ret ?_
      repeat first | refine then_ret ?_ | refine block_ret ?_
      exact bodyPost_ret (v := .tuple #[u12 9, u39 10, .agg (stc (nextR now x n))]) (res_ttc (p := 6) (r := 7) (q8 := 8) (by kernel_rfl) (by kernel_rfl) (by kernel_rfl) (by kernel_rfl) (h61.get 0 rfl) Tryz.underlying48 rfl (by rw [info48, stc_size, next_len, hnl])) rfl ⟨_, _, Lp, Ld, rfl, hR, hRd, (h61.sub (List.Sublist.cons _ (List.Sublist.cons _ (List.Sublist.cons _ (List.Sublist.refl _))))).perm (by rw [List.append_nil]; exact List.perm_append_comm)⟩
    ·refine wl_region ?_
     refine zwv (iN .i64 (nD x)) ?_
     refine zwx (.bool false) (run_lss (k := .i64) (a := nD x) (b := 3) (by kernel_rfl) (by kernel_rfl) false (decide_eq_false h3)) ?_
     refine zwv (.bool false) ?_
     refine wl_skip (by kernel_rfl) ?_
     refine wl_skip (by kernel_rfl) ?_
     refine wl_skip (by kernel_rfl) ?_
     refine wl_skip (by kernel_rfl) ?_
     refine wl_skip (by kernel_rfl) ?_
     refine wl_skip (by kernel_rfl) ?_
     refine wl_skip (by kernel_rfl) ?_
     refine zwv (.bool false) ?_
     refine wl_nil ?_
     refine then_at rfl ?_
     refine wp_cond_false (by kernel_rfl) ?_
     refine wp_exit ?_
     repeat first | refine then_exit ?_ | refine block_exit ?_ | refine block_exit_ne (by decide) ?_
     refine then_at rfl ?_
     refine wp_seq ?_
     refine wp_region_wx (HA (bs w) ((q8, 48, stc (List.replicate 16 eB)) :: (q4, 52, tnc x) :: (q3, 48, stc (chM (chN now x n (nP x)) x (nD x))) :: (Ld ++ (Lp ++ [])))) (fun AQ w' => AQ = ⟨(.agg (stc now) :: .agg (tnc x) :: iN .i64 n :: pt q3 :: pt q4 :: un :: u12 9 :: u39 10 :: pt q8 :: u12 9 :: u39 10 :: iN .i64 (nP x) :: u12 12 :: u12 13 :: iN .i64 (nD x) :: u39 15 :: iN .i64 (nP x) :: .bool true :: .bool true :: iN .i64 (nP x) :: .pointer (some ⟨q4, 6, none⟩) :: iN .u8 x.many :: iN .u8 (x.many % 4) :: iN .i64 (x.many % 4) :: .bool false :: .bool false :: u12 26 :: u12 27 :: u12 28 :: u12 29 :: u12 30 :: u12 31 :: u12 32 :: u12 33 :: u12 34 :: u12 35 :: u12 36 :: u12 37 :: u12 38 :: u12 39 :: u12 40 :: u12 41 :: u12 42 :: u12 43 :: u12 44 :: u12 45 :: u12 46 :: u12 47 :: u12 48 :: u12 49 :: u12 50 :: u12 51 :: u12 52 :: u12 53 :: u12 54 :: u12 55 :: u12 56 :: u12 57 :: u12 58 :: u12 59 :: u12 60 :: u12 61 :: u12 62 :: u12 63 :: u12 64 :: iN .i64 (nD x) :: .bool false :: .bool false :: un :: un :: un :: un :: un :: un :: un :: .bool false :: u39 76 :: u39 77 :: u39 78 :: u39 79 :: u39 80 :: u39 81 :: u39 82 :: u39 83 :: u39 84 :: u39 85 :: u39 86 :: u39 87 :: u39 88 :: u39 89 :: u39 90 :: u12 9 :: u39 10 :: .agg (stc (chM (chN now x n (nP x)) x (nD x))) :: List.replicate 0 un).toArray, []⟩ ∧ HA (bs w) ((q8, 48, stc (chM (chN now x n (nP x)) x (nD x))) :: (q4, 52, tnc x) :: (q3, 48, stc (chM (chN now x n (nP x)) x (nD x))) :: (Ld ++ (Lp ++ []))) w') 6 (by kernel_rfl) (by kernel_rfl) (by kernel_rfl) (by kernel_rfl) (by kernel_rfl) (hL2.drew) ?_ ?_
     ·have h62 := hL2.drew
      refine wx_pure (i := 0) (u12 9) rfl rfl (by kernel_rfl) (by kernel_rfl) (fun _ => (by kernel_rfl)) ?_
      refine wx_pure (i := 1) (u39 10) rfl rfl (by kernel_rfl) (by kernel_rfl) (fun _ => (by kernel_rfl)) ?_
      refine wx_val (i := 2) (.agg (stc (chM (chN now x n (nP x)) x (nD x)))) rfl rfl (by kernel_rfl) (by kernel_rfl) (fun w' h' => run_load_blk (by kernel_rfl) (h'.get 2 rfl) Tryz.underlying48 rfl (by rw [info48, stc_size, hcl])) ?_
      refine wx_pure (i := 3) (u12 9) rfl rfl (by kernel_rfl) (by kernel_rfl) (fun _ => (by kernel_rfl)) ?_
      refine wx_pure (i := 4) (u39 10) rfl rfl (by kernel_rfl) (by kernel_rfl) (fun _ => (by kernel_rfl)) ?_
      refine wx_one 5 (by kernel_rfl) ?_
      refine ex_skip rfl (by kernel_rfl) (by kernel_rfl) h62 fun w63 h64 => ⟨_, run_store_blk (c' := stc (chM (chN now x n (nP x)) x (nD x))) (by kernel_rfl) (by kernel_rfl) (h64.get 0 rfl) (by rw [stc_size, stc_size, hcl, List.length_replicate]) (by rw [info48, stc_size, hcl]) (stc_one _), _, h64.fill 0 rfl (c' := stc (chM (chN now x n (nP x)) x (nD x))) (by rw [stc_size, stc_size, hcl, List.length_replicate]), ?_⟩
      have h65 : HA (bs w) ((q8, 48, stc (chM (chN now x n (nP x)) x (nD x))) :: (q4, 52, tnc x) :: (q3, 48, stc (chM (chN now x n (nP x)) x (nD x))) :: (Ld ++ (Lp ++ []))) _ := h64.fill 0 rfl (c' := stc (chM (chN now x n (nP x)) x (nD x))) (by rw [stc_size, stc_size, hcl, List.length_replicate])
      refine wx_end fun w66 hbx _ => ?_
      have h67 := HA.keep _ _ h65 hbx
      exact ⟨by kernel_rfl, h67⟩
     ·rintro _ w68 ⟨rfl, h69⟩
      refine then_at rfl ?_
      refine wp_ret ?_
      repeat first | refine then_ret ?_ | refine block_ret ?_
      exact bodyPost_ret (v := .tuple #[u12 9, u39 10, .agg (stc (nextR now x n))]) (res_ttc (p := 6) (r := 7) (q8 := 8) (by kernel_rfl) (by kernel_rfl) (by kernel_rfl) (by kernel_rfl) (h69.get 0 rfl) Tryz.underlying48 rfl (by rw [info48, stc_size, next_len, hnl])) rfl ⟨_, _, Lp, Ld, rfl, hR, hRd, (h69.sub (List.Sublist.cons _ (List.Sublist.cons _ (List.Sublist.cons _ (List.Sublist.refl _))))).perm (by rw [List.append_nil]; exact List.perm_append_comm)⟩
  ·refine wl_region ?_
   refine zwv (iN .i64 (nP x)) ?_
   refine zwx (.bool false) (run_lss (k := .i64) (a := nP x) (b := 3) (by kernel_rfl) (by kernel_rfl) false (decide_eq_false h3)) ?_
   refine zwv (.bool false) ?_
   refine wl_skip (by kernel_rfl) ?_
   refine wl_skip (by kernel_rfl) ?_
   refine wl_skip (by kernel_rfl) ?_
   refine wl_skip (by kernel_rfl) ?_
   refine wl_skip (by kernel_rfl) ?_
   refine wl_skip (by kernel_rfl) ?_
   refine zwv (.bool false) ?_
   refine wl_nil ?_
   refine then_at rfl ?_
   refine wp_cond_false (by kernel_rfl) ?_
   refine wp_exit ?_
   repeat first | refine then_exit ?_ | refine block_exit ?_ | refine block_exit_ne (by decide) ?_
   refine then_at rfl ?_
   refine wp_seq ?_
   refine wp_seq ?_
   refine wl_region ?_
   refine zwv (iN .i64 0) ?_
   refine wl_nil ?_
   refine then_at rfl ?_
   refine wp_block ?_
   refine wp_count (fun k A w' => ∃ u70 : Nat → Value, A = ⟨(.agg (stc now) :: .agg (tnc x) :: iN .i64 n :: pt q3 :: pt q4 :: un :: .slice none 0 0 :: .slice none 0 0 :: pt q8 :: u12 9 :: u70 10 :: iN .i64 (nP x) :: u12 12 :: u12 13 :: iN .i64 k :: u70 15 :: iN .i64 (nP x) :: .bool false :: .bool false :: un :: un :: un :: un :: un :: un :: .bool false :: u12 26 :: u12 27 :: u12 28 :: u12 29 :: u12 30 :: u12 31 :: u12 32 :: u12 33 :: u12 34 :: u12 35 :: u12 36 :: u12 37 :: u12 38 :: u12 39 :: u12 40 :: u12 41 :: u12 42 :: u12 43 :: u12 44 :: u12 45 :: u12 46 :: u12 47 :: u12 48 :: u12 49 :: u12 50 :: u12 51 :: u12 52 :: u12 53 :: u12 54 :: u12 55 :: u12 56 :: u12 57 :: u12 58 :: u12 59 :: u12 60 :: u12 61 :: u12 62 :: u12 63 :: u12 64 :: u70 65 :: u70 66 :: u70 67 :: u70 68 :: u70 69 :: u70 70 :: u70 71 :: u70 72 :: u70 73 :: u70 74 :: u70 75 :: u70 76 :: u70 77 :: u70 78 :: u70 79 :: u70 80 :: u70 81 :: u70 82 :: u70 83 :: u70 84 :: u70 85 :: u70 86 :: u70 87 :: u70 88 :: u70 89 :: u70 90 :: List.replicate 3 un).toArray, []⟩ ∧ ∃ vd Ld, Row 9 1 vd k (scl (chD x k)) Ld ∧ u70 10 = vd ∧ HA (bs w) ([(q8, 48, stc (List.replicate 16 eB)), (q4, 52, tnc x), (q3, 48, stc (chM (chN now x n (nP x)) x k))] ++ (Ld ++ (Lp ++ []))) w') (nD x) ?_ ?_ ?_
   ·exact ⟨fun ii => (([(10, .slice none 0 0), (15, undef), (65, undef), (66, undef), (67, undef), (68, undef), (69, undef), (70, undef), (71, undef), (72, undef), (73, undef), (74, undef), (75, undef), (76, undef), (77, undef), (78, undef), (79, undef), (80, undef), (81, undef), (82, undef), (83, undef), (84, undef), (85, undef), (86, undef), (87, undef), (88, undef), (89, undef), (90, undef)] : List (Nat × Value)).find? (·.1 == ii)).elim undef (·.2), by kernel_rfl, _, [], Row.nil 9 1, rfl, hL⟩
   ·rintro k hk _ w71 ⟨u70, rfl, vd, Ld, hRd, rfl, hL2⟩
    have hcl : (chM (chN now x n (nP x)) x (k)).length = 16 := (chM_len _ x _).trans ((chN_len now x n _).trans hnl)
    have hdk : x.ds.getD k 0 % 16 < 16 := Nat.mod_lt _ (by decide)
    have hd8 := hx.d k
    refine wp_seq ?_
    refine wp_seq ?_
    refine wl_region ?_
    refine zwv (iN .i64 k) ?_
    refine zwx (.bool true) (run_lss (k := .i64) (a := k) (b := 3) (by kernel_rfl) (by kernel_rfl) true (decide_eq_true (by omega))) ?_
    refine zwv (.bool true) ?_
    refine zwv (iN .i64 k) ?_
    refine zwv (.pointer (some ⟨q4, 6, none⟩)) ?_
    refine zwx (iN .u8 x.many) (run_load1 (fun w => Tryz.isAgg5 w) (by kernel_rfl) (((hL2.get 1 rfl).cell 6).trans rfl)) ?_
    refine zwx (iN .u8 (x.many / 4)) (run_quo (k := .u8) (a := x.many) (b := 4) (by kernel_rfl) (by kernel_rfl) (by decide) (by simp only [top]; omega)) ?_
    refine zwx (iN .u8 ((x.many / 4) % 4)) (run_remb (k := .u8) (a := x.many / 4) (n := 4) (by kernel_rfl) (by kernel_rfl) (by decide)) ?_
    refine zwx (iN .i64 ((x.many / 4) % 4)) (run_conv .i64 Tryz.underlying5 Tryz.underlying3 (by kernel_rfl) (by simp only [top]; omega)) ?_
    refine zwx (.bool true) (run_lss (k := .i64) (a := k) (b := (x.many / 4) % 4) (by kernel_rfl) (by kernel_rfl) true (decide_eq_true (by omega))) ?_
    refine zwv (.bool true) ?_
    refine wl_nil ?_
    refine then_at (F := ⟨(.agg (stc now) :: .agg (tnc x) :: iN .i64 n :: pt q3 :: pt q4 :: un :: .slice none 0 0 :: .slice none 0 0 :: pt q8 :: u12 9 :: u70 10 :: iN .i64 (nP x) :: u12 12 :: u12 13 :: iN .i64 k :: u70 15 :: iN .i64 (nP x) :: .bool false :: .bool false :: un :: un :: un :: un :: un :: un :: .bool false :: u12 26 :: u12 27 :: u12 28 :: u12 29 :: u12 30 :: u12 31 :: u12 32 :: u12 33 :: u12 34 :: u12 35 :: u12 36 :: u12 37 :: u12 38 :: u12 39 :: u12 40 :: u12 41 :: u12 42 :: u12 43 :: u12 44 :: u12 45 :: u12 46 :: u12 47 :: u12 48 :: u12 49 :: u12 50 :: u12 51 :: u12 52 :: u12 53 :: u12 54 :: u12 55 :: u12 56 :: u12 57 :: u12 58 :: u12 59 :: u12 60 :: u12 61 :: u12 62 :: u12 63 :: u12 64 :: iN .i64 k :: .bool true :: .bool true :: iN .i64 k :: .pointer (some ⟨q4, 6, none⟩) :: iN .u8 x.many :: iN .u8 (x.many / 4) :: iN .u8 ((x.many / 4) % 4) :: iN .i64 ((x.many / 4) % 4) :: .bool true :: .bool true :: u70 76 :: u70 77 :: u70 78 :: u70 79 :: u70 80 :: u70 81 :: u70 82 :: u70 83 :: u70 84 :: u70 85 :: u70 86 :: u70 87 :: u70 88 :: u70 89 :: u70 90 :: List.replicate 3 un).toArray, []⟩) (by kernel_rfl) ?_
    refine wp_cond_true (by kernel_rfl) ?_
    refine wp_skip ?_
    refine then_at rfl ?_
    refine wp_seq ?_
    refine wp_block ?_
    refine wp_seq ?_
    refine wl_region ?_
    refine zwv (iN .i64 k) ?_
    refine zwv (.pointer (some ⟨q4, 3, none⟩)) ?_
    refine zwx (.pointer (some ⟨q4, 3 + k, none⟩)) (run_addr3b (q := q4) (o := 3) (i := k) (by kernel_rfl) (by kernel_rfl) (by omega)) ?_
    refine zwx (iN .u8 (x.ds.getD k 0)) (run_load1 (fun w => Tryz.isAgg5 w) (by kernel_rfl) (((hL2.get 1 rfl).cell (3 + k)).trans (tnc_d x (i := k) (by omega)))) ?_
    refine zwx (iN .u8 ((x.ds.getD k 0) % 16)) (run_remb (k := .u8) (a := x.ds.getD k 0) (n := 16) (by kernel_rfl) (by kernel_rfl) (by decide)) ?_
    refine zwv (iN .u8 ((x.ds.getD k 0) % 16)) ?_
    refine wl_nil ?_
    refine then_at rfl ?_
    refine wp_seq ?_
    refine wl_region ?_
    refine zwv (u70 10) ?_
    refine zwv (iN .u8 ((x.ds.getD k 0) % 16)) ?_
    refine zwx (iN .i64 ((x.ds.getD k 0) % 16)) (run_conv .i64 Tryz.underlying5 Tryz.underlying3 (by kernel_rfl) (by simp only [top]; omega)) ?_
    refine wl_call (v := .string (nmR ((x.ds.getD k 0) % 16))) hL2 (by kernel_rfl) enter50 #[iN .i64 ((x.ds.getD k 0) % 16)] (by kernel_rfl) (name_any (k := (x.ds.getD k 0) % 16) (by omega) w71) ?_
    intro w72 h73
    refine wl_mks (n := 1) (m := 1) (c := #[.string (nmR ((x.ds.getD k 0) % 16))]) h73 9 (by kernel_rfl) (by kernel_rfl) ?_
    intro q74 w75 (h76 : HA (bs w) ((q74, 9, #[.string (nmR ((x.ds.getD k 0) % 16))]) :: (q8, 48, stc (List.replicate 16 eB)) :: (q4, 52, tnc x) :: (q3, 48, stc (chM (chN now x n (nP x)) x k)) :: (Ld ++ (Lp ++ []))) w75)
    have h77 := h76.perm (List.Perm.cons _ (perm_mv [(q8, 48, stc (List.replicate 16 eB)), (q4, 52, tnc x), (q3, 48, stc (chM (chN now x n (nP x)) x k))] Ld (Lp ++ [])))
    refine wl_append (Lr := Ld) (L := [(q8, 48, stc (List.replicate 16 eB)), (q4, 52, tnc x), (q3, 48, stc (chM (chN now x n (nP x)) x k))] ++ (Lp ++ [])) (m := 1) (c := 1) hRd h77 (by decide) (.string { data := #[] }) 16 Tryz.underlying39 info9s rfl (by decide) (by kernel_rfl) (by kernel_rfl) (by kernel_rfl) rfl (by kernel_rfl) (by unfold maxLen; omega) (by omega) (by decide) ?_
    intro v3 w78 L3 hR3 h79
    have h80 : HA (bs w) ((q8, 48, stc (List.replicate 16 eB)) :: (q4, 52, tnc x) :: (q3, 48, stc (chM (chN now x n (nP x)) x k)) :: (L3 ++ (Lp ++ []))) w78 := h79.perm (perm_mv [(q8, 48, stc (List.replicate 16 eB)), (q4, 52, tnc x), (q3, 48, stc (chM (chN now x n (nP x)) x k))] L3 (Lp ++ [])).symm
    refine zwv (v3) ?_
    refine wl_nil ?_
    refine then_at rfl ?_
    refine wl_region ?_
    refine zwv (iN .u8 ((x.ds.getD k 0) % 16)) ?_
    refine zwx (.pointer (some ⟨q3, (x.ds.getD k 0) % 16, none⟩)) (run_addr16u (q := q3) (i := (x.ds.getD k 0) % 16) (by kernel_rfl) (by kernel_rfl) (by omega)) ?_
    refine wl_putv (v := .string ({ data := #[] })) h80 2 rfl ((x.ds.getD k 0) % 16) (by rw [stc_size, hcl]; omega) (by kernel_rfl) (fun w => Tryz.sizeOf9 w) (by kernel_rfl) (by kernel_rfl) (by kernel_rfl) ?_
    intro w81 h82
    have h83 : HA (bs w) ((q8, 48, stc (List.replicate 16 eB)) :: (q4, 52, tnc x) :: (q3, 48, stc ((chM (chN now x n (nP x)) x k).set ((x.ds.getD k 0) % 16) ({ data := #[] }))) :: (L3 ++ (Lp ++ []))) w81 := (by rw [← stc_put (chM (chN now x n (nP x)) x k) ((x.ds.getD k 0) % 16) ({ data := #[] })]; exact h82)
    clear h82
    refine wl_nil ?_
    refine block_normal ?_
    refine then_at rfl ?_
    refine wl_region ?_
    refine zwv (iN .i64 k) ?_
    refine zwx (iN .i64 (k + 1)) (run_add (k := .i64) (a := k) (b := 1) (by kernel_rfl) (by kernel_rfl) (by first | omega | (simp only [top]; omega))) ?_
    refine zwv (iN .i64 (k + 1)) ?_
    refine wl_nil ?_
    exact then_I ⟨fun ii => (([(10, v3), (15, iN .u8 ((x.ds.getD k 0) % 16)), (65, iN .i64 k), (66, .bool true), (67, .bool true), (68, iN .i64 k), (69, .pointer (some ⟨q4, 6, none⟩)), (70, iN .u8 x.many), (71, iN .u8 (x.many / 4)), (72, iN .u8 ((x.many / 4) % 4)), (73, iN .i64 ((x.many / 4) % 4)), (74, .bool true), (75, .bool true), (76, iN .i64 k), (77, iN .i64 (k + 1)), (78, iN .i64 k), (79, .pointer (some ⟨q4, 3, none⟩)), (80, .pointer (some ⟨q4, 3 + k, none⟩)), (81, iN .u8 (x.ds.getD k 0)), (82, iN .u8 ((x.ds.getD k 0) % 16)), (83, u70 10), (84, iN .u8 ((x.ds.getD k 0) % 16)), (85, iN .i64 ((x.ds.getD k 0) % 16)), (86, .string (nmR ((x.ds.getD k 0) % 16))), (87, .slice (some ⟨q74, 0, none⟩) 1 1), (88, v3), (89, iN .u8 ((x.ds.getD k 0) % 16)), (90, .pointer (some ⟨q3, (x.ds.getD k 0) % 16, none⟩))] : List (Nat × Value)).find? (·.1 == ii)).elim undef (·.2), by kernel_rfl, _, L3, (by have h9 := hR3; rw [chD_succ, scl_snoc]; exact h9), rfl, by rw [chM_succ]; exact h83⟩
   ·rintro _ w84 ⟨u70, rfl, vd, Ld, hRd, rfl, hL2⟩
    have hcl : (chM (chN now x n (nP x)) x (nD x)).length = 16 := (chM_len _ x _).trans ((chN_len now x n _).trans hnl)
    refine wp_seq ?_
    refine wp_seq ?_
    by_cases h3 : nD x < 3
    ·refine wl_region ?_
     refine zwv (iN .i64 (nD x)) ?_
     refine zwx (.bool true) (run_lss (k := .i64) (a := nD x) (b := 3) (by kernel_rfl) (by kernel_rfl) true (decide_eq_true h3)) ?_
     refine zwv (.bool true) ?_
     refine zwv (iN .i64 (nD x)) ?_
     refine zwv (.pointer (some ⟨q4, 6, none⟩)) ?_
     refine zwx (iN .u8 x.many) (run_load1 (fun w => Tryz.isAgg5 w) (by kernel_rfl) (((hL2.get 1 rfl).cell 6).trans rfl)) ?_
     refine zwx (iN .u8 (x.many / 4)) (run_quo (k := .u8) (a := x.many) (b := 4) (by kernel_rfl) (by kernel_rfl) (by decide) (by simp only [top]; omega)) ?_
     refine zwx (iN .u8 ((x.many / 4) % 4)) (run_remb (k := .u8) (a := x.many / 4) (n := 4) (by kernel_rfl) (by kernel_rfl) (by decide)) ?_
     refine zwx (iN .i64 ((x.many / 4) % 4)) (run_conv .i64 Tryz.underlying5 Tryz.underlying3 (by kernel_rfl) (by simp only [top]; omega)) ?_
     refine zwx (.bool false) (run_lss (k := .i64) (a := nD x) (b := (x.many / 4) % 4) (by kernel_rfl) (by kernel_rfl) false (decide_eq_false (by omega))) ?_
     refine zwv (.bool false) ?_
     refine wl_nil ?_
     refine then_at rfl ?_
     refine wp_cond_false (by kernel_rfl) ?_
     refine wp_exit ?_
     repeat first | refine then_exit ?_ | refine block_exit ?_ | refine block_exit_ne (by decide) ?_
     refine then_at rfl ?_
     refine wp_seq ?_
     refine wp_region_wx (HA (bs w) ((q8, 48, stc (List.replicate 16 eB)) :: (q4, 52, tnc x) :: (q3, 48, stc (chM (chN now x n (nP x)) x (nD x))) :: (Ld ++ (Lp ++ [])))) (fun AQ w' => AQ = ⟨(.agg (stc now) :: .agg (tnc x) :: iN .i64 n :: pt q3 :: pt q4 :: un :: u12 9 :: u70 10 :: pt q8 :: u12 9 :: u70 10 :: iN .i64 (nP x) :: u12 12 :: u12 13 :: iN .i64 (nD x) :: u70 15 :: iN .i64 (nP x) :: .bool false :: .bool false :: un :: un :: un :: un :: un :: un :: .bool false :: u12 26 :: u12 27 :: u12 28 :: u12 29 :: u12 30 :: u12 31 :: u12 32 :: u12 33 :: u12 34 :: u12 35 :: u12 36 :: u12 37 :: u12 38 :: u12 39 :: u12 40 :: u12 41 :: u12 42 :: u12 43 :: u12 44 :: u12 45 :: u12 46 :: u12 47 :: u12 48 :: u12 49 :: u12 50 :: u12 51 :: u12 52 :: u12 53 :: u12 54 :: u12 55 :: u12 56 :: u12 57 :: u12 58 :: u12 59 :: u12 60 :: u12 61 :: u12 62 :: u12 63 :: u12 64 :: iN .i64 (nD x) :: .bool true :: .bool true :: iN .i64 (nD x) :: .pointer (some ⟨q4, 6, none⟩) :: iN .u8 x.many :: iN .u8 (x.many / 4) :: iN .u8 ((x.many / 4) % 4) :: iN .i64 ((x.many / 4) % 4) :: .bool false :: .bool false :: u70 76 :: u70 77 :: u70 78 :: u70 79 :: u70 80 :: u70 81 :: u70 82 :: u70 83 :: u70 84 :: u70 85 :: u70 86 :: u70 87 :: u70 88 :: u70 89 :: u70 90 :: u12 9 :: u70 10 :: .agg (stc (chM (chN now x n (nP x)) x (nD x))) :: List.replicate 0 un).toArray, []⟩ ∧ HA (bs w) ((q8, 48, stc (chM (chN now x n (nP x)) x (nD x))) :: (q4, 52, tnc x) :: (q3, 48, stc (chM (chN now x n (nP x)) x (nD x))) :: (Ld ++ (Lp ++ []))) w') 6 (by kernel_rfl) (by kernel_rfl) (by kernel_rfl) (by kernel_rfl) (by kernel_rfl) (hL2.drew) ?_ ?_
     ·have h85 := hL2.drew
      refine wx_pure (i := 0) (u12 9) rfl rfl (by kernel_rfl) (by kernel_rfl) (fun _ => (by kernel_rfl)) ?_
      refine wx_pure (i := 1) (u70 10) rfl rfl (by kernel_rfl) (by kernel_rfl) (fun _ => (by kernel_rfl)) ?_
      refine wx_val (i := 2) (.agg (stc (chM (chN now x n (nP x)) x (nD x)))) rfl rfl (by kernel_rfl) (by kernel_rfl) (fun w' h' => run_load_blk (by kernel_rfl) (h'.get 2 rfl) Tryz.underlying48 rfl (by rw [info48, stc_size, hcl])) ?_
      refine wx_pure (i := 3) (u12 9) rfl rfl (by kernel_rfl) (by kernel_rfl) (fun _ => (by kernel_rfl)) ?_
      refine wx_pure (i := 4) (u70 10) rfl rfl (by kernel_rfl) (by kernel_rfl) (fun _ => (by kernel_rfl)) ?_
      refine wx_one 5 (by kernel_rfl) ?_
      refine ex_skip rfl (by kernel_rfl) (by kernel_rfl) h85 fun w86 h87 => ⟨_, run_store_blk (c' := stc (chM (chN now x n (nP x)) x (nD x))) (by kernel_rfl) (by kernel_rfl) (h87.get 0 rfl) (by rw [stc_size, stc_size, hcl, List.length_replicate]) (by rw [info48, stc_size, hcl]) (stc_one _), _, h87.fill 0 rfl (c' := stc (chM (chN now x n (nP x)) x (nD x))) (by rw [stc_size, stc_size, hcl, List.length_replicate]), ?_⟩
      have h88 : HA (bs w) ((q8, 48, stc (chM (chN now x n (nP x)) x (nD x))) :: (q4, 52, tnc x) :: (q3, 48, stc (chM (chN now x n (nP x)) x (nD x))) :: (Ld ++ (Lp ++ []))) _ := h87.fill 0 rfl (c' := stc (chM (chN now x n (nP x)) x (nD x))) (by rw [stc_size, stc_size, hcl, List.length_replicate])
      refine wx_end fun w89 hbx _ => ?_
      have h90 := HA.keep _ _ h88 hbx
      exact ⟨by kernel_rfl, h90⟩
     ·rintro _ w91 ⟨rfl, h92⟩
      refine then_at rfl ?_
      refine wp_ret ?_
      repeat first | refine then_ret ?_ | refine block_ret ?_
      exact bodyPost_ret (v := .tuple #[u12 9, u70 10, .agg (stc (nextR now x n))]) (res_ttc (p := 6) (r := 7) (q8 := 8) (by kernel_rfl) (by kernel_rfl) (by kernel_rfl) (by kernel_rfl) (h92.get 0 rfl) Tryz.underlying48 rfl (by rw [info48, stc_size, next_len, hnl])) rfl ⟨_, _, Lp, Ld, rfl, hR, hRd, (h92.sub (List.Sublist.cons _ (List.Sublist.cons _ (List.Sublist.cons _ (List.Sublist.refl _))))).perm (by rw [List.append_nil]; exact List.perm_append_comm)⟩
    ·refine wl_region ?_
     refine zwv (iN .i64 (nD x)) ?_
     refine zwx (.bool false) (run_lss (k := .i64) (a := nD x) (b := 3) (by kernel_rfl) (by kernel_rfl) false (decide_eq_false h3)) ?_
     refine zwv (.bool false) ?_
     refine wl_skip (by kernel_rfl) ?_
     refine wl_skip (by kernel_rfl) ?_
     refine wl_skip (by kernel_rfl) ?_
     refine wl_skip (by kernel_rfl) ?_
     refine wl_skip (by kernel_rfl) ?_
     refine wl_skip (by kernel_rfl) ?_
     refine wl_skip (by kernel_rfl) ?_
     refine zwv (.bool false) ?_
     refine wl_nil ?_
     refine then_at rfl ?_
     refine wp_cond_false (by kernel_rfl) ?_
     refine wp_exit ?_
     repeat first | refine then_exit ?_ | refine block_exit ?_ | refine block_exit_ne (by decide) ?_
     refine then_at rfl ?_
     refine wp_seq ?_
     refine wp_region_wx (HA (bs w) ((q8, 48, stc (List.replicate 16 eB)) :: (q4, 52, tnc x) :: (q3, 48, stc (chM (chN now x n (nP x)) x (nD x))) :: (Ld ++ (Lp ++ [])))) (fun AQ w' => AQ = ⟨(.agg (stc now) :: .agg (tnc x) :: iN .i64 n :: pt q3 :: pt q4 :: un :: u12 9 :: u70 10 :: pt q8 :: u12 9 :: u70 10 :: iN .i64 (nP x) :: u12 12 :: u12 13 :: iN .i64 (nD x) :: u70 15 :: iN .i64 (nP x) :: .bool false :: .bool false :: un :: un :: un :: un :: un :: un :: .bool false :: u12 26 :: u12 27 :: u12 28 :: u12 29 :: u12 30 :: u12 31 :: u12 32 :: u12 33 :: u12 34 :: u12 35 :: u12 36 :: u12 37 :: u12 38 :: u12 39 :: u12 40 :: u12 41 :: u12 42 :: u12 43 :: u12 44 :: u12 45 :: u12 46 :: u12 47 :: u12 48 :: u12 49 :: u12 50 :: u12 51 :: u12 52 :: u12 53 :: u12 54 :: u12 55 :: u12 56 :: u12 57 :: u12 58 :: u12 59 :: u12 60 :: u12 61 :: u12 62 :: u12 63 :: u12 64 :: iN .i64 (nD x) :: .bool false :: .bool false :: un :: un :: un :: un :: un :: un :: un :: .bool false :: u70 76 :: u70 77 :: u70 78 :: u70 79 :: u70 80 :: u70 81 :: u70 82 :: u70 83 :: u70 84 :: u70 85 :: u70 86 :: u70 87 :: u70 88 :: u70 89 :: u70 90 :: u12 9 :: u70 10 :: .agg (stc (chM (chN now x n (nP x)) x (nD x))) :: List.replicate 0 un).toArray, []⟩ ∧ HA (bs w) ((q8, 48, stc (chM (chN now x n (nP x)) x (nD x))) :: (q4, 52, tnc x) :: (q3, 48, stc (chM (chN now x n (nP x)) x (nD x))) :: (Ld ++ (Lp ++ []))) w') 6 (by kernel_rfl) (by kernel_rfl) (by kernel_rfl) (by kernel_rfl) (by kernel_rfl) (hL2.drew) ?_ ?_
     ·have h93 := hL2.drew
      refine wx_pure (i := 0) (u12 9) rfl rfl (by kernel_rfl) (by kernel_rfl) (fun _ => (by kernel_rfl)) ?_
      refine wx_pure (i := 1) (u70 10) rfl rfl (by kernel_rfl) (by kernel_rfl) (fun _ => (by kernel_rfl)) ?_
      refine wx_val (i := 2) (.agg (stc (chM (chN now x n (nP x)) x (nD x)))) rfl rfl (by kernel_rfl) (by kernel_rfl) (fun w' h' => run_load_blk (by kernel_rfl) (h'.get 2 rfl) Tryz.underlying48 rfl (by rw [info48, stc_size, hcl])) ?_
      refine wx_pure (i := 3) (u12 9) rfl rfl (by kernel_rfl) (by kernel_rfl) (fun _ => (by kernel_rfl)) ?_
      refine wx_pure (i := 4) (u70 10) rfl rfl (by kernel_rfl) (by kernel_rfl) (fun _ => (by kernel_rfl)) ?_
      refine wx_one 5 (by kernel_rfl) ?_
      refine ex_skip rfl (by kernel_rfl) (by kernel_rfl) h93 fun w94 h95 => ⟨_, run_store_blk (c' := stc (chM (chN now x n (nP x)) x (nD x))) (by kernel_rfl) (by kernel_rfl) (h95.get 0 rfl) (by rw [stc_size, stc_size, hcl, List.length_replicate]) (by rw [info48, stc_size, hcl]) (stc_one _), _, h95.fill 0 rfl (c' := stc (chM (chN now x n (nP x)) x (nD x))) (by rw [stc_size, stc_size, hcl, List.length_replicate]), ?_⟩
      have h96 : HA (bs w) ((q8, 48, stc (chM (chN now x n (nP x)) x (nD x))) :: (q4, 52, tnc x) :: (q3, 48, stc (chM (chN now x n (nP x)) x (nD x))) :: (Ld ++ (Lp ++ []))) _ := h95.fill 0 rfl (c' := stc (chM (chN now x n (nP x)) x (nD x))) (by rw [stc_size, stc_size, hcl, List.length_replicate])
      refine wx_end fun w97 hbx _ => ?_
      have h98 := HA.keep _ _ h96 hbx
      exact ⟨by kernel_rfl, h98⟩
     ·rintro _ w99 ⟨rfl, h100⟩
      refine then_at rfl ?_
      refine wp_ret ?_
      repeat first | refine then_ret ?_ | refine block_ret ?_
      exact bodyPost_ret (v := .tuple #[u12 9, u70 10, .agg (stc (nextR now x n))]) (res_ttc (p := 6) (r := 7) (q8 := 8) (by kernel_rfl) (by kernel_rfl) (by kernel_rfl) (by kernel_rfl) (h100.get 0 rfl) Tryz.underlying48 rfl (by rw [info48, stc_size, next_len, hnl])) rfl ⟨_, _, Lp, Ld, rfl, hR, hRd, (h100.sub (List.Sublist.cons _ (List.Sublist.cons _ (List.Sublist.cons _ (List.Sublist.refl _))))).perm (by rw [List.append_nil]; exact List.perm_append_comm)⟩
end Go.Proofs.YtckmlaempffpjaaGreat
