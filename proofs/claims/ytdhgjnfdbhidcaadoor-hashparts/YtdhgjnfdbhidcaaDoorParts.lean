/-
  the law of parts.
-/
import Derived.Test.YtdhgjnfdbhidcaaDoorHP
namespace Go.Proofs.YtdhgjnfdbhidcaaDoor
open Go.RowKit


set_option linter.unusedVariables false in
set_option maxRecDepth 100000 in
set_option maxHeartbeats 2000000 in
theorem HashParts_any (o : Option Addr) (len cap : Nat) (ss : List ByteArray) (w : World) (VV : Vars w) (hlen : len ≤ 9223372036854775807) (hcell : ∀ i, i < len → ∃ a, o = some a ∧ w.cell? (a.add i) = some (.string (ss.getD i ByteArray.empty))) :
    Calls Tryd.prog 5 #[.slice o len cap] w fun e w' => e = .returned (.bool true) ∧ Below w.heap.size w w' := by
  have H0 := HA.start w
  go_enter Tryd.func5, Tryd.ntmps5
  refine wp_seq ?_
  -- region 0
  refine wl_region ?_
  refine wl_val (.bool false) (by kernel_rfl) (by kernel_rfl) ?_
  refine wl_nil ?_
  refine then_at (F := ⟨(.slice o len cap :: un :: .bool false :: List.replicate 63 un).toArray, []⟩) (by kernel_rfl) ?_
  refine wp_seq ?_
  -- region 1
  refine wl_region ?_
  refine wl_val (.slice none 0 0) (by kernel_rfl) (by kernel_rfl) ?_
  refine wl_nil ?_
  refine then_at (F := ⟨(.slice o len cap :: un :: .bool false :: .slice none 0 0 :: List.replicate 62 un).toArray, []⟩) (by kernel_rfl) ?_
  refine wp_seq ?_
  -- region 2
  refine wl_region ?_
  refine wl_val (.string { data := #[] }) (by kernel_rfl) (by kernel_rfl) ?_
  refine wl_nil ?_
  refine then_at (F := ⟨(.slice o len cap :: un :: .bool false :: .slice none 0 0 :: .string { data := #[] } :: List.replicate 61 un).toArray, []⟩) (by kernel_rfl) ?_
  refine wp_seq ?_
  refine wp_seq ?_
  -- region 3
  refine wl_region ?_
  refine wl_val (iN .i64 0) (by kernel_rfl) (by kernel_rfl) ?_
  refine wl_nil ?_
  refine then_at (F := ⟨(.slice o len cap :: un :: .bool false :: .slice none 0 0 :: .string { data := #[] } :: iN .i64 0 :: List.replicate 60 un).toArray, []⟩) (by kernel_rfl) ?_
  refine wp_block ?_
  refine wp_while (fun mq A w' => ∃ (kx : Nat) (lv : Value) (u1 : Nat → Value), mq = 20 - kx ∧ A = ⟨(.slice o len cap :: un :: .bool false :: lv :: .string (allP ss kx) :: iN .i64 kx :: u1 6 :: un :: un :: u1 9 :: u1 10 :: u1 11 :: u1 12 :: u1 13 :: u1 14 :: u1 15 :: u1 16 :: u1 17 :: u1 18 :: u1 19 :: u1 20 :: u1 21 :: u1 22 :: u1 23 :: u1 24 :: u1 25 :: u1 26 :: u1 27 :: u1 28 :: u1 29 :: u1 30 :: u1 31 :: u1 32 :: u1 33 :: u1 34 :: u1 35 :: u1 36 :: List.replicate 29 un).toArray, []⟩ ∧ HA w [] w' ∧ kx ≤ 20 ∧ w'.ownsRow w.heap.size 9 1 lv kx ((trP ss kx).map Value.string)) (20 - 0) ?_ ?_
  · exact ⟨0, .slice none 0 0, fun ii => (([(6, undef), (9, undef), (10, undef), (11, undef), (12, undef), (13, undef), (14, undef), (15, undef), (16, undef), (17, undef), (18, undef), (19, undef), (20, undef), (21, undef), (22, undef), (23, undef), (24, undef), (25, undef), (26, undef), (27, undef), (28, undef), (29, undef), (30, undef), (31, undef), (32, undef), (33, undef), (34, undef), (35, undef), (36, undef)] : List (Nat × Value)).find? (·.1 == ii)).elim undef (·.2), rfl, by kernel_rfl, H0, (Nat.zero_le _), (World.ownsRow_nil _ _ _ _)⟩
  rintro _ _ w2 ⟨kx, lv, u1, rfl, rfl, h3, hkx, hown⟩
  refine wp_seq ?_
  refine wp_seq ?_
  by_cases hk : kx < len
  · by_cases h20 : kx < 20
    · obtain ⟨ad, rfl, hc⟩ := hcell kx hk
      -- region 4
      refine wl_region ?_
      refine wl_val (iN .i64 kx) (by kernel_rfl) (by kernel_rfl) ?_
      refine wl_val (.slice (some ad) len cap) (by kernel_rfl) (by kernel_rfl) ?_
      refine wl_val (iN .i64 len) (by kernel_rfl) (run_len26 (q := some ad) (m := len) (c := cap) (by kernel_rfl)) ?_
      refine wl_val (.bool true) (by kernel_rfl) (run_lss (k := .i64) (a := kx) (b := len) (by kernel_rfl) (by kernel_rfl) true (decide_eq_true hk)) ?_
      refine wl_val (.bool true) (by kernel_rfl) (by kernel_rfl) ?_
      refine wl_val (iN .i64 kx) (by kernel_rfl) (by kernel_rfl) ?_
      refine wl_val (.bool true) (by kernel_rfl) (run_lss (k := .i64) (a := kx) (b := 20) (by kernel_rfl) (by kernel_rfl) true (decide_eq_true h20)) ?_
      refine wl_val (.bool true) (by kernel_rfl) (by kernel_rfl) ?_
      refine wl_nil ?_
      refine then_at (F := ⟨(.slice (some ad) len cap :: un :: .bool false :: lv :: .string (allP ss kx) :: iN .i64 kx :: u1 6 :: un :: un :: iN .i64 kx :: .slice (some ad) len cap :: iN .i64 len :: .bool true :: .bool true :: iN .i64 kx :: .bool true :: .bool true :: u1 17 :: u1 18 :: u1 19 :: u1 20 :: u1 21 :: u1 22 :: u1 23 :: u1 24 :: u1 25 :: u1 26 :: u1 27 :: u1 28 :: u1 29 :: u1 30 :: u1 31 :: u1 32 :: u1 33 :: u1 34 :: u1 35 :: u1 36 :: List.replicate 29 un).toArray, []⟩) (by kernel_rfl) ?_
      refine wp_cond_true (by kernel_rfl) ?_
      refine wp_skip ?_
      refine then_at (F := ⟨(.slice (some ad) len cap :: un :: .bool false :: lv :: .string (allP ss kx) :: iN .i64 kx :: u1 6 :: un :: un :: iN .i64 kx :: .slice (some ad) len cap :: iN .i64 len :: .bool true :: .bool true :: iN .i64 kx :: .bool true :: .bool true :: u1 17 :: u1 18 :: u1 19 :: u1 20 :: u1 21 :: u1 22 :: u1 23 :: u1 24 :: u1 25 :: u1 26 :: u1 27 :: u1 28 :: u1 29 :: u1 30 :: u1 31 :: u1 32 :: u1 33 :: u1 34 :: u1 35 :: u1 36 :: List.replicate 29 un).toArray, []⟩) (by kernel_rfl) ?_
      refine wp_seq ?_
      refine wp_block ?_
      refine wp_seq ?_
      -- region 6
      refine wp_region_sure ⟨(.slice (some ad) len cap :: un :: .bool false :: lv :: .string (allP ss kx) :: iN .i64 kx :: .string (cu300 (ss.getD kx ByteArray.empty)) :: un :: un :: iN .i64 kx :: .slice (some ad) len cap :: iN .i64 len :: .bool true :: .bool true :: iN .i64 kx :: .bool true :: .bool true :: u1 17 :: u1 18 :: .slice (some ad) len cap :: iN .i64 kx :: .pointer (some (ad.add kx)) :: .string (ss.getD kx ByteArray.empty) :: .slice (some ad) len cap :: iN .i64 kx :: .pointer (some (ad.add kx)) :: .string (ss.getD kx ByteArray.empty) :: iN .i64 ((ss.getD kx ByteArray.empty).size) :: iN .i64 (min ((ss.getD kx ByteArray.empty).size) 300) :: .string (cu300 (ss.getD kx ByteArray.empty)) :: u1 30 :: u1 31 :: u1 32 :: u1 33 :: u1 34 :: u1 35 :: u1 36 :: List.replicate 29 un).toArray, []⟩ (fun w' => HA w [] w' ∧ w'.ownsRow w.heap.size 9 1 lv kx ((trP ss kx).map Value.string)) [.slice (some ad) len cap, iN .i64 kx, .pointer (some (ad.add kx)), .string (ss.getD kx ByteArray.empty), .slice (some ad) len cap, iN .i64 kx, .pointer (some (ad.add kx)), .string (ss.getD kx ByteArray.empty), iN .i64 ((ss.getD kx ByteArray.empty).size), iN .i64 (min ((ss.getD kx ByteArray.empty).size) 300), .string (cu300 (ss.getD kx ByteArray.empty)), .string (cu300 (ss.getD kx ByteArray.empty))] (by kernel_rfl) (by kernel_rfl) (by kernel_rfl) (by kernel_rfl) (fun _ _ _ h => h) ⟨h3.drew, hown⟩ ?_ ?_
      · refine AllSure.cons (OpSure.take (v := .slice (some ad) len cap) (by kernel_rfl) (by kernel_rfl) (fun _ _ => (by kernel_rfl))) ?_
        refine AllSure.cons (OpSure.take (v := iN .i64 kx) (by kernel_rfl) (by kernel_rfl) (fun _ _ => (by kernel_rfl))) ?_
        refine AllSure.cons (OpSure.take (v := .pointer (some (ad.add kx))) (by kernel_rfl) (by kernel_rfl) (fun _ _ => (run_addr26g (a := ad) (m := len) (c := cap) (i := kx) (by kernel_rfl) (by kernel_rfl) hk))) ?_
        refine AllSure.cons (OpSure.take (v := .string (ss.getD kx ByteArray.empty)) (by kernel_rfl) (by kernel_rfl) (fun w' h' => run_load_at (a := ad.add kx) (by kernel_rfl) ((h'.1.old.cell (p := ad.add kx) (World.block_lt_of_cell? w (ad.add kx) hc)).trans hc))) ?_
        refine AllSure.cons (OpSure.take (v := .slice (some ad) len cap) (by kernel_rfl) (by kernel_rfl) (fun _ _ => (by kernel_rfl))) ?_
        refine AllSure.cons (OpSure.take (v := iN .i64 kx) (by kernel_rfl) (by kernel_rfl) (fun _ _ => (by kernel_rfl))) ?_
        refine AllSure.cons (OpSure.take (v := .pointer (some (ad.add kx))) (by kernel_rfl) (by kernel_rfl) (fun _ _ => (run_addr26g (a := ad) (m := len) (c := cap) (i := kx) (by kernel_rfl) (by kernel_rfl) hk))) ?_
        refine AllSure.cons (OpSure.take (v := .string (ss.getD kx ByteArray.empty)) (by kernel_rfl) (by kernel_rfl) (fun w' h' => run_load_at (a := ad.add kx) (by kernel_rfl) ((h'.1.old.cell (p := ad.add kx) (World.block_lt_of_cell? w (ad.add kx) hc)).trans hc))) ?_
        refine AllSure.cons (OpSure.take (v := iN .i64 ((ss.getD kx ByteArray.empty).size)) (by kernel_rfl) (by kernel_rfl) (fun _ _ => (run_len (s := ss.getD kx ByteArray.empty) (by kernel_rfl)))) ?_
        refine AllSure.cons (OpSure.take (v := iN .i64 (min ((ss.getD kx ByteArray.empty).size) 300)) (by kernel_rfl) (by kernel_rfl) (fun _ _ => (run_min (i := (ss.getD kx ByteArray.empty).size) (j := 300) (by kernel_rfl) (by kernel_rfl)))) ?_
        refine AllSure.cons (OpSure.take (v := .string (cu300 (ss.getD kx ByteArray.empty))) (by kernel_rfl) (by kernel_rfl) (fun _ _ => (run_cut_hi (s := ss.getD kx ByteArray.empty) (b := min (ss.getD kx ByteArray.empty).size 300) (by kernel_rfl) (by kernel_rfl) (Nat.min_le_left _ _)))) ?_
        refine AllSure.cons (OpSure.take (v := .string (cu300 (ss.getD kx ByteArray.empty))) (by kernel_rfl) (by kernel_rfl) (fun _ _ => (by kernel_rfl))) ?_
        exact AllSure.nil
      rintro w4 ⟨h5, hown⟩
      refine then_at (F := ⟨(.slice (some ad) len cap :: un :: .bool false :: lv :: .string (allP ss kx) :: iN .i64 kx :: .string (cu300 (ss.getD kx ByteArray.empty)) :: un :: un :: iN .i64 kx :: .slice (some ad) len cap :: iN .i64 len :: .bool true :: .bool true :: iN .i64 kx :: .bool true :: .bool true :: u1 17 :: u1 18 :: .slice (some ad) len cap :: iN .i64 kx :: .pointer (some (ad.add kx)) :: .string (ss.getD kx ByteArray.empty) :: .slice (some ad) len cap :: iN .i64 kx :: .pointer (some (ad.add kx)) :: .string (ss.getD kx ByteArray.empty) :: iN .i64 ((ss.getD kx ByteArray.empty).size) :: iN .i64 (min ((ss.getD kx ByteArray.empty).size) 300) :: .string (cu300 (ss.getD kx ByteArray.empty)) :: u1 30 :: u1 31 :: u1 32 :: u1 33 :: u1 34 :: u1 35 :: u1 36 :: List.replicate 29 un).toArray, []⟩) (by kernel_rfl) ?_
      refine wp_seq ?_
      -- region 7
      refine wl_region ?_
      refine wl_val (lv) (by kernel_rfl) (by kernel_rfl) ?_
      refine wl_val (.string (cu300 (ss.getD kx ByteArray.empty))) (by kernel_rfl) (by kernel_rfl) ?_
      refine wl_more (xs := trP ss kx) (s := cu300 (ss.getD kx ByteArray.empty)) _ h5 hown (by omega) (by kernel_rfl) (run_bs1 (u := cu300 (ss.getD kx ByteArray.empty)) (by kernel_rfl)) (fun _ => by kernel_rfl) (fun _ => by kernel_rfl) (fun _ => by kernel_rfl) ?_
      intro q8 lv2 w6 h7 hown2
      refine wl_val (lv2) (by kernel_rfl) (by kernel_rfl) ?_
      refine wl_nil ?_
      refine then_at (F := ⟨(.slice (some ad) len cap :: un :: .bool false :: lv2 :: .string (allP ss kx) :: iN .i64 kx :: .string (cu300 (ss.getD kx ByteArray.empty)) :: un :: un :: iN .i64 kx :: .slice (some ad) len cap :: iN .i64 len :: .bool true :: .bool true :: iN .i64 kx :: .bool true :: .bool true :: u1 17 :: u1 18 :: .slice (some ad) len cap :: iN .i64 kx :: .pointer (some (ad.add kx)) :: .string (ss.getD kx ByteArray.empty) :: .slice (some ad) len cap :: iN .i64 kx :: .pointer (some (ad.add kx)) :: .string (ss.getD kx ByteArray.empty) :: iN .i64 ((ss.getD kx ByteArray.empty).size) :: iN .i64 (min ((ss.getD kx ByteArray.empty).size) 300) :: .string (cu300 (ss.getD kx ByteArray.empty)) :: lv :: .string (cu300 (ss.getD kx ByteArray.empty)) :: .slice (some ⟨q8, 0, none⟩) 1 1 :: lv2 :: u1 34 :: u1 35 :: u1 36 :: List.replicate 29 un).toArray, []⟩) (by kernel_rfl) ?_
      -- region 8
      refine wl_region ?_
      refine wl_val (.string (allP ss kx)) (by kernel_rfl) (by kernel_rfl) ?_
      refine wl_val (.string (cu300 (ss.getD kx ByteArray.empty))) (by kernel_rfl) (by kernel_rfl) ?_
      refine wl_val (.string (allP ss kx ++ cu300 (ss.getD kx ByteArray.empty))) (by kernel_rfl) (run_cat (s := allP ss kx) (t := cu300 (ss.getD kx ByteArray.empty)) (by kernel_rfl) (by kernel_rfl) (by have h1 := allP_size ss kx; have h2 := cu300_le (ss.getD kx ByteArray.empty); omega)) ?_
      refine wl_val (.string (allP ss kx ++ cu300 (ss.getD kx ByteArray.empty))) (by kernel_rfl) (by kernel_rfl) ?_
      refine wl_nil ?_
      refine block_normal ?_
      refine then_at (F := ⟨(.slice (some ad) len cap :: un :: .bool false :: lv2 :: .string (allP ss kx ++ cu300 (ss.getD kx ByteArray.empty)) :: iN .i64 kx :: .string (cu300 (ss.getD kx ByteArray.empty)) :: un :: un :: iN .i64 kx :: .slice (some ad) len cap :: iN .i64 len :: .bool true :: .bool true :: iN .i64 kx :: .bool true :: .bool true :: u1 17 :: u1 18 :: .slice (some ad) len cap :: iN .i64 kx :: .pointer (some (ad.add kx)) :: .string (ss.getD kx ByteArray.empty) :: .slice (some ad) len cap :: iN .i64 kx :: .pointer (some (ad.add kx)) :: .string (ss.getD kx ByteArray.empty) :: iN .i64 ((ss.getD kx ByteArray.empty).size) :: iN .i64 (min ((ss.getD kx ByteArray.empty).size) 300) :: .string (cu300 (ss.getD kx ByteArray.empty)) :: lv :: .string (cu300 (ss.getD kx ByteArray.empty)) :: .slice (some ⟨q8, 0, none⟩) 1 1 :: lv2 :: .string (allP ss kx) :: .string (cu300 (ss.getD kx ByteArray.empty)) :: .string (allP ss kx ++ cu300 (ss.getD kx ByteArray.empty)) :: List.replicate 29 un).toArray, []⟩) (by kernel_rfl) ?_
      -- region 5
      refine wl_region ?_
      refine wl_val (iN .i64 kx) (by kernel_rfl) (by kernel_rfl) ?_
      refine wl_val (iN .i64 (kx + 1)) (by kernel_rfl) (run_add (k := .i64) (a := kx) (b := 1) (by kernel_rfl) (by kernel_rfl) (by simp only [top]; omega)) ?_
      refine wl_val (iN .i64 (kx + 1)) (by kernel_rfl) (by kernel_rfl) ?_
      refine wl_nil ?_
      exact then_I ⟨20 - (kx + 1), (by omega), kx + 1, lv2, fun ii => (([(6, .string (cu300 (ss.getD kx ByteArray.empty))), (9, iN .i64 kx), (10, .slice (some ad) len cap), (11, iN .i64 len), (12, .bool true), (13, .bool true), (14, iN .i64 kx), (15, .bool true), (16, .bool true), (17, iN .i64 kx), (18, iN .i64 (kx + 1)), (19, .slice (some ad) len cap), (20, iN .i64 kx), (21, .pointer (some (ad.add kx))), (22, .string (ss.getD kx ByteArray.empty)), (23, .slice (some ad) len cap), (24, iN .i64 kx), (25, .pointer (some (ad.add kx))), (26, .string (ss.getD kx ByteArray.empty)), (27, iN .i64 ((ss.getD kx ByteArray.empty).size)), (28, iN .i64 (min ((ss.getD kx ByteArray.empty).size) 300)), (29, .string (cu300 (ss.getD kx ByteArray.empty))), (30, lv), (31, .string (cu300 (ss.getD kx ByteArray.empty))), (32, .slice (some ⟨q8, 0, none⟩) 1 1), (33, lv2), (34, .string (allP ss kx)), (35, .string (cu300 (ss.getD kx ByteArray.empty))), (36, .string (allP ss kx ++ cu300 (ss.getD kx ByteArray.empty)))] : List (Nat × Value)).find? (·.1 == ii)).elim undef (·.2), rfl, by kernel_rfl, h7, h20, hown2⟩
    · -- region 4
      refine wl_region ?_
      refine wl_val (iN .i64 kx) (by kernel_rfl) (by kernel_rfl) ?_
      refine wl_val (.slice o len cap) (by kernel_rfl) (by kernel_rfl) ?_
      refine wl_val (iN .i64 len) (by kernel_rfl) (run_len26 (q := o) (m := len) (c := cap) (by kernel_rfl)) ?_
      refine wl_val (.bool true) (by kernel_rfl) (run_lss (k := .i64) (a := kx) (b := len) (by kernel_rfl) (by kernel_rfl) true (decide_eq_true hk)) ?_
      refine wl_val (.bool true) (by kernel_rfl) (by kernel_rfl) ?_
      refine wl_val (iN .i64 kx) (by kernel_rfl) (by kernel_rfl) ?_
      refine wl_val (.bool false) (by kernel_rfl) (run_lss (k := .i64) (a := kx) (b := 20) (by kernel_rfl) (by kernel_rfl) false (decide_eq_false h20)) ?_
      refine wl_val (.bool false) (by kernel_rfl) (by kernel_rfl) ?_
      refine wl_nil ?_
      refine then_at (F := ⟨(.slice o len cap :: un :: .bool false :: lv :: .string (allP ss kx) :: iN .i64 kx :: u1 6 :: un :: un :: iN .i64 kx :: .slice o len cap :: iN .i64 len :: .bool true :: .bool true :: iN .i64 kx :: .bool false :: .bool false :: u1 17 :: u1 18 :: u1 19 :: u1 20 :: u1 21 :: u1 22 :: u1 23 :: u1 24 :: u1 25 :: u1 26 :: u1 27 :: u1 28 :: u1 29 :: u1 30 :: u1 31 :: u1 32 :: u1 33 :: u1 34 :: u1 35 :: u1 36 :: List.replicate 29 un).toArray, []⟩) (by kernel_rfl) ?_
      refine wp_cond_false (by kernel_rfl) ?_
      refine wp_exit ?_
      repeat first | refine then_exit ?_ | refine block_exit ?_ | refine block_exit_ne (by decide) ?_
      obtain ⟨o2, c2, rfl, hps2⟩ := owns_parts hown
      have VX : Vars w2 := VV.below h3.old VV.big
      have HX0 := h3.old
      have HX := HA.start w2
      clear VV
      have VV := VX
      refine then_at (F := ⟨(.slice o len cap :: un :: .bool false :: .slice o2 kx c2 :: .string (allP ss kx) :: iN .i64 kx :: u1 6 :: un :: un :: iN .i64 kx :: .slice o len cap :: iN .i64 len :: .bool true :: .bool true :: iN .i64 kx :: .bool false :: .bool false :: u1 17 :: u1 18 :: u1 19 :: u1 20 :: u1 21 :: u1 22 :: u1 23 :: u1 24 :: u1 25 :: u1 26 :: u1 27 :: u1 28 :: u1 29 :: u1 30 :: u1 31 :: u1 32 :: u1 33 :: u1 34 :: u1 35 :: u1 36 :: List.replicate 29 un).toArray, []⟩) (by kernel_rfl) ?_
      refine wp_seq ?_
      -- region 9
      refine wl_region ?_
      refine wl_val (.slice o2 kx c2) (by kernel_rfl) (by kernel_rfl) ?_
      refine wl_call (v := .string (ByteArray.mk (digP KS (catP (trP ss kx) kx)).toArray)) HX (by kernel_rfl) enter7 #[.slice o2 kx c2] (by kernel_rfl) (shaS' (trP ss kx) kx (trP_len ss kx) o2 c2 w2 (VV.below HX.old VV.big) (fun i hi => (hps2 i hi).imp fun q h => ⟨h.1, (HX.old.cell (p := ⟨q, i, none⟩) (World.block_lt_of_cell? _ ⟨q, i, none⟩ h.2)).trans h.2⟩) (fun i hi => Nat.le_trans (szP_le _ (trP_le ss kx) i) (by omega)) (by omega)) ?_
      intro w9 h10
      refine wl_val (.slice o2 kx c2) (by kernel_rfl) (by kernel_rfl) ?_
      refine wl_call (v := .string (ByteArray.mk (digP KL (catP (trP ss kx) kx)).toArray)) h10 (by kernel_rfl) enter10 #[.slice o2 kx c2] (by kernel_rfl) (shaL' (trP ss kx) kx (trP_len ss kx) o2 c2 w9 (VV.below h10.old VV.big) (fun i hi => (hps2 i hi).imp fun q h => ⟨h.1, (h10.old.cell (p := ⟨q, i, none⟩) (World.block_lt_of_cell? _ ⟨q, i, none⟩ h.2)).trans h.2⟩) (fun i hi => Nat.le_trans (szP_le _ (trP_le ss kx) i) (by omega)) (by omega)) ?_
      intro w11 h12
      refine wl_val (.string (ByteArray.mk (digP KS (catP (trP ss kx) kx)).toArray)) (by kernel_rfl) (by kernel_rfl) ?_
      refine wl_val (.string (ByteArray.mk (digP KL (catP (trP ss kx) kx)).toArray)) (by kernel_rfl) (by kernel_rfl) ?_
      refine wl_nil ?_
      refine then_at (F := ⟨(.slice o len cap :: un :: .bool false :: .slice o2 kx c2 :: .string (allP ss kx) :: iN .i64 kx :: u1 6 :: .string (ByteArray.mk (digP KS (catP (trP ss kx) kx)).toArray) :: .string (ByteArray.mk (digP KL (catP (trP ss kx) kx)).toArray) :: iN .i64 kx :: .slice o len cap :: iN .i64 len :: .bool true :: .bool true :: iN .i64 kx :: .bool false :: .bool false :: u1 17 :: u1 18 :: u1 19 :: u1 20 :: u1 21 :: u1 22 :: u1 23 :: u1 24 :: u1 25 :: u1 26 :: u1 27 :: u1 28 :: u1 29 :: u1 30 :: u1 31 :: u1 32 :: u1 33 :: u1 34 :: u1 35 :: u1 36 :: .slice o2 kx c2 :: .string (ByteArray.mk (digP KS (catP (trP ss kx) kx)).toArray) :: .slice o2 kx c2 :: .string (ByteArray.mk (digP KL (catP (trP ss kx) kx)).toArray) :: List.replicate 25 un).toArray, []⟩) (by kernel_rfl) ?_
      refine wp_seq ?_
      -- region 10
      refine wl_region ?_
      refine wl_val (.string (ByteArray.mk (digP KS (catP (trP ss kx) kx)).toArray)) (by kernel_rfl) (by kernel_rfl) ?_
      refine wl_val (.string (allP ss kx)) (by kernel_rfl) (by kernel_rfl) ?_
      refine wl_mks (n := 1) (m := 1) (c := psc ([allP ss kx])) h12 9 (by kernel_rfl) (run_bs1 (u := allP ss kx) (by kernel_rfl)) ?_
      intro q13 w14 h15
      refine wl_call (v := .string (ByteArray.mk (digP KS (catP [allP ss kx] 1)).toArray)) h15 (by kernel_rfl) enter7 #[.slice (some ⟨q13, 0, none⟩) 1 1] (by kernel_rfl) (shaS' ([allP ss kx]) 1 rfl (some ⟨q13, 0, none⟩) 1 w14 (VV.below h15.old VV.big) (parts_ofc (h15.get 0 rfl)) (sz_one _ (by have h1 := allP_size ss kx; omega)) (by decide)) ?_
      intro w16 h17
      refine wl_val (.bool true) (by kernel_rfl) (run_eqs (s := ByteArray.mk (digP KS (catP (trP ss kx) kx)).toArray) (t := ByteArray.mk (digP KS (catP [allP ss kx] 1)).toArray) (by kernel_rfl) (by kernel_rfl) true (decide_eq_true (by rw [cat_all ss kx]))) ?_
      refine wl_val (.bool true) (by kernel_rfl) (by kernel_rfl) ?_
      refine wl_val (.string (ByteArray.mk (digP KL (catP (trP ss kx) kx)).toArray)) (by kernel_rfl) (by kernel_rfl) ?_
      refine wl_val (.string (allP ss kx)) (by kernel_rfl) (by kernel_rfl) ?_
      refine wl_mks (n := 1) (m := 1) (c := psc ([allP ss kx])) h17 9 (by kernel_rfl) (run_bs1 (u := allP ss kx) (by kernel_rfl)) ?_
      intro q18 w19 h20
      refine wl_call (v := .string (ByteArray.mk (digP KL (catP [allP ss kx] 1)).toArray)) h20 (by kernel_rfl) enter10 #[.slice (some ⟨q18, 0, none⟩) 1 1] (by kernel_rfl) (shaL' ([allP ss kx]) 1 rfl (some ⟨q18, 0, none⟩) 1 w19 (VV.below h20.old VV.big) (parts_ofc (h20.get 0 rfl)) (sz_one _ (by have h1 := allP_size ss kx; omega)) (by decide)) ?_
      intro w21 h22
      refine wl_val (.bool true) (by kernel_rfl) (run_eqs (s := ByteArray.mk (digP KL (catP (trP ss kx) kx)).toArray) (t := ByteArray.mk (digP KL (catP [allP ss kx] 1)).toArray) (by kernel_rfl) (by kernel_rfl) true (decide_eq_true (by rw [cat_all ss kx]))) ?_
      refine wl_val (.bool true) (by kernel_rfl) (by kernel_rfl) ?_
      refine wl_val (.bool true) (by kernel_rfl) (by kernel_rfl) ?_
      refine wl_val (.string (ByteArray.mk (digP KS (catP (trP ss kx) kx)).toArray)) (by kernel_rfl) (by kernel_rfl) ?_
      refine wl_val (iN .i64 ((ByteArray.mk (digP KS (catP (trP ss kx) kx)).toArray).size)) (by kernel_rfl) (run_len (s := ByteArray.mk (digP KS (catP (trP ss kx) kx)).toArray) (by kernel_rfl)) ?_
      refine wl_val (.bool true) (by kernel_rfl) (run_eqi (k := .i64) (a := (ByteArray.mk (digP KS (catP (trP ss kx) kx)).toArray).size) (b := 32) (by kernel_rfl) (by kernel_rfl) true (decide_eq_true (dig_szS _))) ?_
      refine wl_val (.bool true) (by kernel_rfl) (by kernel_rfl) ?_
      refine wl_val (.bool true) (by kernel_rfl) (by kernel_rfl) ?_
      refine wl_val (.string (ByteArray.mk (digP KL (catP (trP ss kx) kx)).toArray)) (by kernel_rfl) (by kernel_rfl) ?_
      refine wl_val (iN .i64 ((ByteArray.mk (digP KL (catP (trP ss kx) kx)).toArray).size)) (by kernel_rfl) (run_len (s := ByteArray.mk (digP KL (catP (trP ss kx) kx)).toArray) (by kernel_rfl)) ?_
      refine wl_val (.bool true) (by kernel_rfl) (run_eqi (k := .i64) (a := (ByteArray.mk (digP KL (catP (trP ss kx) kx)).toArray).size) (b := 64) (by kernel_rfl) (by kernel_rfl) true (decide_eq_true (dig_szL _))) ?_
      refine wl_val (.bool true) (by kernel_rfl) (by kernel_rfl) ?_
      refine wl_val (.bool true) (by kernel_rfl) (by kernel_rfl) ?_
      refine wl_call (v := .bool true) h22 (by kernel_rfl) enter9 #[] (by kernel_rfl) (works w21 (VV.below h22.old VV.big)) ?_
      intro w23 h24
      refine wl_val (.bool true) (by kernel_rfl) (by kernel_rfl) ?_
      refine wl_val (.bool true) (by kernel_rfl) (by kernel_rfl) ?_
      refine wl_nil ?_
      refine then_at (F := ⟨(.slice o len cap :: un :: .bool true :: .slice o2 kx c2 :: .string (allP ss kx) :: iN .i64 kx :: u1 6 :: .string (ByteArray.mk (digP KS (catP (trP ss kx) kx)).toArray) :: .string (ByteArray.mk (digP KL (catP (trP ss kx) kx)).toArray) :: iN .i64 kx :: .slice o len cap :: iN .i64 len :: .bool true :: .bool true :: iN .i64 kx :: .bool false :: .bool false :: u1 17 :: u1 18 :: u1 19 :: u1 20 :: u1 21 :: u1 22 :: u1 23 :: u1 24 :: u1 25 :: u1 26 :: u1 27 :: u1 28 :: u1 29 :: u1 30 :: u1 31 :: u1 32 :: u1 33 :: u1 34 :: u1 35 :: u1 36 :: .slice o2 kx c2 :: .string (ByteArray.mk (digP KS (catP (trP ss kx) kx)).toArray) :: .slice o2 kx c2 :: .string (ByteArray.mk (digP KL (catP (trP ss kx) kx)).toArray) :: .string (ByteArray.mk (digP KS (catP (trP ss kx) kx)).toArray) :: .string (allP ss kx) :: .slice (some ⟨q13, 0, none⟩) 1 1 :: .string (ByteArray.mk (digP KS (catP [allP ss kx] 1)).toArray) :: .bool true :: .bool true :: .string (ByteArray.mk (digP KL (catP (trP ss kx) kx)).toArray) :: .string (allP ss kx) :: .slice (some ⟨q18, 0, none⟩) 1 1 :: .string (ByteArray.mk (digP KL (catP [allP ss kx] 1)).toArray) :: .bool true :: .bool true :: .bool true :: .string (ByteArray.mk (digP KS (catP (trP ss kx) kx)).toArray) :: iN .i64 ((ByteArray.mk (digP KS (catP (trP ss kx) kx)).toArray).size) :: .bool true :: .bool true :: .bool true :: .string (ByteArray.mk (digP KL (catP (trP ss kx) kx)).toArray) :: iN .i64 ((ByteArray.mk (digP KL (catP (trP ss kx) kx)).toArray).size) :: .bool true :: .bool true :: .bool true :: .bool true :: .bool true :: List.replicate 0 un).toArray, []⟩) (by kernel_rfl) ?_
      refine wp_ret ?_
      repeat first | refine then_ret ?_ | refine block_ret ?_
      exact bodyPost_ret (v := .bool true) (by kernel_rfl) rfl ⟨rfl, below_on HX0 h24.old⟩
  · -- region 4
    refine wl_region ?_
    refine wl_val (iN .i64 kx) (by kernel_rfl) (by kernel_rfl) ?_
    refine wl_val (.slice o len cap) (by kernel_rfl) (by kernel_rfl) ?_
    refine wl_val (iN .i64 len) (by kernel_rfl) (run_len26 (q := o) (m := len) (c := cap) (by kernel_rfl)) ?_
    refine wl_val (.bool false) (by kernel_rfl) (run_lss (k := .i64) (a := kx) (b := len) (by kernel_rfl) (by kernel_rfl) false (decide_eq_false hk)) ?_
    refine wl_val (.bool false) (by kernel_rfl) (by kernel_rfl) ?_
    refine wl_skip (by kernel_rfl) ?_
    refine wl_skip (by kernel_rfl) ?_
    refine wl_val (.bool false) (by kernel_rfl) (by kernel_rfl) ?_
    refine wl_nil ?_
    refine then_at (F := ⟨(.slice o len cap :: un :: .bool false :: lv :: .string (allP ss kx) :: iN .i64 kx :: u1 6 :: un :: un :: iN .i64 kx :: .slice o len cap :: iN .i64 len :: .bool false :: .bool false :: un :: un :: .bool false :: u1 17 :: u1 18 :: u1 19 :: u1 20 :: u1 21 :: u1 22 :: u1 23 :: u1 24 :: u1 25 :: u1 26 :: u1 27 :: u1 28 :: u1 29 :: u1 30 :: u1 31 :: u1 32 :: u1 33 :: u1 34 :: u1 35 :: u1 36 :: List.replicate 29 un).toArray, []⟩) (by kernel_rfl) ?_
    refine wp_cond_false (by kernel_rfl) ?_
    refine wp_exit ?_
    repeat first | refine then_exit ?_ | refine block_exit ?_ | refine block_exit_ne (by decide) ?_
    obtain ⟨o2, c2, rfl, hps2⟩ := owns_parts hown
    have VX : Vars w2 := VV.below h3.old VV.big
    have HX0 := h3.old
    have HX := HA.start w2
    clear VV
    have VV := VX
    refine then_at (F := ⟨(.slice o len cap :: un :: .bool false :: .slice o2 kx c2 :: .string (allP ss kx) :: iN .i64 kx :: u1 6 :: un :: un :: iN .i64 kx :: .slice o len cap :: iN .i64 len :: .bool false :: .bool false :: un :: un :: .bool false :: u1 17 :: u1 18 :: u1 19 :: u1 20 :: u1 21 :: u1 22 :: u1 23 :: u1 24 :: u1 25 :: u1 26 :: u1 27 :: u1 28 :: u1 29 :: u1 30 :: u1 31 :: u1 32 :: u1 33 :: u1 34 :: u1 35 :: u1 36 :: List.replicate 29 un).toArray, []⟩) (by kernel_rfl) ?_
    refine wp_seq ?_
    -- region 9
    refine wl_region ?_
    refine wl_val (.slice o2 kx c2) (by kernel_rfl) (by kernel_rfl) ?_
    refine wl_call (v := .string (ByteArray.mk (digP KS (catP (trP ss kx) kx)).toArray)) HX (by kernel_rfl) enter7 #[.slice o2 kx c2] (by kernel_rfl) (shaS' (trP ss kx) kx (trP_len ss kx) o2 c2 w2 (VV.below HX.old VV.big) (fun i hi => (hps2 i hi).imp fun q h => ⟨h.1, (HX.old.cell (p := ⟨q, i, none⟩) (World.block_lt_of_cell? _ ⟨q, i, none⟩ h.2)).trans h.2⟩) (fun i hi => Nat.le_trans (szP_le _ (trP_le ss kx) i) (by omega)) (by omega)) ?_
    intro w25 h26
    refine wl_val (.slice o2 kx c2) (by kernel_rfl) (by kernel_rfl) ?_
    refine wl_call (v := .string (ByteArray.mk (digP KL (catP (trP ss kx) kx)).toArray)) h26 (by kernel_rfl) enter10 #[.slice o2 kx c2] (by kernel_rfl) (shaL' (trP ss kx) kx (trP_len ss kx) o2 c2 w25 (VV.below h26.old VV.big) (fun i hi => (hps2 i hi).imp fun q h => ⟨h.1, (h26.old.cell (p := ⟨q, i, none⟩) (World.block_lt_of_cell? _ ⟨q, i, none⟩ h.2)).trans h.2⟩) (fun i hi => Nat.le_trans (szP_le _ (trP_le ss kx) i) (by omega)) (by omega)) ?_
    intro w27 h28
    refine wl_val (.string (ByteArray.mk (digP KS (catP (trP ss kx) kx)).toArray)) (by kernel_rfl) (by kernel_rfl) ?_
    refine wl_val (.string (ByteArray.mk (digP KL (catP (trP ss kx) kx)).toArray)) (by kernel_rfl) (by kernel_rfl) ?_
    refine wl_nil ?_
    refine then_at (F := ⟨(.slice o len cap :: un :: .bool false :: .slice o2 kx c2 :: .string (allP ss kx) :: iN .i64 kx :: u1 6 :: .string (ByteArray.mk (digP KS (catP (trP ss kx) kx)).toArray) :: .string (ByteArray.mk (digP KL (catP (trP ss kx) kx)).toArray) :: iN .i64 kx :: .slice o len cap :: iN .i64 len :: .bool false :: .bool false :: un :: un :: .bool false :: u1 17 :: u1 18 :: u1 19 :: u1 20 :: u1 21 :: u1 22 :: u1 23 :: u1 24 :: u1 25 :: u1 26 :: u1 27 :: u1 28 :: u1 29 :: u1 30 :: u1 31 :: u1 32 :: u1 33 :: u1 34 :: u1 35 :: u1 36 :: .slice o2 kx c2 :: .string (ByteArray.mk (digP KS (catP (trP ss kx) kx)).toArray) :: .slice o2 kx c2 :: .string (ByteArray.mk (digP KL (catP (trP ss kx) kx)).toArray) :: List.replicate 25 un).toArray, []⟩) (by kernel_rfl) ?_
    refine wp_seq ?_
    -- region 10
    refine wl_region ?_
    refine wl_val (.string (ByteArray.mk (digP KS (catP (trP ss kx) kx)).toArray)) (by kernel_rfl) (by kernel_rfl) ?_
    refine wl_val (.string (allP ss kx)) (by kernel_rfl) (by kernel_rfl) ?_
    refine wl_mks (n := 1) (m := 1) (c := psc ([allP ss kx])) h28 9 (by kernel_rfl) (run_bs1 (u := allP ss kx) (by kernel_rfl)) ?_
    intro q29 w30 h31
    refine wl_call (v := .string (ByteArray.mk (digP KS (catP [allP ss kx] 1)).toArray)) h31 (by kernel_rfl) enter7 #[.slice (some ⟨q29, 0, none⟩) 1 1] (by kernel_rfl) (shaS' ([allP ss kx]) 1 rfl (some ⟨q29, 0, none⟩) 1 w30 (VV.below h31.old VV.big) (parts_ofc (h31.get 0 rfl)) (sz_one _ (by have h1 := allP_size ss kx; omega)) (by decide)) ?_
    intro w32 h33
    refine wl_val (.bool true) (by kernel_rfl) (run_eqs (s := ByteArray.mk (digP KS (catP (trP ss kx) kx)).toArray) (t := ByteArray.mk (digP KS (catP [allP ss kx] 1)).toArray) (by kernel_rfl) (by kernel_rfl) true (decide_eq_true (by rw [cat_all ss kx]))) ?_
    refine wl_val (.bool true) (by kernel_rfl) (by kernel_rfl) ?_
    refine wl_val (.string (ByteArray.mk (digP KL (catP (trP ss kx) kx)).toArray)) (by kernel_rfl) (by kernel_rfl) ?_
    refine wl_val (.string (allP ss kx)) (by kernel_rfl) (by kernel_rfl) ?_
    refine wl_mks (n := 1) (m := 1) (c := psc ([allP ss kx])) h33 9 (by kernel_rfl) (run_bs1 (u := allP ss kx) (by kernel_rfl)) ?_
    intro q34 w35 h36
    refine wl_call (v := .string (ByteArray.mk (digP KL (catP [allP ss kx] 1)).toArray)) h36 (by kernel_rfl) enter10 #[.slice (some ⟨q34, 0, none⟩) 1 1] (by kernel_rfl) (shaL' ([allP ss kx]) 1 rfl (some ⟨q34, 0, none⟩) 1 w35 (VV.below h36.old VV.big) (parts_ofc (h36.get 0 rfl)) (sz_one _ (by have h1 := allP_size ss kx; omega)) (by decide)) ?_
    intro w37 h38
    refine wl_val (.bool true) (by kernel_rfl) (run_eqs (s := ByteArray.mk (digP KL (catP (trP ss kx) kx)).toArray) (t := ByteArray.mk (digP KL (catP [allP ss kx] 1)).toArray) (by kernel_rfl) (by kernel_rfl) true (decide_eq_true (by rw [cat_all ss kx]))) ?_
    refine wl_val (.bool true) (by kernel_rfl) (by kernel_rfl) ?_
    refine wl_val (.bool true) (by kernel_rfl) (by kernel_rfl) ?_
    refine wl_val (.string (ByteArray.mk (digP KS (catP (trP ss kx) kx)).toArray)) (by kernel_rfl) (by kernel_rfl) ?_
    refine wl_val (iN .i64 ((ByteArray.mk (digP KS (catP (trP ss kx) kx)).toArray).size)) (by kernel_rfl) (run_len (s := ByteArray.mk (digP KS (catP (trP ss kx) kx)).toArray) (by kernel_rfl)) ?_
    refine wl_val (.bool true) (by kernel_rfl) (run_eqi (k := .i64) (a := (ByteArray.mk (digP KS (catP (trP ss kx) kx)).toArray).size) (b := 32) (by kernel_rfl) (by kernel_rfl) true (decide_eq_true (dig_szS _))) ?_
    refine wl_val (.bool true) (by kernel_rfl) (by kernel_rfl) ?_
    refine wl_val (.bool true) (by kernel_rfl) (by kernel_rfl) ?_
    refine wl_val (.string (ByteArray.mk (digP KL (catP (trP ss kx) kx)).toArray)) (by kernel_rfl) (by kernel_rfl) ?_
    refine wl_val (iN .i64 ((ByteArray.mk (digP KL (catP (trP ss kx) kx)).toArray).size)) (by kernel_rfl) (run_len (s := ByteArray.mk (digP KL (catP (trP ss kx) kx)).toArray) (by kernel_rfl)) ?_
    refine wl_val (.bool true) (by kernel_rfl) (run_eqi (k := .i64) (a := (ByteArray.mk (digP KL (catP (trP ss kx) kx)).toArray).size) (b := 64) (by kernel_rfl) (by kernel_rfl) true (decide_eq_true (dig_szL _))) ?_
    refine wl_val (.bool true) (by kernel_rfl) (by kernel_rfl) ?_
    refine wl_val (.bool true) (by kernel_rfl) (by kernel_rfl) ?_
    refine wl_call (v := .bool true) h38 (by kernel_rfl) enter9 #[] (by kernel_rfl) (works w37 (VV.below h38.old VV.big)) ?_
    intro w39 h40
    refine wl_val (.bool true) (by kernel_rfl) (by kernel_rfl) ?_
    refine wl_val (.bool true) (by kernel_rfl) (by kernel_rfl) ?_
    refine wl_nil ?_
    refine then_at (F := ⟨(.slice o len cap :: un :: .bool true :: .slice o2 kx c2 :: .string (allP ss kx) :: iN .i64 kx :: u1 6 :: .string (ByteArray.mk (digP KS (catP (trP ss kx) kx)).toArray) :: .string (ByteArray.mk (digP KL (catP (trP ss kx) kx)).toArray) :: iN .i64 kx :: .slice o len cap :: iN .i64 len :: .bool false :: .bool false :: un :: un :: .bool false :: u1 17 :: u1 18 :: u1 19 :: u1 20 :: u1 21 :: u1 22 :: u1 23 :: u1 24 :: u1 25 :: u1 26 :: u1 27 :: u1 28 :: u1 29 :: u1 30 :: u1 31 :: u1 32 :: u1 33 :: u1 34 :: u1 35 :: u1 36 :: .slice o2 kx c2 :: .string (ByteArray.mk (digP KS (catP (trP ss kx) kx)).toArray) :: .slice o2 kx c2 :: .string (ByteArray.mk (digP KL (catP (trP ss kx) kx)).toArray) :: .string (ByteArray.mk (digP KS (catP (trP ss kx) kx)).toArray) :: .string (allP ss kx) :: .slice (some ⟨q29, 0, none⟩) 1 1 :: .string (ByteArray.mk (digP KS (catP [allP ss kx] 1)).toArray) :: .bool true :: .bool true :: .string (ByteArray.mk (digP KL (catP (trP ss kx) kx)).toArray) :: .string (allP ss kx) :: .slice (some ⟨q34, 0, none⟩) 1 1 :: .string (ByteArray.mk (digP KL (catP [allP ss kx] 1)).toArray) :: .bool true :: .bool true :: .bool true :: .string (ByteArray.mk (digP KS (catP (trP ss kx) kx)).toArray) :: iN .i64 ((ByteArray.mk (digP KS (catP (trP ss kx) kx)).toArray).size) :: .bool true :: .bool true :: .bool true :: .string (ByteArray.mk (digP KL (catP (trP ss kx) kx)).toArray) :: iN .i64 ((ByteArray.mk (digP KL (catP (trP ss kx) kx)).toArray).size) :: .bool true :: .bool true :: .bool true :: .bool true :: .bool true :: List.replicate 0 un).toArray, []⟩) (by kernel_rfl) ?_
    refine wp_ret ?_
    repeat first | refine then_ret ?_ | refine block_ret ?_
    exact bodyPost_ret (v := .bool true) (by kernel_rfl) rfl ⟨rfl, below_on HX0 h40.old⟩
end Go.Proofs.YtdhgjnfdbhidcaaDoor
