/-
  callBytes, EncodeCall.
-/
import Derived.Test.YtiogegoepgkjlaaC4
namespace Go.Proofs.Ytiogegoepgkjlaa
open Go.RowKit

set_option linter.unusedVariables false in
set_option maxRecDepth 100000 in
set_option maxHeartbeats 4000000 in
theorem cb_any {w : World} (c : Ca) {o p : Option Addr} {k m : Nat} (hP : At w o (mcl c.li.ds)) (hQ : At w p (scl c.on)) (hl1 : c.li.ds.length ≤ 1000000) (hl2 : c.on.length ≤ 1000000) (hO : OkC c) (id : Nat) :
    Calls Try.prog 35 #[iN .u64 id, .agg (caC c (.slice o c.li.ds.length k) (.slice p c.on.length m))] w fun e w' => e = .returned (.string (calB id c)) ∧ Below w.heap.size w w' := by
  have H0 := HA.start w
  go_enter Try.func35, Try.ntmps35
  refine wp_seq (wl_region ?_)
  refine wl_make (c := caC c (.slice o c.li.ds.length k) (.slice p c.on.length m)) H0 30 ky ky ?_
  intro q1 w2 (h3 : HA (bs w) [(q1, 30, caC c (.slice o c.li.ds.length k) (.slice p c.on.length m))] w2)
  refine zv (.string ({ data := #[] })) ?_
  refine wl_nil (then_at rfl (wp_seq (wl_region ?_)))
  refine wl_mks (n := 2) (m := 2) (c := #[iN .i64 1, iN .i64 2]) h3 3 ky ky ?_
  intro q4 w5 (h6 : HA (bs w) [(q4, 3, #[iN .i64 1, iN .i64 2]), (q1, 30, caC c (.slice o c.li.ds.length k) (.slice p c.on.length m))] w5)
  refine zv (.func (.func 62) #[] #[.pointer (some ⟨q1, 0, none⟩)]) ?_
  refine zv (.agg #[.slice (some ⟨q4, 0, none⟩) 2 2, .func (.func 62) #[] #[.pointer (some ⟨q1, 0, none⟩)]]) ?_
  refine wl_mks (n := 1) (m := 1) (c := #[iN .i64 2]) h6 3 ky ky ?_
  intro q7 w8 (h9 : HA (bs w) [(q7, 3, #[iN .i64 2]), (q4, 3, #[iN .i64 1, iN .i64 2]), (q1, 30, caC c (.slice o c.li.ds.length k) (.slice p c.on.length m))] w8)
  refine zv (.func (.func 64) #[] #[.pointer (some ⟨q1, 0, none⟩)]) ?_
  refine zv (.agg #[.slice (some ⟨q7, 0, none⟩) 1 1, .func (.func 64) #[] #[.pointer (some ⟨q1, 0, none⟩)]]) ?_
  refine wl_mks (n := 1) (m := 1) (c := #[iN .i64 3]) h9 3 ky ky ?_
  intro q10 w11 (h12 : HA (bs w) [(q10, 3, #[iN .i64 3]), (q7, 3, #[iN .i64 2]), (q4, 3, #[iN .i64 1, iN .i64 2]), (q1, 30, caC c (.slice o c.li.ds.length k) (.slice p c.on.length m))] w11)
  refine zv (.func (.func 65) #[] #[.pointer (some ⟨q1, 0, none⟩)]) ?_
  refine zv (.agg #[.slice (some ⟨q10, 0, none⟩) 1 1, .func (.func 65) #[] #[.pointer (some ⟨q1, 0, none⟩)]]) ?_
  refine wl_mks (n := 1) (m := 1) (c := #[iN .i64 4]) h12 3 ky ky ?_
  intro q13 w14 (h15 : HA (bs w) [(q13, 3, #[iN .i64 4]), (q10, 3, #[iN .i64 3]), (q7, 3, #[iN .i64 2]), (q4, 3, #[iN .i64 1, iN .i64 2]), (q1, 30, caC c (.slice o c.li.ds.length k) (.slice p c.on.length m))] w14)
  refine zv (.func (.func 68) #[] #[.pointer (some ⟨q1, 0, none⟩)]) ?_
  refine zv (.agg #[.slice (some ⟨q13, 0, none⟩) 1 1, .func (.func 68) #[] #[.pointer (some ⟨q1, 0, none⟩)]]) ?_
  refine wl_mks (n := 1) (m := 1) (c := #[iN .i64 4]) h15 3 ky ky ?_
  intro q16 w17 (h18 : HA (bs w) [(q16, 3, #[iN .i64 4]), (q13, 3, #[iN .i64 4]), (q10, 3, #[iN .i64 3]), (q7, 3, #[iN .i64 2]), (q4, 3, #[iN .i64 1, iN .i64 2]), (q1, 30, caC c (.slice o c.li.ds.length k) (.slice p c.on.length m))] w17)
  refine zv (.func (.func 69) #[] #[.pointer (some ⟨q1, 0, none⟩)]) ?_
  refine zv (.agg #[.slice (some ⟨q16, 0, none⟩) 1 1, .func (.func 69) #[] #[.pointer (some ⟨q1, 0, none⟩)]]) ?_
  refine wl_mks (n := 1) (m := 1) (c := #[iN .i64 5]) h18 3 ky ky ?_
  intro q19 w20 (h21 : HA (bs w) [(q19, 3, #[iN .i64 5]), (q16, 3, #[iN .i64 4]), (q13, 3, #[iN .i64 4]), (q10, 3, #[iN .i64 3]), (q7, 3, #[iN .i64 2]), (q4, 3, #[iN .i64 1, iN .i64 2]), (q1, 30, caC c (.slice o c.li.ds.length k) (.slice p c.on.length m))] w20)
  refine zv (.func (.func 70) #[] #[.pointer (some ⟨q1, 0, none⟩)]) ?_
  refine zv (.agg #[.slice (some ⟨q19, 0, none⟩) 1 1, .func (.func 70) #[] #[.pointer (some ⟨q1, 0, none⟩)]]) ?_
  refine wl_mks (n := 2) (m := 2) (c := #[iN .i64 6, iN .i64 7]) h21 3 ky ky ?_
  intro q22 w23 (h24 : HA (bs w) [(q22, 3, #[iN .i64 6, iN .i64 7]), (q19, 3, #[iN .i64 5]), (q16, 3, #[iN .i64 4]), (q13, 3, #[iN .i64 4]), (q10, 3, #[iN .i64 3]), (q7, 3, #[iN .i64 2]), (q4, 3, #[iN .i64 1, iN .i64 2]), (q1, 30, caC c (.slice o c.li.ds.length k) (.slice p c.on.length m))] w23)
  refine zv (.func (.func 72) #[] #[.pointer (some ⟨q1, 0, none⟩)]) ?_
  refine zv (.agg #[.slice (some ⟨q22, 0, none⟩) 2 2, .func (.func 72) #[] #[.pointer (some ⟨q1, 0, none⟩)]]) ?_
  refine wl_mks (n := 2) (m := 2) (c := #[iN .i64 8, iN .i64 9]) h24 3 ky ky ?_
  intro q25 w26 (h27 : HA (bs w) [(q25, 3, #[iN .i64 8, iN .i64 9]), (q22, 3, #[iN .i64 6, iN .i64 7]), (q19, 3, #[iN .i64 5]), (q16, 3, #[iN .i64 4]), (q13, 3, #[iN .i64 4]), (q10, 3, #[iN .i64 3]), (q7, 3, #[iN .i64 2]), (q4, 3, #[iN .i64 1, iN .i64 2]), (q1, 30, caC c (.slice o c.li.ds.length k) (.slice p c.on.length m))] w26)
  refine zv (.func (.func 73) #[] #[.pointer (some ⟨q1, 0, none⟩)]) ?_
  refine zv (.agg #[.slice (some ⟨q25, 0, none⟩) 2 2, .func (.func 73) #[] #[.pointer (some ⟨q1, 0, none⟩)]]) ?_
  refine wl_mks (n := 2) (m := 2) (c := #[iN .i64 5, iN .i64 8]) h27 3 ky ky ?_
  intro q28 w29 (h30 : HA (bs w) [(q28, 3, #[iN .i64 5, iN .i64 8]), (q25, 3, #[iN .i64 8, iN .i64 9]), (q22, 3, #[iN .i64 6, iN .i64 7]), (q19, 3, #[iN .i64 5]), (q16, 3, #[iN .i64 4]), (q13, 3, #[iN .i64 4]), (q10, 3, #[iN .i64 3]), (q7, 3, #[iN .i64 2]), (q4, 3, #[iN .i64 1, iN .i64 2]), (q1, 30, caC c (.slice o c.li.ds.length k) (.slice p c.on.length m))] w29)
  refine zv (.func (.func 74) #[] #[.pointer (some ⟨q1, 0, none⟩)]) ?_
  refine zv (.agg #[.slice (some ⟨q28, 0, none⟩) 2 2, .func (.func 74) #[] #[.pointer (some ⟨q1, 0, none⟩)]]) ?_
  refine wl_mks (n := 9) (m := 9) (c := #[.slice (some ⟨q4, 0, none⟩) 2 2, .func (.func 62) #[] #[.pointer (some ⟨q1, 0, none⟩)], .slice (some ⟨q7, 0, none⟩) 1 1, .func (.func 64) #[] #[.pointer (some ⟨q1, 0, none⟩)], .slice (some ⟨q10, 0, none⟩) 1 1, .func (.func 65) #[] #[.pointer (some ⟨q1, 0, none⟩)], .slice (some ⟨q13, 0, none⟩) 1 1, .func (.func 68) #[] #[.pointer (some ⟨q1, 0, none⟩)], .slice (some ⟨q16, 0, none⟩) 1 1, .func (.func 69) #[] #[.pointer (some ⟨q1, 0, none⟩)], .slice (some ⟨q19, 0, none⟩) 1 1, .func (.func 70) #[] #[.pointer (some ⟨q1, 0, none⟩)], .slice (some ⟨q22, 0, none⟩) 2 2, .func (.func 72) #[] #[.pointer (some ⟨q1, 0, none⟩)], .slice (some ⟨q25, 0, none⟩) 2 2, .func (.func 73) #[] #[.pointer (some ⟨q1, 0, none⟩)], .slice (some ⟨q28, 0, none⟩) 2 2, .func (.func 74) #[] #[.pointer (some ⟨q1, 0, none⟩)]]) h30 105 ky ky ?_
  intro q31 w32 (h33 : HA (bs w) [(q31, 105, #[.slice (some ⟨q4, 0, none⟩) 2 2, .func (.func 62) #[] #[.pointer (some ⟨q1, 0, none⟩)], .slice (some ⟨q7, 0, none⟩) 1 1, .func (.func 64) #[] #[.pointer (some ⟨q1, 0, none⟩)], .slice (some ⟨q10, 0, none⟩) 1 1, .func (.func 65) #[] #[.pointer (some ⟨q1, 0, none⟩)], .slice (some ⟨q13, 0, none⟩) 1 1, .func (.func 68) #[] #[.pointer (some ⟨q1, 0, none⟩)], .slice (some ⟨q16, 0, none⟩) 1 1, .func (.func 69) #[] #[.pointer (some ⟨q1, 0, none⟩)], .slice (some ⟨q19, 0, none⟩) 1 1, .func (.func 70) #[] #[.pointer (some ⟨q1, 0, none⟩)], .slice (some ⟨q22, 0, none⟩) 2 2, .func (.func 72) #[] #[.pointer (some ⟨q1, 0, none⟩)], .slice (some ⟨q25, 0, none⟩) 2 2, .func (.func 73) #[] #[.pointer (some ⟨q1, 0, none⟩)], .slice (some ⟨q28, 0, none⟩) 2 2, .func (.func 74) #[] #[.pointer (some ⟨q1, 0, none⟩)]]), (q28, 3, #[iN .i64 5, iN .i64 8]), (q25, 3, #[iN .i64 8, iN .i64 9]), (q22, 3, #[iN .i64 6, iN .i64 7]), (q19, 3, #[iN .i64 5]), (q16, 3, #[iN .i64 4]), (q13, 3, #[iN .i64 4]), (q10, 3, #[iN .i64 3]), (q7, 3, #[iN .i64 2]), (q4, 3, #[iN .i64 1, iN .i64 2]), (q1, 30, caC c (.slice o c.li.ds.length k) (.slice p c.on.length m))] w32)
  refine zv (.slice (some ⟨q31, 0, none⟩) 9 9) ?_
  refine wl_nil (then_at rfl (wp_seq ?_))
  refine wp_region_wx (HA (bs w) [(q31, 105, #[.slice (some ⟨q4, 0, none⟩) 2 2, .func (.func 62) #[] #[.pointer (some ⟨q1, 0, none⟩)], .slice (some ⟨q7, 0, none⟩) 1 1, .func (.func 64) #[] #[.pointer (some ⟨q1, 0, none⟩)], .slice (some ⟨q10, 0, none⟩) 1 1, .func (.func 65) #[] #[.pointer (some ⟨q1, 0, none⟩)], .slice (some ⟨q13, 0, none⟩) 1 1, .func (.func 68) #[] #[.pointer (some ⟨q1, 0, none⟩)], .slice (some ⟨q16, 0, none⟩) 1 1, .func (.func 69) #[] #[.pointer (some ⟨q1, 0, none⟩)], .slice (some ⟨q19, 0, none⟩) 1 1, .func (.func 70) #[] #[.pointer (some ⟨q1, 0, none⟩)], .slice (some ⟨q22, 0, none⟩) 2 2, .func (.func 72) #[] #[.pointer (some ⟨q1, 0, none⟩)], .slice (some ⟨q25, 0, none⟩) 2 2, .func (.func 73) #[] #[.pointer (some ⟨q1, 0, none⟩)], .slice (some ⟨q28, 0, none⟩) 2 2, .func (.func 74) #[] #[.pointer (some ⟨q1, 0, none⟩)]]), (q28, 3, #[iN .i64 5, iN .i64 8]), (q25, 3, #[iN .i64 8, iN .i64 9]), (q22, 3, #[iN .i64 6, iN .i64 7]), (q19, 3, #[iN .i64 5]), (q16, 3, #[iN .i64 4]), (q13, 3, #[iN .i64 4]), (q10, 3, #[iN .i64 3]), (q7, 3, #[iN .i64 2]), (q4, 3, #[iN .i64 1, iN .i64 2]), (q1, 30, caC c (.slice o c.li.ds.length k) (.slice p c.on.length m))]) (fun AQ w' => AQ = ⟨(iN .u64 id :: .agg (caC c (.slice o c.li.ds.length k) (.slice p c.on.length m)) :: un :: pt q1 :: .string ({ data := #[] }) :: .slice (some ⟨q31, 0, none⟩) 9 9 :: .string (nbT 8 id ++ nbT 1 c.kd.toNat) :: un :: un :: .slice (some ⟨q4, 0, none⟩) 2 2 :: .func (.func 62) #[] #[pt q1] :: .agg #[.slice (some ⟨q4, 0, none⟩) 2 2, .func (.func 62) #[] #[pt q1]] :: .slice (some ⟨q7, 0, none⟩) 1 1 :: .func (.func 64) #[] #[pt q1] :: .agg #[.slice (some ⟨q7, 0, none⟩) 1 1, .func (.func 64) #[] #[pt q1]] :: .slice (some ⟨q10, 0, none⟩) 1 1 :: .func (.func 65) #[] #[pt q1] :: .agg #[.slice (some ⟨q10, 0, none⟩) 1 1, .func (.func 65) #[] #[pt q1]] :: .slice (some ⟨q13, 0, none⟩) 1 1 :: .func (.func 68) #[] #[pt q1] :: .agg #[.slice (some ⟨q13, 0, none⟩) 1 1, .func (.func 68) #[] #[pt q1]] :: .slice (some ⟨q16, 0, none⟩) 1 1 :: .func (.func 69) #[] #[pt q1] :: .agg #[.slice (some ⟨q16, 0, none⟩) 1 1, .func (.func 69) #[] #[pt q1]] :: .slice (some ⟨q19, 0, none⟩) 1 1 :: .func (.func 70) #[] #[pt q1] :: .agg #[.slice (some ⟨q19, 0, none⟩) 1 1, .func (.func 70) #[] #[pt q1]] :: .slice (some ⟨q22, 0, none⟩) 2 2 :: .func (.func 72) #[] #[pt q1] :: .agg #[.slice (some ⟨q22, 0, none⟩) 2 2, .func (.func 72) #[] #[pt q1]] :: .slice (some ⟨q25, 0, none⟩) 2 2 :: .func (.func 73) #[] #[pt q1] :: .agg #[.slice (some ⟨q25, 0, none⟩) 2 2, .func (.func 73) #[] #[pt q1]] :: .slice (some ⟨q28, 0, none⟩) 2 2 :: .func (.func 74) #[] #[pt q1] :: .agg #[.slice (some ⟨q28, 0, none⟩) 2 2, .func (.func 74) #[] #[pt q1]] :: .slice (some ⟨q31, 0, none⟩) 9 9 :: iN .u64 id :: .string (nbT 8 id) :: pt q1 :: .int .i64 c.kd :: .string (nbT 1 c.kd.toNat) :: .string (nbT 8 id ++ nbT 1 c.kd.toNat) :: List.replicate 18 un).toArray, []⟩ ∧ HA (bs w) [(q31, 105, #[.slice (some ⟨q4, 0, none⟩) 2 2, .func (.func 62) #[] #[.pointer (some ⟨q1, 0, none⟩)], .slice (some ⟨q7, 0, none⟩) 1 1, .func (.func 64) #[] #[.pointer (some ⟨q1, 0, none⟩)], .slice (some ⟨q10, 0, none⟩) 1 1, .func (.func 65) #[] #[.pointer (some ⟨q1, 0, none⟩)], .slice (some ⟨q13, 0, none⟩) 1 1, .func (.func 68) #[] #[.pointer (some ⟨q1, 0, none⟩)], .slice (some ⟨q16, 0, none⟩) 1 1, .func (.func 69) #[] #[.pointer (some ⟨q1, 0, none⟩)], .slice (some ⟨q19, 0, none⟩) 1 1, .func (.func 70) #[] #[.pointer (some ⟨q1, 0, none⟩)], .slice (some ⟨q22, 0, none⟩) 2 2, .func (.func 72) #[] #[.pointer (some ⟨q1, 0, none⟩)], .slice (some ⟨q25, 0, none⟩) 2 2, .func (.func 73) #[] #[.pointer (some ⟨q1, 0, none⟩)], .slice (some ⟨q28, 0, none⟩) 2 2, .func (.func 74) #[] #[.pointer (some ⟨q1, 0, none⟩)]]), (q28, 3, #[iN .i64 5, iN .i64 8]), (q25, 3, #[iN .i64 8, iN .i64 9]), (q22, 3, #[iN .i64 6, iN .i64 7]), (q19, 3, #[iN .i64 5]), (q16, 3, #[iN .i64 4]), (q13, 3, #[iN .i64 4]), (q10, 3, #[iN .i64 3]), (q7, 3, #[iN .i64 2]), (q4, 3, #[iN .i64 1, iN .i64 2]), (q1, 30, caC c (.slice o c.li.ds.length k) (.slice p c.on.length m))] w') 7 ky ky ky ky ky (h33.drew) ?_ ?_
  · have h34 := h33.drew
    refine zp 0 (iN .u64 id) ?_
    refine wx_call (i := 1) (.string (nbT 8 id)) (fun _ _ h hb => HA.keep _ _ h hb) rfl rfl ky ky enter71 #[iN .i64 8, iN .u64 id] ky (fun w' h' => nw_any 8 id) ?_
    refine zp 2 (.pointer (some ⟨q1, 0, none⟩)) ?_
    refine wx_val (i := 3) (.int .i64 c.kd) rfl rfl ky ky (fun w' h' => run_load1 (fun w => Try.isAgg3 w) ky (((h'.get 10 rfl).cell 0).trans rfl)) ?_
    refine wx_call (i := 4) (.string (nbT 1 c.kd.toNat)) (fun _ _ h hb => HA.keep _ _ h hb) rfl rfl ky ky enter63 #[iN .i64 1, .int .i64 c.kd] ky (fun w' h' => nu_any 1 c.kd (by have := hO.kd; omega) (by have := hO.kd; omega)) ?_
    refine wx_pure (i := 5) (.string (nbT 8 id ++ nbT 1 c.kd.toNat)) rfl rfl ky ky (fun _ => (run_cat (s := nbT 8 id) (t := nbT 1 c.kd.toNat) ky ky (by simp only [nbT_size (k := 1) (by decide) (by decide), nbT_size (k := 8) (by decide) (by decide)]; omega))) ?_
    refine zp 6 (.string (nbT 8 id ++ nbT 1 c.kd.toNat)) ?_
    refine wx_end fun w35 hbx _ => ?_
    have h36 := HA.keep _ _ h34 hbx
    exact ⟨by kernel_rfl, h36⟩
  · rintro _ w37 ⟨rfl, h38⟩
    refine then_at rfl (wp_seq (wp_seq (wl_region ?_)))
    refine zv (.slice (some ⟨q31, 0, none⟩) 9 9) ?_
    refine zv (iN .i64 9) ?_
    refine zv (iN .i64 0) ?_
    refine wl_nil (then_at rfl (wp_block ?_))
    refine wp_count (fun i A w' => ∃ u39 : Nat → Value, A = ⟨(iN .u64 id :: .agg (caC c (.slice o c.li.ds.length k) (.slice p c.on.length m)) :: un :: pt q1 :: .string ({ data := #[] }) :: .slice (some ⟨q31, 0, none⟩) 9 9 :: .string (calP id c i) :: un :: u39 8 :: .slice (some ⟨q4, 0, none⟩) 2 2 :: .func (.func 62) #[] #[pt q1] :: .agg #[.slice (some ⟨q4, 0, none⟩) 2 2, .func (.func 62) #[] #[pt q1]] :: .slice (some ⟨q7, 0, none⟩) 1 1 :: .func (.func 64) #[] #[pt q1] :: .agg #[.slice (some ⟨q7, 0, none⟩) 1 1, .func (.func 64) #[] #[pt q1]] :: .slice (some ⟨q10, 0, none⟩) 1 1 :: .func (.func 65) #[] #[pt q1] :: .agg #[.slice (some ⟨q10, 0, none⟩) 1 1, .func (.func 65) #[] #[pt q1]] :: .slice (some ⟨q13, 0, none⟩) 1 1 :: .func (.func 68) #[] #[pt q1] :: .agg #[.slice (some ⟨q13, 0, none⟩) 1 1, .func (.func 68) #[] #[pt q1]] :: .slice (some ⟨q16, 0, none⟩) 1 1 :: .func (.func 69) #[] #[pt q1] :: .agg #[.slice (some ⟨q16, 0, none⟩) 1 1, .func (.func 69) #[] #[pt q1]] :: .slice (some ⟨q19, 0, none⟩) 1 1 :: .func (.func 70) #[] #[pt q1] :: .agg #[.slice (some ⟨q19, 0, none⟩) 1 1, .func (.func 70) #[] #[pt q1]] :: .slice (some ⟨q22, 0, none⟩) 2 2 :: .func (.func 72) #[] #[pt q1] :: .agg #[.slice (some ⟨q22, 0, none⟩) 2 2, .func (.func 72) #[] #[pt q1]] :: .slice (some ⟨q25, 0, none⟩) 2 2 :: .func (.func 73) #[] #[pt q1] :: .agg #[.slice (some ⟨q25, 0, none⟩) 2 2, .func (.func 73) #[] #[pt q1]] :: .slice (some ⟨q28, 0, none⟩) 2 2 :: .func (.func 74) #[] #[pt q1] :: .agg #[.slice (some ⟨q28, 0, none⟩) 2 2, .func (.func 74) #[] #[pt q1]] :: .slice (some ⟨q31, 0, none⟩) 9 9 :: iN .u64 id :: .string (nbT 8 id) :: pt q1 :: .int .i64 c.kd :: .string (nbT 1 c.kd.toNat) :: .string (nbT 8 id ++ nbT 1 c.kd.toNat) :: .slice (some ⟨q31, 0, none⟩) 9 9 :: iN .i64 9 :: iN .i64 i :: u39 46 :: u39 47 :: u39 48 :: u39 49 :: u39 50 :: u39 51 :: u39 52 :: u39 53 :: u39 54 :: u39 55 :: u39 56 :: u39 57 :: u39 58 :: u39 59 :: List.replicate 1 un).toArray, []⟩ ∧ HA (bs w) [(q31, 105, #[.slice (some ⟨q4, 0, none⟩) 2 2, .func (.func 62) #[] #[.pointer (some ⟨q1, 0, none⟩)], .slice (some ⟨q7, 0, none⟩) 1 1, .func (.func 64) #[] #[.pointer (some ⟨q1, 0, none⟩)], .slice (some ⟨q10, 0, none⟩) 1 1, .func (.func 65) #[] #[.pointer (some ⟨q1, 0, none⟩)], .slice (some ⟨q13, 0, none⟩) 1 1, .func (.func 68) #[] #[.pointer (some ⟨q1, 0, none⟩)], .slice (some ⟨q16, 0, none⟩) 1 1, .func (.func 69) #[] #[.pointer (some ⟨q1, 0, none⟩)], .slice (some ⟨q19, 0, none⟩) 1 1, .func (.func 70) #[] #[.pointer (some ⟨q1, 0, none⟩)], .slice (some ⟨q22, 0, none⟩) 2 2, .func (.func 72) #[] #[.pointer (some ⟨q1, 0, none⟩)], .slice (some ⟨q25, 0, none⟩) 2 2, .func (.func 73) #[] #[.pointer (some ⟨q1, 0, none⟩)], .slice (some ⟨q28, 0, none⟩) 2 2, .func (.func 74) #[] #[.pointer (some ⟨q1, 0, none⟩)]]), (q28, 3, #[iN .i64 5, iN .i64 8]), (q25, 3, #[iN .i64 8, iN .i64 9]), (q22, 3, #[iN .i64 6, iN .i64 7]), (q19, 3, #[iN .i64 5]), (q16, 3, #[iN .i64 4]), (q13, 3, #[iN .i64 4]), (q10, 3, #[iN .i64 3]), (q7, 3, #[iN .i64 2]), (q4, 3, #[iN .i64 1, iN .i64 2]), (q1, 30, caC c (.slice o c.li.ds.length k) (.slice p c.on.length m))] w') 9 ?_ ?_ ?_
    · exact ⟨fun ii => (([] : List (Nat × Value)).find? (·.1 == ii)).elim undef (·.2), by kernel_rfl, h38⟩
    · rintro i hk _ w40 ⟨u39, rfl, h41⟩
      refine wp_seq (wl_region ?_)
      refine zu (.bool true) (run_lss (k := .i64) (a := i) (b := 9) ky ky true (decide_eq_true (by omega))) ?_
      refine wl_nil (then_at rfl (wp_seq ?_))
      refine wp_cond_true ky ?_
      refine wp_skip (then_at rfl (wp_seq (wp_block (wp_seq ?_))))
      rcases nine hk with rfl | rfl | rfl | rfl | rfl | rfl | rfl | rfl | rfl
      · refine wl_region ?_
        refine zv (.pointer (some ⟨q31, 0, none⟩)) ?_
        refine zu (.agg #[.slice (some ⟨q4, 0, none⟩) 2 2, .func (.func 62) #[] #[.pointer (some ⟨q1, 0, none⟩)]]) (run_load_part (q := q31) (off := 0) (d := #[.slice (some ⟨q4, 0, none⟩) 2 2, .func (.func 62) #[] #[.pointer (some ⟨q1, 0, none⟩)]]) ky (h41.get 0 rfl) Try.underlying105 rfl ky (by intro j hj; match j, hj with | 0, _ => rfl | 1, _ => rfl)) ?_
        refine wl_make (c := #[.slice none 0 0, .nilFunc]) h41 105 ky ky ?_
        intro q42 w43 (h44 : HA (bs w) [(q42, 105, #[.slice none 0 0, .nilFunc]), (q31, 105, #[.slice (some ⟨q4, 0, none⟩) 2 2, .func (.func 62) #[] #[.pointer (some ⟨q1, 0, none⟩)], .slice (some ⟨q7, 0, none⟩) 1 1, .func (.func 64) #[] #[.pointer (some ⟨q1, 0, none⟩)], .slice (some ⟨q10, 0, none⟩) 1 1, .func (.func 65) #[] #[.pointer (some ⟨q1, 0, none⟩)], .slice (some ⟨q13, 0, none⟩) 1 1, .func (.func 68) #[] #[.pointer (some ⟨q1, 0, none⟩)], .slice (some ⟨q16, 0, none⟩) 1 1, .func (.func 69) #[] #[.pointer (some ⟨q1, 0, none⟩)], .slice (some ⟨q19, 0, none⟩) 1 1, .func (.func 70) #[] #[.pointer (some ⟨q1, 0, none⟩)], .slice (some ⟨q22, 0, none⟩) 2 2, .func (.func 72) #[] #[.pointer (some ⟨q1, 0, none⟩)], .slice (some ⟨q25, 0, none⟩) 2 2, .func (.func 73) #[] #[.pointer (some ⟨q1, 0, none⟩)], .slice (some ⟨q28, 0, none⟩) 2 2, .func (.func 74) #[] #[.pointer (some ⟨q1, 0, none⟩)]]), (q28, 3, #[iN .i64 5, iN .i64 8]), (q25, 3, #[iN .i64 8, iN .i64 9]), (q22, 3, #[iN .i64 6, iN .i64 7]), (q19, 3, #[iN .i64 5]), (q16, 3, #[iN .i64 4]), (q13, 3, #[iN .i64 4]), (q10, 3, #[iN .i64 3]), (q7, 3, #[iN .i64 2]), (q4, 3, #[iN .i64 1, iN .i64 2]), (q1, 30, caC c (.slice o c.li.ds.length k) (.slice p c.on.length m))] w43)
        refine wl_fill (c' := #[.slice (some ⟨q4, 0, none⟩) 2 2, .func (.func 62) #[] #[.pointer (some ⟨q1, 0, none⟩)]]) h44 0 rfl ky ky ky rfl ky ky ?_
        intro w45 (h46 : HA (bs w) [(q42, 105, #[.slice (some ⟨q4, 0, none⟩) 2 2, .func (.func 62) #[] #[.pointer (some ⟨q1, 0, none⟩)]]), (q31, 105, #[.slice (some ⟨q4, 0, none⟩) 2 2, .func (.func 62) #[] #[.pointer (some ⟨q1, 0, none⟩)], .slice (some ⟨q7, 0, none⟩) 1 1, .func (.func 64) #[] #[.pointer (some ⟨q1, 0, none⟩)], .slice (some ⟨q10, 0, none⟩) 1 1, .func (.func 65) #[] #[.pointer (some ⟨q1, 0, none⟩)], .slice (some ⟨q13, 0, none⟩) 1 1, .func (.func 68) #[] #[.pointer (some ⟨q1, 0, none⟩)], .slice (some ⟨q16, 0, none⟩) 1 1, .func (.func 69) #[] #[.pointer (some ⟨q1, 0, none⟩)], .slice (some ⟨q19, 0, none⟩) 1 1, .func (.func 70) #[] #[.pointer (some ⟨q1, 0, none⟩)], .slice (some ⟨q22, 0, none⟩) 2 2, .func (.func 72) #[] #[.pointer (some ⟨q1, 0, none⟩)], .slice (some ⟨q25, 0, none⟩) 2 2, .func (.func 73) #[] #[.pointer (some ⟨q1, 0, none⟩)], .slice (some ⟨q28, 0, none⟩) 2 2, .func (.func 74) #[] #[.pointer (some ⟨q1, 0, none⟩)]]), (q28, 3, #[iN .i64 5, iN .i64 8]), (q25, 3, #[iN .i64 8, iN .i64 9]), (q22, 3, #[iN .i64 6, iN .i64 7]), (q19, 3, #[iN .i64 5]), (q16, 3, #[iN .i64 4]), (q13, 3, #[iN .i64 4]), (q10, 3, #[iN .i64 3]), (q7, 3, #[iN .i64 2]), (q4, 3, #[iN .i64 1, iN .i64 2]), (q1, 30, caC c (.slice o c.li.ds.length k) (.slice p c.on.length m))] w45)
        refine wl_nil (then_at rfl (wp_seq (wl_region ?_)))
        refine zv (.pointer (some ⟨q42, 0, none⟩)) ?_
        refine zu (.slice (some ⟨q4, 0, none⟩) 2 2) (run_load1 (fun w => Try.isAgg103 w) ky (((h46.get 0 rfl).cell 0).trans rfl)) ?_
        refine zv (.pointer (some ⟨q1, 0, none⟩)) ?_
        refine zu (.int .i64 c.kd) (run_load1 (fun w => Try.isAgg3 w) ky (((h46.get 11 rfl).cell 0).trans rfl)) ?_
        rcases q47 : conA [1, 2] c.kd with _ | _
        · refine wl_call (v := .bool false) h46 ky enter75 #[.slice (some ⟨q4, 0, none⟩) 2 2, .int .i64 c.kd] ky (((con_any [1, 2] c.kd (own_in h46 10 [1, 2] rfl) (by decide)).mono fun _ _ hh => ⟨by rw [hh.1, q47], hh.2⟩)) ?_
          intro w48 h49
          refine wl_nil (then_at rfl ?_)
          refine wp_cond_false ky ?_
          refine wp_skip (block_normal (then_at rfl (wl_region ?_)))
          refine zu (iN .i64 (0 + 1)) (run_add (k := .i64) (a := 0) (b := 1) ky ky (by decide)) ?_
          refine zv (iN .i64 (0 + 1)) ?_
          refine wl_nil ?_
          exact then_I ⟨fun ii => (([(8, .pointer (some ⟨q42, 0, none⟩)), (46, .bool true), (47, .pointer (some ⟨q31, 0, none⟩)), (48, .agg #[.slice (some ⟨q4, 0, none⟩) 2 2, .func (.func 62) #[] #[.pointer (some ⟨q1, 0, none⟩)]]), (49, .pointer (some ⟨q42, 0, none⟩)), (50, .slice (some ⟨q4, 0, none⟩) 2 2), (51, .pointer (some ⟨q1, 0, none⟩)), (52, .int .i64 c.kd), (53, .bool false), (54, u39 54), (55, u39 55), (56, u39 56), (57, u39 57), (58, u39 58), (59, iN .i64 (0 + 1))] : List (Nat × Value)).find? (·.1 == ii)).elim undef (·.2), (by rw [calP_f (id := id) (c := c) (i := 0) q47]; kernel_rfl), (HA.sub h49 (List.Sublist.cons _ (List.Sublist.cons_cons _ (List.Sublist.cons_cons _ (List.Sublist.cons_cons _ (List.Sublist.cons_cons _ (List.Sublist.cons_cons _ (List.Sublist.cons_cons _ (List.Sublist.cons_cons _ (List.Sublist.cons_cons _ (List.Sublist.cons_cons _ (List.Sublist.cons_cons _ (List.Sublist.cons_cons _ (List.Sublist.slnil))))))))))))))⟩
        refine wl_call (v := .bool true) h46 ky enter75 #[.slice (some ⟨q4, 0, none⟩) 2 2, .int .i64 c.kd] ky (((con_any [1, 2] c.kd (own_in h46 10 [1, 2] rfl) (by decide)).mono fun _ _ hh => ⟨by rw [hh.1, q47], hh.2⟩)) ?_
        intro w50 h51
        refine wl_nil (then_at rfl ?_)
        refine wp_cond_true ky ?_
        refine wl_region ?_
        refine zv (.string (calP id c 0)) ?_
        refine zv (.pointer (some ⟨q42, 1, none⟩)) ?_
        refine zu (.func (.func 62) #[] #[.pointer (some ⟨q1, 0, none⟩)]) (run_load1 (fun w => Try.isAgg84 w) ky (((h51.get 0 rfl).cell 1).trans rfl)) ?_
        refine wl_callvx (cap := #[.pointer (some ⟨q1, 0, none⟩)]) (args := #[.pointer (some ⟨q1, 0, none⟩)]) ky enter62 ky ky (cf_0 c (hP.keep h51.old.old) (hQ.keep h51.old.old) hl1 hl2 (h51.get 11 rfl) (fb0 hO q47)) ?_
        rintro _ w53 ⟨rfl, hb52⟩
        refine ⟨_, rfl, ?_⟩
        have h54 := HA.keep _ _ h51 hb52
        refine zu (.string (calP id c 0 ++ fldC c 0)) (run_cat (s := calP id c 0) (t := fldC c 0) ky ky (by have h8 := calP_size (id := id) hO 0; have h9 := fld_size hO 0 q47; omega)) ?_
        refine zv (.string (calP id c 0 ++ fldC c 0)) ?_
        refine wl_nil (block_normal (then_at rfl (wl_region ?_)))
        refine zu (iN .i64 (0 + 1)) (run_add (k := .i64) (a := 0) (b := 1) ky ky (by decide)) ?_
        refine zv (iN .i64 (0 + 1)) ?_
        refine wl_nil ?_
        exact then_I ⟨fun ii => (([(8, .pointer (some ⟨q42, 0, none⟩)), (46, .bool true), (47, .pointer (some ⟨q31, 0, none⟩)), (48, .agg #[.slice (some ⟨q4, 0, none⟩) 2 2, .func (.func 62) #[] #[.pointer (some ⟨q1, 0, none⟩)]]), (49, .pointer (some ⟨q42, 0, none⟩)), (50, .slice (some ⟨q4, 0, none⟩) 2 2), (51, .pointer (some ⟨q1, 0, none⟩)), (52, .int .i64 c.kd), (53, .bool true), (54, .string (calP id c 0)), (55, .pointer (some ⟨q42, 1, none⟩)), (56, .func (.func 62) #[] #[.pointer (some ⟨q1, 0, none⟩)]), (57, .string (fldC c 0)), (58, .string (calP id c 0 ++ fldC c 0)), (59, iN .i64 (0 + 1))] : List (Nat × Value)).find? (·.1 == ii)).elim undef (·.2), (by rw [calP_t (id := id) (c := c) (i := 0) q47]; kernel_rfl), (HA.sub h54 (List.Sublist.cons _ (List.Sublist.cons_cons _ (List.Sublist.cons_cons _ (List.Sublist.cons_cons _ (List.Sublist.cons_cons _ (List.Sublist.cons_cons _ (List.Sublist.cons_cons _ (List.Sublist.cons_cons _ (List.Sublist.cons_cons _ (List.Sublist.cons_cons _ (List.Sublist.cons_cons _ (List.Sublist.cons_cons _ (List.Sublist.slnil))))))))))))))⟩
      · refine wl_region ?_
        refine zv (.pointer (some ⟨q31, 2, none⟩)) ?_
        refine zu (.agg #[.slice (some ⟨q7, 0, none⟩) 1 1, .func (.func 64) #[] #[.pointer (some ⟨q1, 0, none⟩)]]) (run_load_part (q := q31) (off := 2) (d := #[.slice (some ⟨q7, 0, none⟩) 1 1, .func (.func 64) #[] #[.pointer (some ⟨q1, 0, none⟩)]]) ky (h41.get 0 rfl) Try.underlying105 rfl ky (by intro j hj; match j, hj with | 0, _ => rfl | 1, _ => rfl)) ?_
        refine wl_make (c := #[.slice none 0 0, .nilFunc]) h41 105 ky ky ?_
        intro q55 w56 (h57 : HA (bs w) [(q55, 105, #[.slice none 0 0, .nilFunc]), (q31, 105, #[.slice (some ⟨q4, 0, none⟩) 2 2, .func (.func 62) #[] #[.pointer (some ⟨q1, 0, none⟩)], .slice (some ⟨q7, 0, none⟩) 1 1, .func (.func 64) #[] #[.pointer (some ⟨q1, 0, none⟩)], .slice (some ⟨q10, 0, none⟩) 1 1, .func (.func 65) #[] #[.pointer (some ⟨q1, 0, none⟩)], .slice (some ⟨q13, 0, none⟩) 1 1, .func (.func 68) #[] #[.pointer (some ⟨q1, 0, none⟩)], .slice (some ⟨q16, 0, none⟩) 1 1, .func (.func 69) #[] #[.pointer (some ⟨q1, 0, none⟩)], .slice (some ⟨q19, 0, none⟩) 1 1, .func (.func 70) #[] #[.pointer (some ⟨q1, 0, none⟩)], .slice (some ⟨q22, 0, none⟩) 2 2, .func (.func 72) #[] #[.pointer (some ⟨q1, 0, none⟩)], .slice (some ⟨q25, 0, none⟩) 2 2, .func (.func 73) #[] #[.pointer (some ⟨q1, 0, none⟩)], .slice (some ⟨q28, 0, none⟩) 2 2, .func (.func 74) #[] #[.pointer (some ⟨q1, 0, none⟩)]]), (q28, 3, #[iN .i64 5, iN .i64 8]), (q25, 3, #[iN .i64 8, iN .i64 9]), (q22, 3, #[iN .i64 6, iN .i64 7]), (q19, 3, #[iN .i64 5]), (q16, 3, #[iN .i64 4]), (q13, 3, #[iN .i64 4]), (q10, 3, #[iN .i64 3]), (q7, 3, #[iN .i64 2]), (q4, 3, #[iN .i64 1, iN .i64 2]), (q1, 30, caC c (.slice o c.li.ds.length k) (.slice p c.on.length m))] w56)
        refine wl_fill (c' := #[.slice (some ⟨q7, 0, none⟩) 1 1, .func (.func 64) #[] #[.pointer (some ⟨q1, 0, none⟩)]]) h57 0 rfl ky ky ky rfl ky ky ?_
        intro w58 (h59 : HA (bs w) [(q55, 105, #[.slice (some ⟨q7, 0, none⟩) 1 1, .func (.func 64) #[] #[.pointer (some ⟨q1, 0, none⟩)]]), (q31, 105, #[.slice (some ⟨q4, 0, none⟩) 2 2, .func (.func 62) #[] #[.pointer (some ⟨q1, 0, none⟩)], .slice (some ⟨q7, 0, none⟩) 1 1, .func (.func 64) #[] #[.pointer (some ⟨q1, 0, none⟩)], .slice (some ⟨q10, 0, none⟩) 1 1, .func (.func 65) #[] #[.pointer (some ⟨q1, 0, none⟩)], .slice (some ⟨q13, 0, none⟩) 1 1, .func (.func 68) #[] #[.pointer (some ⟨q1, 0, none⟩)], .slice (some ⟨q16, 0, none⟩) 1 1, .func (.func 69) #[] #[.pointer (some ⟨q1, 0, none⟩)], .slice (some ⟨q19, 0, none⟩) 1 1, .func (.func 70) #[] #[.pointer (some ⟨q1, 0, none⟩)], .slice (some ⟨q22, 0, none⟩) 2 2, .func (.func 72) #[] #[.pointer (some ⟨q1, 0, none⟩)], .slice (some ⟨q25, 0, none⟩) 2 2, .func (.func 73) #[] #[.pointer (some ⟨q1, 0, none⟩)], .slice (some ⟨q28, 0, none⟩) 2 2, .func (.func 74) #[] #[.pointer (some ⟨q1, 0, none⟩)]]), (q28, 3, #[iN .i64 5, iN .i64 8]), (q25, 3, #[iN .i64 8, iN .i64 9]), (q22, 3, #[iN .i64 6, iN .i64 7]), (q19, 3, #[iN .i64 5]), (q16, 3, #[iN .i64 4]), (q13, 3, #[iN .i64 4]), (q10, 3, #[iN .i64 3]), (q7, 3, #[iN .i64 2]), (q4, 3, #[iN .i64 1, iN .i64 2]), (q1, 30, caC c (.slice o c.li.ds.length k) (.slice p c.on.length m))] w58)
        refine wl_nil (then_at rfl (wp_seq (wl_region ?_)))
        refine zv (.pointer (some ⟨q55, 0, none⟩)) ?_
        refine zu (.slice (some ⟨q7, 0, none⟩) 1 1) (run_load1 (fun w => Try.isAgg103 w) ky (((h59.get 0 rfl).cell 0).trans rfl)) ?_
        refine zv (.pointer (some ⟨q1, 0, none⟩)) ?_
        refine zu (.int .i64 c.kd) (run_load1 (fun w => Try.isAgg3 w) ky (((h59.get 11 rfl).cell 0).trans rfl)) ?_
        rcases q60 : conA [2] c.kd with _ | _
        · refine wl_call (v := .bool false) h59 ky enter75 #[.slice (some ⟨q7, 0, none⟩) 1 1, .int .i64 c.kd] ky (((con_any [2] c.kd (own_in h59 9 [2] rfl) (by decide)).mono fun _ _ hh => ⟨by rw [hh.1, q60], hh.2⟩)) ?_
          intro w61 h62
          refine wl_nil (then_at rfl ?_)
          refine wp_cond_false ky ?_
          refine wp_skip (block_normal (then_at rfl (wl_region ?_)))
          refine zu (iN .i64 (1 + 1)) (run_add (k := .i64) (a := 1) (b := 1) ky ky (by decide)) ?_
          refine zv (iN .i64 (1 + 1)) ?_
          refine wl_nil ?_
          exact then_I ⟨fun ii => (([(8, .pointer (some ⟨q55, 0, none⟩)), (46, .bool true), (47, .pointer (some ⟨q31, 2, none⟩)), (48, .agg #[.slice (some ⟨q7, 0, none⟩) 1 1, .func (.func 64) #[] #[.pointer (some ⟨q1, 0, none⟩)]]), (49, .pointer (some ⟨q55, 0, none⟩)), (50, .slice (some ⟨q7, 0, none⟩) 1 1), (51, .pointer (some ⟨q1, 0, none⟩)), (52, .int .i64 c.kd), (53, .bool false), (54, u39 54), (55, u39 55), (56, u39 56), (57, u39 57), (58, u39 58), (59, iN .i64 (1 + 1))] : List (Nat × Value)).find? (·.1 == ii)).elim undef (·.2), (by rw [calP_f (id := id) (c := c) (i := 1) q60]; kernel_rfl), (HA.sub h62 (List.Sublist.cons _ (List.Sublist.cons_cons _ (List.Sublist.cons_cons _ (List.Sublist.cons_cons _ (List.Sublist.cons_cons _ (List.Sublist.cons_cons _ (List.Sublist.cons_cons _ (List.Sublist.cons_cons _ (List.Sublist.cons_cons _ (List.Sublist.cons_cons _ (List.Sublist.cons_cons _ (List.Sublist.cons_cons _ (List.Sublist.slnil))))))))))))))⟩
        refine wl_call (v := .bool true) h59 ky enter75 #[.slice (some ⟨q7, 0, none⟩) 1 1, .int .i64 c.kd] ky (((con_any [2] c.kd (own_in h59 9 [2] rfl) (by decide)).mono fun _ _ hh => ⟨by rw [hh.1, q60], hh.2⟩)) ?_
        intro w63 h64
        refine wl_nil (then_at rfl ?_)
        refine wp_cond_true ky ?_
        refine wl_region ?_
        refine zv (.string (calP id c 1)) ?_
        refine zv (.pointer (some ⟨q55, 1, none⟩)) ?_
        refine zu (.func (.func 64) #[] #[.pointer (some ⟨q1, 0, none⟩)]) (run_load1 (fun w => Try.isAgg84 w) ky (((h64.get 0 rfl).cell 1).trans rfl)) ?_
        refine wl_callvx (cap := #[.pointer (some ⟨q1, 0, none⟩)]) (args := #[.pointer (some ⟨q1, 0, none⟩)]) ky enter64 ky ky (cf_1 c (hP.keep h64.old.old) (hQ.keep h64.old.old) hl1 hl2 (h64.get 11 rfl) (fb1 hO q60)) ?_
        rintro _ w66 ⟨rfl, hb65⟩
        refine ⟨_, rfl, ?_⟩
        have h67 := HA.keep _ _ h64 hb65
        refine zu (.string (calP id c 1 ++ fldC c 1)) (run_cat (s := calP id c 1) (t := fldC c 1) ky ky (by have h8 := calP_size (id := id) hO 1; have h9 := fld_size hO 1 q60; omega)) ?_
        refine zv (.string (calP id c 1 ++ fldC c 1)) ?_
        refine wl_nil (block_normal (then_at rfl (wl_region ?_)))
        refine zu (iN .i64 (1 + 1)) (run_add (k := .i64) (a := 1) (b := 1) ky ky (by decide)) ?_
        refine zv (iN .i64 (1 + 1)) ?_
        refine wl_nil ?_
        exact then_I ⟨fun ii => (([(8, .pointer (some ⟨q55, 0, none⟩)), (46, .bool true), (47, .pointer (some ⟨q31, 2, none⟩)), (48, .agg #[.slice (some ⟨q7, 0, none⟩) 1 1, .func (.func 64) #[] #[.pointer (some ⟨q1, 0, none⟩)]]), (49, .pointer (some ⟨q55, 0, none⟩)), (50, .slice (some ⟨q7, 0, none⟩) 1 1), (51, .pointer (some ⟨q1, 0, none⟩)), (52, .int .i64 c.kd), (53, .bool true), (54, .string (calP id c 1)), (55, .pointer (some ⟨q55, 1, none⟩)), (56, .func (.func 64) #[] #[.pointer (some ⟨q1, 0, none⟩)]), (57, .string (fldC c 1)), (58, .string (calP id c 1 ++ fldC c 1)), (59, iN .i64 (1 + 1))] : List (Nat × Value)).find? (·.1 == ii)).elim undef (·.2), (by rw [calP_t (id := id) (c := c) (i := 1) q60]; kernel_rfl), (HA.sub h67 (List.Sublist.cons _ (List.Sublist.cons_cons _ (List.Sublist.cons_cons _ (List.Sublist.cons_cons _ (List.Sublist.cons_cons _ (List.Sublist.cons_cons _ (List.Sublist.cons_cons _ (List.Sublist.cons_cons _ (List.Sublist.cons_cons _ (List.Sublist.cons_cons _ (List.Sublist.cons_cons _ (List.Sublist.cons_cons _ (List.Sublist.slnil))))))))))))))⟩
      · refine wl_region ?_
        refine zv (.pointer (some ⟨q31, 4, none⟩)) ?_
        refine zu (.agg #[.slice (some ⟨q10, 0, none⟩) 1 1, .func (.func 65) #[] #[.pointer (some ⟨q1, 0, none⟩)]]) (run_load_part (q := q31) (off := 4) (d := #[.slice (some ⟨q10, 0, none⟩) 1 1, .func (.func 65) #[] #[.pointer (some ⟨q1, 0, none⟩)]]) ky (h41.get 0 rfl) Try.underlying105 rfl ky (by intro j hj; match j, hj with | 0, _ => rfl | 1, _ => rfl)) ?_
        refine wl_make (c := #[.slice none 0 0, .nilFunc]) h41 105 ky ky ?_
        intro q68 w69 (h70 : HA (bs w) [(q68, 105, #[.slice none 0 0, .nilFunc]), (q31, 105, #[.slice (some ⟨q4, 0, none⟩) 2 2, .func (.func 62) #[] #[.pointer (some ⟨q1, 0, none⟩)], .slice (some ⟨q7, 0, none⟩) 1 1, .func (.func 64) #[] #[.pointer (some ⟨q1, 0, none⟩)], .slice (some ⟨q10, 0, none⟩) 1 1, .func (.func 65) #[] #[.pointer (some ⟨q1, 0, none⟩)], .slice (some ⟨q13, 0, none⟩) 1 1, .func (.func 68) #[] #[.pointer (some ⟨q1, 0, none⟩)], .slice (some ⟨q16, 0, none⟩) 1 1, .func (.func 69) #[] #[.pointer (some ⟨q1, 0, none⟩)], .slice (some ⟨q19, 0, none⟩) 1 1, .func (.func 70) #[] #[.pointer (some ⟨q1, 0, none⟩)], .slice (some ⟨q22, 0, none⟩) 2 2, .func (.func 72) #[] #[.pointer (some ⟨q1, 0, none⟩)], .slice (some ⟨q25, 0, none⟩) 2 2, .func (.func 73) #[] #[.pointer (some ⟨q1, 0, none⟩)], .slice (some ⟨q28, 0, none⟩) 2 2, .func (.func 74) #[] #[.pointer (some ⟨q1, 0, none⟩)]]), (q28, 3, #[iN .i64 5, iN .i64 8]), (q25, 3, #[iN .i64 8, iN .i64 9]), (q22, 3, #[iN .i64 6, iN .i64 7]), (q19, 3, #[iN .i64 5]), (q16, 3, #[iN .i64 4]), (q13, 3, #[iN .i64 4]), (q10, 3, #[iN .i64 3]), (q7, 3, #[iN .i64 2]), (q4, 3, #[iN .i64 1, iN .i64 2]), (q1, 30, caC c (.slice o c.li.ds.length k) (.slice p c.on.length m))] w69)
        refine wl_fill (c' := #[.slice (some ⟨q10, 0, none⟩) 1 1, .func (.func 65) #[] #[.pointer (some ⟨q1, 0, none⟩)]]) h70 0 rfl ky ky ky rfl ky ky ?_
        intro w71 (h72 : HA (bs w) [(q68, 105, #[.slice (some ⟨q10, 0, none⟩) 1 1, .func (.func 65) #[] #[.pointer (some ⟨q1, 0, none⟩)]]), (q31, 105, #[.slice (some ⟨q4, 0, none⟩) 2 2, .func (.func 62) #[] #[.pointer (some ⟨q1, 0, none⟩)], .slice (some ⟨q7, 0, none⟩) 1 1, .func (.func 64) #[] #[.pointer (some ⟨q1, 0, none⟩)], .slice (some ⟨q10, 0, none⟩) 1 1, .func (.func 65) #[] #[.pointer (some ⟨q1, 0, none⟩)], .slice (some ⟨q13, 0, none⟩) 1 1, .func (.func 68) #[] #[.pointer (some ⟨q1, 0, none⟩)], .slice (some ⟨q16, 0, none⟩) 1 1, .func (.func 69) #[] #[.pointer (some ⟨q1, 0, none⟩)], .slice (some ⟨q19, 0, none⟩) 1 1, .func (.func 70) #[] #[.pointer (some ⟨q1, 0, none⟩)], .slice (some ⟨q22, 0, none⟩) 2 2, .func (.func 72) #[] #[.pointer (some ⟨q1, 0, none⟩)], .slice (some ⟨q25, 0, none⟩) 2 2, .func (.func 73) #[] #[.pointer (some ⟨q1, 0, none⟩)], .slice (some ⟨q28, 0, none⟩) 2 2, .func (.func 74) #[] #[.pointer (some ⟨q1, 0, none⟩)]]), (q28, 3, #[iN .i64 5, iN .i64 8]), (q25, 3, #[iN .i64 8, iN .i64 9]), (q22, 3, #[iN .i64 6, iN .i64 7]), (q19, 3, #[iN .i64 5]), (q16, 3, #[iN .i64 4]), (q13, 3, #[iN .i64 4]), (q10, 3, #[iN .i64 3]), (q7, 3, #[iN .i64 2]), (q4, 3, #[iN .i64 1, iN .i64 2]), (q1, 30, caC c (.slice o c.li.ds.length k) (.slice p c.on.length m))] w71)
        refine wl_nil (then_at rfl (wp_seq (wl_region ?_)))
        refine zv (.pointer (some ⟨q68, 0, none⟩)) ?_
        refine zu (.slice (some ⟨q10, 0, none⟩) 1 1) (run_load1 (fun w => Try.isAgg103 w) ky (((h72.get 0 rfl).cell 0).trans rfl)) ?_
        refine zv (.pointer (some ⟨q1, 0, none⟩)) ?_
        refine zu (.int .i64 c.kd) (run_load1 (fun w => Try.isAgg3 w) ky (((h72.get 11 rfl).cell 0).trans rfl)) ?_
        rcases q73 : conA [3] c.kd with _ | _
        · refine wl_call (v := .bool false) h72 ky enter75 #[.slice (some ⟨q10, 0, none⟩) 1 1, .int .i64 c.kd] ky (((con_any [3] c.kd (own_in h72 8 [3] rfl) (by decide)).mono fun _ _ hh => ⟨by rw [hh.1, q73], hh.2⟩)) ?_
          intro w74 h75
          refine wl_nil (then_at rfl ?_)
          refine wp_cond_false ky ?_
          refine wp_skip (block_normal (then_at rfl (wl_region ?_)))
          refine zu (iN .i64 (2 + 1)) (run_add (k := .i64) (a := 2) (b := 1) ky ky (by decide)) ?_
          refine zv (iN .i64 (2 + 1)) ?_
          refine wl_nil ?_
          exact then_I ⟨fun ii => (([(8, .pointer (some ⟨q68, 0, none⟩)), (46, .bool true), (47, .pointer (some ⟨q31, 4, none⟩)), (48, .agg #[.slice (some ⟨q10, 0, none⟩) 1 1, .func (.func 65) #[] #[.pointer (some ⟨q1, 0, none⟩)]]), (49, .pointer (some ⟨q68, 0, none⟩)), (50, .slice (some ⟨q10, 0, none⟩) 1 1), (51, .pointer (some ⟨q1, 0, none⟩)), (52, .int .i64 c.kd), (53, .bool false), (54, u39 54), (55, u39 55), (56, u39 56), (57, u39 57), (58, u39 58), (59, iN .i64 (2 + 1))] : List (Nat × Value)).find? (·.1 == ii)).elim undef (·.2), (by rw [calP_f (id := id) (c := c) (i := 2) q73]; kernel_rfl), (HA.sub h75 (List.Sublist.cons _ (List.Sublist.cons_cons _ (List.Sublist.cons_cons _ (List.Sublist.cons_cons _ (List.Sublist.cons_cons _ (List.Sublist.cons_cons _ (List.Sublist.cons_cons _ (List.Sublist.cons_cons _ (List.Sublist.cons_cons _ (List.Sublist.cons_cons _ (List.Sublist.cons_cons _ (List.Sublist.cons_cons _ (List.Sublist.slnil))))))))))))))⟩
        refine wl_call (v := .bool true) h72 ky enter75 #[.slice (some ⟨q10, 0, none⟩) 1 1, .int .i64 c.kd] ky (((con_any [3] c.kd (own_in h72 8 [3] rfl) (by decide)).mono fun _ _ hh => ⟨by rw [hh.1, q73], hh.2⟩)) ?_
        intro w76 h77
        refine wl_nil (then_at rfl ?_)
        refine wp_cond_true ky ?_
        refine wl_region ?_
        refine zv (.string (calP id c 2)) ?_
        refine zv (.pointer (some ⟨q68, 1, none⟩)) ?_
        refine zu (.func (.func 65) #[] #[.pointer (some ⟨q1, 0, none⟩)]) (run_load1 (fun w => Try.isAgg84 w) ky (((h77.get 0 rfl).cell 1).trans rfl)) ?_
        refine wl_callvx (cap := #[.pointer (some ⟨q1, 0, none⟩)]) (args := #[.pointer (some ⟨q1, 0, none⟩)]) ky enter65 ky ky (cf_2 c (hP.keep h77.old.old) (hQ.keep h77.old.old) hl1 hl2 (h77.get 11 rfl)) ?_
        rintro _ w79 ⟨rfl, hb78⟩
        refine ⟨_, rfl, ?_⟩
        have h80 := HA.keep _ _ h77 hb78
        refine zu (.string (calP id c 2 ++ fldC c 2)) (run_cat (s := calP id c 2) (t := fldC c 2) ky ky (by have h8 := calP_size (id := id) hO 2; have h9 := fld_size hO 2 q73; omega)) ?_
        refine zv (.string (calP id c 2 ++ fldC c 2)) ?_
        refine wl_nil (block_normal (then_at rfl (wl_region ?_)))
        refine zu (iN .i64 (2 + 1)) (run_add (k := .i64) (a := 2) (b := 1) ky ky (by decide)) ?_
        refine zv (iN .i64 (2 + 1)) ?_
        refine wl_nil ?_
        exact then_I ⟨fun ii => (([(8, .pointer (some ⟨q68, 0, none⟩)), (46, .bool true), (47, .pointer (some ⟨q31, 4, none⟩)), (48, .agg #[.slice (some ⟨q10, 0, none⟩) 1 1, .func (.func 65) #[] #[.pointer (some ⟨q1, 0, none⟩)]]), (49, .pointer (some ⟨q68, 0, none⟩)), (50, .slice (some ⟨q10, 0, none⟩) 1 1), (51, .pointer (some ⟨q1, 0, none⟩)), (52, .int .i64 c.kd), (53, .bool true), (54, .string (calP id c 2)), (55, .pointer (some ⟨q68, 1, none⟩)), (56, .func (.func 65) #[] #[.pointer (some ⟨q1, 0, none⟩)]), (57, .string (fldC c 2)), (58, .string (calP id c 2 ++ fldC c 2)), (59, iN .i64 (2 + 1))] : List (Nat × Value)).find? (·.1 == ii)).elim undef (·.2), (by rw [calP_t (id := id) (c := c) (i := 2) q73]; kernel_rfl), (HA.sub h80 (List.Sublist.cons _ (List.Sublist.cons_cons _ (List.Sublist.cons_cons _ (List.Sublist.cons_cons _ (List.Sublist.cons_cons _ (List.Sublist.cons_cons _ (List.Sublist.cons_cons _ (List.Sublist.cons_cons _ (List.Sublist.cons_cons _ (List.Sublist.cons_cons _ (List.Sublist.cons_cons _ (List.Sublist.cons_cons _ (List.Sublist.slnil))))))))))))))⟩
      · refine wl_region ?_
        refine zv (.pointer (some ⟨q31, 6, none⟩)) ?_
        refine zu (.agg #[.slice (some ⟨q13, 0, none⟩) 1 1, .func (.func 68) #[] #[.pointer (some ⟨q1, 0, none⟩)]]) (run_load_part (q := q31) (off := 6) (d := #[.slice (some ⟨q13, 0, none⟩) 1 1, .func (.func 68) #[] #[.pointer (some ⟨q1, 0, none⟩)]]) ky (h41.get 0 rfl) Try.underlying105 rfl ky (by intro j hj; match j, hj with | 0, _ => rfl | 1, _ => rfl)) ?_
        refine wl_make (c := #[.slice none 0 0, .nilFunc]) h41 105 ky ky ?_
        intro q81 w82 (h83 : HA (bs w) [(q81, 105, #[.slice none 0 0, .nilFunc]), (q31, 105, #[.slice (some ⟨q4, 0, none⟩) 2 2, .func (.func 62) #[] #[.pointer (some ⟨q1, 0, none⟩)], .slice (some ⟨q7, 0, none⟩) 1 1, .func (.func 64) #[] #[.pointer (some ⟨q1, 0, none⟩)], .slice (some ⟨q10, 0, none⟩) 1 1, .func (.func 65) #[] #[.pointer (some ⟨q1, 0, none⟩)], .slice (some ⟨q13, 0, none⟩) 1 1, .func (.func 68) #[] #[.pointer (some ⟨q1, 0, none⟩)], .slice (some ⟨q16, 0, none⟩) 1 1, .func (.func 69) #[] #[.pointer (some ⟨q1, 0, none⟩)], .slice (some ⟨q19, 0, none⟩) 1 1, .func (.func 70) #[] #[.pointer (some ⟨q1, 0, none⟩)], .slice (some ⟨q22, 0, none⟩) 2 2, .func (.func 72) #[] #[.pointer (some ⟨q1, 0, none⟩)], .slice (some ⟨q25, 0, none⟩) 2 2, .func (.func 73) #[] #[.pointer (some ⟨q1, 0, none⟩)], .slice (some ⟨q28, 0, none⟩) 2 2, .func (.func 74) #[] #[.pointer (some ⟨q1, 0, none⟩)]]), (q28, 3, #[iN .i64 5, iN .i64 8]), (q25, 3, #[iN .i64 8, iN .i64 9]), (q22, 3, #[iN .i64 6, iN .i64 7]), (q19, 3, #[iN .i64 5]), (q16, 3, #[iN .i64 4]), (q13, 3, #[iN .i64 4]), (q10, 3, #[iN .i64 3]), (q7, 3, #[iN .i64 2]), (q4, 3, #[iN .i64 1, iN .i64 2]), (q1, 30, caC c (.slice o c.li.ds.length k) (.slice p c.on.length m))] w82)
        refine wl_fill (c' := #[.slice (some ⟨q13, 0, none⟩) 1 1, .func (.func 68) #[] #[.pointer (some ⟨q1, 0, none⟩)]]) h83 0 rfl ky ky ky rfl ky ky ?_
        intro w84 (h85 : HA (bs w) [(q81, 105, #[.slice (some ⟨q13, 0, none⟩) 1 1, .func (.func 68) #[] #[.pointer (some ⟨q1, 0, none⟩)]]), (q31, 105, #[.slice (some ⟨q4, 0, none⟩) 2 2, .func (.func 62) #[] #[.pointer (some ⟨q1, 0, none⟩)], .slice (some ⟨q7, 0, none⟩) 1 1, .func (.func 64) #[] #[.pointer (some ⟨q1, 0, none⟩)], .slice (some ⟨q10, 0, none⟩) 1 1, .func (.func 65) #[] #[.pointer (some ⟨q1, 0, none⟩)], .slice (some ⟨q13, 0, none⟩) 1 1, .func (.func 68) #[] #[.pointer (some ⟨q1, 0, none⟩)], .slice (some ⟨q16, 0, none⟩) 1 1, .func (.func 69) #[] #[.pointer (some ⟨q1, 0, none⟩)], .slice (some ⟨q19, 0, none⟩) 1 1, .func (.func 70) #[] #[.pointer (some ⟨q1, 0, none⟩)], .slice (some ⟨q22, 0, none⟩) 2 2, .func (.func 72) #[] #[.pointer (some ⟨q1, 0, none⟩)], .slice (some ⟨q25, 0, none⟩) 2 2, .func (.func 73) #[] #[.pointer (some ⟨q1, 0, none⟩)], .slice (some ⟨q28, 0, none⟩) 2 2, .func (.func 74) #[] #[.pointer (some ⟨q1, 0, none⟩)]]), (q28, 3, #[iN .i64 5, iN .i64 8]), (q25, 3, #[iN .i64 8, iN .i64 9]), (q22, 3, #[iN .i64 6, iN .i64 7]), (q19, 3, #[iN .i64 5]), (q16, 3, #[iN .i64 4]), (q13, 3, #[iN .i64 4]), (q10, 3, #[iN .i64 3]), (q7, 3, #[iN .i64 2]), (q4, 3, #[iN .i64 1, iN .i64 2]), (q1, 30, caC c (.slice o c.li.ds.length k) (.slice p c.on.length m))] w84)
        refine wl_nil (then_at rfl (wp_seq (wl_region ?_)))
        refine zv (.pointer (some ⟨q81, 0, none⟩)) ?_
        refine zu (.slice (some ⟨q13, 0, none⟩) 1 1) (run_load1 (fun w => Try.isAgg103 w) ky (((h85.get 0 rfl).cell 0).trans rfl)) ?_
        refine zv (.pointer (some ⟨q1, 0, none⟩)) ?_
        refine zu (.int .i64 c.kd) (run_load1 (fun w => Try.isAgg3 w) ky (((h85.get 11 rfl).cell 0).trans rfl)) ?_
        rcases q86 : conA [4] c.kd with _ | _
        · refine wl_call (v := .bool false) h85 ky enter75 #[.slice (some ⟨q13, 0, none⟩) 1 1, .int .i64 c.kd] ky (((con_any [4] c.kd (own_in h85 7 [4] rfl) (by decide)).mono fun _ _ hh => ⟨by rw [hh.1, q86], hh.2⟩)) ?_
          intro w87 h88
          refine wl_nil (then_at rfl ?_)
          refine wp_cond_false ky ?_
          refine wp_skip (block_normal (then_at rfl (wl_region ?_)))
          refine zu (iN .i64 (3 + 1)) (run_add (k := .i64) (a := 3) (b := 1) ky ky (by decide)) ?_
          refine zv (iN .i64 (3 + 1)) ?_
          refine wl_nil ?_
          exact then_I ⟨fun ii => (([(8, .pointer (some ⟨q81, 0, none⟩)), (46, .bool true), (47, .pointer (some ⟨q31, 6, none⟩)), (48, .agg #[.slice (some ⟨q13, 0, none⟩) 1 1, .func (.func 68) #[] #[.pointer (some ⟨q1, 0, none⟩)]]), (49, .pointer (some ⟨q81, 0, none⟩)), (50, .slice (some ⟨q13, 0, none⟩) 1 1), (51, .pointer (some ⟨q1, 0, none⟩)), (52, .int .i64 c.kd), (53, .bool false), (54, u39 54), (55, u39 55), (56, u39 56), (57, u39 57), (58, u39 58), (59, iN .i64 (3 + 1))] : List (Nat × Value)).find? (·.1 == ii)).elim undef (·.2), (by rw [calP_f (id := id) (c := c) (i := 3) q86]; kernel_rfl), (HA.sub h88 (List.Sublist.cons _ (List.Sublist.cons_cons _ (List.Sublist.cons_cons _ (List.Sublist.cons_cons _ (List.Sublist.cons_cons _ (List.Sublist.cons_cons _ (List.Sublist.cons_cons _ (List.Sublist.cons_cons _ (List.Sublist.cons_cons _ (List.Sublist.cons_cons _ (List.Sublist.cons_cons _ (List.Sublist.cons_cons _ (List.Sublist.slnil))))))))))))))⟩
        refine wl_call (v := .bool true) h85 ky enter75 #[.slice (some ⟨q13, 0, none⟩) 1 1, .int .i64 c.kd] ky (((con_any [4] c.kd (own_in h85 7 [4] rfl) (by decide)).mono fun _ _ hh => ⟨by rw [hh.1, q86], hh.2⟩)) ?_
        intro w89 h90
        refine wl_nil (then_at rfl ?_)
        refine wp_cond_true ky ?_
        refine wl_region ?_
        refine zv (.string (calP id c 3)) ?_
        refine zv (.pointer (some ⟨q81, 1, none⟩)) ?_
        refine zu (.func (.func 68) #[] #[.pointer (some ⟨q1, 0, none⟩)]) (run_load1 (fun w => Try.isAgg84 w) ky (((h90.get 0 rfl).cell 1).trans rfl)) ?_
        refine wl_callvx (cap := #[.pointer (some ⟨q1, 0, none⟩)]) (args := #[.pointer (some ⟨q1, 0, none⟩)]) ky enter68 ky ky (cf_3 c (hP.keep h90.old.old) (hQ.keep h90.old.old) hl1 hl2 (h90.get 11 rfl) (fb3 hO q86)) ?_
        rintro _ w92 ⟨rfl, hb91⟩
        refine ⟨_, rfl, ?_⟩
        have h93 := HA.keep _ _ h90 hb91
        refine zu (.string (calP id c 3 ++ fldC c 3)) (run_cat (s := calP id c 3) (t := fldC c 3) ky ky (by have h8 := calP_size (id := id) hO 3; have h9 := fld_size hO 3 q86; omega)) ?_
        refine zv (.string (calP id c 3 ++ fldC c 3)) ?_
        refine wl_nil (block_normal (then_at rfl (wl_region ?_)))
        refine zu (iN .i64 (3 + 1)) (run_add (k := .i64) (a := 3) (b := 1) ky ky (by decide)) ?_
        refine zv (iN .i64 (3 + 1)) ?_
        refine wl_nil ?_
        exact then_I ⟨fun ii => (([(8, .pointer (some ⟨q81, 0, none⟩)), (46, .bool true), (47, .pointer (some ⟨q31, 6, none⟩)), (48, .agg #[.slice (some ⟨q13, 0, none⟩) 1 1, .func (.func 68) #[] #[.pointer (some ⟨q1, 0, none⟩)]]), (49, .pointer (some ⟨q81, 0, none⟩)), (50, .slice (some ⟨q13, 0, none⟩) 1 1), (51, .pointer (some ⟨q1, 0, none⟩)), (52, .int .i64 c.kd), (53, .bool true), (54, .string (calP id c 3)), (55, .pointer (some ⟨q81, 1, none⟩)), (56, .func (.func 68) #[] #[.pointer (some ⟨q1, 0, none⟩)]), (57, .string (fldC c 3)), (58, .string (calP id c 3 ++ fldC c 3)), (59, iN .i64 (3 + 1))] : List (Nat × Value)).find? (·.1 == ii)).elim undef (·.2), (by rw [calP_t (id := id) (c := c) (i := 3) q86]; kernel_rfl), (HA.sub h93 (List.Sublist.cons _ (List.Sublist.cons_cons _ (List.Sublist.cons_cons _ (List.Sublist.cons_cons _ (List.Sublist.cons_cons _ (List.Sublist.cons_cons _ (List.Sublist.cons_cons _ (List.Sublist.cons_cons _ (List.Sublist.cons_cons _ (List.Sublist.cons_cons _ (List.Sublist.cons_cons _ (List.Sublist.cons_cons _ (List.Sublist.slnil))))))))))))))⟩
      · refine wl_region ?_
        refine zv (.pointer (some ⟨q31, 8, none⟩)) ?_
        refine zu (.agg #[.slice (some ⟨q16, 0, none⟩) 1 1, .func (.func 69) #[] #[.pointer (some ⟨q1, 0, none⟩)]]) (run_load_part (q := q31) (off := 8) (d := #[.slice (some ⟨q16, 0, none⟩) 1 1, .func (.func 69) #[] #[.pointer (some ⟨q1, 0, none⟩)]]) ky (h41.get 0 rfl) Try.underlying105 rfl ky (by intro j hj; match j, hj with | 0, _ => rfl | 1, _ => rfl)) ?_
        refine wl_make (c := #[.slice none 0 0, .nilFunc]) h41 105 ky ky ?_
        intro q94 w95 (h96 : HA (bs w) [(q94, 105, #[.slice none 0 0, .nilFunc]), (q31, 105, #[.slice (some ⟨q4, 0, none⟩) 2 2, .func (.func 62) #[] #[.pointer (some ⟨q1, 0, none⟩)], .slice (some ⟨q7, 0, none⟩) 1 1, .func (.func 64) #[] #[.pointer (some ⟨q1, 0, none⟩)], .slice (some ⟨q10, 0, none⟩) 1 1, .func (.func 65) #[] #[.pointer (some ⟨q1, 0, none⟩)], .slice (some ⟨q13, 0, none⟩) 1 1, .func (.func 68) #[] #[.pointer (some ⟨q1, 0, none⟩)], .slice (some ⟨q16, 0, none⟩) 1 1, .func (.func 69) #[] #[.pointer (some ⟨q1, 0, none⟩)], .slice (some ⟨q19, 0, none⟩) 1 1, .func (.func 70) #[] #[.pointer (some ⟨q1, 0, none⟩)], .slice (some ⟨q22, 0, none⟩) 2 2, .func (.func 72) #[] #[.pointer (some ⟨q1, 0, none⟩)], .slice (some ⟨q25, 0, none⟩) 2 2, .func (.func 73) #[] #[.pointer (some ⟨q1, 0, none⟩)], .slice (some ⟨q28, 0, none⟩) 2 2, .func (.func 74) #[] #[.pointer (some ⟨q1, 0, none⟩)]]), (q28, 3, #[iN .i64 5, iN .i64 8]), (q25, 3, #[iN .i64 8, iN .i64 9]), (q22, 3, #[iN .i64 6, iN .i64 7]), (q19, 3, #[iN .i64 5]), (q16, 3, #[iN .i64 4]), (q13, 3, #[iN .i64 4]), (q10, 3, #[iN .i64 3]), (q7, 3, #[iN .i64 2]), (q4, 3, #[iN .i64 1, iN .i64 2]), (q1, 30, caC c (.slice o c.li.ds.length k) (.slice p c.on.length m))] w95)
        refine wl_fill (c' := #[.slice (some ⟨q16, 0, none⟩) 1 1, .func (.func 69) #[] #[.pointer (some ⟨q1, 0, none⟩)]]) h96 0 rfl ky ky ky rfl ky ky ?_
        intro w97 (h98 : HA (bs w) [(q94, 105, #[.slice (some ⟨q16, 0, none⟩) 1 1, .func (.func 69) #[] #[.pointer (some ⟨q1, 0, none⟩)]]), (q31, 105, #[.slice (some ⟨q4, 0, none⟩) 2 2, .func (.func 62) #[] #[.pointer (some ⟨q1, 0, none⟩)], .slice (some ⟨q7, 0, none⟩) 1 1, .func (.func 64) #[] #[.pointer (some ⟨q1, 0, none⟩)], .slice (some ⟨q10, 0, none⟩) 1 1, .func (.func 65) #[] #[.pointer (some ⟨q1, 0, none⟩)], .slice (some ⟨q13, 0, none⟩) 1 1, .func (.func 68) #[] #[.pointer (some ⟨q1, 0, none⟩)], .slice (some ⟨q16, 0, none⟩) 1 1, .func (.func 69) #[] #[.pointer (some ⟨q1, 0, none⟩)], .slice (some ⟨q19, 0, none⟩) 1 1, .func (.func 70) #[] #[.pointer (some ⟨q1, 0, none⟩)], .slice (some ⟨q22, 0, none⟩) 2 2, .func (.func 72) #[] #[.pointer (some ⟨q1, 0, none⟩)], .slice (some ⟨q25, 0, none⟩) 2 2, .func (.func 73) #[] #[.pointer (some ⟨q1, 0, none⟩)], .slice (some ⟨q28, 0, none⟩) 2 2, .func (.func 74) #[] #[.pointer (some ⟨q1, 0, none⟩)]]), (q28, 3, #[iN .i64 5, iN .i64 8]), (q25, 3, #[iN .i64 8, iN .i64 9]), (q22, 3, #[iN .i64 6, iN .i64 7]), (q19, 3, #[iN .i64 5]), (q16, 3, #[iN .i64 4]), (q13, 3, #[iN .i64 4]), (q10, 3, #[iN .i64 3]), (q7, 3, #[iN .i64 2]), (q4, 3, #[iN .i64 1, iN .i64 2]), (q1, 30, caC c (.slice o c.li.ds.length k) (.slice p c.on.length m))] w97)
        refine wl_nil (then_at rfl (wp_seq (wl_region ?_)))
        refine zv (.pointer (some ⟨q94, 0, none⟩)) ?_
        refine zu (.slice (some ⟨q16, 0, none⟩) 1 1) (run_load1 (fun w => Try.isAgg103 w) ky (((h98.get 0 rfl).cell 0).trans rfl)) ?_
        refine zv (.pointer (some ⟨q1, 0, none⟩)) ?_
        refine zu (.int .i64 c.kd) (run_load1 (fun w => Try.isAgg3 w) ky (((h98.get 11 rfl).cell 0).trans rfl)) ?_
        rcases q99 : conA [4] c.kd with _ | _
        · refine wl_call (v := .bool false) h98 ky enter75 #[.slice (some ⟨q16, 0, none⟩) 1 1, .int .i64 c.kd] ky (((con_any [4] c.kd (own_in h98 6 [4] rfl) (by decide)).mono fun _ _ hh => ⟨by rw [hh.1, q99], hh.2⟩)) ?_
          intro w100 h101
          refine wl_nil (then_at rfl ?_)
          refine wp_cond_false ky ?_
          refine wp_skip (block_normal (then_at rfl (wl_region ?_)))
          refine zu (iN .i64 (4 + 1)) (run_add (k := .i64) (a := 4) (b := 1) ky ky (by decide)) ?_
          refine zv (iN .i64 (4 + 1)) ?_
          refine wl_nil ?_
          exact then_I ⟨fun ii => (([(8, .pointer (some ⟨q94, 0, none⟩)), (46, .bool true), (47, .pointer (some ⟨q31, 8, none⟩)), (48, .agg #[.slice (some ⟨q16, 0, none⟩) 1 1, .func (.func 69) #[] #[.pointer (some ⟨q1, 0, none⟩)]]), (49, .pointer (some ⟨q94, 0, none⟩)), (50, .slice (some ⟨q16, 0, none⟩) 1 1), (51, .pointer (some ⟨q1, 0, none⟩)), (52, .int .i64 c.kd), (53, .bool false), (54, u39 54), (55, u39 55), (56, u39 56), (57, u39 57), (58, u39 58), (59, iN .i64 (4 + 1))] : List (Nat × Value)).find? (·.1 == ii)).elim undef (·.2), (by rw [calP_f (id := id) (c := c) (i := 4) q99]; kernel_rfl), (HA.sub h101 (List.Sublist.cons _ (List.Sublist.cons_cons _ (List.Sublist.cons_cons _ (List.Sublist.cons_cons _ (List.Sublist.cons_cons _ (List.Sublist.cons_cons _ (List.Sublist.cons_cons _ (List.Sublist.cons_cons _ (List.Sublist.cons_cons _ (List.Sublist.cons_cons _ (List.Sublist.cons_cons _ (List.Sublist.cons_cons _ (List.Sublist.slnil))))))))))))))⟩
        refine wl_call (v := .bool true) h98 ky enter75 #[.slice (some ⟨q16, 0, none⟩) 1 1, .int .i64 c.kd] ky (((con_any [4] c.kd (own_in h98 6 [4] rfl) (by decide)).mono fun _ _ hh => ⟨by rw [hh.1, q99], hh.2⟩)) ?_
        intro w102 h103
        refine wl_nil (then_at rfl ?_)
        refine wp_cond_true ky ?_
        refine wl_region ?_
        refine zv (.string (calP id c 4)) ?_
        refine zv (.pointer (some ⟨q94, 1, none⟩)) ?_
        refine zu (.func (.func 69) #[] #[.pointer (some ⟨q1, 0, none⟩)]) (run_load1 (fun w => Try.isAgg84 w) ky (((h103.get 0 rfl).cell 1).trans rfl)) ?_
        refine wl_callvx (cap := #[.pointer (some ⟨q1, 0, none⟩)]) (args := #[.pointer (some ⟨q1, 0, none⟩)]) ky enter69 ky ky (cf_4 c (hP.keep h103.old.old) (hQ.keep h103.old.old) hl1 hl2 (h103.get 11 rfl) (fb4 hO q99)) ?_
        rintro _ w105 ⟨rfl, hb104⟩
        refine ⟨_, rfl, ?_⟩
        have h106 := HA.keep _ _ h103 hb104
        refine zu (.string (calP id c 4 ++ fldC c 4)) (run_cat (s := calP id c 4) (t := fldC c 4) ky ky (by have h8 := calP_size (id := id) hO 4; have h9 := fld_size hO 4 q99; omega)) ?_
        refine zv (.string (calP id c 4 ++ fldC c 4)) ?_
        refine wl_nil (block_normal (then_at rfl (wl_region ?_)))
        refine zu (iN .i64 (4 + 1)) (run_add (k := .i64) (a := 4) (b := 1) ky ky (by decide)) ?_
        refine zv (iN .i64 (4 + 1)) ?_
        refine wl_nil ?_
        exact then_I ⟨fun ii => (([(8, .pointer (some ⟨q94, 0, none⟩)), (46, .bool true), (47, .pointer (some ⟨q31, 8, none⟩)), (48, .agg #[.slice (some ⟨q16, 0, none⟩) 1 1, .func (.func 69) #[] #[.pointer (some ⟨q1, 0, none⟩)]]), (49, .pointer (some ⟨q94, 0, none⟩)), (50, .slice (some ⟨q16, 0, none⟩) 1 1), (51, .pointer (some ⟨q1, 0, none⟩)), (52, .int .i64 c.kd), (53, .bool true), (54, .string (calP id c 4)), (55, .pointer (some ⟨q94, 1, none⟩)), (56, .func (.func 69) #[] #[.pointer (some ⟨q1, 0, none⟩)]), (57, .string (fldC c 4)), (58, .string (calP id c 4 ++ fldC c 4)), (59, iN .i64 (4 + 1))] : List (Nat × Value)).find? (·.1 == ii)).elim undef (·.2), (by rw [calP_t (id := id) (c := c) (i := 4) q99]; kernel_rfl), (HA.sub h106 (List.Sublist.cons _ (List.Sublist.cons_cons _ (List.Sublist.cons_cons _ (List.Sublist.cons_cons _ (List.Sublist.cons_cons _ (List.Sublist.cons_cons _ (List.Sublist.cons_cons _ (List.Sublist.cons_cons _ (List.Sublist.cons_cons _ (List.Sublist.cons_cons _ (List.Sublist.cons_cons _ (List.Sublist.cons_cons _ (List.Sublist.slnil))))))))))))))⟩
      · refine wl_region ?_
        refine zv (.pointer (some ⟨q31, 10, none⟩)) ?_
        refine zu (.agg #[.slice (some ⟨q19, 0, none⟩) 1 1, .func (.func 70) #[] #[.pointer (some ⟨q1, 0, none⟩)]]) (run_load_part (q := q31) (off := 10) (d := #[.slice (some ⟨q19, 0, none⟩) 1 1, .func (.func 70) #[] #[.pointer (some ⟨q1, 0, none⟩)]]) ky (h41.get 0 rfl) Try.underlying105 rfl ky (by intro j hj; match j, hj with | 0, _ => rfl | 1, _ => rfl)) ?_
        refine wl_make (c := #[.slice none 0 0, .nilFunc]) h41 105 ky ky ?_
        intro q107 w108 (h109 : HA (bs w) [(q107, 105, #[.slice none 0 0, .nilFunc]), (q31, 105, #[.slice (some ⟨q4, 0, none⟩) 2 2, .func (.func 62) #[] #[.pointer (some ⟨q1, 0, none⟩)], .slice (some ⟨q7, 0, none⟩) 1 1, .func (.func 64) #[] #[.pointer (some ⟨q1, 0, none⟩)], .slice (some ⟨q10, 0, none⟩) 1 1, .func (.func 65) #[] #[.pointer (some ⟨q1, 0, none⟩)], .slice (some ⟨q13, 0, none⟩) 1 1, .func (.func 68) #[] #[.pointer (some ⟨q1, 0, none⟩)], .slice (some ⟨q16, 0, none⟩) 1 1, .func (.func 69) #[] #[.pointer (some ⟨q1, 0, none⟩)], .slice (some ⟨q19, 0, none⟩) 1 1, .func (.func 70) #[] #[.pointer (some ⟨q1, 0, none⟩)], .slice (some ⟨q22, 0, none⟩) 2 2, .func (.func 72) #[] #[.pointer (some ⟨q1, 0, none⟩)], .slice (some ⟨q25, 0, none⟩) 2 2, .func (.func 73) #[] #[.pointer (some ⟨q1, 0, none⟩)], .slice (some ⟨q28, 0, none⟩) 2 2, .func (.func 74) #[] #[.pointer (some ⟨q1, 0, none⟩)]]), (q28, 3, #[iN .i64 5, iN .i64 8]), (q25, 3, #[iN .i64 8, iN .i64 9]), (q22, 3, #[iN .i64 6, iN .i64 7]), (q19, 3, #[iN .i64 5]), (q16, 3, #[iN .i64 4]), (q13, 3, #[iN .i64 4]), (q10, 3, #[iN .i64 3]), (q7, 3, #[iN .i64 2]), (q4, 3, #[iN .i64 1, iN .i64 2]), (q1, 30, caC c (.slice o c.li.ds.length k) (.slice p c.on.length m))] w108)
        refine wl_fill (c' := #[.slice (some ⟨q19, 0, none⟩) 1 1, .func (.func 70) #[] #[.pointer (some ⟨q1, 0, none⟩)]]) h109 0 rfl ky ky ky rfl ky ky ?_
        intro w110 (h111 : HA (bs w) [(q107, 105, #[.slice (some ⟨q19, 0, none⟩) 1 1, .func (.func 70) #[] #[.pointer (some ⟨q1, 0, none⟩)]]), (q31, 105, #[.slice (some ⟨q4, 0, none⟩) 2 2, .func (.func 62) #[] #[.pointer (some ⟨q1, 0, none⟩)], .slice (some ⟨q7, 0, none⟩) 1 1, .func (.func 64) #[] #[.pointer (some ⟨q1, 0, none⟩)], .slice (some ⟨q10, 0, none⟩) 1 1, .func (.func 65) #[] #[.pointer (some ⟨q1, 0, none⟩)], .slice (some ⟨q13, 0, none⟩) 1 1, .func (.func 68) #[] #[.pointer (some ⟨q1, 0, none⟩)], .slice (some ⟨q16, 0, none⟩) 1 1, .func (.func 69) #[] #[.pointer (some ⟨q1, 0, none⟩)], .slice (some ⟨q19, 0, none⟩) 1 1, .func (.func 70) #[] #[.pointer (some ⟨q1, 0, none⟩)], .slice (some ⟨q22, 0, none⟩) 2 2, .func (.func 72) #[] #[.pointer (some ⟨q1, 0, none⟩)], .slice (some ⟨q25, 0, none⟩) 2 2, .func (.func 73) #[] #[.pointer (some ⟨q1, 0, none⟩)], .slice (some ⟨q28, 0, none⟩) 2 2, .func (.func 74) #[] #[.pointer (some ⟨q1, 0, none⟩)]]), (q28, 3, #[iN .i64 5, iN .i64 8]), (q25, 3, #[iN .i64 8, iN .i64 9]), (q22, 3, #[iN .i64 6, iN .i64 7]), (q19, 3, #[iN .i64 5]), (q16, 3, #[iN .i64 4]), (q13, 3, #[iN .i64 4]), (q10, 3, #[iN .i64 3]), (q7, 3, #[iN .i64 2]), (q4, 3, #[iN .i64 1, iN .i64 2]), (q1, 30, caC c (.slice o c.li.ds.length k) (.slice p c.on.length m))] w110)
        refine wl_nil (then_at rfl (wp_seq (wl_region ?_)))
        refine zv (.pointer (some ⟨q107, 0, none⟩)) ?_
        refine zu (.slice (some ⟨q19, 0, none⟩) 1 1) (run_load1 (fun w => Try.isAgg103 w) ky (((h111.get 0 rfl).cell 0).trans rfl)) ?_
        refine zv (.pointer (some ⟨q1, 0, none⟩)) ?_
        refine zu (.int .i64 c.kd) (run_load1 (fun w => Try.isAgg3 w) ky (((h111.get 11 rfl).cell 0).trans rfl)) ?_
        rcases q112 : conA [5] c.kd with _ | _
        · refine wl_call (v := .bool false) h111 ky enter75 #[.slice (some ⟨q19, 0, none⟩) 1 1, .int .i64 c.kd] ky (((con_any [5] c.kd (own_in h111 5 [5] rfl) (by decide)).mono fun _ _ hh => ⟨by rw [hh.1, q112], hh.2⟩)) ?_
          intro w113 h114
          refine wl_nil (then_at rfl ?_)
          refine wp_cond_false ky ?_
          refine wp_skip (block_normal (then_at rfl (wl_region ?_)))
          refine zu (iN .i64 (5 + 1)) (run_add (k := .i64) (a := 5) (b := 1) ky ky (by decide)) ?_
          refine zv (iN .i64 (5 + 1)) ?_
          refine wl_nil ?_
          exact then_I ⟨fun ii => (([(8, .pointer (some ⟨q107, 0, none⟩)), (46, .bool true), (47, .pointer (some ⟨q31, 10, none⟩)), (48, .agg #[.slice (some ⟨q19, 0, none⟩) 1 1, .func (.func 70) #[] #[.pointer (some ⟨q1, 0, none⟩)]]), (49, .pointer (some ⟨q107, 0, none⟩)), (50, .slice (some ⟨q19, 0, none⟩) 1 1), (51, .pointer (some ⟨q1, 0, none⟩)), (52, .int .i64 c.kd), (53, .bool false), (54, u39 54), (55, u39 55), (56, u39 56), (57, u39 57), (58, u39 58), (59, iN .i64 (5 + 1))] : List (Nat × Value)).find? (·.1 == ii)).elim undef (·.2), (by rw [calP_f (id := id) (c := c) (i := 5) q112]; kernel_rfl), (HA.sub h114 (List.Sublist.cons _ (List.Sublist.cons_cons _ (List.Sublist.cons_cons _ (List.Sublist.cons_cons _ (List.Sublist.cons_cons _ (List.Sublist.cons_cons _ (List.Sublist.cons_cons _ (List.Sublist.cons_cons _ (List.Sublist.cons_cons _ (List.Sublist.cons_cons _ (List.Sublist.cons_cons _ (List.Sublist.cons_cons _ (List.Sublist.slnil))))))))))))))⟩
        refine wl_call (v := .bool true) h111 ky enter75 #[.slice (some ⟨q19, 0, none⟩) 1 1, .int .i64 c.kd] ky (((con_any [5] c.kd (own_in h111 5 [5] rfl) (by decide)).mono fun _ _ hh => ⟨by rw [hh.1, q112], hh.2⟩)) ?_
        intro w115 h116
        refine wl_nil (then_at rfl ?_)
        refine wp_cond_true ky ?_
        refine wl_region ?_
        refine zv (.string (calP id c 5)) ?_
        refine zv (.pointer (some ⟨q107, 1, none⟩)) ?_
        refine zu (.func (.func 70) #[] #[.pointer (some ⟨q1, 0, none⟩)]) (run_load1 (fun w => Try.isAgg84 w) ky (((h116.get 0 rfl).cell 1).trans rfl)) ?_
        refine wl_callvx (cap := #[.pointer (some ⟨q1, 0, none⟩)]) (args := #[.pointer (some ⟨q1, 0, none⟩)]) ky enter70 ky ky (cf_5 c (hP.keep h116.old.old) (hQ.keep h116.old.old) hl1 hl2 (h116.get 11 rfl) (fb5 hO q112)) ?_
        rintro _ w118 ⟨rfl, hb117⟩
        refine ⟨_, rfl, ?_⟩
        have h119 := HA.keep _ _ h116 hb117
        refine zu (.string (calP id c 5 ++ fldC c 5)) (run_cat (s := calP id c 5) (t := fldC c 5) ky ky (by have h8 := calP_size (id := id) hO 5; have h9 := fld_size hO 5 q112; omega)) ?_
        refine zv (.string (calP id c 5 ++ fldC c 5)) ?_
        refine wl_nil (block_normal (then_at rfl (wl_region ?_)))
        refine zu (iN .i64 (5 + 1)) (run_add (k := .i64) (a := 5) (b := 1) ky ky (by decide)) ?_
        refine zv (iN .i64 (5 + 1)) ?_
        refine wl_nil ?_
        exact then_I ⟨fun ii => (([(8, .pointer (some ⟨q107, 0, none⟩)), (46, .bool true), (47, .pointer (some ⟨q31, 10, none⟩)), (48, .agg #[.slice (some ⟨q19, 0, none⟩) 1 1, .func (.func 70) #[] #[.pointer (some ⟨q1, 0, none⟩)]]), (49, .pointer (some ⟨q107, 0, none⟩)), (50, .slice (some ⟨q19, 0, none⟩) 1 1), (51, .pointer (some ⟨q1, 0, none⟩)), (52, .int .i64 c.kd), (53, .bool true), (54, .string (calP id c 5)), (55, .pointer (some ⟨q107, 1, none⟩)), (56, .func (.func 70) #[] #[.pointer (some ⟨q1, 0, none⟩)]), (57, .string (fldC c 5)), (58, .string (calP id c 5 ++ fldC c 5)), (59, iN .i64 (5 + 1))] : List (Nat × Value)).find? (·.1 == ii)).elim undef (·.2), (by rw [calP_t (id := id) (c := c) (i := 5) q112]; kernel_rfl), (HA.sub h119 (List.Sublist.cons _ (List.Sublist.cons_cons _ (List.Sublist.cons_cons _ (List.Sublist.cons_cons _ (List.Sublist.cons_cons _ (List.Sublist.cons_cons _ (List.Sublist.cons_cons _ (List.Sublist.cons_cons _ (List.Sublist.cons_cons _ (List.Sublist.cons_cons _ (List.Sublist.cons_cons _ (List.Sublist.cons_cons _ (List.Sublist.slnil))))))))))))))⟩
      · refine wl_region ?_
        refine zv (.pointer (some ⟨q31, 12, none⟩)) ?_
        refine zu (.agg #[.slice (some ⟨q22, 0, none⟩) 2 2, .func (.func 72) #[] #[.pointer (some ⟨q1, 0, none⟩)]]) (run_load_part (q := q31) (off := 12) (d := #[.slice (some ⟨q22, 0, none⟩) 2 2, .func (.func 72) #[] #[.pointer (some ⟨q1, 0, none⟩)]]) ky (h41.get 0 rfl) Try.underlying105 rfl ky (by intro j hj; match j, hj with | 0, _ => rfl | 1, _ => rfl)) ?_
        refine wl_make (c := #[.slice none 0 0, .nilFunc]) h41 105 ky ky ?_
        intro q120 w121 (h122 : HA (bs w) [(q120, 105, #[.slice none 0 0, .nilFunc]), (q31, 105, #[.slice (some ⟨q4, 0, none⟩) 2 2, .func (.func 62) #[] #[.pointer (some ⟨q1, 0, none⟩)], .slice (some ⟨q7, 0, none⟩) 1 1, .func (.func 64) #[] #[.pointer (some ⟨q1, 0, none⟩)], .slice (some ⟨q10, 0, none⟩) 1 1, .func (.func 65) #[] #[.pointer (some ⟨q1, 0, none⟩)], .slice (some ⟨q13, 0, none⟩) 1 1, .func (.func 68) #[] #[.pointer (some ⟨q1, 0, none⟩)], .slice (some ⟨q16, 0, none⟩) 1 1, .func (.func 69) #[] #[.pointer (some ⟨q1, 0, none⟩)], .slice (some ⟨q19, 0, none⟩) 1 1, .func (.func 70) #[] #[.pointer (some ⟨q1, 0, none⟩)], .slice (some ⟨q22, 0, none⟩) 2 2, .func (.func 72) #[] #[.pointer (some ⟨q1, 0, none⟩)], .slice (some ⟨q25, 0, none⟩) 2 2, .func (.func 73) #[] #[.pointer (some ⟨q1, 0, none⟩)], .slice (some ⟨q28, 0, none⟩) 2 2, .func (.func 74) #[] #[.pointer (some ⟨q1, 0, none⟩)]]), (q28, 3, #[iN .i64 5, iN .i64 8]), (q25, 3, #[iN .i64 8, iN .i64 9]), (q22, 3, #[iN .i64 6, iN .i64 7]), (q19, 3, #[iN .i64 5]), (q16, 3, #[iN .i64 4]), (q13, 3, #[iN .i64 4]), (q10, 3, #[iN .i64 3]), (q7, 3, #[iN .i64 2]), (q4, 3, #[iN .i64 1, iN .i64 2]), (q1, 30, caC c (.slice o c.li.ds.length k) (.slice p c.on.length m))] w121)
        refine wl_fill (c' := #[.slice (some ⟨q22, 0, none⟩) 2 2, .func (.func 72) #[] #[.pointer (some ⟨q1, 0, none⟩)]]) h122 0 rfl ky ky ky rfl ky ky ?_
        intro w123 (h124 : HA (bs w) [(q120, 105, #[.slice (some ⟨q22, 0, none⟩) 2 2, .func (.func 72) #[] #[.pointer (some ⟨q1, 0, none⟩)]]), (q31, 105, #[.slice (some ⟨q4, 0, none⟩) 2 2, .func (.func 62) #[] #[.pointer (some ⟨q1, 0, none⟩)], .slice (some ⟨q7, 0, none⟩) 1 1, .func (.func 64) #[] #[.pointer (some ⟨q1, 0, none⟩)], .slice (some ⟨q10, 0, none⟩) 1 1, .func (.func 65) #[] #[.pointer (some ⟨q1, 0, none⟩)], .slice (some ⟨q13, 0, none⟩) 1 1, .func (.func 68) #[] #[.pointer (some ⟨q1, 0, none⟩)], .slice (some ⟨q16, 0, none⟩) 1 1, .func (.func 69) #[] #[.pointer (some ⟨q1, 0, none⟩)], .slice (some ⟨q19, 0, none⟩) 1 1, .func (.func 70) #[] #[.pointer (some ⟨q1, 0, none⟩)], .slice (some ⟨q22, 0, none⟩) 2 2, .func (.func 72) #[] #[.pointer (some ⟨q1, 0, none⟩)], .slice (some ⟨q25, 0, none⟩) 2 2, .func (.func 73) #[] #[.pointer (some ⟨q1, 0, none⟩)], .slice (some ⟨q28, 0, none⟩) 2 2, .func (.func 74) #[] #[.pointer (some ⟨q1, 0, none⟩)]]), (q28, 3, #[iN .i64 5, iN .i64 8]), (q25, 3, #[iN .i64 8, iN .i64 9]), (q22, 3, #[iN .i64 6, iN .i64 7]), (q19, 3, #[iN .i64 5]), (q16, 3, #[iN .i64 4]), (q13, 3, #[iN .i64 4]), (q10, 3, #[iN .i64 3]), (q7, 3, #[iN .i64 2]), (q4, 3, #[iN .i64 1, iN .i64 2]), (q1, 30, caC c (.slice o c.li.ds.length k) (.slice p c.on.length m))] w123)
        refine wl_nil (then_at rfl (wp_seq (wl_region ?_)))
        refine zv (.pointer (some ⟨q120, 0, none⟩)) ?_
        refine zu (.slice (some ⟨q22, 0, none⟩) 2 2) (run_load1 (fun w => Try.isAgg103 w) ky (((h124.get 0 rfl).cell 0).trans rfl)) ?_
        refine zv (.pointer (some ⟨q1, 0, none⟩)) ?_
        refine zu (.int .i64 c.kd) (run_load1 (fun w => Try.isAgg3 w) ky (((h124.get 11 rfl).cell 0).trans rfl)) ?_
        rcases q125 : conA [6, 7] c.kd with _ | _
        · refine wl_call (v := .bool false) h124 ky enter75 #[.slice (some ⟨q22, 0, none⟩) 2 2, .int .i64 c.kd] ky (((con_any [6, 7] c.kd (own_in h124 4 [6, 7] rfl) (by decide)).mono fun _ _ hh => ⟨by rw [hh.1, q125], hh.2⟩)) ?_
          intro w126 h127
          refine wl_nil (then_at rfl ?_)
          refine wp_cond_false ky ?_
          refine wp_skip (block_normal (then_at rfl (wl_region ?_)))
          refine zu (iN .i64 (6 + 1)) (run_add (k := .i64) (a := 6) (b := 1) ky ky (by decide)) ?_
          refine zv (iN .i64 (6 + 1)) ?_
          refine wl_nil ?_
          exact then_I ⟨fun ii => (([(8, .pointer (some ⟨q120, 0, none⟩)), (46, .bool true), (47, .pointer (some ⟨q31, 12, none⟩)), (48, .agg #[.slice (some ⟨q22, 0, none⟩) 2 2, .func (.func 72) #[] #[.pointer (some ⟨q1, 0, none⟩)]]), (49, .pointer (some ⟨q120, 0, none⟩)), (50, .slice (some ⟨q22, 0, none⟩) 2 2), (51, .pointer (some ⟨q1, 0, none⟩)), (52, .int .i64 c.kd), (53, .bool false), (54, u39 54), (55, u39 55), (56, u39 56), (57, u39 57), (58, u39 58), (59, iN .i64 (6 + 1))] : List (Nat × Value)).find? (·.1 == ii)).elim undef (·.2), (by rw [calP_f (id := id) (c := c) (i := 6) q125]; kernel_rfl), (HA.sub h127 (List.Sublist.cons _ (List.Sublist.cons_cons _ (List.Sublist.cons_cons _ (List.Sublist.cons_cons _ (List.Sublist.cons_cons _ (List.Sublist.cons_cons _ (List.Sublist.cons_cons _ (List.Sublist.cons_cons _ (List.Sublist.cons_cons _ (List.Sublist.cons_cons _ (List.Sublist.cons_cons _ (List.Sublist.cons_cons _ (List.Sublist.slnil))))))))))))))⟩
        refine wl_call (v := .bool true) h124 ky enter75 #[.slice (some ⟨q22, 0, none⟩) 2 2, .int .i64 c.kd] ky (((con_any [6, 7] c.kd (own_in h124 4 [6, 7] rfl) (by decide)).mono fun _ _ hh => ⟨by rw [hh.1, q125], hh.2⟩)) ?_
        intro w128 h129
        refine wl_nil (then_at rfl ?_)
        refine wp_cond_true ky ?_
        refine wl_region ?_
        refine zv (.string (calP id c 6)) ?_
        refine zv (.pointer (some ⟨q120, 1, none⟩)) ?_
        refine zu (.func (.func 72) #[] #[.pointer (some ⟨q1, 0, none⟩)]) (run_load1 (fun w => Try.isAgg84 w) ky (((h129.get 0 rfl).cell 1).trans rfl)) ?_
        refine wl_callvx (cap := #[.pointer (some ⟨q1, 0, none⟩)]) (args := #[.pointer (some ⟨q1, 0, none⟩)]) ky enter72 ky ky (cf_6 c (hP.keep h129.old.old) (hQ.keep h129.old.old) hl1 hl2 (h129.get 11 rfl)) ?_
        rintro _ w131 ⟨rfl, hb130⟩
        refine ⟨_, rfl, ?_⟩
        have h132 := HA.keep _ _ h129 hb130
        refine zu (.string (calP id c 6 ++ fldC c 6)) (run_cat (s := calP id c 6) (t := fldC c 6) ky ky (by have h8 := calP_size (id := id) hO 6; have h9 := fld_size hO 6 q125; omega)) ?_
        refine zv (.string (calP id c 6 ++ fldC c 6)) ?_
        refine wl_nil (block_normal (then_at rfl (wl_region ?_)))
        refine zu (iN .i64 (6 + 1)) (run_add (k := .i64) (a := 6) (b := 1) ky ky (by decide)) ?_
        refine zv (iN .i64 (6 + 1)) ?_
        refine wl_nil ?_
        exact then_I ⟨fun ii => (([(8, .pointer (some ⟨q120, 0, none⟩)), (46, .bool true), (47, .pointer (some ⟨q31, 12, none⟩)), (48, .agg #[.slice (some ⟨q22, 0, none⟩) 2 2, .func (.func 72) #[] #[.pointer (some ⟨q1, 0, none⟩)]]), (49, .pointer (some ⟨q120, 0, none⟩)), (50, .slice (some ⟨q22, 0, none⟩) 2 2), (51, .pointer (some ⟨q1, 0, none⟩)), (52, .int .i64 c.kd), (53, .bool true), (54, .string (calP id c 6)), (55, .pointer (some ⟨q120, 1, none⟩)), (56, .func (.func 72) #[] #[.pointer (some ⟨q1, 0, none⟩)]), (57, .string (fldC c 6)), (58, .string (calP id c 6 ++ fldC c 6)), (59, iN .i64 (6 + 1))] : List (Nat × Value)).find? (·.1 == ii)).elim undef (·.2), (by rw [calP_t (id := id) (c := c) (i := 6) q125]; kernel_rfl), (HA.sub h132 (List.Sublist.cons _ (List.Sublist.cons_cons _ (List.Sublist.cons_cons _ (List.Sublist.cons_cons _ (List.Sublist.cons_cons _ (List.Sublist.cons_cons _ (List.Sublist.cons_cons _ (List.Sublist.cons_cons _ (List.Sublist.cons_cons _ (List.Sublist.cons_cons _ (List.Sublist.cons_cons _ (List.Sublist.cons_cons _ (List.Sublist.slnil))))))))))))))⟩
      · refine wl_region ?_
        refine zv (.pointer (some ⟨q31, 14, none⟩)) ?_
        refine zu (.agg #[.slice (some ⟨q25, 0, none⟩) 2 2, .func (.func 73) #[] #[.pointer (some ⟨q1, 0, none⟩)]]) (run_load_part (q := q31) (off := 14) (d := #[.slice (some ⟨q25, 0, none⟩) 2 2, .func (.func 73) #[] #[.pointer (some ⟨q1, 0, none⟩)]]) ky (h41.get 0 rfl) Try.underlying105 rfl ky (by intro j hj; match j, hj with | 0, _ => rfl | 1, _ => rfl)) ?_
        refine wl_make (c := #[.slice none 0 0, .nilFunc]) h41 105 ky ky ?_
        intro q133 w134 (h135 : HA (bs w) [(q133, 105, #[.slice none 0 0, .nilFunc]), (q31, 105, #[.slice (some ⟨q4, 0, none⟩) 2 2, .func (.func 62) #[] #[.pointer (some ⟨q1, 0, none⟩)], .slice (some ⟨q7, 0, none⟩) 1 1, .func (.func 64) #[] #[.pointer (some ⟨q1, 0, none⟩)], .slice (some ⟨q10, 0, none⟩) 1 1, .func (.func 65) #[] #[.pointer (some ⟨q1, 0, none⟩)], .slice (some ⟨q13, 0, none⟩) 1 1, .func (.func 68) #[] #[.pointer (some ⟨q1, 0, none⟩)], .slice (some ⟨q16, 0, none⟩) 1 1, .func (.func 69) #[] #[.pointer (some ⟨q1, 0, none⟩)], .slice (some ⟨q19, 0, none⟩) 1 1, .func (.func 70) #[] #[.pointer (some ⟨q1, 0, none⟩)], .slice (some ⟨q22, 0, none⟩) 2 2, .func (.func 72) #[] #[.pointer (some ⟨q1, 0, none⟩)], .slice (some ⟨q25, 0, none⟩) 2 2, .func (.func 73) #[] #[.pointer (some ⟨q1, 0, none⟩)], .slice (some ⟨q28, 0, none⟩) 2 2, .func (.func 74) #[] #[.pointer (some ⟨q1, 0, none⟩)]]), (q28, 3, #[iN .i64 5, iN .i64 8]), (q25, 3, #[iN .i64 8, iN .i64 9]), (q22, 3, #[iN .i64 6, iN .i64 7]), (q19, 3, #[iN .i64 5]), (q16, 3, #[iN .i64 4]), (q13, 3, #[iN .i64 4]), (q10, 3, #[iN .i64 3]), (q7, 3, #[iN .i64 2]), (q4, 3, #[iN .i64 1, iN .i64 2]), (q1, 30, caC c (.slice o c.li.ds.length k) (.slice p c.on.length m))] w134)
        refine wl_fill (c' := #[.slice (some ⟨q25, 0, none⟩) 2 2, .func (.func 73) #[] #[.pointer (some ⟨q1, 0, none⟩)]]) h135 0 rfl ky ky ky rfl ky ky ?_
        intro w136 (h137 : HA (bs w) [(q133, 105, #[.slice (some ⟨q25, 0, none⟩) 2 2, .func (.func 73) #[] #[.pointer (some ⟨q1, 0, none⟩)]]), (q31, 105, #[.slice (some ⟨q4, 0, none⟩) 2 2, .func (.func 62) #[] #[.pointer (some ⟨q1, 0, none⟩)], .slice (some ⟨q7, 0, none⟩) 1 1, .func (.func 64) #[] #[.pointer (some ⟨q1, 0, none⟩)], .slice (some ⟨q10, 0, none⟩) 1 1, .func (.func 65) #[] #[.pointer (some ⟨q1, 0, none⟩)], .slice (some ⟨q13, 0, none⟩) 1 1, .func (.func 68) #[] #[.pointer (some ⟨q1, 0, none⟩)], .slice (some ⟨q16, 0, none⟩) 1 1, .func (.func 69) #[] #[.pointer (some ⟨q1, 0, none⟩)], .slice (some ⟨q19, 0, none⟩) 1 1, .func (.func 70) #[] #[.pointer (some ⟨q1, 0, none⟩)], .slice (some ⟨q22, 0, none⟩) 2 2, .func (.func 72) #[] #[.pointer (some ⟨q1, 0, none⟩)], .slice (some ⟨q25, 0, none⟩) 2 2, .func (.func 73) #[] #[.pointer (some ⟨q1, 0, none⟩)], .slice (some ⟨q28, 0, none⟩) 2 2, .func (.func 74) #[] #[.pointer (some ⟨q1, 0, none⟩)]]), (q28, 3, #[iN .i64 5, iN .i64 8]), (q25, 3, #[iN .i64 8, iN .i64 9]), (q22, 3, #[iN .i64 6, iN .i64 7]), (q19, 3, #[iN .i64 5]), (q16, 3, #[iN .i64 4]), (q13, 3, #[iN .i64 4]), (q10, 3, #[iN .i64 3]), (q7, 3, #[iN .i64 2]), (q4, 3, #[iN .i64 1, iN .i64 2]), (q1, 30, caC c (.slice o c.li.ds.length k) (.slice p c.on.length m))] w136)
        refine wl_nil (then_at rfl (wp_seq (wl_region ?_)))
        refine zv (.pointer (some ⟨q133, 0, none⟩)) ?_
        refine zu (.slice (some ⟨q25, 0, none⟩) 2 2) (run_load1 (fun w => Try.isAgg103 w) ky (((h137.get 0 rfl).cell 0).trans rfl)) ?_
        refine zv (.pointer (some ⟨q1, 0, none⟩)) ?_
        refine zu (.int .i64 c.kd) (run_load1 (fun w => Try.isAgg3 w) ky (((h137.get 11 rfl).cell 0).trans rfl)) ?_
        rcases q138 : conA [8, 9] c.kd with _ | _
        · refine wl_call (v := .bool false) h137 ky enter75 #[.slice (some ⟨q25, 0, none⟩) 2 2, .int .i64 c.kd] ky (((con_any [8, 9] c.kd (own_in h137 3 [8, 9] rfl) (by decide)).mono fun _ _ hh => ⟨by rw [hh.1, q138], hh.2⟩)) ?_
          intro w139 h140
          refine wl_nil (then_at rfl ?_)
          refine wp_cond_false ky ?_
          refine wp_skip (block_normal (then_at rfl (wl_region ?_)))
          refine zu (iN .i64 (7 + 1)) (run_add (k := .i64) (a := 7) (b := 1) ky ky (by decide)) ?_
          refine zv (iN .i64 (7 + 1)) ?_
          refine wl_nil ?_
          exact then_I ⟨fun ii => (([(8, .pointer (some ⟨q133, 0, none⟩)), (46, .bool true), (47, .pointer (some ⟨q31, 14, none⟩)), (48, .agg #[.slice (some ⟨q25, 0, none⟩) 2 2, .func (.func 73) #[] #[.pointer (some ⟨q1, 0, none⟩)]]), (49, .pointer (some ⟨q133, 0, none⟩)), (50, .slice (some ⟨q25, 0, none⟩) 2 2), (51, .pointer (some ⟨q1, 0, none⟩)), (52, .int .i64 c.kd), (53, .bool false), (54, u39 54), (55, u39 55), (56, u39 56), (57, u39 57), (58, u39 58), (59, iN .i64 (7 + 1))] : List (Nat × Value)).find? (·.1 == ii)).elim undef (·.2), (by rw [calP_f (id := id) (c := c) (i := 7) q138]; kernel_rfl), (HA.sub h140 (List.Sublist.cons _ (List.Sublist.cons_cons _ (List.Sublist.cons_cons _ (List.Sublist.cons_cons _ (List.Sublist.cons_cons _ (List.Sublist.cons_cons _ (List.Sublist.cons_cons _ (List.Sublist.cons_cons _ (List.Sublist.cons_cons _ (List.Sublist.cons_cons _ (List.Sublist.cons_cons _ (List.Sublist.cons_cons _ (List.Sublist.slnil))))))))))))))⟩
        refine wl_call (v := .bool true) h137 ky enter75 #[.slice (some ⟨q25, 0, none⟩) 2 2, .int .i64 c.kd] ky (((con_any [8, 9] c.kd (own_in h137 3 [8, 9] rfl) (by decide)).mono fun _ _ hh => ⟨by rw [hh.1, q138], hh.2⟩)) ?_
        intro w141 h142
        refine wl_nil (then_at rfl ?_)
        refine wp_cond_true ky ?_
        refine wl_region ?_
        refine zv (.string (calP id c 7)) ?_
        refine zv (.pointer (some ⟨q133, 1, none⟩)) ?_
        refine zu (.func (.func 73) #[] #[.pointer (some ⟨q1, 0, none⟩)]) (run_load1 (fun w => Try.isAgg84 w) ky (((h142.get 0 rfl).cell 1).trans rfl)) ?_
        refine wl_callvx (cap := #[.pointer (some ⟨q1, 0, none⟩)]) (args := #[.pointer (some ⟨q1, 0, none⟩)]) ky enter73 ky ky (cf_7 c (hP.keep h142.old.old) (hQ.keep h142.old.old) hl1 hl2 (h142.get 11 rfl) (fb7 hO q138)) ?_
        rintro _ w144 ⟨rfl, hb143⟩
        refine ⟨_, rfl, ?_⟩
        have h145 := HA.keep _ _ h142 hb143
        refine zu (.string (calP id c 7 ++ fldC c 7)) (run_cat (s := calP id c 7) (t := fldC c 7) ky ky (by have h8 := calP_size (id := id) hO 7; have h9 := fld_size hO 7 q138; omega)) ?_
        refine zv (.string (calP id c 7 ++ fldC c 7)) ?_
        refine wl_nil (block_normal (then_at rfl (wl_region ?_)))
        refine zu (iN .i64 (7 + 1)) (run_add (k := .i64) (a := 7) (b := 1) ky ky (by decide)) ?_
        refine zv (iN .i64 (7 + 1)) ?_
        refine wl_nil ?_
        exact then_I ⟨fun ii => (([(8, .pointer (some ⟨q133, 0, none⟩)), (46, .bool true), (47, .pointer (some ⟨q31, 14, none⟩)), (48, .agg #[.slice (some ⟨q25, 0, none⟩) 2 2, .func (.func 73) #[] #[.pointer (some ⟨q1, 0, none⟩)]]), (49, .pointer (some ⟨q133, 0, none⟩)), (50, .slice (some ⟨q25, 0, none⟩) 2 2), (51, .pointer (some ⟨q1, 0, none⟩)), (52, .int .i64 c.kd), (53, .bool true), (54, .string (calP id c 7)), (55, .pointer (some ⟨q133, 1, none⟩)), (56, .func (.func 73) #[] #[.pointer (some ⟨q1, 0, none⟩)]), (57, .string (fldC c 7)), (58, .string (calP id c 7 ++ fldC c 7)), (59, iN .i64 (7 + 1))] : List (Nat × Value)).find? (·.1 == ii)).elim undef (·.2), (by rw [calP_t (id := id) (c := c) (i := 7) q138]; kernel_rfl), (HA.sub h145 (List.Sublist.cons _ (List.Sublist.cons_cons _ (List.Sublist.cons_cons _ (List.Sublist.cons_cons _ (List.Sublist.cons_cons _ (List.Sublist.cons_cons _ (List.Sublist.cons_cons _ (List.Sublist.cons_cons _ (List.Sublist.cons_cons _ (List.Sublist.cons_cons _ (List.Sublist.cons_cons _ (List.Sublist.cons_cons _ (List.Sublist.slnil))))))))))))))⟩
      refine wl_region ?_
      refine zv (.pointer (some ⟨q31, 16, none⟩)) ?_
      refine zu (.agg #[.slice (some ⟨q28, 0, none⟩) 2 2, .func (.func 74) #[] #[.pointer (some ⟨q1, 0, none⟩)]]) (run_load_part (q := q31) (off := 16) (d := #[.slice (some ⟨q28, 0, none⟩) 2 2, .func (.func 74) #[] #[.pointer (some ⟨q1, 0, none⟩)]]) ky (h41.get 0 rfl) Try.underlying105 rfl ky (by intro j hj; match j, hj with | 0, _ => rfl | 1, _ => rfl)) ?_
      refine wl_make (c := #[.slice none 0 0, .nilFunc]) h41 105 ky ky ?_
      intro q146 w147 (h148 : HA (bs w) [(q146, 105, #[.slice none 0 0, .nilFunc]), (q31, 105, #[.slice (some ⟨q4, 0, none⟩) 2 2, .func (.func 62) #[] #[.pointer (some ⟨q1, 0, none⟩)], .slice (some ⟨q7, 0, none⟩) 1 1, .func (.func 64) #[] #[.pointer (some ⟨q1, 0, none⟩)], .slice (some ⟨q10, 0, none⟩) 1 1, .func (.func 65) #[] #[.pointer (some ⟨q1, 0, none⟩)], .slice (some ⟨q13, 0, none⟩) 1 1, .func (.func 68) #[] #[.pointer (some ⟨q1, 0, none⟩)], .slice (some ⟨q16, 0, none⟩) 1 1, .func (.func 69) #[] #[.pointer (some ⟨q1, 0, none⟩)], .slice (some ⟨q19, 0, none⟩) 1 1, .func (.func 70) #[] #[.pointer (some ⟨q1, 0, none⟩)], .slice (some ⟨q22, 0, none⟩) 2 2, .func (.func 72) #[] #[.pointer (some ⟨q1, 0, none⟩)], .slice (some ⟨q25, 0, none⟩) 2 2, .func (.func 73) #[] #[.pointer (some ⟨q1, 0, none⟩)], .slice (some ⟨q28, 0, none⟩) 2 2, .func (.func 74) #[] #[.pointer (some ⟨q1, 0, none⟩)]]), (q28, 3, #[iN .i64 5, iN .i64 8]), (q25, 3, #[iN .i64 8, iN .i64 9]), (q22, 3, #[iN .i64 6, iN .i64 7]), (q19, 3, #[iN .i64 5]), (q16, 3, #[iN .i64 4]), (q13, 3, #[iN .i64 4]), (q10, 3, #[iN .i64 3]), (q7, 3, #[iN .i64 2]), (q4, 3, #[iN .i64 1, iN .i64 2]), (q1, 30, caC c (.slice o c.li.ds.length k) (.slice p c.on.length m))] w147)
      refine wl_fill (c' := #[.slice (some ⟨q28, 0, none⟩) 2 2, .func (.func 74) #[] #[.pointer (some ⟨q1, 0, none⟩)]]) h148 0 rfl ky ky ky rfl ky ky ?_
      intro w149 (h150 : HA (bs w) [(q146, 105, #[.slice (some ⟨q28, 0, none⟩) 2 2, .func (.func 74) #[] #[.pointer (some ⟨q1, 0, none⟩)]]), (q31, 105, #[.slice (some ⟨q4, 0, none⟩) 2 2, .func (.func 62) #[] #[.pointer (some ⟨q1, 0, none⟩)], .slice (some ⟨q7, 0, none⟩) 1 1, .func (.func 64) #[] #[.pointer (some ⟨q1, 0, none⟩)], .slice (some ⟨q10, 0, none⟩) 1 1, .func (.func 65) #[] #[.pointer (some ⟨q1, 0, none⟩)], .slice (some ⟨q13, 0, none⟩) 1 1, .func (.func 68) #[] #[.pointer (some ⟨q1, 0, none⟩)], .slice (some ⟨q16, 0, none⟩) 1 1, .func (.func 69) #[] #[.pointer (some ⟨q1, 0, none⟩)], .slice (some ⟨q19, 0, none⟩) 1 1, .func (.func 70) #[] #[.pointer (some ⟨q1, 0, none⟩)], .slice (some ⟨q22, 0, none⟩) 2 2, .func (.func 72) #[] #[.pointer (some ⟨q1, 0, none⟩)], .slice (some ⟨q25, 0, none⟩) 2 2, .func (.func 73) #[] #[.pointer (some ⟨q1, 0, none⟩)], .slice (some ⟨q28, 0, none⟩) 2 2, .func (.func 74) #[] #[.pointer (some ⟨q1, 0, none⟩)]]), (q28, 3, #[iN .i64 5, iN .i64 8]), (q25, 3, #[iN .i64 8, iN .i64 9]), (q22, 3, #[iN .i64 6, iN .i64 7]), (q19, 3, #[iN .i64 5]), (q16, 3, #[iN .i64 4]), (q13, 3, #[iN .i64 4]), (q10, 3, #[iN .i64 3]), (q7, 3, #[iN .i64 2]), (q4, 3, #[iN .i64 1, iN .i64 2]), (q1, 30, caC c (.slice o c.li.ds.length k) (.slice p c.on.length m))] w149)
      refine wl_nil (then_at rfl (wp_seq (wl_region ?_)))
      refine zv (.pointer (some ⟨q146, 0, none⟩)) ?_
      refine zu (.slice (some ⟨q28, 0, none⟩) 2 2) (run_load1 (fun w => Try.isAgg103 w) ky (((h150.get 0 rfl).cell 0).trans rfl)) ?_
      refine zv (.pointer (some ⟨q1, 0, none⟩)) ?_
      refine zu (.int .i64 c.kd) (run_load1 (fun w => Try.isAgg3 w) ky (((h150.get 11 rfl).cell 0).trans rfl)) ?_
      rcases q151 : conA [5, 8] c.kd with _ | _
      · refine wl_call (v := .bool false) h150 ky enter75 #[.slice (some ⟨q28, 0, none⟩) 2 2, .int .i64 c.kd] ky (((con_any [5, 8] c.kd (own_in h150 2 [5, 8] rfl) (by decide)).mono fun _ _ hh => ⟨by rw [hh.1, q151], hh.2⟩)) ?_
        intro w152 h153
        refine wl_nil (then_at rfl ?_)
        refine wp_cond_false ky ?_
        refine wp_skip (block_normal (then_at rfl (wl_region ?_)))
        refine zu (iN .i64 (8 + 1)) (run_add (k := .i64) (a := 8) (b := 1) ky ky (by decide)) ?_
        refine zv (iN .i64 (8 + 1)) ?_
        refine wl_nil ?_
        exact then_I ⟨fun ii => (([(8, .pointer (some ⟨q146, 0, none⟩)), (46, .bool true), (47, .pointer (some ⟨q31, 16, none⟩)), (48, .agg #[.slice (some ⟨q28, 0, none⟩) 2 2, .func (.func 74) #[] #[.pointer (some ⟨q1, 0, none⟩)]]), (49, .pointer (some ⟨q146, 0, none⟩)), (50, .slice (some ⟨q28, 0, none⟩) 2 2), (51, .pointer (some ⟨q1, 0, none⟩)), (52, .int .i64 c.kd), (53, .bool false), (54, u39 54), (55, u39 55), (56, u39 56), (57, u39 57), (58, u39 58), (59, iN .i64 (8 + 1))] : List (Nat × Value)).find? (·.1 == ii)).elim undef (·.2), (by rw [calP_f (id := id) (c := c) (i := 8) q151]; kernel_rfl), (HA.sub h153 (List.Sublist.cons _ (List.Sublist.cons_cons _ (List.Sublist.cons_cons _ (List.Sublist.cons_cons _ (List.Sublist.cons_cons _ (List.Sublist.cons_cons _ (List.Sublist.cons_cons _ (List.Sublist.cons_cons _ (List.Sublist.cons_cons _ (List.Sublist.cons_cons _ (List.Sublist.cons_cons _ (List.Sublist.cons_cons _ (List.Sublist.slnil))))))))))))))⟩
      refine wl_call (v := .bool true) h150 ky enter75 #[.slice (some ⟨q28, 0, none⟩) 2 2, .int .i64 c.kd] ky (((con_any [5, 8] c.kd (own_in h150 2 [5, 8] rfl) (by decide)).mono fun _ _ hh => ⟨by rw [hh.1, q151], hh.2⟩)) ?_
      intro w154 h155
      refine wl_nil (then_at rfl ?_)
      refine wp_cond_true ky ?_
      refine wl_region ?_
      refine zv (.string (calP id c 8)) ?_
      refine zv (.pointer (some ⟨q146, 1, none⟩)) ?_
      refine zu (.func (.func 74) #[] #[.pointer (some ⟨q1, 0, none⟩)]) (run_load1 (fun w => Try.isAgg84 w) ky (((h155.get 0 rfl).cell 1).trans rfl)) ?_
      refine wl_callvx (cap := #[.pointer (some ⟨q1, 0, none⟩)]) (args := #[.pointer (some ⟨q1, 0, none⟩)]) ky enter74 ky ky (cf_8 c (hP.keep h155.old.old) (hQ.keep h155.old.old) hl1 hl2 (h155.get 11 rfl) (fb8 hO q151)) ?_
      rintro _ w157 ⟨rfl, hb156⟩
      refine ⟨_, rfl, ?_⟩
      have h158 := HA.keep _ _ h155 hb156
      refine zu (.string (calP id c 8 ++ fldC c 8)) (run_cat (s := calP id c 8) (t := fldC c 8) ky ky (by have h8 := calP_size (id := id) hO 8; have h9 := fld_size hO 8 q151; omega)) ?_
      refine zv (.string (calP id c 8 ++ fldC c 8)) ?_
      refine wl_nil (block_normal (then_at rfl (wl_region ?_)))
      refine zu (iN .i64 (8 + 1)) (run_add (k := .i64) (a := 8) (b := 1) ky ky (by decide)) ?_
      refine zv (iN .i64 (8 + 1)) ?_
      refine wl_nil ?_
      exact then_I ⟨fun ii => (([(8, .pointer (some ⟨q146, 0, none⟩)), (46, .bool true), (47, .pointer (some ⟨q31, 16, none⟩)), (48, .agg #[.slice (some ⟨q28, 0, none⟩) 2 2, .func (.func 74) #[] #[.pointer (some ⟨q1, 0, none⟩)]]), (49, .pointer (some ⟨q146, 0, none⟩)), (50, .slice (some ⟨q28, 0, none⟩) 2 2), (51, .pointer (some ⟨q1, 0, none⟩)), (52, .int .i64 c.kd), (53, .bool true), (54, .string (calP id c 8)), (55, .pointer (some ⟨q146, 1, none⟩)), (56, .func (.func 74) #[] #[.pointer (some ⟨q1, 0, none⟩)]), (57, .string (fldC c 8)), (58, .string (calP id c 8 ++ fldC c 8)), (59, iN .i64 (8 + 1))] : List (Nat × Value)).find? (·.1 == ii)).elim undef (·.2), (by rw [calP_t (id := id) (c := c) (i := 8) q151]; kernel_rfl), (HA.sub h158 (List.Sublist.cons _ (List.Sublist.cons_cons _ (List.Sublist.cons_cons _ (List.Sublist.cons_cons _ (List.Sublist.cons_cons _ (List.Sublist.cons_cons _ (List.Sublist.cons_cons _ (List.Sublist.cons_cons _ (List.Sublist.cons_cons _ (List.Sublist.cons_cons _ (List.Sublist.cons_cons _ (List.Sublist.cons_cons _ (List.Sublist.slnil))))))))))))))⟩
    · rintro _ w159 ⟨u39, rfl, h160⟩
      refine wp_seq (wl_region ?_)
      refine zu (.bool false) (run_lss (k := .i64) (a := 9) (b := 9) ky ky false (by decide)) ?_
      refine wl_nil (then_at rfl (wp_seq ?_))
      refine wp_cond_false ky ?_
      refine wp_exit ?_
      repeat first | refine then_exit ?_ | refine block_exit ?_ | refine block_exit_ne (by decide) ?_
      refine then_at rfl (wp_seq (wl_region ?_))
      refine zv (.string (calP id c 9)) ?_
      refine zv (.string (calP id c 9)) ?_
      refine wl_nil (then_at rfl ?_)
      refine wp_ret ?_
      repeat first | refine then_ret ?_ | refine block_ret ?_
      exact bodyPost_ret (v := .string (calB id c)) ky rfl ⟨rfl, h160.old.old⟩
end Go.Proofs.Ytiogegoepgkjlaa
