/-
  X3dhBytes, X3dhBack: the laws.
-/
import Derived.Test.YtoogiblkommdfaaGreatXM
import Derived.Test.YtoogiblkommdfaaGreatX9
set_option linter.unusedVariables false
namespace Go.Proofs.YtoogiblkommdfaaGreat
open Go.RowKit

set_option maxRecDepth 100000 in
set_option maxHeartbeats 2000000 in
theorem bytesL {w : World} (x : Bu) (s : ByteArray) (hs : s.size ≤ 140737488351232) :
    Calls Tryz.prog 3 #[.agg (buC x), .string s] w fun e w' => e = .returned (.bool true) ∧ Below w.heap.size w w' := by
  have H0 := HA.start w
  go_enter Tryz.func3, Tryz.ntmps3
  refine wp_seq (wl_region ?_)
  refine wl_make (c := buC x) H0 23 ky ky ?_
  intro q1 w2 (h3 : HA (bs w) [(q1, 23, buC x)] w2)
  refine zv (.bool false) ?_
  refine wl_nil (then_at rfl (wp_seq (wl_region ?_)))
  refine wl_load h3 0 rfl ky ky Tryz.underlying23 rfl ky ?_
  refine wl_call (v := .tuple #[.string ((encA x).1), iN .i64 ((encA x).2)]) h3 ky enter10 #[.agg (buC x)] ky (enc_any x) ?_
  intro w4 h5
  refine zv (.tuple #[.string ((encA x).1), iN .i64 ((encA x).2)]) ?_
  refine zv (.string ((encA x).1)) ?_
  refine zv (iN .i64 ((encA x).2)) ?_
  refine zv (.string ((encA x).1)) ?_
  refine zv (iN .i64 ((encA x).2)) ?_
  refine wl_nil (then_at rfl (wp_seq (wl_region ?_)))
  refine wl_load h5 0 rfl ky ky Tryz.underlying23 rfl ky ?_
  refine wl_call (v := .tuple #[.string ((encA x).1), iN .i64 ((encA x).2)]) h5 ky enter11 #[.agg (buC x)] ky (renc_any x) ?_
  intro w6 h7
  refine zv (.tuple #[.string ((encA x).1), iN .i64 ((encA x).2)]) ?_
  refine zv (.string ((encA x).1)) ?_
  refine zv (iN .i64 ((encA x).2)) ?_
  refine zv (.string ((encA x).1)) ?_
  refine zv (iN .i64 ((encA x).2)) ?_
  refine wl_nil (then_at rfl (wp_seq (wl_region ?_)))
  refine zv (.string s) ?_
  refine wl_call (v := .tuple #[.agg (buC (decA s).1), iN .i64 ((decA s).2)]) h7 ky enter12 #[.string s] ky (dec_any s hs) ?_
  intro w8 h9
  refine zv (.tuple #[.agg (buC (decA s).1), iN .i64 ((decA s).2)]) ?_
  refine zv (.agg (buC (decA s).1)) ?_
  refine zv (iN .i64 ((decA s).2)) ?_
  refine wl_make (c := #[iN .i64 0, iN .i64 0, .string ({ data := #[] }), .string ({ data := #[] }), iN .i64 0, .string ({ data := #[] }), .string ({ data := #[] }), iN .i64 0, .string ({ data := #[] })]) h9 23 ky ky ?_
  intro q10 w11 (h12 : HA (bs w) [(q10, 23, #[iN .i64 0, iN .i64 0, .string ({ data := #[] }), .string ({ data := #[] }), iN .i64 0, .string ({ data := #[] }), .string ({ data := #[] }), iN .i64 0, .string ({ data := #[] })]), (q1, 23, buC x)] w11)
  refine wl_fill (c' := buC (decA s).1) h12 0 rfl ky ky ky rfl ky ky ?_
  intro w13 (h14 : HA (bs w) [(q10, 23, buC (decA s).1), (q1, 23, buC x)] w13)
  refine zv (iN .i64 ((decA s).2)) ?_
  refine wl_nil (then_at rfl (wp_seq (wl_region ?_)))
  refine zv (.string s) ?_
  refine wl_call (v := .tuple #[.agg (buC (decA s).1), iN .i64 ((decA s).2)]) h14 ky enter13 #[.string s] ky (rdec_any s hs) ?_
  intro w15 h16
  refine zv (.tuple #[.agg (buC (decA s).1), iN .i64 ((decA s).2)]) ?_
  refine zv (.agg (buC (decA s).1)) ?_
  refine zv (iN .i64 ((decA s).2)) ?_
  refine wl_make (c := #[iN .i64 0, iN .i64 0, .string ({ data := #[] }), .string ({ data := #[] }), iN .i64 0, .string ({ data := #[] }), .string ({ data := #[] }), iN .i64 0, .string ({ data := #[] })]) h16 23 ky ky ?_
  intro q17 w18 (h19 : HA (bs w) [(q17, 23, #[iN .i64 0, iN .i64 0, .string ({ data := #[] }), .string ({ data := #[] }), iN .i64 0, .string ({ data := #[] }), .string ({ data := #[] }), iN .i64 0, .string ({ data := #[] })]), (q10, 23, buC (decA s).1), (q1, 23, buC x)] w18)
  refine wl_fill (c' := buC (decA s).1) h19 0 rfl ky ky ky rfl ky ky ?_
  intro w20 (h21 : HA (bs w) [(q17, 23, buC (decA s).1), (q10, 23, buC (decA s).1), (q1, 23, buC x)] w20)
  refine zv (iN .i64 ((decA s).2)) ?_
  refine wl_nil (then_at rfl (wp_seq (wl_region ?_)))
  refine zv (.string ((encA x).1)) ?_
  refine zv (.string ((encA x).1)) ?_
  refine zu (.bool true) (run_eqs (s := (encA x).1) (t := (encA x).1) ky ky true (decide_eq_true rfl)) ?_
  refine zv (.bool true) ?_
  refine zv (iN .i64 ((encA x).2)) ?_
  refine zv (iN .i64 ((encA x).2)) ?_
  refine zu (.bool true) (run_eqi (k := .i64) (a := (encA x).2) (b := (encA x).2) ky ky true (decide_eq_true rfl)) ?_
  refine zv (.bool true) ?_
  refine zv (.bool true) ?_
  refine wl_load h21 1 rfl ky ky Tryz.underlying23 rfl ky ?_
  refine wl_load h21 0 rfl ky ky Tryz.underlying23 rfl ky ?_
  refine zu (.bool true) (run_eqB (a := (decA s).1) (b := (decA s).1) ky ky true (decide_eq_true rfl)) ?_
  refine zv (.bool true) ?_
  refine zv (.bool true) ?_
  refine zv (iN .i64 ((decA s).2)) ?_
  refine zv (iN .i64 ((decA s).2)) ?_
  refine zu (.bool true) (run_eqi (k := .i64) (a := (decA s).2) (b := (decA s).2) ky ky true (decide_eq_true rfl)) ?_
  refine zv (.bool true) ?_
  refine zv (.bool true) ?_
  refine wl_call (v := .bool true) h21 ky enter14 #[] ky (works_P w20) ?_
  intro w22 h23
  refine zv (.bool true) ?_
  refine zv (.bool true) ?_
  refine wl_nil (then_at rfl ?_)
  refine wp_ret ?_
  repeat first | refine then_ret ?_ | refine block_ret ?_
  exact bodyPost_ret (v := .bool true) ky rfl ⟨rfl, h23.old.old⟩
set_option maxRecDepth 100000 in
set_option maxHeartbeats 2000000 in
theorem back_00 {w : World} (x : Bu) (s : ByteArray) (hs : s.size ≤ 140737488351232) (hE : encA x = ({ data := #[] }, 2)) (hd : decA s = (bu0, 4)) :
    Calls Tryz.prog 7 #[.agg (buC x), .string s] w fun e w' => e = .returned (.bool true) ∧ Below w.heap.size w w' := by
  have H0 := HA.start w
  go_enter Tryz.func7, Tryz.ntmps7
  refine wp_seq (wl_region ?_)
  refine wl_make (c := buC x) H0 23 ky ky ?_
  intro q1 w2 (h3 : HA (bs w) [(q1, 23, buC x)] w2)
  refine zv (.bool false) ?_
  refine wl_nil (then_at rfl (wp_seq (wp_seq (wl_region ?_))))
  refine wl_call (v := .bool true) h3 ky enter14 #[] ky (works_P w2) ?_
  intro w4 h5
  refine zv (.bool false) ?_
  refine wl_nil (then_at rfl ?_)
  refine wp_cond_false ky ?_
  refine wp_skip (then_at rfl (wp_seq (wl_region ?_)))
  refine wl_load h5 0 rfl ky ky Tryz.underlying23 rfl ky ?_
  refine wl_call (v := .tuple #[.string ({ data := #[] }), iN .i64 2]) h5 ky enter10 #[.agg (buC x)] ky (enc_E hE) ?_
  intro w6 h7
  refine zv (.tuple #[.string ({ data := #[] }), iN .i64 2]) ?_
  refine zv (.string ({ data := #[] })) ?_
  refine zv (iN .i64 2) ?_
  refine zv (.string ({ data := #[] })) ?_
  refine zv (iN .i64 2) ?_
  refine wl_nil (then_at rfl (wp_seq (wp_seq (wl_region ?_))))
  refine zv (iN .i64 2) ?_
  refine zu (.bool false) (run_eqi (k := .i64) (a := 2) (b := 0) ky ky false (by decide)) ?_
  refine wl_nil (then_at rfl ?_)
  refine wp_cond_false ky ?_
  refine wp_seq (wl_region ?_)
  refine zv (iN .i64 2) ?_
  refine zu (.bool false) (run_nei (k := .i64) (a := 2) (b := 2) ky ky false (by decide)) ?_
  refine zv (.bool false) ?_
  refine zv (.string ({ data := #[] })) ?_
  refine zu (.bool false) (run_nes (s := { data := #[] }) (t := { data := #[] }) ky ky false (by rw [decide_eq_true rfl]; rfl)) ?_
  refine zv (.bool false) ?_
  refine wl_nil (then_at rfl ?_)
  refine wp_cond_false ky ?_
  refine wp_skip (then_at rfl (wp_seq (wl_region ?_)))
  refine zv (.string s) ?_
  refine wl_call (v := .tuple #[.agg (buC bu0), iN .i64 4]) h7 ky enter12 #[.string s] ky (dec_E hs hd) ?_
  intro w8 h9
  refine zv (.tuple #[.agg (buC bu0), iN .i64 4]) ?_
  refine zv (.agg (buC bu0)) ?_
  refine zv (iN .i64 4) ?_
  refine wl_make (c := #[iN .i64 0, iN .i64 0, .string ({ data := #[] }), .string ({ data := #[] }), iN .i64 0, .string ({ data := #[] }), .string ({ data := #[] }), iN .i64 0, .string ({ data := #[] })]) h9 23 ky ky ?_
  intro q10 w11 (h12 : HA (bs w) [(q10, 23, #[iN .i64 0, iN .i64 0, .string ({ data := #[] }), .string ({ data := #[] }), iN .i64 0, .string ({ data := #[] }), .string ({ data := #[] }), iN .i64 0, .string ({ data := #[] })]), (q1, 23, buC x)] w11)
  refine wl_fill (c' := buC bu0) h12 0 rfl ky ky ky rfl ky ky ?_
  intro w13 (h14 : HA (bs w) [(q10, 23, buC bu0), (q1, 23, buC x)] w13)
  refine zv (iN .i64 4) ?_
  refine wl_nil (then_at rfl (wp_seq (wp_seq (wl_region ?_))))
  refine zv (iN .i64 4) ?_
  refine zu (.bool true) (run_nei (k := .i64) (a := 4) (b := 0) ky ky true (by decide)) ?_
  refine wl_nil (then_at rfl ?_)
  refine wp_cond_true ky ?_
  refine wp_seq (wl_region ?_)
  refine zv (iN .i64 4) ?_
  refine zu (.bool true) (run_eqi (k := .i64) (a := 4) (b := 4) ky ky true (by decide)) ?_
  refine zv (.bool true) ?_
  refine wl_load h14 0 rfl ky ky Tryz.underlying23 rfl ky ?_
  refine zv (.agg (buC bu0)) ?_
  refine zu (.bool true) (run_eqB (a := bu0) (b := bu0) ky ky true (decide_eq_true rfl)) ?_
  refine zv (.bool true) ?_
  refine zv (.bool true) ?_
  refine wl_nil (then_at rfl ?_)
  refine wp_ret ?_
  repeat first | refine then_ret ?_ | refine block_ret ?_
  exact bodyPost_ret (v := .bool true) ky rfl ⟨rfl, h14.old.old⟩
set_option maxRecDepth 100000 in
set_option maxHeartbeats 2000000 in
theorem back_01 {w : World} (x : Bu) (s : ByteArray) (hs : s.size ≤ 140737488351232) (hE : encA x = ({ data := #[] }, 2)) {c : Bu} (hd : decA s = (c, 0)) (hc : encA c = (s, 0)) :
    Calls Tryz.prog 7 #[.agg (buC x), .string s] w fun e w' => e = .returned (.bool true) ∧ Below w.heap.size w w' := by
  have H0 := HA.start w
  go_enter Tryz.func7, Tryz.ntmps7
  refine wp_seq (wl_region ?_)
  refine wl_make (c := buC x) H0 23 ky ky ?_
  intro q1 w2 (h3 : HA (bs w) [(q1, 23, buC x)] w2)
  refine zv (.bool false) ?_
  refine wl_nil (then_at rfl (wp_seq (wp_seq (wl_region ?_))))
  refine wl_call (v := .bool true) h3 ky enter14 #[] ky (works_P w2) ?_
  intro w4 h5
  refine zv (.bool false) ?_
  refine wl_nil (then_at rfl ?_)
  refine wp_cond_false ky ?_
  refine wp_skip (then_at rfl (wp_seq (wl_region ?_)))
  refine wl_load h5 0 rfl ky ky Tryz.underlying23 rfl ky ?_
  refine wl_call (v := .tuple #[.string ({ data := #[] }), iN .i64 2]) h5 ky enter10 #[.agg (buC x)] ky (enc_E hE) ?_
  intro w6 h7
  refine zv (.tuple #[.string ({ data := #[] }), iN .i64 2]) ?_
  refine zv (.string ({ data := #[] })) ?_
  refine zv (iN .i64 2) ?_
  refine zv (.string ({ data := #[] })) ?_
  refine zv (iN .i64 2) ?_
  refine wl_nil (then_at rfl (wp_seq (wp_seq (wl_region ?_))))
  refine zv (iN .i64 2) ?_
  refine zu (.bool false) (run_eqi (k := .i64) (a := 2) (b := 0) ky ky false (by decide)) ?_
  refine wl_nil (then_at rfl ?_)
  refine wp_cond_false ky ?_
  refine wp_seq (wl_region ?_)
  refine zv (iN .i64 2) ?_
  refine zu (.bool false) (run_nei (k := .i64) (a := 2) (b := 2) ky ky false (by decide)) ?_
  refine zv (.bool false) ?_
  refine zv (.string ({ data := #[] })) ?_
  refine zu (.bool false) (run_nes (s := { data := #[] }) (t := { data := #[] }) ky ky false (by rw [decide_eq_true rfl]; rfl)) ?_
  refine zv (.bool false) ?_
  refine wl_nil (then_at rfl ?_)
  refine wp_cond_false ky ?_
  refine wp_skip (then_at rfl (wp_seq (wl_region ?_)))
  refine zv (.string s) ?_
  refine wl_call (v := .tuple #[.agg (buC c), iN .i64 0]) h7 ky enter12 #[.string s] ky (dec_E hs hd) ?_
  intro w8 h9
  refine zv (.tuple #[.agg (buC c), iN .i64 0]) ?_
  refine zv (.agg (buC c)) ?_
  refine zv (iN .i64 0) ?_
  refine wl_make (c := #[iN .i64 0, iN .i64 0, .string ({ data := #[] }), .string ({ data := #[] }), iN .i64 0, .string ({ data := #[] }), .string ({ data := #[] }), iN .i64 0, .string ({ data := #[] })]) h9 23 ky ky ?_
  intro q10 w11 (h12 : HA (bs w) [(q10, 23, #[iN .i64 0, iN .i64 0, .string ({ data := #[] }), .string ({ data := #[] }), iN .i64 0, .string ({ data := #[] }), .string ({ data := #[] }), iN .i64 0, .string ({ data := #[] })]), (q1, 23, buC x)] w11)
  refine wl_fill (c' := buC c) h12 0 rfl ky ky ky rfl ky ky ?_
  intro w13 (h14 : HA (bs w) [(q10, 23, buC c), (q1, 23, buC x)] w13)
  refine zv (iN .i64 0) ?_
  refine wl_nil (then_at rfl (wp_seq (wp_seq (wl_region ?_))))
  refine zv (iN .i64 0) ?_
  refine zu (.bool false) (run_nei (k := .i64) (a := 0) (b := 0) ky ky false (by decide)) ?_
  refine wl_nil (then_at rfl ?_)
  refine wp_cond_false ky ?_
  refine wp_skip (then_at rfl (wp_seq (wl_region ?_)))
  refine wl_load h14 0 rfl ky ky Tryz.underlying23 rfl ky ?_
  refine wl_call (v := .tuple #[.string s, iN .i64 0]) h14 ky enter10 #[.agg (buC c)] ky (enc_E hc) ?_
  intro w15 h16
  refine zv (.tuple #[.string s, iN .i64 0]) ?_
  refine zv (.string s) ?_
  refine zv (iN .i64 0) ?_
  refine zv (.string s) ?_
  refine zv (iN .i64 0) ?_
  refine wl_nil (then_at rfl (wp_seq (wl_region ?_)))
  refine zv (iN .i64 0) ?_
  refine zu (.bool true) (run_eqi (k := .i64) (a := 0) (b := 0) ky ky true (by decide)) ?_
  refine zv (.bool true) ?_
  refine zv (.string s) ?_
  refine zv (.string s) ?_
  refine zu (.bool true) (run_eqs (s := s) (t := s) ky ky true (decide_eq_true rfl)) ?_
  refine zv (.bool true) ?_
  refine zv (.bool true) ?_
  refine wl_nil ?_
  refine then_at (F := ⟨(.agg (buC x) :: .string s :: pt q1 :: un :: .bool true :: .string ({ data := #[] }) :: iN .i64 2 :: un :: un :: pt q10 :: iN .i64 0 :: .string s :: iN .i64 0 :: .bool true :: .bool false :: .tuple #[.string ({ data := #[] }), iN .i64 2] :: .agg (buC x) :: .tuple #[.string ({ data := #[] }), iN .i64 2] :: .string ({ data := #[] }) :: iN .i64 2 :: iN .i64 2 :: .bool false :: un :: un :: un :: un :: un :: un :: un :: un :: un :: un :: un :: un :: iN .i64 2 :: .bool false :: .bool false :: .string ({ data := #[] }) :: .bool false :: .bool false :: .tuple #[.agg (buC c), iN .i64 0] :: .string s :: .tuple #[.agg (buC c), iN .i64 0] :: .agg (buC c) :: iN .i64 0 :: iN .i64 0 :: .bool false :: un :: un :: un :: un :: un :: un :: un :: .tuple #[.string s, iN .i64 0] :: .agg (buC c) :: .tuple #[.string s, iN .i64 0] :: .string s :: iN .i64 0 :: iN .i64 0 :: .bool true :: .bool true :: .string s :: .string s :: .bool true :: .bool true :: List.replicate 0 un).toArray, []⟩) ky ?_
  refine wp_ret ?_
  repeat first | refine then_ret ?_ | refine block_ret ?_
  exact bodyPost_ret (v := .bool true) ky rfl ⟨rfl, h16.old.old⟩
set_option maxRecDepth 100000 in
set_option maxHeartbeats 2000000 in
theorem back_10 {w : World} (x : Bu) (s : ByteArray) (hs : s.size ≤ 140737488351232) (hx : mayX x = true) (hE : encA x = (encB x, 0)) (hD : decA (encB x) = (x, 0)) (hd : decA s = (bu0, 4)) :
    Calls Tryz.prog 7 #[.agg (buC x), .string s] w fun e w' => e = .returned (.bool true) ∧ Below w.heap.size w w' := by
  have H0 := HA.start w
  go_enter Tryz.func7, Tryz.ntmps7
  refine wp_seq (wl_region ?_)
  refine wl_make (c := buC x) H0 23 ky ky ?_
  intro q1 w2 (h3 : HA (bs w) [(q1, 23, buC x)] w2)
  refine zv (.bool false) ?_
  refine wl_nil (then_at rfl (wp_seq (wp_seq (wl_region ?_))))
  refine wl_call (v := .bool true) h3 ky enter14 #[] ky (works_P w2) ?_
  intro w4 h5
  refine zv (.bool false) ?_
  refine wl_nil (then_at rfl ?_)
  refine wp_cond_false ky ?_
  refine wp_skip (then_at rfl (wp_seq (wl_region ?_)))
  refine wl_load h5 0 rfl ky ky Tryz.underlying23 rfl ky ?_
  refine wl_call (v := .tuple #[.string ((encB x)), iN .i64 0]) h5 ky enter10 #[.agg (buC x)] ky (enc_E hE) ?_
  intro w6 h7
  refine zv (.tuple #[.string ((encB x)), iN .i64 0]) ?_
  refine zv (.string ((encB x))) ?_
  refine zv (iN .i64 0) ?_
  refine zv (.string ((encB x))) ?_
  refine zv (iN .i64 0) ?_
  refine wl_nil (then_at rfl (wp_seq (wp_seq (wl_region ?_))))
  refine zv (iN .i64 0) ?_
  refine zu (.bool true) (run_eqi (k := .i64) (a := 0) (b := 0) ky ky true (by decide)) ?_
  refine wl_nil (then_at rfl ?_)
  refine wp_cond_true ky ?_
  refine wp_seq (wl_region ?_)
  refine zv (.string ((encB x))) ?_
  refine wl_call (v := .tuple #[.agg (buC x), iN .i64 0]) h7 ky enter12 #[.string ((encB x))] ky (dec_E (Nat.le_trans (encB_size (mayX_iff hx)) (by decide)) hD) ?_
  intro w8 h9
  refine zv (.tuple #[.agg (buC x), iN .i64 0]) ?_
  refine zv (.agg (buC x)) ?_
  refine zv (iN .i64 0) ?_
  refine wl_make (c := #[iN .i64 0, iN .i64 0, .string ({ data := #[] }), .string ({ data := #[] }), iN .i64 0, .string ({ data := #[] }), .string ({ data := #[] }), iN .i64 0, .string ({ data := #[] })]) h9 23 ky ky ?_
  intro q10 w11 (h12 : HA (bs w) [(q10, 23, #[iN .i64 0, iN .i64 0, .string ({ data := #[] }), .string ({ data := #[] }), iN .i64 0, .string ({ data := #[] }), .string ({ data := #[] }), iN .i64 0, .string ({ data := #[] })]), (q1, 23, buC x)] w11)
  refine wl_fill (c' := buC x) h12 0 rfl ky ky ky rfl ky ky ?_
  intro w13 (h14 : HA (bs w) [(q10, 23, buC x), (q1, 23, buC x)] w13)
  refine zv (iN .i64 0) ?_
  refine wl_nil (then_at rfl (wp_seq (wl_region ?_)))
  refine zv (iN .i64 0) ?_
  refine zu (.bool false) (run_nei (k := .i64) (a := 0) (b := 0) ky ky false (by decide)) ?_
  refine zv (.bool false) ?_
  refine wl_load h14 0 rfl ky ky Tryz.underlying23 rfl ky ?_
  refine wl_load h14 1 rfl ky ky Tryz.underlying23 rfl ky ?_
  refine zu (.bool false) (run_neB (a := x) (b := x) ky ky true (decide_eq_true rfl)) ?_
  refine zv (.bool false) ?_
  refine wl_nil (then_at rfl ?_)
  refine wp_cond_false ky ?_
  refine wp_skip (then_at rfl (wp_seq (wl_region ?_)))
  refine zv (.string s) ?_
  refine wl_call (v := .tuple #[.agg (buC bu0), iN .i64 4]) h14 ky enter12 #[.string s] ky (dec_E hs hd) ?_
  intro w15 h16
  refine zv (.tuple #[.agg (buC bu0), iN .i64 4]) ?_
  refine zv (.agg (buC bu0)) ?_
  refine zv (iN .i64 4) ?_
  refine wl_make (c := #[iN .i64 0, iN .i64 0, .string ({ data := #[] }), .string ({ data := #[] }), iN .i64 0, .string ({ data := #[] }), .string ({ data := #[] }), iN .i64 0, .string ({ data := #[] })]) h16 23 ky ky ?_
  intro q17 w18 (h19 : HA (bs w) [(q17, 23, #[iN .i64 0, iN .i64 0, .string ({ data := #[] }), .string ({ data := #[] }), iN .i64 0, .string ({ data := #[] }), .string ({ data := #[] }), iN .i64 0, .string ({ data := #[] })]), (q10, 23, buC x), (q1, 23, buC x)] w18)
  refine wl_fill (c' := buC bu0) h19 0 rfl ky ky ky rfl ky ky ?_
  intro w20 (h21 : HA (bs w) [(q17, 23, buC bu0), (q10, 23, buC x), (q1, 23, buC x)] w20)
  refine zv (iN .i64 4) ?_
  refine wl_nil (then_at rfl (wp_seq (wp_seq (wl_region ?_))))
  refine zv (iN .i64 4) ?_
  refine zu (.bool true) (run_nei (k := .i64) (a := 4) (b := 0) ky ky true (by decide)) ?_
  refine wl_nil (then_at rfl ?_)
  refine wp_cond_true ky ?_
  refine wp_seq (wl_region ?_)
  refine zv (iN .i64 4) ?_
  refine zu (.bool true) (run_eqi (k := .i64) (a := 4) (b := 4) ky ky true (by decide)) ?_
  refine zv (.bool true) ?_
  refine wl_load h21 0 rfl ky ky Tryz.underlying23 rfl ky ?_
  refine zv (.agg (buC bu0)) ?_
  refine zu (.bool true) (run_eqB (a := bu0) (b := bu0) ky ky true (decide_eq_true rfl)) ?_
  refine zv (.bool true) ?_
  refine zv (.bool true) ?_
  refine wl_nil (then_at rfl ?_)
  refine wp_ret ?_
  repeat first | refine then_ret ?_ | refine block_ret ?_
  exact bodyPost_ret (v := .bool true) ky rfl ⟨rfl, h21.old.old⟩
set_option maxRecDepth 100000 in
set_option maxHeartbeats 2000000 in
theorem back_11 {w : World} (x : Bu) (s : ByteArray) (hs : s.size ≤ 140737488351232) (hx : mayX x = true) (hE : encA x = (encB x, 0)) (hD : decA (encB x) = (x, 0)) {c : Bu} (hd : decA s = (c, 0)) (hc : encA c = (s, 0)) :
    Calls Tryz.prog 7 #[.agg (buC x), .string s] w fun e w' => e = .returned (.bool true) ∧ Below w.heap.size w w' := by
  have H0 := HA.start w
  go_enter Tryz.func7, Tryz.ntmps7
  refine wp_seq (wl_region ?_)
  refine wl_make (c := buC x) H0 23 ky ky ?_
  intro q1 w2 (h3 : HA (bs w) [(q1, 23, buC x)] w2)
  refine zv (.bool false) ?_
  refine wl_nil (then_at rfl (wp_seq (wp_seq (wl_region ?_))))
  refine wl_call (v := .bool true) h3 ky enter14 #[] ky (works_P w2) ?_
  intro w4 h5
  refine zv (.bool false) ?_
  refine wl_nil (then_at rfl ?_)
  refine wp_cond_false ky ?_
  refine wp_skip (then_at rfl (wp_seq (wl_region ?_)))
  refine wl_load h5 0 rfl ky ky Tryz.underlying23 rfl ky ?_
  refine wl_call (v := .tuple #[.string ((encB x)), iN .i64 0]) h5 ky enter10 #[.agg (buC x)] ky (enc_E hE) ?_
  intro w6 h7
  refine zv (.tuple #[.string ((encB x)), iN .i64 0]) ?_
  refine zv (.string ((encB x))) ?_
  refine zv (iN .i64 0) ?_
  refine zv (.string ((encB x))) ?_
  refine zv (iN .i64 0) ?_
  refine wl_nil (then_at rfl (wp_seq (wp_seq (wl_region ?_))))
  refine zv (iN .i64 0) ?_
  refine zu (.bool true) (run_eqi (k := .i64) (a := 0) (b := 0) ky ky true (by decide)) ?_
  refine wl_nil (then_at rfl ?_)
  refine wp_cond_true ky ?_
  refine wp_seq (wl_region ?_)
  refine zv (.string ((encB x))) ?_
  refine wl_call (v := .tuple #[.agg (buC x), iN .i64 0]) h7 ky enter12 #[.string ((encB x))] ky (dec_E (Nat.le_trans (encB_size (mayX_iff hx)) (by decide)) hD) ?_
  intro w8 h9
  refine zv (.tuple #[.agg (buC x), iN .i64 0]) ?_
  refine zv (.agg (buC x)) ?_
  refine zv (iN .i64 0) ?_
  refine wl_make (c := #[iN .i64 0, iN .i64 0, .string ({ data := #[] }), .string ({ data := #[] }), iN .i64 0, .string ({ data := #[] }), .string ({ data := #[] }), iN .i64 0, .string ({ data := #[] })]) h9 23 ky ky ?_
  intro q10 w11 (h12 : HA (bs w) [(q10, 23, #[iN .i64 0, iN .i64 0, .string ({ data := #[] }), .string ({ data := #[] }), iN .i64 0, .string ({ data := #[] }), .string ({ data := #[] }), iN .i64 0, .string ({ data := #[] })]), (q1, 23, buC x)] w11)
  refine wl_fill (c' := buC x) h12 0 rfl ky ky ky rfl ky ky ?_
  intro w13 (h14 : HA (bs w) [(q10, 23, buC x), (q1, 23, buC x)] w13)
  refine zv (iN .i64 0) ?_
  refine wl_nil (then_at rfl (wp_seq (wl_region ?_)))
  refine zv (iN .i64 0) ?_
  refine zu (.bool false) (run_nei (k := .i64) (a := 0) (b := 0) ky ky false (by decide)) ?_
  refine zv (.bool false) ?_
  refine wl_load h14 0 rfl ky ky Tryz.underlying23 rfl ky ?_
  refine wl_load h14 1 rfl ky ky Tryz.underlying23 rfl ky ?_
  refine zu (.bool false) (run_neB (a := x) (b := x) ky ky true (decide_eq_true rfl)) ?_
  refine zv (.bool false) ?_
  refine wl_nil (then_at rfl ?_)
  refine wp_cond_false ky ?_
  refine wp_skip (then_at rfl (wp_seq (wl_region ?_)))
  refine zv (.string s) ?_
  refine wl_call (v := .tuple #[.agg (buC c), iN .i64 0]) h14 ky enter12 #[.string s] ky (dec_E hs hd) ?_
  intro w15 h16
  refine zv (.tuple #[.agg (buC c), iN .i64 0]) ?_
  refine zv (.agg (buC c)) ?_
  refine zv (iN .i64 0) ?_
  refine wl_make (c := #[iN .i64 0, iN .i64 0, .string ({ data := #[] }), .string ({ data := #[] }), iN .i64 0, .string ({ data := #[] }), .string ({ data := #[] }), iN .i64 0, .string ({ data := #[] })]) h16 23 ky ky ?_
  intro q17 w18 (h19 : HA (bs w) [(q17, 23, #[iN .i64 0, iN .i64 0, .string ({ data := #[] }), .string ({ data := #[] }), iN .i64 0, .string ({ data := #[] }), .string ({ data := #[] }), iN .i64 0, .string ({ data := #[] })]), (q10, 23, buC x), (q1, 23, buC x)] w18)
  refine wl_fill (c' := buC c) h19 0 rfl ky ky ky rfl ky ky ?_
  intro w20 (h21 : HA (bs w) [(q17, 23, buC c), (q10, 23, buC x), (q1, 23, buC x)] w20)
  refine zv (iN .i64 0) ?_
  refine wl_nil (then_at rfl (wp_seq (wp_seq (wl_region ?_))))
  refine zv (iN .i64 0) ?_
  refine zu (.bool false) (run_nei (k := .i64) (a := 0) (b := 0) ky ky false (by decide)) ?_
  refine wl_nil (then_at rfl ?_)
  refine wp_cond_false ky ?_
  refine wp_skip (then_at rfl (wp_seq (wl_region ?_)))
  refine wl_load h21 0 rfl ky ky Tryz.underlying23 rfl ky ?_
  refine wl_call (v := .tuple #[.string s, iN .i64 0]) h21 ky enter10 #[.agg (buC c)] ky (enc_E hc) ?_
  intro w22 h23
  refine zv (.tuple #[.string s, iN .i64 0]) ?_
  refine zv (.string s) ?_
  refine zv (iN .i64 0) ?_
  refine zv (.string s) ?_
  refine zv (iN .i64 0) ?_
  refine wl_nil ?_
  refine then_at (F := ⟨(.agg (buC x) :: .string s :: pt q1 :: un :: .bool false :: .string ((encB x)) :: iN .i64 0 :: pt q10 :: iN .i64 0 :: pt q17 :: iN .i64 0 :: .string s :: iN .i64 0 :: .bool true :: .bool false :: .tuple #[.string ((encB x)), iN .i64 0] :: .agg (buC x) :: .tuple #[.string ((encB x)), iN .i64 0] :: .string ((encB x)) :: iN .i64 0 :: iN .i64 0 :: .bool true :: .tuple #[.agg (buC x), iN .i64 0] :: .string ((encB x)) :: .tuple #[.agg (buC x), iN .i64 0] :: .agg (buC x) :: iN .i64 0 :: iN .i64 0 :: .bool false :: .bool false :: .agg (buC x) :: .agg (buC x) :: .bool false :: .bool false :: un :: un :: un :: un :: un :: un :: .tuple #[.agg (buC c), iN .i64 0] :: .string s :: .tuple #[.agg (buC c), iN .i64 0] :: .agg (buC c) :: iN .i64 0 :: iN .i64 0 :: .bool false :: un :: un :: un :: un :: un :: un :: un :: .tuple #[.string s, iN .i64 0] :: .agg (buC c) :: .tuple #[.string s, iN .i64 0] :: .string s :: iN .i64 0 :: List.replicate 7 un).toArray, []⟩) ky ?_
  refine wp_seq (wl_region ?_)
  refine zv (iN .i64 0) ?_
  refine zu (.bool true) (run_eqi (k := .i64) (a := 0) (b := 0) ky ky true (by decide)) ?_
  refine zv (.bool true) ?_
  refine zv (.string s) ?_
  refine zv (.string s) ?_
  refine zu (.bool true) (run_eqs (s := s) (t := s) ky ky true (decide_eq_true rfl)) ?_
  refine zv (.bool true) ?_
  refine zv (.bool true) ?_
  refine wl_nil (then_at rfl ?_)
  refine wp_ret ?_
  repeat first | refine then_ret ?_ | refine block_ret ?_
  exact bodyPost_ret (v := .bool true) ky rfl ⟨rfl, h23.old.old⟩
theorem backL {w : World} (x : Bu) (s : ByteArray) (hs : s.size ≤ 140737488351232) :
    Calls Tryz.prog 7 #[.agg (buC x), .string s] w fun e w' => e = .returned (.bool true) ∧ Below w.heap.size w w' := by
  rcases hx : mayX x with _ | _
  · have hE : encA x = ({ data := #[] }, 2) := by unfold encA; rw [hx]; rfl
    rcases dec_cases s with hd | ⟨c, hd, hc⟩
    · exact back_00 x s hs hE hd
    · exact back_01 x s hs hE hd hc
  · have hE : encA x = (encB x, 0) := by unfold encA; rw [hx]; rfl
    rcases dec_cases s with hd | ⟨c, hd, hc⟩
    · exact back_10 x s hs hx hE (dec_enc hx) hd
    · exact back_11 x s hs hx hE (dec_enc hx) hd hc
end Go.Proofs.YtoogiblkommdfaaGreat
