/-
  X3dhBytes, X3dhBack: the laws.
-/
import Derived.Test.YtoogiblkommdfaaGreatXM
import Derived.Test.YtoogiblkommdfaaGreatX9
namespace Go.Proofs.YtoogiblkommdfaaGreat
open Go.RowKit

set_option linter.unusedVariables false in
set_option maxRecDepth 100000 in
set_option maxHeartbeats 2000000 in
theorem bytesL {w : World} (x : Bu) (s : ByteArray) (hs : s.size ≤ 140737488351232) :
    Calls Tryz.prog 3 #[.agg (buC x), .string s] w fun e w' => e = .returned (.bool true) ∧ Below w.heap.size w w' := by
  have H0 := HA.start w
  go_enter Tryz.func3, Tryz.ntmps3
  refine wp_seq (wl_region ?_)
  refine wl_make (c := buC x) H0 23 ky ky ?_
  intro q1 w2 (h3 : HA (bs w) [(q1, 23, buC x)] w2)
  refine zv (.bool false) ?_
  refine wl_nil (then_at rfl (wp_seq (wl_region ?_)))
  refine wl_load h3 0 rfl ky ky Tryz.underlying23 rfl ky ?_
  refine wl_call (v := .tuple #[.string ((encA x).1), iN .i64 ((encA x).2)]) h3 ky enter10 #[.agg (buC x)] ky (enc_any x) ?_
  intro w4 h5
  refine zv (.tuple #[.string ((encA x).1), iN .i64 ((encA x).2)]) ?_
  refine zv (.string ((encA x).1)) ?_
  refine zv (iN .i64 ((encA x).2)) ?_
  refine zv (.string ((encA x).1)) ?_
  refine zv (iN .i64 ((encA x).2)) ?_
  refine wl_nil (then_at rfl (wp_seq (wl_region ?_)))
  refine wl_load h5 0 rfl ky ky Tryz.underlying23 rfl ky ?_
  refine wl_call (v := .tuple #[.string ((encA x).1), iN .i64 ((encA x).2)]) h5 ky enter11 #[.agg (buC x)] ky (renc_any x) ?_
  intro w6 h7
  refine zv (.tuple #[.string ((encA x).1), iN .i64 ((encA x).2)]) ?_
  refine zv (.string ((encA x).1)) ?_
  refine zv (iN .i64 ((encA x).2)) ?_
  refine zv (.string ((encA x).1)) ?_
  refine zv (iN .i64 ((encA x).2)) ?_
  refine wl_nil (then_at rfl (wp_seq (wl_region ?_)))
  refine zv (.string s) ?_
  refine wl_call (v := .tuple #[.agg (buC (decA s).1), iN .i64 ((decA s).2)]) h7 ky enter12 #[.string s] ky (dec_any s hs) ?_
  intro w8 h9
  refine zv (.tuple #[.agg (buC (decA s).1), iN .i64 ((decA s).2)]) ?_
  refine zv (.agg (buC (decA s).1)) ?_
  refine zv (iN .i64 ((decA s).2)) ?_
  refine wl_make (c := #[iN .i64 0, iN .i64 0, .string ({ data := #[] }), .string ({ data := #[] }), iN .i64 0, .string ({ data := #[] }), .string ({ data := #[] }), iN .i64 0, .string ({ data := #[] })]) h9 23 ky ky ?_
  intro q10 w11 (h12 : HA (bs w) [(q10, 23, #[iN .i64 0, iN .i64 0, .string ({ data := #[] }), .string ({ data := #[] }), iN .i64 0, .string ({ data := #[] }), .string ({ data := #[] }), iN .i64 0, .string ({ data := #[] })]), (q1, 23, buC x)] w11)
  refine wl_fill (c' := buC (decA s).1) h12 0 rfl ky ky ky rfl ky ky ?_
  intro w13 (h14 : HA (bs w) [(q10, 23, buC (decA s).1), (q1, 23, buC x)] w13)
  refine zv (iN .i64 ((decA s).2)) ?_
  refine wl_nil (then_at rfl (wp_seq (wl_region ?_)))
  refine zv (.string s) ?_
  refine wl_call (v := .tuple #[.agg (buC (decA s).1), iN .i64 ((decA s).2)]) h14 ky enter13 #[.string s] ky (rdec_any s hs) ?_
  intro w15 h16
  refine zv (.tuple #[.agg (buC (decA s).1), iN .i64 ((decA s).2)]) ?_
  refine zv (.agg (buC (decA s).1)) ?_
  refine zv (iN .i64 ((decA s).2)) ?_
  refine wl_make (c := #[iN .i64 0, iN .i64 0, .string ({ data := #[] }), .string ({ data := #[] }), iN .i64 0, .string ({ data := #[] }), .string ({ data := #[] }), iN .i64 0, .string ({ data := #[] })]) h16 23 ky ky ?_
  intro q17 w18 (h19 : HA (bs w) [(q17, 23, #[iN .i64 0, iN .i64 0, .string ({ data := #[] }), .string ({ data := #[] }), iN .i64 0, .string ({ data := #[] }), .string ({ data := #[] }), iN .i64 0, .string ({ data := #[] })]), (q10, 23, buC (decA s).1), (q1, 23, buC x)] w18)
  refine wl_fill (c' := buC (decA s).1) h19 0 rfl ky ky ky rfl ky ky ?_
  intro w20 (h21 : HA (bs w) [(q17, 23, buC (decA s).1), (q10, 23, buC (decA s).1), (q1, 23, buC x)] w20)
  refine zv (iN .i64 ((decA s).2)) ?_
  refine wl_nil (then_at rfl (wp_seq (wl_region ?_)))
  refine zv (.string ((encA x).1)) ?_
  refine zv (.string ((encA x).1)) ?_
  refine zu (.bool true) (run_eqs (s := (encA x).1) (t := (encA x).1) ky ky true (decide_eq_true rfl)) ?_
  refine zv (.bool true) ?_
  refine zv (iN .i64 ((encA x).2)) ?_
  refine zv (iN .i64 ((encA x).2)) ?_
  refine zu (.bool true) (run_eqi (k := .i64) (a := (encA x).2) (b := (encA x).2) ky ky true (decide_eq_true rfl)) ?_
  refine zv (.bool true) ?_
  refine zv (.bool true) ?_
  refine wl_load h21 1 rfl ky ky Tryz.underlying23 rfl ky ?_
  refine wl_load h21 0 rfl ky ky Tryz.underlying23 rfl ky ?_
  refine zu (.bool true) (run_eqB (a := (decA s).1) (b := (decA s).1) ky ky true (decide_eq_true rfl)) ?_
  refine zv (.bool true) ?_
  refine zv (.bool true) ?_
  refine zv (iN .i64 ((decA s).2)) ?_
  refine zv (iN .i64 ((decA s).2)) ?_
  refine zu (.bool true) (run_eqi (k := .i64) (a := (decA s).2) (b := (decA s).2) ky ky true (decide_eq_true rfl)) ?_
  refine zv (.bool true) ?_
  refine zv (.bool true) ?_
  refine wl_call (v := .bool true) h21 ky enter14 #[] ky (works_P w20) ?_
  intro w22 h23
  refine zv (.bool true) ?_
  refine zv (.bool true) ?_
  refine wl_nil (then_at rfl ?_)
  refine wp_ret ?_
  repeat first | refine then_ret ?_ | refine block_ret ?_
  exact bodyPost_ret (v := .bool true) ky rfl ⟨rfl, h23.old.old⟩
end Go.Proofs.YtoogiblkommdfaaGreat
