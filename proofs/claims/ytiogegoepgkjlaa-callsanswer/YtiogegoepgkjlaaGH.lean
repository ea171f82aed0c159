/-
  What the law makes may be; works.
-/
import Derived.Test.YtiogegoepgkjlaaCN
namespace Go.Proofs.Ytiogegoepgkjlaa
open Go.RowKit

open Rs
end Go.Proofs.Ytiogegoepgkjlaa

namespace Go.Proofs.Ytiogegoepgkjlaa
open Go.RowKit

open Rs
def wkC : Ca := ⟨6, 0, 0, ⟨0, 0, { data := #[] }, [], { data := #[] }⟩, ⟨0, 0, { data := #[] }, { data := #[] }, 0, { data := #[] }, { data := #[] }, 0, { data := #[] }⟩, [], 0, 0, 3, { data := #[] }, 0, { data := #[] }⟩
theorem wk_enc : encC 7 ⟨6, 0, 0, ⟨0, 0, { data := #[] }, [], { data := #[] }⟩, ⟨0, 0, { data := #[] }, { data := #[] }, 0, { data := #[] }, { data := #[] }, 0, { data := #[] }⟩, [], 0, 0, 3, { data := #[] }, 0, { data := #[] }⟩ = ({ data := #[0, 0, 0, 0, 0, 0, 0, 7, 6, 0, 0, 0, 0, 0, 0, 0, 3] }, 0) := by kernel_rfl
theorem wk_dec : decC { data := #[0, 0, 0, 0, 0, 0, 0, 7, 6, 0, 0, 0, 0, 0, 0, 0, 3] } = (7, ⟨6, 0, 0, ⟨0, 0, { data := #[] }, [], { data := #[] }⟩, ⟨0, 0, { data := #[] }, { data := #[] }, 0, { data := #[] }, { data := #[] }, 0, { data := #[] }⟩, [], 0, 0, 3, { data := #[] }, 0, { data := #[] }⟩, 0) := by kernel_rfl
theorem dc_E {w : World} {s : ByteArray} {id e9 : Nat} {c : Ca} (h : decC s = (id, c, e9)) (hs : s.size ≤ 140737488351232) :
    Calls Try.prog 18 #[.string s] w fun e w' => ∃ sv so L1 L2, e = .returned (.tuple #[iN .u64 id, .agg (caC c sv so), iN .i64 e9]) ∧ Row 67 3 sv c.li.ds.length (mcl c.li.ds) L1 ∧ Row 9 1 so c.on.length (scl c.on) L2 ∧ HA (bs w) (L1 ++ (L2 ++ [])) w' := by
  have h2 := dc_any s hs (w := w)
  rw [h] at h2
  exact h2
set_option linter.unusedVariables false in
set_option maxRecDepth 100000 in
set_option maxHeartbeats 2000000 in
theorem works_any {w : World} :
    Calls Try.prog 20 #[] w fun e w' => e = .returned (.bool true) ∧ Below w.heap.size w w' := by
  have H0 := HA.start w
  go_enter Try.func20, Try.ntmps20
  refine wp_seq (wl_region (zv (.bool false) (wl_nil (then_at rfl (wp_seq (wl_region (zv (.agg #[iN .i64 6, iN .i64 0, iN .i64 0, iN .i64 0, iN .i64 0, .string ({ data := #[] }), .slice none 0 0, .string ({ data := #[] }), iN .i64 0, iN .i64 0, .string ({ data := #[] }), .string ({ data := #[] }), iN .i64 0, .string ({ data := #[] }), .string ({ data := #[] }), iN .i64 0, .string ({ data := #[] }), .slice none 0 0, iN .i64 0, iN .u64 0, iN .u64 3, .string ({ data := #[] }), iN .i64 0, .string ({ data := #[] })]) (zl (.tuple #[.string ({ data := #[0, 0, 0, 0, 0, 0, 0, 7, 6, 0, 0, 0, 0, 0, 0, 0, 3] }), iN .i64 0]) H0 enter8 #[iN .u64 7, .agg #[iN .i64 6, iN .i64 0, iN .i64 0, iN .i64 0, iN .i64 0, .string ({ data := #[] }), .slice none 0 0, .string ({ data := #[] }), iN .i64 0, iN .i64 0, .string ({ data := #[] }), .string ({ data := #[] }), iN .i64 0, .string ({ data := #[] }), .string ({ data := #[] }), iN .i64 0, .string ({ data := #[] }), .slice none 0 0, iN .i64 0, iN .u64 0, iN .u64 3, .string ({ data := #[] }), iN .i64 0, .string ({ data := #[] })]] (ec_E ⟨6, 0, 0, ⟨0, 0, { data := #[] }, [], { data := #[] }⟩, ⟨0, 0, { data := #[] }, { data := #[] }, 0, { data := #[] }, { data := #[] }, 0, { data := #[] }⟩, [], 0, 0, 3, { data := #[] }, 0, { data := #[] }⟩ (At.nil _) (At.nil _) (Nat.zero_le 1000000) (Nat.zero_le 1000000) wk_enc) (fun w1 h2 => (zv (.tuple #[.string ({ data := #[0, 0, 0, 0, 0, 0, 0, 7, 6, 0, 0, 0, 0, 0, 0, 0, 3] }), iN .i64 0]) (zv (.string ({ data := #[0, 0, 0, 0, 0, 0, 0, 7, 6, 0, 0, 0, 0, 0, 0, 0, 3] })) (zv (iN .i64 0) (zv (.string ({ data := #[0, 0, 0, 0, 0, 0, 0, 7, 6, 0, 0, 0, 0, 0, 0, 0, 3] })) (zv (iN .i64 0) (wl_nil (then_at rfl (wp_seq (wl_region (zv (.string ({ data := #[0, 0, 0, 0, 0, 0, 0, 7, 6, 0, 0, 0, 0, 0, 0, 0, 3] })) ?_)))))))))))))))))))
  refine wl_callx ky enter18 _ ky (dc_E wk_dec (by decide)) ?_
  rintro _ w10 ⟨sv3, so4, La5, Lb6, rfl, hRa7, hRb8, h9⟩
  refine ⟨_, rfl, ?_⟩
  have h11 := HA.join_n 0 h2 h9
  obtain ⟨po12, pc13, hvpo12⟩ := hRa7.form
  subst hvpo12
  obtain ⟨po14, pc15, hvpo14⟩ := hRb8.form
  subst hvpo14
  refine zv (.tuple #[iN .u64 7, .agg (caC wkC (.slice po12 ([] : List Mb).length pc13) (.slice po14 ([] : List ByteArray).length pc15)), iN .i64 0]) (zv (iN .u64 7) (zv (.agg (caC wkC (.slice po12 ([] : List Mb).length pc13) (.slice po14 ([] : List ByteArray).length pc15))) (zv (iN .i64 0) (wl_make (c := #[iN .i64 0, iN .i64 0, iN .i64 0, iN .i64 0, iN .i64 0, .string ({ data := #[] }), .slice none 0 0, .string ({ data := #[] }), iN .i64 0, iN .i64 0, .string ({ data := #[] }), .string ({ data := #[] }), iN .i64 0, .string ({ data := #[] }), .string ({ data := #[] }), iN .i64 0, .string ({ data := #[] }), .slice none 0 0, iN .i64 0, iN .u64 0, iN .u64 0, .string ({ data := #[] }), iN .i64 0, .string ({ data := #[] })]) h11 30 ky ky ?_))))
  intro q16 w17 (h18 : HA (bs w) ((q16, 30, #[iN .i64 0, iN .i64 0, iN .i64 0, iN .i64 0, iN .i64 0, .string ({ data := #[] }), .slice none 0 0, .string ({ data := #[] }), iN .i64 0, iN .i64 0, .string ({ data := #[] }), .string ({ data := #[] }), iN .i64 0, .string ({ data := #[] }), .string ({ data := #[] }), iN .i64 0, .string ({ data := #[] }), .slice none 0 0, iN .i64 0, iN .u64 0, iN .u64 0, .string ({ data := #[] }), iN .i64 0, .string ({ data := #[] })]) :: ((La5 ++ (Lb6 ++ [])) ++ [])) w17)
  refine zv (iN .u64 7) (wl_fill (c' := caC wkC (.slice po12 ([] : List Mb).length pc13) (.slice po14 ([] : List ByteArray).length pc15)) h18 0 rfl ky ky ky rfl ky ky (fun w19 h20 => (zv (iN .i64 0) (wl_nil (then_at rfl (wp_seq (wl_region (zv (iN .i64 0) (zu (.bool true) (run_eqi (k := .i64) (a := 0) (b := 0) ky ky true (by decide)) (zv (.bool true) (zv (.string ({ data := #[0, 0, 0, 0, 0, 0, 0, 7, 6, 0, 0, 0, 0, 0, 0, 0, 3] })) (zu (.bool true) (run_eqs (s := { data := #[0, 0, 0, 0, 0, 0, 0, 7, 6, 0, 0, 0, 0, 0, 0, 0, 3] }) (t := { data := #[0, 0, 0, 0, 0, 0, 0, 7, 6, 0, 0, 0, 0, 0, 0, 0, 3] }) ky ky true (decide_eq_true rfl)) (zv (.bool true) (zv (.bool true) (zv (iN .i64 0) (zu (.bool true) (run_eqi (k := .i64) (a := 0) (b := 0) ky ky true (by decide)) (zv (.bool true) (zv (.bool true) (zv (iN .u64 7) (zu (.bool true) (run_eqi (k := .u64) (a := 7) (b := 7) ky ky true (by decide)) (zv (.bool true) (zv (.bool true) (zv (.pointer (some ⟨q16, 0, none⟩)) (zu (iN .i64 6) (run_load1 (fun w => Try.isAgg3 w) ky (((h20.get 0 rfl).cell 0).trans rfl)) (zu (.bool true) (run_eqi (k := .i64) (a := 6) (b := 6) ky ky true (by decide)) (zv (.bool true) ?_))))))))))))))))))))))))))
  refine zv (.bool true) (zv (.pointer (some ⟨q16, 20, none⟩)) (zu (iN .u64 3) (run_load1 (fun w => Try.isAgg22 w) ky (((h20.get 0 rfl).cell 20).trans rfl)) (zu (.bool true) (run_eqi (k := .u64) (a := 3) (b := 3) ky ky true (by decide)) (zv (.bool true) (zv (.bool true) (wl_nil (then_at rfl (wp_ret ?_))))))))
  repeat first|refine tr ?_|refine block_ret ?_
  exact bodyPost_ret (v := .bool true) ky rfl ⟨rfl, h20.old.old⟩
end Go.Proofs.Ytiogegoepgkjlaa
