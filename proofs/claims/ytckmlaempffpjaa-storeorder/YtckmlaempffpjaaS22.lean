/-
 The laws' small functions.
-/
import Derived.Test.YtckmlaempffpjaaGL
namespace Go.Proofs.Ytckmlaempffpjaa
open Go.RowKit

set_option linter.unusedVariables false in
set_option maxRecDepth 100000 in
set_option maxHeartbeats 2000000 in
theorem row_any (a b : ByteArray) (w : World) :
  Calls Try.prog 11 #[.string a, .string b] w fun e w' => e = .returned (rwv ⟨a, b⟩) ∧ Below w.heap.size w w' := by
 have H0 := HA.start w
 go_enter Try.func11, Try.ntmps11
 refine wp_seq ?_
 refine wl_region ?_
 refine wl_make (c := #[.string ({ data := #[] }), .string ({ data := #[] })]) H0 32 (by kernel_rfl) (by kernel_rfl) ?_
 intro q1 w2 (h3 : HA (bs w) [(q1, 32, #[.string ({ data := #[] }), .string ({ data := #[] })])] w2)
 refine wl_nil ?_
 refine then_at (F := ⟨(.string a :: .string b :: un :: un :: pt q1 :: List.replicate 3 un).toArray, []⟩) (by kernel_rfl) ?_
 refine wp_seq ?_
 refine wl_region ?_
 refine wl_val (.string a) (by kernel_rfl) (by kernel_rfl) ?_
 refine wl_val (.string b) (by kernel_rfl) (by kernel_rfl) ?_
 refine wl_val (.agg #[.string a, .string b]) (by kernel_rfl) (by kernel_rfl) ?_
 refine wl_fill (c' := #[.string a, .string b]) h3 0 rfl (by kernel_rfl) (by kernel_rfl) (by kernel_rfl) rfl (by kernel_rfl) (by kernel_rfl) ?_
 intro w4 (h5 : HA (bs w) [(q1, 32, #[.string a, .string b])] w4)
 refine wl_nil ?_
 refine then_at (F := ⟨(.string a :: .string b :: un :: un :: pt q1 :: .string a :: .string b :: .agg #[.string a, .string b] :: List.replicate 0 un).toArray, []⟩) (by kernel_rfl) ?_
 refine wp_ret ?_
 repeat first | refine then_ret ?_ | refine block_ret ?_
 exact bodyPost_ret (v := rwv ⟨a, b⟩) (res_cell (p := 4) (by kernel_rfl) (by kernel_rfl) (h5.get 0 rfl) Try.underlying32 rfl (by kernel_rfl)) rfl ⟨rfl, h5.old.old⟩
end Go.Proofs.Ytckmlaempffpjaa
