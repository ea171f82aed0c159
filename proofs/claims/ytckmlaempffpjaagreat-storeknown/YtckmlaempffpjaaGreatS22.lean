/-
 The laws' small functions.
-/
import Derived.Test.YtckmlaempffpjaaGreatGL
namespace Go.Proofs.YtckmlaempffpjaaGreat
open Go.RowKit

set_option linter.unusedVariables false in
set_option maxRecDepth 100000 in
set_option maxHeartbeats 2000000 in
theorem row_any (a b : ByteArray) (w : World) :
  Calls Tryz.prog 21 #[.string a, .string b] w fun e w' => e = .returned (rwv ⟨a, b⟩) ∧ Below w.heap.size w w' := by
 have H0 := HA.start w
 go_enter Tryz.func21, Tryz.ntmps21
 refine wp_seq ?_
 refine wl_region ?_
 refine wl_make (c := #[.string ({ data := #[] }), .string ({ data := #[] })]) H0 64 (by kernel_rfl) (by kernel_rfl) ?_
 intro q1 w2 (h3 : HA (bs w) [(q1, 64, #[.string ({ data := #[] }), .string ({ data := #[] })])] w2)
 refine wl_nil ?_
 refine then_at (F := ⟨(.string a :: .string b :: un :: un :: pt q1 :: List.replicate 3 un).toArray, []⟩) (by kernel_rfl) ?_
 refine wp_seq ?_
 refine wl_region ?_
 refine zwv (.string a) ?_
 refine zwv (.string b) ?_
 refine zwv (.agg #[.string a, .string b]) ?_
 refine wl_fill (c' := #[.string a, .string b]) h3 0 rfl (by kernel_rfl) (by kernel_rfl) (by kernel_rfl) rfl (by kernel_rfl) (by kernel_rfl) ?_
 intro w4 (h5 : HA (bs w) [(q1, 64, #[.string a, .string b])] w4)
 refine wl_nil ?_
 refine then_at (F := ⟨(.string a :: .string b :: un :: un :: pt q1 :: .string a :: .string b :: .agg #[.string a, .string b] :: List.replicate 0 un).toArray, []⟩) (by kernel_rfl) ?_
 refine wp_ret ?_
 repeat first | refine then_ret ?_ | refine block_ret ?_
 exact bodyPost_ret (v := rwv ⟨a, b⟩) (res_cell (p := 4) (by kernel_rfl) (by kernel_rfl) (h5.get 0 rfl) Tryz.underlying64 rfl (by kernel_rfl)) rfl ⟨rfl, h5.old.old⟩
end Go.Proofs.YtckmlaempffpjaaGreat
