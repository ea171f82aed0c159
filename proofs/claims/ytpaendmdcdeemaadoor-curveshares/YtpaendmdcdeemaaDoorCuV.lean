/-
  the law of shares.
-/
import Derived.Test.YtpaendmdcdeemaaDoorCuU
namespace Go.Proofs.YtpaendmdcdeemaaDoor
open Go.RowKit Num


theorem rx_no (s t : ByteArray) (h : ¬ (s.size = 32 ∧ t.size = 32)) (w : World) :
    Calls Tryd.prog 27 #[.string s, .string t] w fun e w' => e = .returned (.string ByteArray.empty) ∧ Below w.heap.size w w' := by
  by_cases hs : s.size = 32
  · exact rx_no2 s t hs (fun ht => h ⟨hs, ht⟩) w
  · exact rx_no1 s t hs w
/-- what both tell -/
def xS (s t : ByteArray) : ByteArray := if s.size = 32 ∧ t.size = 32 then bytesOf (xP s t) else ByteArray.empty
theorem x25519_any (s t : ByteArray) (w : World) (VV : Vars w) :
    Calls Tryd.prog 26 #[.string s, .string t] w fun e w' => e = .returned (.string (xS s t)) ∧ Below w.heap.size w w' := by
  unfold xS
  split
  · rename_i h; exact x25519_yes s t h.1 h.2 w VV
  · rename_i h; exact x25519_no s t h w VV
theorem rx_any (s t : ByteArray) (w : World) :
    Calls Tryd.prog 27 #[.string s, .string t] w fun e w' => e = .returned (.string (xS s t)) ∧ Below w.heap.size w w' := by
  unfold xS
  split
  · rename_i h; rw [x_same s t h.1 h.2]; exact rx_yes s t h.1 h.2 w
  · rename_i h; exact rx_no s t h w

set_option linter.unusedVariables false in
set_option maxRecDepth 100000 in
set_option maxHeartbeats 2000000 in
theorem shares_any (s t : ByteArray) (w : World) (VV : Vars w) :
    Calls Tryd.prog 5 #[.string s, .string t] w fun e w' => e = .returned (.bool true) ∧ Below w.heap.size w w' := by
  have H0 := HA.start w
  go_enter Tryd.func5, Tryd.ntmps5
  refine wp_seq ?_
  -- region 0
  refine wl_region ?_
  refine wl_val (.bool false) (by kernel_rfl) (by kernel_rfl) ?_
  refine wl_nil ?_
  refine then_at (F := ⟨(.string s :: .string t :: un :: un :: .bool false :: List.replicate 10 un).toArray, []⟩) (by kernel_rfl) ?_
  refine wp_seq ?_
  -- region 1
  refine wl_region ?_
  refine wl_val (.string s) (by kernel_rfl) (by kernel_rfl) ?_
  refine wl_val (.string t) (by kernel_rfl) (by kernel_rfl) ?_
  refine wl_call (v := .string (xS s t)) H0 (by kernel_rfl) enter26 #[.string s, .string t] (by kernel_rfl) (x25519_any s t w (VV.below H0.old VV.big)) ?_
  intro w1 h2
  refine wl_val (.string s) (by kernel_rfl) (by kernel_rfl) ?_
  refine wl_val (.string t) (by kernel_rfl) (by kernel_rfl) ?_
  refine wl_call (v := .string (xS s t)) h2 (by kernel_rfl) enter27 #[.string s, .string t] (by kernel_rfl) (rx_any s t w1) ?_
  intro w3 h4
  refine wl_val (.bool true) (by kernel_rfl) (run_eqs (s := (xS s t)) (t := (xS s t)) (by kernel_rfl) (by kernel_rfl) true (decide_eq_true rfl)) ?_
  refine wl_val (.bool true) (by kernel_rfl) (by kernel_rfl) ?_
  refine wl_call (v := .bool true) h4 (by kernel_rfl) enter16 #[] (by kernel_rfl) (works_any w3 (VV.below h4.old VV.big)) ?_
  intro w5 h6
  refine wl_val (.bool true) (by kernel_rfl) (by kernel_rfl) ?_
  refine wl_val (.bool true) (by kernel_rfl) (by kernel_rfl) ?_
  refine wl_nil ?_
  refine then_at (F := ⟨(.string s :: .string t :: un :: un :: .bool true :: .string s :: .string t :: .string (xS s t) :: .string s :: .string t :: .string (xS s t) :: .bool true :: .bool true :: .bool true :: .bool true :: List.replicate 0 un).toArray, []⟩) (by kernel_rfl) ?_
  refine wp_ret ?_
  repeat first | refine then_ret ?_ | refine block_ret ?_
  exact bodyPost_ret (v := .bool true) (by kernel_rfl) rfl ⟨rfl, h6.old⟩
end Go.Proofs.YtpaendmdcdeemaaDoor
