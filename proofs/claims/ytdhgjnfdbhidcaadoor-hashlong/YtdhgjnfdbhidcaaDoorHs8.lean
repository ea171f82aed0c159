/-
  what works tells.
-/
import Derived.Test.YtdhgjnfdbhidcaaDoorHs7
namespace Go.Proofs.YtdhgjnfdbhidcaaDoor
open Go.RowKit


def psc (ps : List ByteArray) : Array Value := (ps.map Value.string).toArray
def dA : ByteArray := { data := #[186, 120, 22, 191, 143, 1, 207, 234, 65, 65, 64, 222, 93, 174, 34, 35, 176, 3, 97, 163, 150, 23, 122, 156, 180, 16, 255, 97, 242, 0, 21, 173] }
def dB : ByteArray := { data := #[221, 175, 53, 161, 147, 97, 122, 186, 204, 65, 115, 73, 174, 32, 65, 49, 18, 230, 250, 78, 137, 169, 126, 162, 10, 158, 238, 230, 75, 85, 211, 154, 33, 146, 153, 42, 39, 79, 193, 168, 54, 186, 60, 35, 163, 254, 235, 189, 69, 77, 68, 35, 100, 60, 232, 14, 42, 154, 201, 79, 165, 76, 164, 159] }
def hA : ByteArray := { data := #[98, 97, 55, 56, 49, 54, 98, 102, 56, 102, 48, 49, 99, 102, 101, 97, 52, 49, 52, 49, 52, 48, 100, 101, 53, 100, 97, 101, 50, 50, 50, 51, 98, 48, 48, 51, 54, 49, 97, 51, 57, 54, 49, 55, 55, 97, 57, 99, 98, 52, 49, 48, 102, 102, 54, 49, 102, 50, 48, 48, 49, 53, 97, 100] }
def hB : ByteArray := { data := #[100, 100, 97, 102, 51, 53, 97, 49, 57, 51, 54, 49, 55, 97, 98, 97, 99, 99, 52, 49, 55, 51, 52, 57, 97, 101, 50, 48, 52, 49, 51, 49, 49, 50, 101, 54, 102, 97, 52, 101, 56, 57, 97, 57, 55, 101, 97, 50, 48, 97, 57, 101, 101, 101, 101, 54, 52, 98, 53, 53, 100, 51, 57, 97, 50, 49, 57, 50, 57, 57, 50, 97, 50, 55, 52, 102, 99, 49, 97, 56, 51, 54, 98, 97, 51, 99, 50, 51, 97, 51, 102, 101, 101, 98, 98, 100, 52, 53, 52, 100, 52, 52, 50, 51, 54, 52, 51, 99, 101, 56, 48, 101, 50, 97, 57, 97, 99, 57, 52, 102, 97, 53, 52, 99, 97, 52, 57, 102] }
theorem ret_eq {f : FuncId} {args : Array Value} {w : World} {v v' : Value} (h : Calls Tryd.prog f args w fun e w' => e = .returned v ∧ Below w.heap.size w w') (e : v = v') : Calls Tryd.prog f args w fun e w' => e = .returned v' ∧ Below w.heap.size w w' := e ▸ h
theorem bytes_eq {l : List UInt8} {s : ByteArray} (h : l = bl s) : Value.string ⟨l.toArray⟩ = .string s := by rw [h]; rfl
theorem dA_eq : digP KS (catP [{ data := #[97, 98, 99] }] 1) = bl dA := by decide +kernel
theorem dB_eq : digP KL (catP [{ data := #[97] }, { data := #[98, 99] }] 2) = bl dB := by decide +kernel
theorem hA_eq : hexQ (bl dA) dA.size = bl hA := by decide +kernel
theorem hB_eq : hexQ (bl dB) dB.size = bl hB := by decide +kernel
theorem parts_ofc {w : World} {q : Nat} {ps : List ByteArray} (h : Blk w q 9 (psc ps)) : ∀ i, i < ps.length → ∃ q', (some ⟨q, 0, none⟩ : Option Addr) = some ⟨q', 0, none⟩ ∧ w.cell? ⟨q', i, none⟩ = some (.string (ps.getD i ByteArray.empty)) := parts_of h

set_option linter.unusedVariables false in
set_option maxRecDepth 100000 in
set_option maxHeartbeats 2000000 in
theorem works (w : World) (VV : Vars w) :
    Calls Tryd.prog 9 #[] w fun e w' => e = .returned (.bool true) ∧ Below w.heap.size w w' := by
  have H0 := HA.start w
  go_enter Tryd.func9, Tryd.ntmps9
  refine wp_seq ?_
  -- region 0
  refine wl_region ?_
  refine wl_val (.bool false) (by kernel_rfl) (by kernel_rfl) ?_
  refine wl_nil ?_
  refine then_at (F := ⟨(.bool false :: List.replicate 11 un).toArray, []⟩) (by kernel_rfl) ?_
  refine wp_seq ?_
  -- region 1
  refine wl_region ?_
  refine wl_mks (n := 1) (m := 1) (c := psc ([{ data := #[97, 98, 99] }])) H0 9 (by kernel_rfl) (run_bs1 (u := { data := #[97, 98, 99] }) (by kernel_rfl)) ?_
  intro q1 w2 h3
  refine wl_call (v := .string dA) h3 (by kernel_rfl) enter7 #[.slice (some ⟨q1, 0, none⟩) 1 1] (by kernel_rfl) (ret_eq (shaS ([{ data := #[97, 98, 99] }]) (some ⟨q1, 0, none⟩) 1 w2 (VV.below h3.old VV.big) (parts_ofc (h3.get 0 rfl)) (by decide +kernel) (by decide)) (bytes_eq dA_eq)) ?_
  intro w4 h5
  refine wl_call (v := .string hA) h5 (by kernel_rfl) enter12 #[.string dA] (by kernel_rfl) (ret_eq (hexc dA (by decide) w4) (bytes_eq hA_eq)) ?_
  intro w6 h7
  refine wl_val (.bool true) (by kernel_rfl) (run_eqs (s := hA) (t := { data := #[98, 97, 55, 56, 49, 54, 98, 102, 56, 102, 48, 49, 99, 102, 101, 97, 52, 49, 52, 49, 52, 48, 100, 101, 53, 100, 97, 101, 50, 50, 50, 51, 98, 48, 48, 51, 54, 49, 97, 51, 57, 54, 49, 55, 55, 97, 57, 99, 98, 52, 49, 48, 102, 102, 54, 49, 102, 50, 48, 48, 49, 53, 97, 100] }) (by kernel_rfl) (by kernel_rfl) true (by decide +kernel)) ?_
  refine wl_val (.bool true) (by kernel_rfl) (by kernel_rfl) ?_
  refine wl_mks (n := 2) (m := 2) (c := psc ([{ data := #[97] }, { data := #[98, 99] }])) h7 9 (by kernel_rfl) (run_bs2 (u := { data := #[97] }) (v := { data := #[98, 99] }) (by kernel_rfl) (by kernel_rfl)) ?_
  intro q8 w9 h10
  refine wl_call (v := .string dB) h10 (by kernel_rfl) enter10 #[.slice (some ⟨q8, 0, none⟩) 2 2] (by kernel_rfl) (ret_eq (shaL ([{ data := #[97] }, { data := #[98, 99] }]) (some ⟨q8, 0, none⟩) 2 w9 (VV.below h10.old VV.big) (parts_ofc (h10.get 0 rfl)) (by decide +kernel) (by decide)) (bytes_eq dB_eq)) ?_
  intro w11 h12
  refine wl_call (v := .string hB) h12 (by kernel_rfl) enter12 #[.string dB] (by kernel_rfl) (ret_eq (hexc dB (by decide) w11) (bytes_eq hB_eq)) ?_
  intro w13 h14
  refine wl_val (.string (hB.extract 0 16)) (by kernel_rfl) (run_cut_hi (s := hB) (b := 16) (by kernel_rfl) (by kernel_rfl) (by decide)) ?_
  refine wl_val (.bool true) (by kernel_rfl) (run_eqs (s := hB.extract 0 16) (t := { data := #[100, 100, 97, 102, 51, 53, 97, 49, 57, 51, 54, 49, 55, 97, 98, 97] }) (by kernel_rfl) (by kernel_rfl) true (by decide +kernel)) ?_
  refine wl_val (.bool true) (by kernel_rfl) (by kernel_rfl) ?_
  refine wl_val (.bool true) (by kernel_rfl) (by kernel_rfl) ?_
  refine wl_nil ?_
  refine then_at (F := ⟨(.bool true :: .slice (some ⟨q1, 0, none⟩) 1 1 :: .string dA :: .string hA :: .bool true :: .bool true :: .slice (some ⟨q8, 0, none⟩) 2 2 :: .string dB :: .string hB :: .string (hB.extract 0 16) :: .bool true :: .bool true :: List.replicate 0 un).toArray, []⟩) (by kernel_rfl) ?_
  refine wp_ret ?_
  repeat first | refine then_ret ?_ | refine block_ret ?_
  exact bodyPost_ret (v := .bool true) (by kernel_rfl) rfl ⟨rfl, h14.old⟩
end Go.Proofs.YtdhgjnfdbhidcaaDoor
