/-
  the law of keys of a key.
-/
import Derived.Test.YtmlldbkhphngeaaDoorML
import Derived.Test.YtmlldbkhphngeaaDoorM4
namespace Go.Proofs.YtmlldbkhphngeaaDoor
open Go.RowKit


set_option linter.unusedVariables false in
set_option maxRecDepth 100000 in
set_option maxHeartbeats 2000000 in
theorem ex_ok (k f : ByteArray) (n : Nat) (hn : n ≤ 8160) (hk : k.size ≤ 140737488351232) (hf : f.size ≤ 140737488351232) (w : World) (VV : Vars w) :
    Calls Tryd.prog 4 #[.string k, .string f, iN .i64 n] w fun e w' => e = .returned (.bool true) ∧ Below w.heap.size w w' := by
  have H0 := HA.start w
  go_enter Tryd.func4, Tryd.ntmps4
  refine wp_seq ?_
  -- region 0
  refine wl_region ?_
  refine wl_val (.bool false) (by kernel_rfl) (by kernel_rfl) ?_
  refine wl_nil ?_
  refine then_at (F := ⟨(.string k :: .string f :: iN .i64 n :: un :: un :: un :: .bool false :: List.replicate 29 un).toArray, []⟩) (by kernel_rfl) ?_
  refine wp_seq ?_
  -- region 1
  refine wl_region ?_
  refine wl_val (.string k) (by kernel_rfl) (by kernel_rfl) ?_
  refine wl_val (.string f) (by kernel_rfl) (by kernel_rfl) ?_
  refine wl_val (iN .i64 n) (by kernel_rfl) (by kernel_rfl) ?_
  refine wl_call (v := .tuple #[.string (ByteArray.mk (exR k f n).toArray), iN .i64 0]) H0 (by kernel_rfl) enter15 #[.string k, .string f, iN .i64 n] (by kernel_rfl) (expandc k (by omega) f (by omega) n hn w (VV.below H0.old VV.big)) ?_
  intro w1 h2
  refine wl_val (.tuple #[.string (ByteArray.mk (exR k f n).toArray), iN .i64 0]) (by kernel_rfl) (by kernel_rfl) ?_
  refine wl_val (.string (ByteArray.mk (exR k f n).toArray)) (by kernel_rfl) (by kernel_rfl) ?_
  refine wl_val (iN .i64 0) (by kernel_rfl) (by kernel_rfl) ?_
  refine wl_val (.string (ByteArray.mk (exR k f n).toArray)) (by kernel_rfl) (by kernel_rfl) ?_
  refine wl_val (iN .i64 0) (by kernel_rfl) (by kernel_rfl) ?_
  refine wl_nil ?_
  refine then_at (F := ⟨(.string k :: .string f :: iN .i64 n :: un :: un :: un :: .bool false :: .string (ByteArray.mk (exR k f n).toArray) :: iN .i64 0 :: un :: un :: .tuple #[.string (ByteArray.mk (exR k f n).toArray), iN .i64 0] :: .string k :: .string f :: iN .i64 n :: .tuple #[.string (ByteArray.mk (exR k f n).toArray), iN .i64 0] :: .string (ByteArray.mk (exR k f n).toArray) :: iN .i64 0 :: List.replicate 18 un).toArray, []⟩) (by kernel_rfl) ?_
  refine wp_seq ?_
  -- region 2
  refine wl_region ?_
  refine wl_val (.string k) (by kernel_rfl) (by kernel_rfl) ?_
  refine wl_val (.string f) (by kernel_rfl) (by kernel_rfl) ?_
  refine wl_val (iN .i64 n) (by kernel_rfl) (by kernel_rfl) ?_
  refine wl_call (v := .tuple #[.string (ByteArray.mk (exR k f n).toArray), iN .i64 0]) h2 (by kernel_rfl) enter16 #[.string k, .string f, iN .i64 n] (by kernel_rfl) (expandR k (by omega) f (by omega) n hn w1) ?_
  intro w3 h4
  refine wl_val (.tuple #[.string (ByteArray.mk (exR k f n).toArray), iN .i64 0]) (by kernel_rfl) (by kernel_rfl) ?_
  refine wl_val (.string (ByteArray.mk (exR k f n).toArray)) (by kernel_rfl) (by kernel_rfl) ?_
  refine wl_val (iN .i64 0) (by kernel_rfl) (by kernel_rfl) ?_
  refine wl_val (.string (ByteArray.mk (exR k f n).toArray)) (by kernel_rfl) (by kernel_rfl) ?_
  refine wl_val (iN .i64 0) (by kernel_rfl) (by kernel_rfl) ?_
  refine wl_nil ?_
  refine then_at (F := ⟨(.string k :: .string f :: iN .i64 n :: un :: un :: un :: .bool false :: .string (ByteArray.mk (exR k f n).toArray) :: iN .i64 0 :: .string (ByteArray.mk (exR k f n).toArray) :: iN .i64 0 :: .tuple #[.string (ByteArray.mk (exR k f n).toArray), iN .i64 0] :: .string k :: .string f :: iN .i64 n :: .tuple #[.string (ByteArray.mk (exR k f n).toArray), iN .i64 0] :: .string (ByteArray.mk (exR k f n).toArray) :: iN .i64 0 :: .tuple #[.string (ByteArray.mk (exR k f n).toArray), iN .i64 0] :: .string k :: .string f :: iN .i64 n :: .tuple #[.string (ByteArray.mk (exR k f n).toArray), iN .i64 0] :: .string (ByteArray.mk (exR k f n).toArray) :: iN .i64 0 :: List.replicate 11 un).toArray, []⟩) (by kernel_rfl) ?_
  refine wp_seq ?_
  -- region 3
  refine wl_region ?_
  refine wl_val (.string (ByteArray.mk (exR k f n).toArray)) (by kernel_rfl) (by kernel_rfl) ?_
  refine wl_val (.string (ByteArray.mk (exR k f n).toArray)) (by kernel_rfl) (by kernel_rfl) ?_
  refine wl_val (.bool true) (by kernel_rfl) (run_eqs (s := ByteArray.mk (exR k f n).toArray) (t := ByteArray.mk (exR k f n).toArray) (by kernel_rfl) (by kernel_rfl) true (decide_eq_true rfl)) ?_
  refine wl_val (.bool true) (by kernel_rfl) (by kernel_rfl) ?_
  refine wl_val (iN .i64 0) (by kernel_rfl) (by kernel_rfl) ?_
  refine wl_val (iN .i64 0) (by kernel_rfl) (by kernel_rfl) ?_
  refine wl_val (.bool true) (by kernel_rfl) (run_eqi (k := .i64) (a := 0) (b := 0) (by kernel_rfl) (by kernel_rfl) true (by decide)) ?_
  refine wl_val (.bool true) (by kernel_rfl) (by kernel_rfl) ?_
  refine wl_val (.bool true) (by kernel_rfl) (by kernel_rfl) ?_
  refine wl_call (v := .bool true) h4 (by kernel_rfl) enter14 #[] (by kernel_rfl) (worksc w3 (VV.below h4.old VV.big)) ?_
  intro w5 h6
  refine wl_val (.bool true) (by kernel_rfl) (by kernel_rfl) ?_
  refine wl_val (.bool true) (by kernel_rfl) (by kernel_rfl) ?_
  refine wl_nil ?_
  refine then_at (F := ⟨(.string k :: .string f :: iN .i64 n :: un :: un :: un :: .bool true :: .string (ByteArray.mk (exR k f n).toArray) :: iN .i64 0 :: .string (ByteArray.mk (exR k f n).toArray) :: iN .i64 0 :: .tuple #[.string (ByteArray.mk (exR k f n).toArray), iN .i64 0] :: .string k :: .string f :: iN .i64 n :: .tuple #[.string (ByteArray.mk (exR k f n).toArray), iN .i64 0] :: .string (ByteArray.mk (exR k f n).toArray) :: iN .i64 0 :: .tuple #[.string (ByteArray.mk (exR k f n).toArray), iN .i64 0] :: .string k :: .string f :: iN .i64 n :: .tuple #[.string (ByteArray.mk (exR k f n).toArray), iN .i64 0] :: .string (ByteArray.mk (exR k f n).toArray) :: iN .i64 0 :: .string (ByteArray.mk (exR k f n).toArray) :: .string (ByteArray.mk (exR k f n).toArray) :: .bool true :: .bool true :: iN .i64 0 :: iN .i64 0 :: .bool true :: .bool true :: .bool true :: .bool true :: .bool true :: List.replicate 0 un).toArray, []⟩) (by kernel_rfl) ?_
  refine wp_ret ?_
  repeat first | refine then_ret ?_ | refine block_ret ?_
  exact bodyPost_ret (v := .bool true) (by kernel_rfl) rfl ⟨rfl, h6.old⟩

set_option linter.unusedVariables false in
set_option maxRecDepth 100000 in
set_option maxHeartbeats 2000000 in
theorem ex_big (k f : ByteArray) (n : Nat) (hn : 8160 < n) (hk : k.size ≤ 140737488351232) (hf : f.size ≤ 140737488351232) (w : World) (VV : Vars w) :
    Calls Tryd.prog 4 #[.string k, .string f, iN .i64 n] w fun e w' => e = .returned (.bool true) ∧ Below w.heap.size w w' := by
  have H0 := HA.start w
  go_enter Tryd.func4, Tryd.ntmps4
  refine wp_seq ?_
  -- region 0
  refine wl_region ?_
  refine wl_val (.bool false) (by kernel_rfl) (by kernel_rfl) ?_
  refine wl_nil ?_
  refine then_at (F := ⟨(.string k :: .string f :: iN .i64 n :: un :: un :: un :: .bool false :: List.replicate 29 un).toArray, []⟩) (by kernel_rfl) ?_
  refine wp_seq ?_
  -- region 1
  refine wl_region ?_
  refine wl_val (.string k) (by kernel_rfl) (by kernel_rfl) ?_
  refine wl_val (.string f) (by kernel_rfl) (by kernel_rfl) ?_
  refine wl_val (iN .i64 n) (by kernel_rfl) (by kernel_rfl) ?_
  refine wl_call (v := .tuple #[.string ({ data := #[] }), iN .i64 3]) H0 (by kernel_rfl) enter15 #[.string k, .string f, iN .i64 n] (by kernel_rfl) (expandc_big k f n hn w) ?_
  intro w1 h2
  refine wl_val (.tuple #[.string ({ data := #[] }), iN .i64 3]) (by kernel_rfl) (by kernel_rfl) ?_
  refine wl_val (.string ({ data := #[] })) (by kernel_rfl) (by kernel_rfl) ?_
  refine wl_val (iN .i64 3) (by kernel_rfl) (by kernel_rfl) ?_
  refine wl_val (.string ({ data := #[] })) (by kernel_rfl) (by kernel_rfl) ?_
  refine wl_val (iN .i64 3) (by kernel_rfl) (by kernel_rfl) ?_
  refine wl_nil ?_
  refine then_at (F := ⟨(.string k :: .string f :: iN .i64 n :: un :: un :: un :: .bool false :: .string ({ data := #[] }) :: iN .i64 3 :: un :: un :: .tuple #[.string ({ data := #[] }), iN .i64 3] :: .string k :: .string f :: iN .i64 n :: .tuple #[.string ({ data := #[] }), iN .i64 3] :: .string ({ data := #[] }) :: iN .i64 3 :: List.replicate 18 un).toArray, []⟩) (by kernel_rfl) ?_
  refine wp_seq ?_
  -- region 2
  refine wl_region ?_
  refine wl_val (.string k) (by kernel_rfl) (by kernel_rfl) ?_
  refine wl_val (.string f) (by kernel_rfl) (by kernel_rfl) ?_
  refine wl_val (iN .i64 n) (by kernel_rfl) (by kernel_rfl) ?_
  refine wl_call (v := .tuple #[.string ({ data := #[] }), iN .i64 3]) h2 (by kernel_rfl) enter16 #[.string k, .string f, iN .i64 n] (by kernel_rfl) (expandR_big k f n hn w1) ?_
  intro w3 h4
  refine wl_val (.tuple #[.string ({ data := #[] }), iN .i64 3]) (by kernel_rfl) (by kernel_rfl) ?_
  refine wl_val (.string ({ data := #[] })) (by kernel_rfl) (by kernel_rfl) ?_
  refine wl_val (iN .i64 3) (by kernel_rfl) (by kernel_rfl) ?_
  refine wl_val (.string ({ data := #[] })) (by kernel_rfl) (by kernel_rfl) ?_
  refine wl_val (iN .i64 3) (by kernel_rfl) (by kernel_rfl) ?_
  refine wl_nil ?_
  refine then_at (F := ⟨(.string k :: .string f :: iN .i64 n :: un :: un :: un :: .bool false :: .string ({ data := #[] }) :: iN .i64 3 :: .string ({ data := #[] }) :: iN .i64 3 :: .tuple #[.string ({ data := #[] }), iN .i64 3] :: .string k :: .string f :: iN .i64 n :: .tuple #[.string ({ data := #[] }), iN .i64 3] :: .string ({ data := #[] }) :: iN .i64 3 :: .tuple #[.string ({ data := #[] }), iN .i64 3] :: .string k :: .string f :: iN .i64 n :: .tuple #[.string ({ data := #[] }), iN .i64 3] :: .string ({ data := #[] }) :: iN .i64 3 :: List.replicate 11 un).toArray, []⟩) (by kernel_rfl) ?_
  refine wp_seq ?_
  -- region 3
  refine wl_region ?_
  refine wl_val (.string ({ data := #[] })) (by kernel_rfl) (by kernel_rfl) ?_
  refine wl_val (.string ({ data := #[] })) (by kernel_rfl) (by kernel_rfl) ?_
  refine wl_val (.bool true) (by kernel_rfl) (run_eqs (s := { data := #[] }) (t := { data := #[] }) (by kernel_rfl) (by kernel_rfl) true (decide_eq_true rfl)) ?_
  refine wl_val (.bool true) (by kernel_rfl) (by kernel_rfl) ?_
  refine wl_val (iN .i64 3) (by kernel_rfl) (by kernel_rfl) ?_
  refine wl_val (iN .i64 3) (by kernel_rfl) (by kernel_rfl) ?_
  refine wl_val (.bool true) (by kernel_rfl) (run_eqi (k := .i64) (a := 3) (b := 3) (by kernel_rfl) (by kernel_rfl) true (by decide)) ?_
  refine wl_val (.bool true) (by kernel_rfl) (by kernel_rfl) ?_
  refine wl_val (.bool true) (by kernel_rfl) (by kernel_rfl) ?_
  refine wl_call (v := .bool true) h4 (by kernel_rfl) enter14 #[] (by kernel_rfl) (worksc w3 (VV.below h4.old VV.big)) ?_
  intro w5 h6
  refine wl_val (.bool true) (by kernel_rfl) (by kernel_rfl) ?_
  refine wl_val (.bool true) (by kernel_rfl) (by kernel_rfl) ?_
  refine wl_nil ?_
  refine then_at (F := ⟨(.string k :: .string f :: iN .i64 n :: un :: un :: un :: .bool true :: .string ({ data := #[] }) :: iN .i64 3 :: .string ({ data := #[] }) :: iN .i64 3 :: .tuple #[.string ({ data := #[] }), iN .i64 3] :: .string k :: .string f :: iN .i64 n :: .tuple #[.string ({ data := #[] }), iN .i64 3] :: .string ({ data := #[] }) :: iN .i64 3 :: .tuple #[.string ({ data := #[] }), iN .i64 3] :: .string k :: .string f :: iN .i64 n :: .tuple #[.string ({ data := #[] }), iN .i64 3] :: .string ({ data := #[] }) :: iN .i64 3 :: .string ({ data := #[] }) :: .string ({ data := #[] }) :: .bool true :: .bool true :: iN .i64 3 :: iN .i64 3 :: .bool true :: .bool true :: .bool true :: .bool true :: .bool true :: List.replicate 0 un).toArray, []⟩) (by kernel_rfl) ?_
  refine wp_ret ?_
  repeat first | refine then_ret ?_ | refine block_ret ?_
  exact bodyPost_ret (v := .bool true) (by kernel_rfl) rfl ⟨rfl, h6.old⟩

set_option linter.unusedVariables false in
set_option maxRecDepth 100000 in
set_option maxHeartbeats 2000000 in
theorem ex_neg (k f : ByteArray) (z : Int) (hz : z < 0) (hk : k.size ≤ 140737488351232) (hf : f.size ≤ 140737488351232) (w : World) (VV : Vars w) :
    Calls Tryd.prog 4 #[.string k, .string f, .int .i64 z] w fun e w' => e = .returned (.bool true) ∧ Below w.heap.size w w' := by
  have H0 := HA.start w
  go_enter Tryd.func4, Tryd.ntmps4
  refine wp_seq ?_
  -- region 0
  refine wl_region ?_
  refine wl_val (.bool false) (by kernel_rfl) (by kernel_rfl) ?_
  refine wl_nil ?_
  refine then_at (F := ⟨(.string k :: .string f :: .int .i64 z :: un :: un :: un :: .bool false :: List.replicate 29 un).toArray, []⟩) (by kernel_rfl) ?_
  refine wp_seq ?_
  -- region 1
  refine wl_region ?_
  refine wl_val (.string k) (by kernel_rfl) (by kernel_rfl) ?_
  refine wl_val (.string f) (by kernel_rfl) (by kernel_rfl) ?_
  refine wl_val (.int .i64 z) (by kernel_rfl) (by kernel_rfl) ?_
  refine wl_call (v := .tuple #[.string ({ data := #[] }), iN .i64 2]) H0 (by kernel_rfl) enter15 #[.string k, .string f, .int .i64 z] (by kernel_rfl) (expandc_neg k f z hz w) ?_
  intro w1 h2
  refine wl_val (.tuple #[.string ({ data := #[] }), iN .i64 2]) (by kernel_rfl) (by kernel_rfl) ?_
  refine wl_val (.string ({ data := #[] })) (by kernel_rfl) (by kernel_rfl) ?_
  refine wl_val (iN .i64 2) (by kernel_rfl) (by kernel_rfl) ?_
  refine wl_val (.string ({ data := #[] })) (by kernel_rfl) (by kernel_rfl) ?_
  refine wl_val (iN .i64 2) (by kernel_rfl) (by kernel_rfl) ?_
  refine wl_nil ?_
  refine then_at (F := ⟨(.string k :: .string f :: .int .i64 z :: un :: un :: un :: .bool false :: .string ({ data := #[] }) :: iN .i64 2 :: un :: un :: .tuple #[.string ({ data := #[] }), iN .i64 2] :: .string k :: .string f :: .int .i64 z :: .tuple #[.string ({ data := #[] }), iN .i64 2] :: .string ({ data := #[] }) :: iN .i64 2 :: List.replicate 18 un).toArray, []⟩) (by kernel_rfl) ?_
  refine wp_seq ?_
  -- region 2
  refine wl_region ?_
  refine wl_val (.string k) (by kernel_rfl) (by kernel_rfl) ?_
  refine wl_val (.string f) (by kernel_rfl) (by kernel_rfl) ?_
  refine wl_val (.int .i64 z) (by kernel_rfl) (by kernel_rfl) ?_
  refine wl_call (v := .tuple #[.string ({ data := #[] }), iN .i64 2]) h2 (by kernel_rfl) enter16 #[.string k, .string f, .int .i64 z] (by kernel_rfl) (expandR_neg k f z hz w1) ?_
  intro w3 h4
  refine wl_val (.tuple #[.string ({ data := #[] }), iN .i64 2]) (by kernel_rfl) (by kernel_rfl) ?_
  refine wl_val (.string ({ data := #[] })) (by kernel_rfl) (by kernel_rfl) ?_
  refine wl_val (iN .i64 2) (by kernel_rfl) (by kernel_rfl) ?_
  refine wl_val (.string ({ data := #[] })) (by kernel_rfl) (by kernel_rfl) ?_
  refine wl_val (iN .i64 2) (by kernel_rfl) (by kernel_rfl) ?_
  refine wl_nil ?_
  refine then_at (F := ⟨(.string k :: .string f :: .int .i64 z :: un :: un :: un :: .bool false :: .string ({ data := #[] }) :: iN .i64 2 :: .string ({ data := #[] }) :: iN .i64 2 :: .tuple #[.string ({ data := #[] }), iN .i64 2] :: .string k :: .string f :: .int .i64 z :: .tuple #[.string ({ data := #[] }), iN .i64 2] :: .string ({ data := #[] }) :: iN .i64 2 :: .tuple #[.string ({ data := #[] }), iN .i64 2] :: .string k :: .string f :: .int .i64 z :: .tuple #[.string ({ data := #[] }), iN .i64 2] :: .string ({ data := #[] }) :: iN .i64 2 :: List.replicate 11 un).toArray, []⟩) (by kernel_rfl) ?_
  refine wp_seq ?_
  -- region 3
  refine wl_region ?_
  refine wl_val (.string ({ data := #[] })) (by kernel_rfl) (by kernel_rfl) ?_
  refine wl_val (.string ({ data := #[] })) (by kernel_rfl) (by kernel_rfl) ?_
  refine wl_val (.bool true) (by kernel_rfl) (run_eqs (s := { data := #[] }) (t := { data := #[] }) (by kernel_rfl) (by kernel_rfl) true (decide_eq_true rfl)) ?_
  refine wl_val (.bool true) (by kernel_rfl) (by kernel_rfl) ?_
  refine wl_val (iN .i64 2) (by kernel_rfl) (by kernel_rfl) ?_
  refine wl_val (iN .i64 2) (by kernel_rfl) (by kernel_rfl) ?_
  refine wl_val (.bool true) (by kernel_rfl) (run_eqi (k := .i64) (a := 2) (b := 2) (by kernel_rfl) (by kernel_rfl) true (by decide)) ?_
  refine wl_val (.bool true) (by kernel_rfl) (by kernel_rfl) ?_
  refine wl_val (.bool true) (by kernel_rfl) (by kernel_rfl) ?_
  refine wl_call (v := .bool true) h4 (by kernel_rfl) enter14 #[] (by kernel_rfl) (worksc w3 (VV.below h4.old VV.big)) ?_
  intro w5 h6
  refine wl_val (.bool true) (by kernel_rfl) (by kernel_rfl) ?_
  refine wl_val (.bool true) (by kernel_rfl) (by kernel_rfl) ?_
  refine wl_nil ?_
  refine then_at (F := ⟨(.string k :: .string f :: .int .i64 z :: un :: un :: un :: .bool true :: .string ({ data := #[] }) :: iN .i64 2 :: .string ({ data := #[] }) :: iN .i64 2 :: .tuple #[.string ({ data := #[] }), iN .i64 2] :: .string k :: .string f :: .int .i64 z :: .tuple #[.string ({ data := #[] }), iN .i64 2] :: .string ({ data := #[] }) :: iN .i64 2 :: .tuple #[.string ({ data := #[] }), iN .i64 2] :: .string k :: .string f :: .int .i64 z :: .tuple #[.string ({ data := #[] }), iN .i64 2] :: .string ({ data := #[] }) :: iN .i64 2 :: .string ({ data := #[] }) :: .string ({ data := #[] }) :: .bool true :: .bool true :: iN .i64 2 :: iN .i64 2 :: .bool true :: .bool true :: .bool true :: .bool true :: .bool true :: List.replicate 0 un).toArray, []⟩) (by kernel_rfl) ?_
  refine wp_ret ?_
  repeat first | refine then_ret ?_ | refine block_ret ?_
  exact bodyPost_ret (v := .bool true) (by kernel_rfl) rfl ⟨rfl, h6.old⟩

theorem MacExpands_any (k f : ByteArray) (z : Int) (hk : k.size ≤ 140737488351232) (hf : f.size ≤ 140737488351232) (w : World) (VV : Vars w) :
    Calls Tryd.prog 4 #[.string k, .string f, .int .i64 z] w fun e w' => e = .returned (.bool true) ∧ Below w.heap.size w w' := by
  rcases Int.lt_or_le z 0 with h | h
  · exact ex_neg k f z h hk hf w VV
  · obtain ⟨n, rfl⟩ := Int.eq_ofNat_of_zero_le h
    rcases Nat.lt_or_ge 8160 n with h2 | h2
    · exact ex_big k f n h2 hk hf w VV
    · exact ex_ok k f n h2 hk hf w VV
end Go.Proofs.YtmlldbkhphngeaaDoor
