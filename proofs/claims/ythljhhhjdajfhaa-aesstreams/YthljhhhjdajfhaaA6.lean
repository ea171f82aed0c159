/-
  Block.
-/
import Derived.Test.YthljhhhjdajfhaaA3
import Derived.Test.YthljhhhjdajfhaaA4
import Derived.Test.YthljhhhjdajfhaaA5
namespace Go.Proofs.Ythljhhhjdajfhaa
open Go.RowKit

theorem take_all {l : List UInt8} {n : Nat} (h : l.length = n) : l.take n = l := List.take_of_length_le (by omega)

set_option linter.unusedVariables false in
set_option maxRecDepth 100000 in
set_option maxHeartbeats 2000000 in
theorem Block_yes (key block : ByteArray) (hk : key.size = 32) (hb : block.size = 16) (w : World) :
    Calls Try.prog 8 #[.string key, .string block] w fun e w' => e = .returned (.tuple #[.string (blkS key block), iN .i64 0]) ∧ Below w.heap.size w w' := by
  have H0 := HA.start w
  go_enter Try.func8, Try.ntmps8
  refine wp_seq ?_
  -- region 0
  refine wl_region ?_
  refine wl_val (.string { data := #[] }) (by kernel_rfl) (by kernel_rfl) ?_
  refine wl_val (iN .i64 0) (by kernel_rfl) (by kernel_rfl) ?_
  refine wl_nil ?_
  refine then_at (F := ⟨(.string key :: .string block :: un :: un :: .string { data := #[] } :: iN .i64 0 :: List.replicate 15 un).toArray, []⟩) (by kernel_rfl) ?_
  refine wp_seq ?_
  refine wp_seq ?_
  -- region 1
  refine wl_region ?_
  refine wl_val (.string key) (by kernel_rfl) (by kernel_rfl) ?_
  refine wl_val (iN .i64 key.size) (by kernel_rfl) (run_len (s := key) (by kernel_rfl)) ?_
  refine wl_val (.bool false) (by kernel_rfl) (run_nei (k := .i64) (a := key.size) (b := 32) (by kernel_rfl) (by kernel_rfl) false (decide_eq_false (fun h => h hk))) ?_
  refine wl_nil ?_
  refine then_at (F := ⟨(.string key :: .string block :: un :: un :: .string { data := #[] } :: iN .i64 0 :: un :: .string key :: iN .i64 key.size :: .bool false :: List.replicate 11 un).toArray, []⟩) (by kernel_rfl) ?_
  refine wp_cond_false (by kernel_rfl) ?_
  refine wp_skip ?_
  refine then_at (F := ⟨(.string key :: .string block :: un :: un :: .string { data := #[] } :: iN .i64 0 :: un :: .string key :: iN .i64 key.size :: .bool false :: List.replicate 11 un).toArray, []⟩) (by kernel_rfl) ?_
  refine wp_seq ?_
  refine wp_seq ?_
  -- region 3
  refine wl_region ?_
  refine wl_val (.string block) (by kernel_rfl) (by kernel_rfl) ?_
  refine wl_val (iN .i64 block.size) (by kernel_rfl) (run_len (s := block) (by kernel_rfl)) ?_
  refine wl_val (.bool false) (by kernel_rfl) (run_nei (k := .i64) (a := block.size) (b := 16) (by kernel_rfl) (by kernel_rfl) false (decide_eq_false (fun h => h hb))) ?_
  refine wl_nil ?_
  refine then_at (F := ⟨(.string key :: .string block :: un :: un :: .string { data := #[] } :: iN .i64 0 :: un :: .string key :: iN .i64 key.size :: .bool false :: .string block :: iN .i64 block.size :: .bool false :: List.replicate 8 un).toArray, []⟩) (by kernel_rfl) ?_
  refine wp_cond_false (by kernel_rfl) ?_
  refine wp_skip ?_
  refine then_at (F := ⟨(.string key :: .string block :: un :: un :: .string { data := #[] } :: iN .i64 0 :: un :: .string key :: iN .i64 key.size :: .bool false :: .string block :: iN .i64 block.size :: .bool false :: List.replicate 8 un).toArray, []⟩) (by kernel_rfl) ?_
  refine wp_seq ?_
  -- region 5
  refine wl_region ?_
  refine wl_val (.string key) (by kernel_rfl) (by kernel_rfl) ?_
  refine wl_callnew H0 (by kernel_rfl) enter17 #[.string key] (by kernel_rfl) (newCipher_any key hk w) ?_
  intro q1 w2 h3
  refine wl_val (.string block) (by kernel_rfl) (by kernel_rfl) ?_
  refine wl_call (v := .agg (qc (colS block))) h3 (by kernel_rfl) enter19 #[.string block] (by kernel_rfl) (columnsOf_any block hb w2) ?_
  intro w4 h5
  refine wl_call (v := .agg (qc (encQ (kwS key) (colS block)))) h5 (by kernel_rfl) enter18 #[.pointer (some ⟨q1, 0, none⟩), .agg (qc (colS block))] (by kernel_rfl) (encipher_any q1 (kwS key) (kwS_len key) (colS block) w4 (h5.get 0 rfl)) ?_
  intro w6 h7
  refine wl_call (v := .agg (bc (outQ (encQ (kwS key) (colS block)) 4))) h7 (by kernel_rfl) enter20 #[.agg (qc (encQ (kwS key) (colS block)))] (by kernel_rfl) (bytes_any (encQ (kwS key) (colS block)) w6) ?_
  intro w8 h9
  refine wl_make h9 37 (by kernel_rfl) run_alloc37 ?_
  intro q10 w11 h12
  refine wl_fill (c' := bc (outQ (encQ (kwS key) (colS block)) 4)) h12 0 rfl (by kernel_rfl) (by kernel_rfl) (by kernel_rfl) (by rw [bc_size, bc_size, (outQ_len (encQ (kwS key) (colS block)) 4), (List.length_replicate)]) (info37 (outQ (encQ (kwS key) (colS block)) 4) (outQ_len (encQ (kwS key) (colS block)) 4)) (one_bc (outQ (encQ (kwS key) (colS block)) 4)) ?_
  intro w13 (h14 : HA w [(q10, 37, bc (outQ (encQ (kwS key) (colS block)) 4)), (q1, 59, cc (kwS key))] w13)
  refine wl_nil ?_
  refine then_at (F := ⟨(.string key :: .string block :: un :: un :: .string { data := #[] } :: iN .i64 0 :: pt q10 :: .string key :: iN .i64 key.size :: .bool false :: .string block :: iN .i64 block.size :: .bool false :: .string key :: pt q1 :: .string block :: .agg (qc (colS block)) :: .agg (qc (encQ (kwS key) (colS block))) :: .agg (bc (outQ (encQ (kwS key) (colS block)) 4)) :: List.replicate 2 un).toArray, []⟩) (by kernel_rfl) ?_
  refine wp_seq ?_
  -- region 6
  refine wl_region ?_
  refine wl_val (.slice (some ⟨q10, 0, none⟩) 16 16) (by kernel_rfl) (run_cutA37 (q := q10) (by kernel_rfl)) ?_
  refine wl_val (.string (⟨((outQ (encQ (kwS key) (colS block)) 4).take 16).toArray⟩)) (by kernel_rfl) (run_textg (q := q10) (m := 16) (c := 16) (l := outQ (encQ (kwS key) (colS block)) 4) (by kernel_rfl) (h14.get 0 rfl) (by rw [(outQ_len (encQ (kwS key) (colS block)) 4)]; decide)) ?_
  refine wl_val (.string (⟨((outQ (encQ (kwS key) (colS block)) 4).take 16).toArray⟩)) (by kernel_rfl) (by kernel_rfl) ?_
  refine wl_val (iN .i64 0) (by kernel_rfl) (by kernel_rfl) ?_
  refine wl_nil ?_
  refine then_at (F := ⟨(.string key :: .string block :: un :: un :: .string (⟨((outQ (encQ (kwS key) (colS block)) 4).take 16).toArray⟩) :: iN .i64 0 :: pt q10 :: .string key :: iN .i64 key.size :: .bool false :: .string block :: iN .i64 block.size :: .bool false :: .string key :: pt q1 :: .string block :: .agg (qc (colS block)) :: .agg (qc (encQ (kwS key) (colS block))) :: .agg (bc (outQ (encQ (kwS key) (colS block)) 4)) :: .slice (some ⟨q10, 0, none⟩) 16 16 :: .string (⟨((outQ (encQ (kwS key) (colS block)) 4).take 16).toArray⟩) :: List.replicate 0 un).toArray, []⟩) (by kernel_rfl) ?_
  refine wp_ret ?_
  repeat first | refine then_ret ?_ | refine block_ret ?_
  exact bodyPost_ret (v := .tuple #[.string (⟨((outQ (encQ (kwS key) (colS block)) 4).take 16).toArray⟩), iN .i64 0]) (by kernel_rfl) rfl ⟨by rw [take_all (outQ_len (encQ (kwS key) (colS block)) 4)]; rfl, h14.old⟩

set_option linter.unusedVariables false in
set_option maxRecDepth 100000 in
set_option maxHeartbeats 2000000 in
theorem Block_no1 (key block : ByteArray) (hk : key.size ≠ 32) (w : World) :
    Calls Try.prog 8 #[.string key, .string block] w fun e w' => e = .returned (.tuple #[.string { data := #[] }, iN .i64 8]) ∧ Below w.heap.size w w' := by
  have H0 := HA.start w
  go_enter Try.func8, Try.ntmps8
  refine wp_seq ?_
  -- region 0
  refine wl_region ?_
  refine wl_val (.string { data := #[] }) (by kernel_rfl) (by kernel_rfl) ?_
  refine wl_val (iN .i64 0) (by kernel_rfl) (by kernel_rfl) ?_
  refine wl_nil ?_
  refine then_at (F := ⟨(.string key :: .string block :: un :: un :: .string { data := #[] } :: iN .i64 0 :: List.replicate 15 un).toArray, []⟩) (by kernel_rfl) ?_
  refine wp_seq ?_
  refine wp_seq ?_
  -- region 1
  refine wl_region ?_
  refine wl_val (.string key) (by kernel_rfl) (by kernel_rfl) ?_
  refine wl_val (iN .i64 key.size) (by kernel_rfl) (run_len (s := key) (by kernel_rfl)) ?_
  refine wl_val (.bool true) (by kernel_rfl) (run_nei (k := .i64) (a := key.size) (b := 32) (by kernel_rfl) (by kernel_rfl) true (decide_eq_true hk)) ?_
  refine wl_nil ?_
  refine then_at (F := ⟨(.string key :: .string block :: un :: un :: .string { data := #[] } :: iN .i64 0 :: un :: .string key :: iN .i64 key.size :: .bool true :: List.replicate 11 un).toArray, []⟩) (by kernel_rfl) ?_
  refine wp_cond_true (by kernel_rfl) ?_
  refine wp_seq ?_
  -- region 2
  refine wl_region ?_
  refine wl_val (.string { data := #[] }) (by kernel_rfl) (by kernel_rfl) ?_
  refine wl_val (iN .i64 8) (by kernel_rfl) (by kernel_rfl) ?_
  refine wl_nil ?_
  refine then_at (F := ⟨(.string key :: .string block :: un :: un :: .string { data := #[] } :: iN .i64 8 :: un :: .string key :: iN .i64 key.size :: .bool true :: List.replicate 11 un).toArray, []⟩) (by kernel_rfl) ?_
  refine wp_ret ?_
  repeat first | refine then_ret ?_ | refine block_ret ?_
  exact bodyPost_ret (v := .tuple #[.string { data := #[] }, iN .i64 8]) (by kernel_rfl) rfl ⟨rfl, H0.old⟩

set_option linter.unusedVariables false in
set_option maxRecDepth 100000 in
set_option maxHeartbeats 2000000 in
theorem Block_no2 (key block : ByteArray) (hk : key.size = 32) (hb : block.size ≠ 16) (w : World) :
    Calls Try.prog 8 #[.string key, .string block] w fun e w' => e = .returned (.tuple #[.string { data := #[] }, iN .i64 2]) ∧ Below w.heap.size w w' := by
  have H0 := HA.start w
  go_enter Try.func8, Try.ntmps8
  refine wp_seq ?_
  -- region 0
  refine wl_region ?_
  refine wl_val (.string { data := #[] }) (by kernel_rfl) (by kernel_rfl) ?_
  refine wl_val (iN .i64 0) (by kernel_rfl) (by kernel_rfl) ?_
  refine wl_nil ?_
  refine then_at (F := ⟨(.string key :: .string block :: un :: un :: .string { data := #[] } :: iN .i64 0 :: List.replicate 15 un).toArray, []⟩) (by kernel_rfl) ?_
  refine wp_seq ?_
  refine wp_seq ?_
  -- region 1
  refine wl_region ?_
  refine wl_val (.string key) (by kernel_rfl) (by kernel_rfl) ?_
  refine wl_val (iN .i64 key.size) (by kernel_rfl) (run_len (s := key) (by kernel_rfl)) ?_
  refine wl_val (.bool false) (by kernel_rfl) (run_nei (k := .i64) (a := key.size) (b := 32) (by kernel_rfl) (by kernel_rfl) false (decide_eq_false (fun h => h hk))) ?_
  refine wl_nil ?_
  refine then_at (F := ⟨(.string key :: .string block :: un :: un :: .string { data := #[] } :: iN .i64 0 :: un :: .string key :: iN .i64 key.size :: .bool false :: List.replicate 11 un).toArray, []⟩) (by kernel_rfl) ?_
  refine wp_cond_false (by kernel_rfl) ?_
  refine wp_skip ?_
  refine then_at (F := ⟨(.string key :: .string block :: un :: un :: .string { data := #[] } :: iN .i64 0 :: un :: .string key :: iN .i64 key.size :: .bool false :: List.replicate 11 un).toArray, []⟩) (by kernel_rfl) ?_
  refine wp_seq ?_
  refine wp_seq ?_
  -- region 3
  refine wl_region ?_
  refine wl_val (.string block) (by kernel_rfl) (by kernel_rfl) ?_
  refine wl_val (iN .i64 block.size) (by kernel_rfl) (run_len (s := block) (by kernel_rfl)) ?_
  refine wl_val (.bool true) (by kernel_rfl) (run_nei (k := .i64) (a := block.size) (b := 16) (by kernel_rfl) (by kernel_rfl) true (decide_eq_true hb)) ?_
  refine wl_nil ?_
  refine then_at (F := ⟨(.string key :: .string block :: un :: un :: .string { data := #[] } :: iN .i64 0 :: un :: .string key :: iN .i64 key.size :: .bool false :: .string block :: iN .i64 block.size :: .bool true :: List.replicate 8 un).toArray, []⟩) (by kernel_rfl) ?_
  refine wp_cond_true (by kernel_rfl) ?_
  refine wp_seq ?_
  -- region 4
  refine wl_region ?_
  refine wl_val (.string { data := #[] }) (by kernel_rfl) (by kernel_rfl) ?_
  refine wl_val (iN .i64 2) (by kernel_rfl) (by kernel_rfl) ?_
  refine wl_nil ?_
  refine then_at (F := ⟨(.string key :: .string block :: un :: un :: .string { data := #[] } :: iN .i64 2 :: un :: .string key :: iN .i64 key.size :: .bool false :: .string block :: iN .i64 block.size :: .bool true :: List.replicate 8 un).toArray, []⟩) (by kernel_rfl) ?_
  refine wp_ret ?_
  repeat first | refine then_ret ?_ | refine block_ret ?_
  exact bodyPost_ret (v := .tuple #[.string { data := #[] }, iN .i64 2]) (by kernel_rfl) rfl ⟨rfl, H0.old⟩
end Go.Proofs.Ythljhhhjdajfhaa
