/-
  The reference: a block; AesBlocks.
-/
import Derived.Test.YthljhhhjdajfhaaR6
import Derived.Test.YthljhhhjdajfhaaAb
namespace Go.Proofs.Ythljhhhjdajfhaa
open Go.RowKit

theorem of_col (s : ByteArray) (hs : s.size = 16) (w : World) :
    Calls Try.prog 24 #[.string s] w fun e w' => e = .returned (.agg (bc (outQ (colS s) 4))) ∧ Below w.heap.size w w' := by
  have h := of_any s hs w
  rw [← out_col s hs] at h
  exact h

set_option linter.unusedVariables false in
set_option maxRecDepth 100000 in
set_option maxHeartbeats 2000000 in
theorem RBlock_yes (key block : ByteArray) (hk : key.size = 32) (hb : block.size = 16) (w : World) :
    Calls Try.prog 9 #[.string key, .string block] w fun e w' => e = .returned (.tuple #[.string (blkS key block), iN .i64 0]) ∧ Below w.heap.size w w' := by
  have H0 := HA.start w
  go_enter Try.func9, Try.ntmps9
  refine wp_seq ?_
  -- region 0
  refine wl_region ?_
  refine wl_val (.string { data := #[] }) (by kernel_rfl) (by kernel_rfl) ?_
  refine wl_val (iN .i64 0) (by kernel_rfl) (by kernel_rfl) ?_
  refine wl_nil ?_
  refine then_at (F := ⟨(.string key :: .string block :: un :: un :: .string { data := #[] } :: iN .i64 0 :: List.replicate 18 un).toArray, []⟩) (by kernel_rfl) ?_
  refine wp_seq ?_
  refine wp_seq ?_
  -- region 1
  refine wl_region ?_
  refine wl_val (.string key) (by kernel_rfl) (by kernel_rfl) ?_
  refine wl_val (iN .i64 key.size) (by kernel_rfl) (run_len (s := key) (by kernel_rfl)) ?_
  refine wl_val (.bool false) (by kernel_rfl) (run_nei (k := .i64) (a := key.size) (b := 32) (by kernel_rfl) (by kernel_rfl) false (decide_eq_false (fun h => h hk))) ?_
  refine wl_nil ?_
  refine then_at (F := ⟨(.string key :: .string block :: un :: un :: .string { data := #[] } :: iN .i64 0 :: un :: un :: .string key :: iN .i64 key.size :: .bool false :: List.replicate 13 un).toArray, []⟩) (by kernel_rfl) ?_
  refine wp_cond_false (by kernel_rfl) ?_
  refine wp_skip ?_
  refine then_at (F := ⟨(.string key :: .string block :: un :: un :: .string { data := #[] } :: iN .i64 0 :: un :: un :: .string key :: iN .i64 key.size :: .bool false :: List.replicate 13 un).toArray, []⟩) (by kernel_rfl) ?_
  refine wp_seq ?_
  refine wp_seq ?_
  -- region 3
  refine wl_region ?_
  refine wl_val (.string block) (by kernel_rfl) (by kernel_rfl) ?_
  refine wl_val (iN .i64 block.size) (by kernel_rfl) (run_len (s := block) (by kernel_rfl)) ?_
  refine wl_val (.bool false) (by kernel_rfl) (run_nei (k := .i64) (a := block.size) (b := 16) (by kernel_rfl) (by kernel_rfl) false (decide_eq_false (fun h => h hb))) ?_
  refine wl_nil ?_
  refine then_at (F := ⟨(.string key :: .string block :: un :: un :: .string { data := #[] } :: iN .i64 0 :: un :: un :: .string key :: iN .i64 key.size :: .bool false :: .string block :: iN .i64 block.size :: .bool false :: List.replicate 10 un).toArray, []⟩) (by kernel_rfl) ?_
  refine wp_cond_false (by kernel_rfl) ?_
  refine wp_skip ?_
  refine then_at (F := ⟨(.string key :: .string block :: un :: un :: .string { data := #[] } :: iN .i64 0 :: un :: un :: .string key :: iN .i64 key.size :: .bool false :: .string block :: iN .i64 block.size :: .bool false :: List.replicate 10 un).toArray, []⟩) (by kernel_rfl) ?_
  refine wp_seq ?_
  -- region 5
  refine wl_region ?_
  refine wl_call (v := .agg (bc boxL)) H0 (by kernel_rfl) enter21 #[] (by kernel_rfl) (boxes_any w) ?_
  intro w1 h2
  refine wl_make h2 46 (by kernel_rfl) run_alloc46 ?_
  intro q3 w4 h5
  refine wl_fill (c' := bc boxL) h5 0 rfl (by kernel_rfl) (by kernel_rfl) (by kernel_rfl) (by rw [bc_size, bc_size, boxL_len, (List.length_replicate)]) (info46 boxL boxL_len) (one_bc boxL) ?_
  intro w6 (h7 : HA w [(q3, 46, bc boxL)] w6)
  refine wl_nil ?_
  refine then_at (F := ⟨(.string key :: .string block :: un :: un :: .string { data := #[] } :: iN .i64 0 :: pt q3 :: un :: .string key :: iN .i64 key.size :: .bool false :: .string block :: iN .i64 block.size :: .bool false :: .agg (bc boxL) :: List.replicate 9 un).toArray, []⟩) (by kernel_rfl) ?_
  refine wp_seq ?_
  obtain ⟨oc, hoc, hol⟩ : ∃ c : List UInt8, c = outQ (encQ (kwS key) (colS block)) 4 ∧ c.length = 16 := ⟨_, rfl, o16 _⟩
  -- region 6
  obtain ⟨B8, eB8⟩ : ∃ B, B = w6.heap.size := ⟨_, rfl⟩
  refine wp_region_ghost (fun g : Nat → Nat => (⟨(.string key :: .string block :: un :: un :: .string { data := #[] } :: iN .i64 0 :: pt q3 :: pt (g 7) :: .string key :: iN .i64 key.size :: .bool false :: .string block :: iN .i64 block.size :: .bool false :: .agg (bc boxL) :: .string key :: .agg (bc boxL) :: .agg (bc (flatW (kwS key))) :: .agg (bc boxL) :: .string block :: .agg (bc (outQ (colS block) 4)) :: .agg (bc oc) :: List.replicate 2 un).toArray, []⟩ : Act)) (GS w [(q3, 46, bc boxL)] B8 1 7 8 37 (bc (List.replicate 16 0)) (fun _ => bc oc)) [.string key, .agg (bc boxL), .agg (bc (flatW (kwS key))), .agg (bc boxL), .string block, .agg (bc (outQ (colS block) 4)), .agg (bc oc), .pointer (some ⟨0, 0, none⟩), undef] (by kernel_rfl) (by kernel_rfl) (by kernel_rfl) (by kernel_rfl) (fun _ _ _ _ h => h) (fun d hd => GS.start h7.drew eB8 (by decide) (fun _ _ => (by rw [bc_size, bc_size, hol, List.length_replicate])) (fun j hj => hd j (Nat.lt_of_lt_of_le hj (by decide)))) ?_ ?_
  · refine AllGhost.cons (ghost_plain (v := .string key) (by decide) (fun _ => by kernel_rfl) (fun _ => by kernel_rfl) (fun _ _ => (by kernel_rfl))) ?_
    refine AllGhost.cons (ghost_load 0 rfl (by decide) (fun _ => by kernel_rfl) (fun _ => by kernel_rfl) (fun _ => by kernel_rfl) Try.underlying46 rfl (info46 boxL boxL_len)) ?_
    refine AllGhost.cons (ghost_call (v := .agg (bc (flatW (kwS key)))) (by decide) (fun _ => by kernel_rfl) (fun _ => by kernel_rfl) enter23 #[.string key, .agg (bc boxL)] (fun _ => by kernel_rfl) (fun w' h' => keys_any key hk w')) ?_
    refine AllGhost.cons (ghost_load 0 rfl (by decide) (fun _ => by kernel_rfl) (fun _ => by kernel_rfl) (fun _ => by kernel_rfl) Try.underlying46 rfl (info46 boxL boxL_len)) ?_
    refine AllGhost.cons (ghost_plain (v := .string block) (by decide) (fun _ => by kernel_rfl) (fun _ => by kernel_rfl) (fun _ _ => (by kernel_rfl))) ?_
    refine AllGhost.cons (ghost_call (v := .agg (bc (outQ (colS block) 4))) (by decide) (fun _ => by kernel_rfl) (fun _ => by kernel_rfl) enter24 #[.string block] (fun _ => by kernel_rfl) (fun w' h' => of_col block hb w')) ?_
    refine AllGhost.cons (ghost_call (v := .agg (bc oc)) (by decide) (fun _ => by kernel_rfl) (fun _ => by kernel_rfl) enter22 #[.agg (bc (flatW (kwS key))), .agg (bc boxL), .agg (bc (outQ (colS block) 4))] (fun _ => by kernel_rfl) (fun w' h' => (by rw [hoc]; exact rencipher_any (kwS key) (kwS_len key) (colS block) w'))) ?_
    refine AllGhost.cons (ghost_make 0 (by decide) rfl (fun _ => by kernel_rfl) (fun _ _ => by kernel_rfl) (fun _ _ => run_alloc37)) ?_
    refine AllGhost.cons (ghost_fill 0 (by decide) rfl (fun _ => by kernel_rfl) (fun _ => by kernel_rfl) (fun _ => by kernel_rfl) (fun _ => by kernel_rfl) (info37 oc hol) (one_bc oc) (by kernel_rfl)) ?_
    exact AllGhost.nil
  intro g w9 g10
  have h11 : HA w [(g 7, 37, bc oc), (q3, 46, bc boxL)] w9 := g10.one
  clear g10 eB8
  generalize g 7 = q12 at h11 ⊢
  clear g
  refine then_at (F := ⟨(.string key :: .string block :: un :: un :: .string { data := #[] } :: iN .i64 0 :: pt q3 :: pt q12 :: .string key :: iN .i64 key.size :: .bool false :: .string block :: iN .i64 block.size :: .bool false :: .agg (bc boxL) :: .string key :: .agg (bc boxL) :: .agg (bc (flatW (kwS key))) :: .agg (bc boxL) :: .string block :: .agg (bc (outQ (colS block) 4)) :: .agg (bc oc) :: List.replicate 2 un).toArray, []⟩) (by kernel_rfl) ?_
  refine wp_seq ?_
  -- region 7
  refine wl_region ?_
  refine wl_val (.slice (some ⟨q12, 0, none⟩) 16 16) (by kernel_rfl) (run_cutA37 (q := q12) (by kernel_rfl)) ?_
  refine wl_val (.string (⟨(oc.take 16).toArray⟩)) (by kernel_rfl) (run_textg (q := q12) (m := 16) (c := 16) (l := oc) (by kernel_rfl) (h11.get 0 rfl) (by rw [hol]; decide)) ?_
  refine wl_val (.string (⟨(oc.take 16).toArray⟩)) (by kernel_rfl) (by kernel_rfl) ?_
  refine wl_val (iN .i64 0) (by kernel_rfl) (by kernel_rfl) ?_
  refine wl_nil ?_
  refine then_at (F := ⟨(.string key :: .string block :: un :: un :: .string (⟨(oc.take 16).toArray⟩) :: iN .i64 0 :: pt q3 :: pt q12 :: .string key :: iN .i64 key.size :: .bool false :: .string block :: iN .i64 block.size :: .bool false :: .agg (bc boxL) :: .string key :: .agg (bc boxL) :: .agg (bc (flatW (kwS key))) :: .agg (bc boxL) :: .string block :: .agg (bc (outQ (colS block) 4)) :: .agg (bc oc) :: .slice (some ⟨q12, 0, none⟩) 16 16 :: .string (⟨(oc.take 16).toArray⟩) :: List.replicate 0 un).toArray, []⟩) (by kernel_rfl) ?_
  refine wp_ret ?_
  repeat first | refine then_ret ?_ | refine block_ret ?_
  exact bodyPost_ret (v := .tuple #[.string (⟨(oc.take 16).toArray⟩), iN .i64 0]) (by kernel_rfl) rfl ⟨by rw [take_all hol, hoc]; rfl, h11.old⟩

set_option linter.unusedVariables false in
set_option maxRecDepth 100000 in
set_option maxHeartbeats 2000000 in
theorem RBlock_no1 (key block : ByteArray) (hk : key.size ≠ 32) (w : World) :
    Calls Try.prog 9 #[.string key, .string block] w fun e w' => e = .returned (.tuple #[.string { data := #[] }, iN .i64 8]) ∧ Below w.heap.size w w' := by
  have H0 := HA.start w
  go_enter Try.func9, Try.ntmps9
  refine wp_seq ?_
  -- region 0
  refine wl_region ?_
  refine wl_val (.string { data := #[] }) (by kernel_rfl) (by kernel_rfl) ?_
  refine wl_val (iN .i64 0) (by kernel_rfl) (by kernel_rfl) ?_
  refine wl_nil ?_
  refine then_at (F := ⟨(.string key :: .string block :: un :: un :: .string { data := #[] } :: iN .i64 0 :: List.replicate 18 un).toArray, []⟩) (by kernel_rfl) ?_
  refine wp_seq ?_
  refine wp_seq ?_
  -- region 1
  refine wl_region ?_
  refine wl_val (.string key) (by kernel_rfl) (by kernel_rfl) ?_
  refine wl_val (iN .i64 key.size) (by kernel_rfl) (run_len (s := key) (by kernel_rfl)) ?_
  refine wl_val (.bool true) (by kernel_rfl) (run_nei (k := .i64) (a := key.size) (b := 32) (by kernel_rfl) (by kernel_rfl) true (decide_eq_true hk)) ?_
  refine wl_nil ?_
  refine then_at (F := ⟨(.string key :: .string block :: un :: un :: .string { data := #[] } :: iN .i64 0 :: un :: un :: .string key :: iN .i64 key.size :: .bool true :: List.replicate 13 un).toArray, []⟩) (by kernel_rfl) ?_
  refine wp_cond_true (by kernel_rfl) ?_
  refine wp_seq ?_
  -- region 2
  refine wl_region ?_
  refine wl_val (.string { data := #[] }) (by kernel_rfl) (by kernel_rfl) ?_
  refine wl_val (iN .i64 8) (by kernel_rfl) (by kernel_rfl) ?_
  refine wl_nil ?_
  refine then_at (F := ⟨(.string key :: .string block :: un :: un :: .string { data := #[] } :: iN .i64 8 :: un :: un :: .string key :: iN .i64 key.size :: .bool true :: List.replicate 13 un).toArray, []⟩) (by kernel_rfl) ?_
  refine wp_ret ?_
  repeat first | refine then_ret ?_ | refine block_ret ?_
  exact bodyPost_ret (v := .tuple #[.string { data := #[] }, iN .i64 8]) (by kernel_rfl) rfl ⟨rfl, H0.old⟩

set_option linter.unusedVariables false in
set_option maxRecDepth 100000 in
set_option maxHeartbeats 2000000 in
theorem RBlock_no2 (key block : ByteArray) (hk : key.size = 32) (hb : block.size ≠ 16) (w : World) :
    Calls Try.prog 9 #[.string key, .string block] w fun e w' => e = .returned (.tuple #[.string { data := #[] }, iN .i64 2]) ∧ Below w.heap.size w w' := by
  have H0 := HA.start w
  go_enter Try.func9, Try.ntmps9
  refine wp_seq ?_
  -- region 0
  refine wl_region ?_
  refine wl_val (.string { data := #[] }) (by kernel_rfl) (by kernel_rfl) ?_
  refine wl_val (iN .i64 0) (by kernel_rfl) (by kernel_rfl) ?_
  refine wl_nil ?_
  refine then_at (F := ⟨(.string key :: .string block :: un :: un :: .string { data := #[] } :: iN .i64 0 :: List.replicate 18 un).toArray, []⟩) (by kernel_rfl) ?_
  refine wp_seq ?_
  refine wp_seq ?_
  -- region 1
  refine wl_region ?_
  refine wl_val (.string key) (by kernel_rfl) (by kernel_rfl) ?_
  refine wl_val (iN .i64 key.size) (by kernel_rfl) (run_len (s := key) (by kernel_rfl)) ?_
  refine wl_val (.bool false) (by kernel_rfl) (run_nei (k := .i64) (a := key.size) (b := 32) (by kernel_rfl) (by kernel_rfl) false (decide_eq_false (fun h => h hk))) ?_
  refine wl_nil ?_
  refine then_at (F := ⟨(.string key :: .string block :: un :: un :: .string { data := #[] } :: iN .i64 0 :: un :: un :: .string key :: iN .i64 key.size :: .bool false :: List.replicate 13 un).toArray, []⟩) (by kernel_rfl) ?_
  refine wp_cond_false (by kernel_rfl) ?_
  refine wp_skip ?_
  refine then_at (F := ⟨(.string key :: .string block :: un :: un :: .string { data := #[] } :: iN .i64 0 :: un :: un :: .string key :: iN .i64 key.size :: .bool false :: List.replicate 13 un).toArray, []⟩) (by kernel_rfl) ?_
  refine wp_seq ?_
  refine wp_seq ?_
  -- region 3
  refine wl_region ?_
  refine wl_val (.string block) (by kernel_rfl) (by kernel_rfl) ?_
  refine wl_val (iN .i64 block.size) (by kernel_rfl) (run_len (s := block) (by kernel_rfl)) ?_
  refine wl_val (.bool true) (by kernel_rfl) (run_nei (k := .i64) (a := block.size) (b := 16) (by kernel_rfl) (by kernel_rfl) true (decide_eq_true hb)) ?_
  refine wl_nil ?_
  refine then_at (F := ⟨(.string key :: .string block :: un :: un :: .string { data := #[] } :: iN .i64 0 :: un :: un :: .string key :: iN .i64 key.size :: .bool false :: .string block :: iN .i64 block.size :: .bool true :: List.replicate 10 un).toArray, []⟩) (by kernel_rfl) ?_
  refine wp_cond_true (by kernel_rfl) ?_
  refine wp_seq ?_
  -- region 4
  refine wl_region ?_
  refine wl_val (.string { data := #[] }) (by kernel_rfl) (by kernel_rfl) ?_
  refine wl_val (iN .i64 2) (by kernel_rfl) (by kernel_rfl) ?_
  refine wl_nil ?_
  refine then_at (F := ⟨(.string key :: .string block :: un :: un :: .string { data := #[] } :: iN .i64 2 :: un :: un :: .string key :: iN .i64 key.size :: .bool false :: .string block :: iN .i64 block.size :: .bool true :: List.replicate 10 un).toArray, []⟩) (by kernel_rfl) ?_
  refine wp_ret ?_
  repeat first | refine then_ret ?_ | refine block_ret ?_
  exact bodyPost_ret (v := .tuple #[.string { data := #[] }, iN .i64 2]) (by kernel_rfl) rfl ⟨rfl, H0.old⟩

set_option linter.unusedVariables false in
set_option maxRecDepth 100000 in
set_option maxHeartbeats 2000000 in
theorem blocks_any (key block : ByteArray) (w : World) :
    Calls Try.prog 3 #[.string key, .string block] w fun e w' => e = .returned (.bool true) ∧ Below w.heap.size w w' := by
  have H0 := HA.start w
  go_enter Try.func3, Try.ntmps3
  refine wp_seq ?_
  -- region 0
  refine wl_region ?_
  refine wl_val (.bool false) (by kernel_rfl) (by kernel_rfl) ?_
  refine wl_nil ?_
  refine then_at (F := ⟨(.string key :: .string block :: un :: un :: .bool false :: List.replicate 27 un).toArray, []⟩) (by kernel_rfl) ?_
  refine wp_seq ?_
  rcases (by by_cases hk : key.size = 32 <;> by_cases hb : block.size = 16 <;> simp [hk, hb] : (key.size = 32 ∧ block.size = 16) ∨ key.size ≠ 32 ∨ (key.size = 32 ∧ block.size ≠ 16)) with ⟨hk, hb⟩ | hk | ⟨hk, hb⟩
  · -- region 1
    refine wl_region ?_
    refine wl_val (.string key) (by kernel_rfl) (by kernel_rfl) ?_
    refine wl_val (.string block) (by kernel_rfl) (by kernel_rfl) ?_
    refine wl_call (v := .tuple #[.string (blkS key block), iN .i64 0]) H0 (by kernel_rfl) enter8 #[.string key, .string block] (by kernel_rfl) (Block_yes key block hk hb w) ?_
    intro w1 h2
    refine wl_val (.tuple #[.string (blkS key block), iN .i64 0]) (by kernel_rfl) (by kernel_rfl) ?_
    refine wl_val (.string (blkS key block)) (by kernel_rfl) (by kernel_rfl) ?_
    refine wl_val (iN .i64 0) (by kernel_rfl) (by kernel_rfl) ?_
    refine wl_val (.string (blkS key block)) (by kernel_rfl) (by kernel_rfl) ?_
    refine wl_val (iN .i64 0) (by kernel_rfl) (by kernel_rfl) ?_
    refine wl_nil ?_
    refine then_at (F := ⟨(.string key :: .string block :: un :: un :: .bool false :: .string (blkS key block) :: iN .i64 0 :: un :: un :: .tuple #[.string (blkS key block), iN .i64 0] :: .string key :: .string block :: .tuple #[.string (blkS key block), iN .i64 0] :: .string (blkS key block) :: iN .i64 0 :: List.replicate 17 un).toArray, []⟩) (by kernel_rfl) ?_
    refine wp_seq ?_
    -- region 2
    refine wl_region ?_
    refine wl_val (.string key) (by kernel_rfl) (by kernel_rfl) ?_
    refine wl_val (.string block) (by kernel_rfl) (by kernel_rfl) ?_
    refine wl_call (v := .tuple #[.string (blkS key block), iN .i64 0]) h2 (by kernel_rfl) enter9 #[.string key, .string block] (by kernel_rfl) (RBlock_yes key block hk hb w1) ?_
    intro w3 h4
    refine wl_val (.tuple #[.string (blkS key block), iN .i64 0]) (by kernel_rfl) (by kernel_rfl) ?_
    refine wl_val (.string (blkS key block)) (by kernel_rfl) (by kernel_rfl) ?_
    refine wl_val (iN .i64 0) (by kernel_rfl) (by kernel_rfl) ?_
    refine wl_val (.string (blkS key block)) (by kernel_rfl) (by kernel_rfl) ?_
    refine wl_val (iN .i64 0) (by kernel_rfl) (by kernel_rfl) ?_
    refine wl_nil ?_
    refine then_at (F := ⟨(.string key :: .string block :: un :: un :: .bool false :: .string (blkS key block) :: iN .i64 0 :: .string (blkS key block) :: iN .i64 0 :: .tuple #[.string (blkS key block), iN .i64 0] :: .string key :: .string block :: .tuple #[.string (blkS key block), iN .i64 0] :: .string (blkS key block) :: iN .i64 0 :: .tuple #[.string (blkS key block), iN .i64 0] :: .string key :: .string block :: .tuple #[.string (blkS key block), iN .i64 0] :: .string (blkS key block) :: iN .i64 0 :: List.replicate 11 un).toArray, []⟩) (by kernel_rfl) ?_
    refine wp_seq ?_
    -- region 3
    refine wl_region ?_
    refine wl_val (.string (blkS key block)) (by kernel_rfl) (by kernel_rfl) ?_
    refine wl_val (.string (blkS key block)) (by kernel_rfl) (by kernel_rfl) ?_
    refine wl_val (.bool true) (by kernel_rfl) (run_eqs (s := blkS key block) (t := blkS key block) (by kernel_rfl) (by kernel_rfl) true (decide_eq_true rfl)) ?_
    refine wl_val (.bool true) (by kernel_rfl) (by kernel_rfl) ?_
    refine wl_val (iN .i64 0) (by kernel_rfl) (by kernel_rfl) ?_
    refine wl_val (iN .i64 0) (by kernel_rfl) (by kernel_rfl) ?_
    refine wl_val (.bool true) (by kernel_rfl) (run_eqi (k := .i64) (a := 0) (b := 0) (by kernel_rfl) (by kernel_rfl) true (by decide)) ?_
    refine wl_val (.bool true) (by kernel_rfl) (by kernel_rfl) ?_
    refine wl_val (.bool true) (by kernel_rfl) (by kernel_rfl) ?_
    refine wl_call (v := .bool true) h4 (by kernel_rfl) enter10 #[] (by kernel_rfl) (works_any w3) ?_
    intro w5 h6
    refine wl_val (.bool true) (by kernel_rfl) (by kernel_rfl) ?_
    refine wl_val (.bool true) (by kernel_rfl) (by kernel_rfl) ?_
    refine wl_nil ?_
    refine then_at (F := ⟨(.string key :: .string block :: un :: un :: .bool true :: .string (blkS key block) :: iN .i64 0 :: .string (blkS key block) :: iN .i64 0 :: .tuple #[.string (blkS key block), iN .i64 0] :: .string key :: .string block :: .tuple #[.string (blkS key block), iN .i64 0] :: .string (blkS key block) :: iN .i64 0 :: .tuple #[.string (blkS key block), iN .i64 0] :: .string key :: .string block :: .tuple #[.string (blkS key block), iN .i64 0] :: .string (blkS key block) :: iN .i64 0 :: .string (blkS key block) :: .string (blkS key block) :: .bool true :: .bool true :: iN .i64 0 :: iN .i64 0 :: .bool true :: .bool true :: .bool true :: .bool true :: .bool true :: List.replicate 0 un).toArray, []⟩) (by kernel_rfl) ?_
    refine wp_ret ?_
    repeat first | refine then_ret ?_ | refine block_ret ?_
    exact bodyPost_ret (v := .bool true) (by kernel_rfl) rfl ⟨rfl, h6.old⟩
  · -- region 1
    refine wl_region ?_
    refine wl_val (.string key) (by kernel_rfl) (by kernel_rfl) ?_
    refine wl_val (.string block) (by kernel_rfl) (by kernel_rfl) ?_
    refine wl_call (v := .tuple #[.string ({ data := #[] }), iN .i64 8]) H0 (by kernel_rfl) enter8 #[.string key, .string block] (by kernel_rfl) (Block_no1 key block hk w) ?_
    intro w7 h8
    refine wl_val (.tuple #[.string ({ data := #[] }), iN .i64 8]) (by kernel_rfl) (by kernel_rfl) ?_
    refine wl_val (.string ({ data := #[] })) (by kernel_rfl) (by kernel_rfl) ?_
    refine wl_val (iN .i64 8) (by kernel_rfl) (by kernel_rfl) ?_
    refine wl_val (.string ({ data := #[] })) (by kernel_rfl) (by kernel_rfl) ?_
    refine wl_val (iN .i64 8) (by kernel_rfl) (by kernel_rfl) ?_
    refine wl_nil ?_
    refine then_at (F := ⟨(.string key :: .string block :: un :: un :: .bool false :: .string ({ data := #[] }) :: iN .i64 8 :: un :: un :: .tuple #[.string ({ data := #[] }), iN .i64 8] :: .string key :: .string block :: .tuple #[.string ({ data := #[] }), iN .i64 8] :: .string ({ data := #[] }) :: iN .i64 8 :: List.replicate 17 un).toArray, []⟩) (by kernel_rfl) ?_
    refine wp_seq ?_
    -- region 2
    refine wl_region ?_
    refine wl_val (.string key) (by kernel_rfl) (by kernel_rfl) ?_
    refine wl_val (.string block) (by kernel_rfl) (by kernel_rfl) ?_
    refine wl_call (v := .tuple #[.string ({ data := #[] }), iN .i64 8]) h8 (by kernel_rfl) enter9 #[.string key, .string block] (by kernel_rfl) (RBlock_no1 key block hk w7) ?_
    intro w9 h10
    refine wl_val (.tuple #[.string ({ data := #[] }), iN .i64 8]) (by kernel_rfl) (by kernel_rfl) ?_
    refine wl_val (.string ({ data := #[] })) (by kernel_rfl) (by kernel_rfl) ?_
    refine wl_val (iN .i64 8) (by kernel_rfl) (by kernel_rfl) ?_
    refine wl_val (.string ({ data := #[] })) (by kernel_rfl) (by kernel_rfl) ?_
    refine wl_val (iN .i64 8) (by kernel_rfl) (by kernel_rfl) ?_
    refine wl_nil ?_
    refine then_at (F := ⟨(.string key :: .string block :: un :: un :: .bool false :: .string ({ data := #[] }) :: iN .i64 8 :: .string ({ data := #[] }) :: iN .i64 8 :: .tuple #[.string ({ data := #[] }), iN .i64 8] :: .string key :: .string block :: .tuple #[.string ({ data := #[] }), iN .i64 8] :: .string ({ data := #[] }) :: iN .i64 8 :: .tuple #[.string ({ data := #[] }), iN .i64 8] :: .string key :: .string block :: .tuple #[.string ({ data := #[] }), iN .i64 8] :: .string ({ data := #[] }) :: iN .i64 8 :: List.replicate 11 un).toArray, []⟩) (by kernel_rfl) ?_
    refine wp_seq ?_
    -- region 3
    refine wl_region ?_
    refine wl_val (.string ({ data := #[] })) (by kernel_rfl) (by kernel_rfl) ?_
    refine wl_val (.string ({ data := #[] })) (by kernel_rfl) (by kernel_rfl) ?_
    refine wl_val (.bool true) (by kernel_rfl) (run_eqs (s := { data := #[] }) (t := { data := #[] }) (by kernel_rfl) (by kernel_rfl) true (decide_eq_true rfl)) ?_
    refine wl_val (.bool true) (by kernel_rfl) (by kernel_rfl) ?_
    refine wl_val (iN .i64 8) (by kernel_rfl) (by kernel_rfl) ?_
    refine wl_val (iN .i64 8) (by kernel_rfl) (by kernel_rfl) ?_
    refine wl_val (.bool true) (by kernel_rfl) (run_eqi (k := .i64) (a := 8) (b := 8) (by kernel_rfl) (by kernel_rfl) true (by decide)) ?_
    refine wl_val (.bool true) (by kernel_rfl) (by kernel_rfl) ?_
    refine wl_val (.bool true) (by kernel_rfl) (by kernel_rfl) ?_
    refine wl_call (v := .bool true) h10 (by kernel_rfl) enter10 #[] (by kernel_rfl) (works_any w9) ?_
    intro w11 h12
    refine wl_val (.bool true) (by kernel_rfl) (by kernel_rfl) ?_
    refine wl_val (.bool true) (by kernel_rfl) (by kernel_rfl) ?_
    refine wl_nil ?_
    refine then_at (F := ⟨(.string key :: .string block :: un :: un :: .bool true :: .string ({ data := #[] }) :: iN .i64 8 :: .string ({ data := #[] }) :: iN .i64 8 :: .tuple #[.string ({ data := #[] }), iN .i64 8] :: .string key :: .string block :: .tuple #[.string ({ data := #[] }), iN .i64 8] :: .string ({ data := #[] }) :: iN .i64 8 :: .tuple #[.string ({ data := #[] }), iN .i64 8] :: .string key :: .string block :: .tuple #[.string ({ data := #[] }), iN .i64 8] :: .string ({ data := #[] }) :: iN .i64 8 :: .string ({ data := #[] }) :: .string ({ data := #[] }) :: .bool true :: .bool true :: iN .i64 8 :: iN .i64 8 :: .bool true :: .bool true :: .bool true :: .bool true :: .bool true :: List.replicate 0 un).toArray, []⟩) (by kernel_rfl) ?_
    refine wp_ret ?_
    repeat first | refine then_ret ?_ | refine block_ret ?_
    exact bodyPost_ret (v := .bool true) (by kernel_rfl) rfl ⟨rfl, h12.old⟩
  · -- region 1
    refine wl_region ?_
    refine wl_val (.string key) (by kernel_rfl) (by kernel_rfl) ?_
    refine wl_val (.string block) (by kernel_rfl) (by kernel_rfl) ?_
    refine wl_call (v := .tuple #[.string ({ data := #[] }), iN .i64 2]) H0 (by kernel_rfl) enter8 #[.string key, .string block] (by kernel_rfl) (Block_no2 key block hk hb w) ?_
    intro w13 h14
    refine wl_val (.tuple #[.string ({ data := #[] }), iN .i64 2]) (by kernel_rfl) (by kernel_rfl) ?_
    refine wl_val (.string ({ data := #[] })) (by kernel_rfl) (by kernel_rfl) ?_
    refine wl_val (iN .i64 2) (by kernel_rfl) (by kernel_rfl) ?_
    refine wl_val (.string ({ data := #[] })) (by kernel_rfl) (by kernel_rfl) ?_
    refine wl_val (iN .i64 2) (by kernel_rfl) (by kernel_rfl) ?_
    refine wl_nil ?_
    refine then_at (F := ⟨(.string key :: .string block :: un :: un :: .bool false :: .string ({ data := #[] }) :: iN .i64 2 :: un :: un :: .tuple #[.string ({ data := #[] }), iN .i64 2] :: .string key :: .string block :: .tuple #[.string ({ data := #[] }), iN .i64 2] :: .string ({ data := #[] }) :: iN .i64 2 :: List.replicate 17 un).toArray, []⟩) (by kernel_rfl) ?_
    refine wp_seq ?_
    -- region 2
    refine wl_region ?_
    refine wl_val (.string key) (by kernel_rfl) (by kernel_rfl) ?_
    refine wl_val (.string block) (by kernel_rfl) (by kernel_rfl) ?_
    refine wl_call (v := .tuple #[.string ({ data := #[] }), iN .i64 2]) h14 (by kernel_rfl) enter9 #[.string key, .string block] (by kernel_rfl) (RBlock_no2 key block hk hb w13) ?_
    intro w15 h16
    refine wl_val (.tuple #[.string ({ data := #[] }), iN .i64 2]) (by kernel_rfl) (by kernel_rfl) ?_
    refine wl_val (.string ({ data := #[] })) (by kernel_rfl) (by kernel_rfl) ?_
    refine wl_val (iN .i64 2) (by kernel_rfl) (by kernel_rfl) ?_
    refine wl_val (.string ({ data := #[] })) (by kernel_rfl) (by kernel_rfl) ?_
    refine wl_val (iN .i64 2) (by kernel_rfl) (by kernel_rfl) ?_
    refine wl_nil ?_
    refine then_at (F := ⟨(.string key :: .string block :: un :: un :: .bool false :: .string ({ data := #[] }) :: iN .i64 2 :: .string ({ data := #[] }) :: iN .i64 2 :: .tuple #[.string ({ data := #[] }), iN .i64 2] :: .string key :: .string block :: .tuple #[.string ({ data := #[] }), iN .i64 2] :: .string ({ data := #[] }) :: iN .i64 2 :: .tuple #[.string ({ data := #[] }), iN .i64 2] :: .string key :: .string block :: .tuple #[.string ({ data := #[] }), iN .i64 2] :: .string ({ data := #[] }) :: iN .i64 2 :: List.replicate 11 un).toArray, []⟩) (by kernel_rfl) ?_
    refine wp_seq ?_
    -- region 3
    refine wl_region ?_
    refine wl_val (.string ({ data := #[] })) (by kernel_rfl) (by kernel_rfl) ?_
    refine wl_val (.string ({ data := #[] })) (by kernel_rfl) (by kernel_rfl) ?_
    refine wl_val (.bool true) (by kernel_rfl) (run_eqs (s := { data := #[] }) (t := { data := #[] }) (by kernel_rfl) (by kernel_rfl) true (decide_eq_true rfl)) ?_
    refine wl_val (.bool true) (by kernel_rfl) (by kernel_rfl) ?_
    refine wl_val (iN .i64 2) (by kernel_rfl) (by kernel_rfl) ?_
    refine wl_val (iN .i64 2) (by kernel_rfl) (by kernel_rfl) ?_
    refine wl_val (.bool true) (by kernel_rfl) (run_eqi (k := .i64) (a := 2) (b := 2) (by kernel_rfl) (by kernel_rfl) true (by decide)) ?_
    refine wl_val (.bool true) (by kernel_rfl) (by kernel_rfl) ?_
    refine wl_val (.bool true) (by kernel_rfl) (by kernel_rfl) ?_
    refine wl_call (v := .bool true) h16 (by kernel_rfl) enter10 #[] (by kernel_rfl) (works_any w15) ?_
    intro w17 h18
    refine wl_val (.bool true) (by kernel_rfl) (by kernel_rfl) ?_
    refine wl_val (.bool true) (by kernel_rfl) (by kernel_rfl) ?_
    refine wl_nil ?_
    refine then_at (F := ⟨(.string key :: .string block :: un :: un :: .bool true :: .string ({ data := #[] }) :: iN .i64 2 :: .string ({ data := #[] }) :: iN .i64 2 :: .tuple #[.string ({ data := #[] }), iN .i64 2] :: .string key :: .string block :: .tuple #[.string ({ data := #[] }), iN .i64 2] :: .string ({ data := #[] }) :: iN .i64 2 :: .tuple #[.string ({ data := #[] }), iN .i64 2] :: .string key :: .string block :: .tuple #[.string ({ data := #[] }), iN .i64 2] :: .string ({ data := #[] }) :: iN .i64 2 :: .string ({ data := #[] }) :: .string ({ data := #[] }) :: .bool true :: .bool true :: iN .i64 2 :: iN .i64 2 :: .bool true :: .bool true :: .bool true :: .bool true :: .bool true :: List.replicate 0 un).toArray, []⟩) (by kernel_rfl) ?_
    refine wp_ret ?_
    repeat first | refine then_ret ?_ | refine block_ret ?_
    exact bodyPost_ret (v := .bool true) (by kernel_rfl) rfl ⟨rfl, h18.old⟩
end Go.Proofs.Ythljhhhjdajfhaa
