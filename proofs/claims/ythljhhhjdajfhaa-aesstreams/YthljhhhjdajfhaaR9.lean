/-
  AesStreams.
-/
import Derived.Test.YthljhhhjdajfhaaR8
namespace Go.Proofs.Ythljhhhjdajfhaa
open Go.RowKit

def cutK (s : ByteArray) : ByteArray := s.extract 0 (min s.size 1000)
theorem cutK_size (s : ByteArray) : (cutK s).size ≤ 1000 := by unfold cutK; rw [extract_size _ _ (Nat.min_le_left _ _)]; omega

set_option linter.unusedVariables false in
set_option maxRecDepth 100000 in
set_option maxHeartbeats 2000000 in
theorem RCtr_no1 (key nonce text : ByteArray) (hk : key.size ≠ 32) (w : World) :
    Calls Try.prog 12 #[.string key, .string nonce, .string text] w fun e w' => e = .returned (.tuple #[.string { data := #[] }, iN .i64 8]) ∧ Below w.heap.size w w' := by
  have H0 := HA.start w
  go_enter Try.func12, Try.ntmps12
  refine wp_seq ?_
  -- region 0
  refine wl_region ?_
  refine wl_val (.string { data := #[] }) (by kernel_rfl) (by kernel_rfl) ?_
  refine wl_val (iN .i64 0) (by kernel_rfl) (by kernel_rfl) ?_
  refine wl_nil ?_
  refine then_at (F := ⟨(.string key :: .string nonce :: .string text :: un :: un :: un :: .string { data := #[] } :: iN .i64 0 :: List.replicate 62 un).toArray, []⟩) (by kernel_rfl) ?_
  refine wp_seq ?_
  refine wp_seq ?_
  -- region 1
  refine wl_region ?_
  refine wl_val (.string key) (by kernel_rfl) (by kernel_rfl) ?_
  refine wl_val (iN .i64 key.size) (by kernel_rfl) (run_len (s := key) (by kernel_rfl)) ?_
  refine wl_val (.bool true) (by kernel_rfl) (run_nei (k := .i64) (a := key.size) (b := 32) (by kernel_rfl) (by kernel_rfl) true (decide_eq_true hk)) ?_
  refine wl_nil ?_
  refine then_at (F := ⟨(.string key :: .string nonce :: .string text :: un :: un :: un :: .string { data := #[] } :: iN .i64 0 :: un :: un :: un :: un :: un :: un :: .string key :: iN .i64 key.size :: .bool true :: List.replicate 53 un).toArray, []⟩) (by kernel_rfl) ?_
  refine wp_cond_true (by kernel_rfl) ?_
  refine wp_seq ?_
  -- region 2
  refine wl_region ?_
  refine wl_val (.string { data := #[] }) (by kernel_rfl) (by kernel_rfl) ?_
  refine wl_val (iN .i64 8) (by kernel_rfl) (by kernel_rfl) ?_
  refine wl_nil ?_
  refine then_at (F := ⟨(.string key :: .string nonce :: .string text :: un :: un :: un :: .string { data := #[] } :: iN .i64 8 :: un :: un :: un :: un :: un :: un :: .string key :: iN .i64 key.size :: .bool true :: List.replicate 53 un).toArray, []⟩) (by kernel_rfl) ?_
  refine wp_ret ?_
  repeat first | refine then_ret ?_ | refine block_ret ?_
  exact bodyPost_ret (v := .tuple #[.string { data := #[] }, iN .i64 8]) (by kernel_rfl) rfl ⟨rfl, H0.old⟩

set_option linter.unusedVariables false in
set_option maxRecDepth 100000 in
set_option maxHeartbeats 2000000 in
theorem RCtr_no2 (key nonce text : ByteArray) (hk : key.size = 32) (hn : nonce.size ≠ 12) (w : World) :
    Calls Try.prog 12 #[.string key, .string nonce, .string text] w fun e w' => e = .returned (.tuple #[.string { data := #[] }, iN .i64 2]) ∧ Below w.heap.size w w' := by
  have H0 := HA.start w
  go_enter Try.func12, Try.ntmps12
  refine wp_seq ?_
  -- region 0
  refine wl_region ?_
  refine wl_val (.string { data := #[] }) (by kernel_rfl) (by kernel_rfl) ?_
  refine wl_val (iN .i64 0) (by kernel_rfl) (by kernel_rfl) ?_
  refine wl_nil ?_
  refine then_at (F := ⟨(.string key :: .string nonce :: .string text :: un :: un :: un :: .string { data := #[] } :: iN .i64 0 :: List.replicate 62 un).toArray, []⟩) (by kernel_rfl) ?_
  refine wp_seq ?_
  refine wp_seq ?_
  -- region 1
  refine wl_region ?_
  refine wl_val (.string key) (by kernel_rfl) (by kernel_rfl) ?_
  refine wl_val (iN .i64 key.size) (by kernel_rfl) (run_len (s := key) (by kernel_rfl)) ?_
  refine wl_val (.bool false) (by kernel_rfl) (run_nei (k := .i64) (a := key.size) (b := 32) (by kernel_rfl) (by kernel_rfl) false (decide_eq_false (fun h => h hk))) ?_
  refine wl_nil ?_
  refine then_at (F := ⟨(.string key :: .string nonce :: .string text :: un :: un :: un :: .string { data := #[] } :: iN .i64 0 :: un :: un :: un :: un :: un :: un :: .string key :: iN .i64 key.size :: .bool false :: List.replicate 53 un).toArray, []⟩) (by kernel_rfl) ?_
  refine wp_cond_false (by kernel_rfl) ?_
  refine wp_skip ?_
  refine then_at (F := ⟨(.string key :: .string nonce :: .string text :: un :: un :: un :: .string { data := #[] } :: iN .i64 0 :: un :: un :: un :: un :: un :: un :: .string key :: iN .i64 key.size :: .bool false :: List.replicate 53 un).toArray, []⟩) (by kernel_rfl) ?_
  refine wp_seq ?_
  refine wp_seq ?_
  -- region 3
  refine wl_region ?_
  refine wl_val (.string nonce) (by kernel_rfl) (by kernel_rfl) ?_
  refine wl_val (iN .i64 nonce.size) (by kernel_rfl) (run_len (s := nonce) (by kernel_rfl)) ?_
  refine wl_val (.bool true) (by kernel_rfl) (run_nei (k := .i64) (a := nonce.size) (b := 12) (by kernel_rfl) (by kernel_rfl) true (decide_eq_true hn)) ?_
  refine wl_nil ?_
  refine then_at (F := ⟨(.string key :: .string nonce :: .string text :: un :: un :: un :: .string { data := #[] } :: iN .i64 0 :: un :: un :: un :: un :: un :: un :: .string key :: iN .i64 key.size :: .bool false :: .string nonce :: iN .i64 nonce.size :: .bool true :: List.replicate 50 un).toArray, []⟩) (by kernel_rfl) ?_
  refine wp_cond_true (by kernel_rfl) ?_
  refine wp_seq ?_
  -- region 4
  refine wl_region ?_
  refine wl_val (.string { data := #[] }) (by kernel_rfl) (by kernel_rfl) ?_
  refine wl_val (iN .i64 2) (by kernel_rfl) (by kernel_rfl) ?_
  refine wl_nil ?_
  refine then_at (F := ⟨(.string key :: .string nonce :: .string text :: un :: un :: un :: .string { data := #[] } :: iN .i64 2 :: un :: un :: un :: un :: un :: un :: .string key :: iN .i64 key.size :: .bool false :: .string nonce :: iN .i64 nonce.size :: .bool true :: List.replicate 50 un).toArray, []⟩) (by kernel_rfl) ?_
  refine wp_ret ?_
  repeat first | refine then_ret ?_ | refine block_ret ?_
  exact bodyPost_ret (v := .tuple #[.string { data := #[] }, iN .i64 2]) (by kernel_rfl) rfl ⟨rfl, H0.old⟩

set_option linter.unusedVariables false in
set_option maxRecDepth 100000 in
set_option maxHeartbeats 2000000 in
theorem streams_any (key nonce text : ByteArray) (w : World) :
    Calls Try.prog 4 #[.string key, .string nonce, .string text] w fun e w' => e = .returned (.bool true) ∧ Below w.heap.size w w' := by
  have H0 := HA.start w
  go_enter Try.func4, Try.ntmps4
  refine wp_seq ?_
  -- region 0
  refine wl_region ?_
  refine wl_val (.bool false) (by kernel_rfl) (by kernel_rfl) ?_
  refine wl_nil ?_
  refine then_at (F := ⟨(.string key :: .string nonce :: .string text :: un :: un :: un :: .bool false :: List.replicate 34 un).toArray, []⟩) (by kernel_rfl) ?_
  refine wp_seq ?_
  -- region 1
  refine wl_region ?_
  refine wl_val (.string text) (by kernel_rfl) (by kernel_rfl) ?_
  refine wl_val (.string text) (by kernel_rfl) (by kernel_rfl) ?_
  refine wl_val (iN .i64 text.size) (by kernel_rfl) (run_len (s := text) (by kernel_rfl)) ?_
  refine wl_val (iN .i64 (min text.size 1000)) (by kernel_rfl) (run_min (i := text.size) (j := 1000) (by kernel_rfl) (by kernel_rfl)) ?_
  refine wl_val (.string (cutK text)) (by kernel_rfl) (run_cut_hi (s := text) (b := min text.size 1000) (by kernel_rfl) (by kernel_rfl) (Nat.min_le_left _ _)) ?_
  refine wl_val (.string (cutK text)) (by kernel_rfl) (by kernel_rfl) ?_
  refine wl_nil ?_
  refine then_at (F := ⟨(.string key :: .string nonce :: .string (cutK text) :: un :: un :: un :: .bool false :: un :: un :: un :: un :: .string text :: .string text :: iN .i64 text.size :: iN .i64 (min text.size 1000) :: .string (cutK text) :: List.replicate 25 un).toArray, []⟩) (by kernel_rfl) ?_
  refine wp_seq ?_
  rcases (by by_cases hk : key.size = 32 <;> by_cases hb : nonce.size = 12 <;> simp [hk, hb] : (key.size = 32 ∧ nonce.size = 12) ∨ key.size ≠ 32 ∨ (key.size = 32 ∧ nonce.size ≠ 12)) with ⟨hk, hn⟩ | hk | ⟨hk, hn⟩
  · -- region 2
    refine wl_region ?_
    refine wl_val (.string key) (by kernel_rfl) (by kernel_rfl) ?_
    refine wl_val (.string nonce) (by kernel_rfl) (by kernel_rfl) ?_
    refine wl_val (.string (cutK text)) (by kernel_rfl) (by kernel_rfl) ?_
    refine wl_call (v := .tuple #[.string (ctrS key nonce (cutK text)), iN .i64 0]) H0 (by kernel_rfl) enter11 #[.string key, .string nonce, .string (cutK text)] (by kernel_rfl) (Ctr_yes key nonce (cutK text) hk hn (by have := cutK_size text; omega) w) ?_
    intro w1 h2
    refine wl_val (.tuple #[.string (ctrS key nonce (cutK text)), iN .i64 0]) (by kernel_rfl) (by kernel_rfl) ?_
    refine wl_val (.string (ctrS key nonce (cutK text))) (by kernel_rfl) (by kernel_rfl) ?_
    refine wl_val (iN .i64 0) (by kernel_rfl) (by kernel_rfl) ?_
    refine wl_val (.string (ctrS key nonce (cutK text))) (by kernel_rfl) (by kernel_rfl) ?_
    refine wl_val (iN .i64 0) (by kernel_rfl) (by kernel_rfl) ?_
    refine wl_nil ?_
    refine then_at (F := ⟨(.string key :: .string nonce :: .string (cutK text) :: un :: un :: un :: .bool false :: .string (ctrS key nonce (cutK text)) :: iN .i64 0 :: un :: un :: .string text :: .string text :: iN .i64 text.size :: iN .i64 (min text.size 1000) :: .string (cutK text) :: .tuple #[.string (ctrS key nonce (cutK text)), iN .i64 0] :: .string key :: .string nonce :: .string (cutK text) :: .tuple #[.string (ctrS key nonce (cutK text)), iN .i64 0] :: .string (ctrS key nonce (cutK text)) :: iN .i64 0 :: List.replicate 18 un).toArray, []⟩) (by kernel_rfl) ?_
    refine wp_seq ?_
    -- region 3
    refine wl_region ?_
    refine wl_val (.string key) (by kernel_rfl) (by kernel_rfl) ?_
    refine wl_val (.string nonce) (by kernel_rfl) (by kernel_rfl) ?_
    refine wl_val (.string (cutK text)) (by kernel_rfl) (by kernel_rfl) ?_
    refine wl_call (v := .tuple #[.string (ctrS key nonce (cutK text)), iN .i64 0]) h2 (by kernel_rfl) enter12 #[.string key, .string nonce, .string (cutK text)] (by kernel_rfl) (RCtr_yes key nonce (cutK text) hk hn (by have := cutK_size text; omega) w1) ?_
    intro w3 h4
    refine wl_val (.tuple #[.string (ctrS key nonce (cutK text)), iN .i64 0]) (by kernel_rfl) (by kernel_rfl) ?_
    refine wl_val (.string (ctrS key nonce (cutK text))) (by kernel_rfl) (by kernel_rfl) ?_
    refine wl_val (iN .i64 0) (by kernel_rfl) (by kernel_rfl) ?_
    refine wl_val (.string (ctrS key nonce (cutK text))) (by kernel_rfl) (by kernel_rfl) ?_
    refine wl_val (iN .i64 0) (by kernel_rfl) (by kernel_rfl) ?_
    refine wl_nil ?_
    refine then_at (F := ⟨(.string key :: .string nonce :: .string (cutK text) :: un :: un :: un :: .bool false :: .string (ctrS key nonce (cutK text)) :: iN .i64 0 :: .string (ctrS key nonce (cutK text)) :: iN .i64 0 :: .string text :: .string text :: iN .i64 text.size :: iN .i64 (min text.size 1000) :: .string (cutK text) :: .tuple #[.string (ctrS key nonce (cutK text)), iN .i64 0] :: .string key :: .string nonce :: .string (cutK text) :: .tuple #[.string (ctrS key nonce (cutK text)), iN .i64 0] :: .string (ctrS key nonce (cutK text)) :: iN .i64 0 :: .tuple #[.string (ctrS key nonce (cutK text)), iN .i64 0] :: .string key :: .string nonce :: .string (cutK text) :: .tuple #[.string (ctrS key nonce (cutK text)), iN .i64 0] :: .string (ctrS key nonce (cutK text)) :: iN .i64 0 :: List.replicate 11 un).toArray, []⟩) (by kernel_rfl) ?_
    refine wp_seq ?_
    -- region 4
    refine wl_region ?_
    refine wl_val (.string (ctrS key nonce (cutK text))) (by kernel_rfl) (by kernel_rfl) ?_
    refine wl_val (.string (ctrS key nonce (cutK text))) (by kernel_rfl) (by kernel_rfl) ?_
    refine wl_val (.bool true) (by kernel_rfl) (run_eqs (s := ctrS key nonce (cutK text)) (t := ctrS key nonce (cutK text)) (by kernel_rfl) (by kernel_rfl) true (decide_eq_true rfl)) ?_
    refine wl_val (.bool true) (by kernel_rfl) (by kernel_rfl) ?_
    refine wl_val (iN .i64 0) (by kernel_rfl) (by kernel_rfl) ?_
    refine wl_val (iN .i64 0) (by kernel_rfl) (by kernel_rfl) ?_
    refine wl_val (.bool true) (by kernel_rfl) (run_eqi (k := .i64) (a := 0) (b := 0) (by kernel_rfl) (by kernel_rfl) true (by decide)) ?_
    refine wl_val (.bool true) (by kernel_rfl) (by kernel_rfl) ?_
    refine wl_val (.bool true) (by kernel_rfl) (by kernel_rfl) ?_
    refine wl_call (v := .bool true) h4 (by kernel_rfl) enter10 #[] (by kernel_rfl) (works_any w3) ?_
    intro w5 h6
    refine wl_val (.bool true) (by kernel_rfl) (by kernel_rfl) ?_
    refine wl_val (.bool true) (by kernel_rfl) (by kernel_rfl) ?_
    refine wl_nil ?_
    refine then_at (F := ⟨(.string key :: .string nonce :: .string (cutK text) :: un :: un :: un :: .bool true :: .string (ctrS key nonce (cutK text)) :: iN .i64 0 :: .string (ctrS key nonce (cutK text)) :: iN .i64 0 :: .string text :: .string text :: iN .i64 text.size :: iN .i64 (min text.size 1000) :: .string (cutK text) :: .tuple #[.string (ctrS key nonce (cutK text)), iN .i64 0] :: .string key :: .string nonce :: .string (cutK text) :: .tuple #[.string (ctrS key nonce (cutK text)), iN .i64 0] :: .string (ctrS key nonce (cutK text)) :: iN .i64 0 :: .tuple #[.string (ctrS key nonce (cutK text)), iN .i64 0] :: .string key :: .string nonce :: .string (cutK text) :: .tuple #[.string (ctrS key nonce (cutK text)), iN .i64 0] :: .string (ctrS key nonce (cutK text)) :: iN .i64 0 :: .string (ctrS key nonce (cutK text)) :: .string (ctrS key nonce (cutK text)) :: .bool true :: .bool true :: iN .i64 0 :: iN .i64 0 :: .bool true :: .bool true :: .bool true :: .bool true :: .bool true :: List.replicate 0 un).toArray, []⟩) (by kernel_rfl) ?_
    refine wp_ret ?_
    repeat first | refine then_ret ?_ | refine block_ret ?_
    exact bodyPost_ret (v := .bool true) (by kernel_rfl) rfl ⟨rfl, h6.old⟩
  · -- region 2
    refine wl_region ?_
    refine wl_val (.string key) (by kernel_rfl) (by kernel_rfl) ?_
    refine wl_val (.string nonce) (by kernel_rfl) (by kernel_rfl) ?_
    refine wl_val (.string (cutK text)) (by kernel_rfl) (by kernel_rfl) ?_
    refine wl_call (v := .tuple #[.string ({ data := #[] }), iN .i64 8]) H0 (by kernel_rfl) enter11 #[.string key, .string nonce, .string (cutK text)] (by kernel_rfl) (Ctr_no1 key nonce (cutK text) hk w) ?_
    intro w7 h8
    refine wl_val (.tuple #[.string ({ data := #[] }), iN .i64 8]) (by kernel_rfl) (by kernel_rfl) ?_
    refine wl_val (.string ({ data := #[] })) (by kernel_rfl) (by kernel_rfl) ?_
    refine wl_val (iN .i64 8) (by kernel_rfl) (by kernel_rfl) ?_
    refine wl_val (.string ({ data := #[] })) (by kernel_rfl) (by kernel_rfl) ?_
    refine wl_val (iN .i64 8) (by kernel_rfl) (by kernel_rfl) ?_
    refine wl_nil ?_
    refine then_at (F := ⟨(.string key :: .string nonce :: .string (cutK text) :: un :: un :: un :: .bool false :: .string ({ data := #[] }) :: iN .i64 8 :: un :: un :: .string text :: .string text :: iN .i64 text.size :: iN .i64 (min text.size 1000) :: .string (cutK text) :: .tuple #[.string ({ data := #[] }), iN .i64 8] :: .string key :: .string nonce :: .string (cutK text) :: .tuple #[.string ({ data := #[] }), iN .i64 8] :: .string ({ data := #[] }) :: iN .i64 8 :: List.replicate 18 un).toArray, []⟩) (by kernel_rfl) ?_
    refine wp_seq ?_
    -- region 3
    refine wl_region ?_
    refine wl_val (.string key) (by kernel_rfl) (by kernel_rfl) ?_
    refine wl_val (.string nonce) (by kernel_rfl) (by kernel_rfl) ?_
    refine wl_val (.string (cutK text)) (by kernel_rfl) (by kernel_rfl) ?_
    refine wl_call (v := .tuple #[.string ({ data := #[] }), iN .i64 8]) h8 (by kernel_rfl) enter12 #[.string key, .string nonce, .string (cutK text)] (by kernel_rfl) (RCtr_no1 key nonce (cutK text) hk w7) ?_
    intro w9 h10
    refine wl_val (.tuple #[.string ({ data := #[] }), iN .i64 8]) (by kernel_rfl) (by kernel_rfl) ?_
    refine wl_val (.string ({ data := #[] })) (by kernel_rfl) (by kernel_rfl) ?_
    refine wl_val (iN .i64 8) (by kernel_rfl) (by kernel_rfl) ?_
    refine wl_val (.string ({ data := #[] })) (by kernel_rfl) (by kernel_rfl) ?_
    refine wl_val (iN .i64 8) (by kernel_rfl) (by kernel_rfl) ?_
    refine wl_nil ?_
    refine then_at (F := ⟨(.string key :: .string nonce :: .string (cutK text) :: un :: un :: un :: .bool false :: .string ({ data := #[] }) :: iN .i64 8 :: .string ({ data := #[] }) :: iN .i64 8 :: .string text :: .string text :: iN .i64 text.size :: iN .i64 (min text.size 1000) :: .string (cutK text) :: .tuple #[.string ({ data := #[] }), iN .i64 8] :: .string key :: .string nonce :: .string (cutK text) :: .tuple #[.string ({ data := #[] }), iN .i64 8] :: .string ({ data := #[] }) :: iN .i64 8 :: .tuple #[.string ({ data := #[] }), iN .i64 8] :: .string key :: .string nonce :: .string (cutK text) :: .tuple #[.string ({ data := #[] }), iN .i64 8] :: .string ({ data := #[] }) :: iN .i64 8 :: List.replicate 11 un).toArray, []⟩) (by kernel_rfl) ?_
    refine wp_seq ?_
    -- region 4
    refine wl_region ?_
    refine wl_val (.string ({ data := #[] })) (by kernel_rfl) (by kernel_rfl) ?_
    refine wl_val (.string ({ data := #[] })) (by kernel_rfl) (by kernel_rfl) ?_
    refine wl_val (.bool true) (by kernel_rfl) (run_eqs (s := { data := #[] }) (t := { data := #[] }) (by kernel_rfl) (by kernel_rfl) true (decide_eq_true rfl)) ?_
    refine wl_val (.bool true) (by kernel_rfl) (by kernel_rfl) ?_
    refine wl_val (iN .i64 8) (by kernel_rfl) (by kernel_rfl) ?_
    refine wl_val (iN .i64 8) (by kernel_rfl) (by kernel_rfl) ?_
    refine wl_val (.bool true) (by kernel_rfl) (run_eqi (k := .i64) (a := 8) (b := 8) (by kernel_rfl) (by kernel_rfl) true (by decide)) ?_
    refine wl_val (.bool true) (by kernel_rfl) (by kernel_rfl) ?_
    refine wl_val (.bool true) (by kernel_rfl) (by kernel_rfl) ?_
    refine wl_call (v := .bool true) h10 (by kernel_rfl) enter10 #[] (by kernel_rfl) (works_any w9) ?_
    intro w11 h12
    refine wl_val (.bool true) (by kernel_rfl) (by kernel_rfl) ?_
    refine wl_val (.bool true) (by kernel_rfl) (by kernel_rfl) ?_
    refine wl_nil ?_
    refine then_at (F := ⟨(.string key :: .string nonce :: .string (cutK text) :: un :: un :: un :: .bool true :: .string ({ data := #[] }) :: iN .i64 8 :: .string ({ data := #[] }) :: iN .i64 8 :: .string text :: .string text :: iN .i64 text.size :: iN .i64 (min text.size 1000) :: .string (cutK text) :: .tuple #[.string ({ data := #[] }), iN .i64 8] :: .string key :: .string nonce :: .string (cutK text) :: .tuple #[.string ({ data := #[] }), iN .i64 8] :: .string ({ data := #[] }) :: iN .i64 8 :: .tuple #[.string ({ data := #[] }), iN .i64 8] :: .string key :: .string nonce :: .string (cutK text) :: .tuple #[.string ({ data := #[] }), iN .i64 8] :: .string ({ data := #[] }) :: iN .i64 8 :: .string ({ data := #[] }) :: .string ({ data := #[] }) :: .bool true :: .bool true :: iN .i64 8 :: iN .i64 8 :: .bool true :: .bool true :: .bool true :: .bool true :: .bool true :: List.replicate 0 un).toArray, []⟩) (by kernel_rfl) ?_
    refine wp_ret ?_
    repeat first | refine then_ret ?_ | refine block_ret ?_
    exact bodyPost_ret (v := .bool true) (by kernel_rfl) rfl ⟨rfl, h12.old⟩
  · -- region 2
    refine wl_region ?_
    refine wl_val (.string key) (by kernel_rfl) (by kernel_rfl) ?_
    refine wl_val (.string nonce) (by kernel_rfl) (by kernel_rfl) ?_
    refine wl_val (.string (cutK text)) (by kernel_rfl) (by kernel_rfl) ?_
    refine wl_call (v := .tuple #[.string ({ data := #[] }), iN .i64 2]) H0 (by kernel_rfl) enter11 #[.string key, .string nonce, .string (cutK text)] (by kernel_rfl) (Ctr_no2 key nonce (cutK text) hk hn w) ?_
    intro w13 h14
    refine wl_val (.tuple #[.string ({ data := #[] }), iN .i64 2]) (by kernel_rfl) (by kernel_rfl) ?_
    refine wl_val (.string ({ data := #[] })) (by kernel_rfl) (by kernel_rfl) ?_
    refine wl_val (iN .i64 2) (by kernel_rfl) (by kernel_rfl) ?_
    refine wl_val (.string ({ data := #[] })) (by kernel_rfl) (by kernel_rfl) ?_
    refine wl_val (iN .i64 2) (by kernel_rfl) (by kernel_rfl) ?_
    refine wl_nil ?_
    refine then_at (F := ⟨(.string key :: .string nonce :: .string (cutK text) :: un :: un :: un :: .bool false :: .string ({ data := #[] }) :: iN .i64 2 :: un :: un :: .string text :: .string text :: iN .i64 text.size :: iN .i64 (min text.size 1000) :: .string (cutK text) :: .tuple #[.string ({ data := #[] }), iN .i64 2] :: .string key :: .string nonce :: .string (cutK text) :: .tuple #[.string ({ data := #[] }), iN .i64 2] :: .string ({ data := #[] }) :: iN .i64 2 :: List.replicate 18 un).toArray, []⟩) (by kernel_rfl) ?_
    refine wp_seq ?_
    -- region 3
    refine wl_region ?_
    refine wl_val (.string key) (by kernel_rfl) (by kernel_rfl) ?_
    refine wl_val (.string nonce) (by kernel_rfl) (by kernel_rfl) ?_
    refine wl_val (.string (cutK text)) (by kernel_rfl) (by kernel_rfl) ?_
    refine wl_call (v := .tuple #[.string ({ data := #[] }), iN .i64 2]) h14 (by kernel_rfl) enter12 #[.string key, .string nonce, .string (cutK text)] (by kernel_rfl) (RCtr_no2 key nonce (cutK text) hk hn w13) ?_
    intro w15 h16
    refine wl_val (.tuple #[.string ({ data := #[] }), iN .i64 2]) (by kernel_rfl) (by kernel_rfl) ?_
    refine wl_val (.string ({ data := #[] })) (by kernel_rfl) (by kernel_rfl) ?_
    refine wl_val (iN .i64 2) (by kernel_rfl) (by kernel_rfl) ?_
    refine wl_val (.string ({ data := #[] })) (by kernel_rfl) (by kernel_rfl) ?_
    refine wl_val (iN .i64 2) (by kernel_rfl) (by kernel_rfl) ?_
    refine wl_nil ?_
    refine then_at (F := ⟨(.string key :: .string nonce :: .string (cutK text) :: un :: un :: un :: .bool false :: .string ({ data := #[] }) :: iN .i64 2 :: .string ({ data := #[] }) :: iN .i64 2 :: .string text :: .string text :: iN .i64 text.size :: iN .i64 (min text.size 1000) :: .string (cutK text) :: .tuple #[.string ({ data := #[] }), iN .i64 2] :: .string key :: .string nonce :: .string (cutK text) :: .tuple #[.string ({ data := #[] }), iN .i64 2] :: .string ({ data := #[] }) :: iN .i64 2 :: .tuple #[.string ({ data := #[] }), iN .i64 2] :: .string key :: .string nonce :: .string (cutK text) :: .tuple #[.string ({ data := #[] }), iN .i64 2] :: .string ({ data := #[] }) :: iN .i64 2 :: List.replicate 11 un).toArray, []⟩) (by kernel_rfl) ?_
    refine wp_seq ?_
    -- region 4
    refine wl_region ?_
    refine wl_val (.string ({ data := #[] })) (by kernel_rfl) (by kernel_rfl) ?_
    refine wl_val (.string ({ data := #[] })) (by kernel_rfl) (by kernel_rfl) ?_
    refine wl_val (.bool true) (by kernel_rfl) (run_eqs (s := { data := #[] }) (t := { data := #[] }) (by kernel_rfl) (by kernel_rfl) true (decide_eq_true rfl)) ?_
    refine wl_val (.bool true) (by kernel_rfl) (by kernel_rfl) ?_
    refine wl_val (iN .i64 2) (by kernel_rfl) (by kernel_rfl) ?_
    refine wl_val (iN .i64 2) (by kernel_rfl) (by kernel_rfl) ?_
    refine wl_val (.bool true) (by kernel_rfl) (run_eqi (k := .i64) (a := 2) (b := 2) (by kernel_rfl) (by kernel_rfl) true (by decide)) ?_
    refine wl_val (.bool true) (by kernel_rfl) (by kernel_rfl) ?_
    refine wl_val (.bool true) (by kernel_rfl) (by kernel_rfl) ?_
    refine wl_call (v := .bool true) h16 (by kernel_rfl) enter10 #[] (by kernel_rfl) (works_any w15) ?_
    intro w17 h18
    refine wl_val (.bool true) (by kernel_rfl) (by kernel_rfl) ?_
    refine wl_val (.bool true) (by kernel_rfl) (by kernel_rfl) ?_
    refine wl_nil ?_
    refine then_at (F := ⟨(.string key :: .string nonce :: .string (cutK text) :: un :: un :: un :: .bool true :: .string ({ data := #[] }) :: iN .i64 2 :: .string ({ data := #[] }) :: iN .i64 2 :: .string text :: .string text :: iN .i64 text.size :: iN .i64 (min text.size 1000) :: .string (cutK text) :: .tuple #[.string ({ data := #[] }), iN .i64 2] :: .string key :: .string nonce :: .string (cutK text) :: .tuple #[.string ({ data := #[] }), iN .i64 2] :: .string ({ data := #[] }) :: iN .i64 2 :: .tuple #[.string ({ data := #[] }), iN .i64 2] :: .string key :: .string nonce :: .string (cutK text) :: .tuple #[.string ({ data := #[] }), iN .i64 2] :: .string ({ data := #[] }) :: iN .i64 2 :: .string ({ data := #[] }) :: .string ({ data := #[] }) :: .bool true :: .bool true :: iN .i64 2 :: iN .i64 2 :: .bool true :: .bool true :: .bool true :: .bool true :: .bool true :: List.replicate 0 un).toArray, []⟩) (by kernel_rfl) ?_
    refine wp_ret ?_
    repeat first | refine then_ret ?_ | refine block_ret ?_
    exact bodyPost_ret (v := .bool true) (by kernel_rfl) rfl ⟨rfl, h18.old⟩
end Go.Proofs.Ythljhhhjdajfhaa
