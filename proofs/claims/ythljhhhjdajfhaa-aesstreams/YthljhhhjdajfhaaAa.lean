/-
  Texts of the laws: numbers, what is brought to its length, 0 to 31.
-/
import Derived.Test.YthljhhhjdajfhaaA9
namespace Go.Proofs.Ythljhhhjdajfhaa
open Go.RowKit

section
variable {ops : Array Oper} {Q : Exit → Act → World → Prop} {a : Act} {w w0 : World} {L : List (Nat × TypeId × Array Value)} {rest : List Oper} {dst : Option Tmp} {ty : TypeId} {pos : String} {aft : Array Edge} {gd : Option (Nat × Bool)} {x y : Operand}
theorem wl_apps {q m c : Nat} {l l' : List UInt8} {s : ByteArray} (H : HA w0 L w) (i : Nat) (hi : L[i]? = some (q, 5, bc l))
    (hw : Region.wanted ⟨dst, .call { callee := .builtin .append, args := #[x, y], argTypes := #[31, 9] }, ty, pos, aft, gd⟩ (yielded ops a.tmps) = true)
    (hx : a.eval x = .slice (some ⟨q, 0, none⟩) m c) (hy : a.eval y = .string s) (hroom : m + s.size ≤ c) (hl : l.length = c) (he : laidOn l m (bl s) = l')
    (h : ∀ w', HA w0 (L.set i (q, 5, bc l')) w' → WL Try.prog ops Q rest (a.put dst (.slice (some ⟨q, 0, none⟩) (m + s.size) c)) w') :
    WL Try.prog ops Q (⟨dst, .call { callee := .builtin .append, args := #[x, y], argTypes := #[31, 9] }, ty, pos, aft, gd⟩ :: rest) a w := by
  refine ⟨?_⟩
  unfold wpList
  rw [if_pos hw]
  refine .inl ?_
  unfold Oper.wp
  rw [run_apps hx hy (H.get i hi) hroom hl]
  have hp := H.part i hi (o := m) (vs := (bl s).map by8) (by rw [List.length_map, bc_size, bl_len]; show m + s.size ≤ l.length; omega)
  rw [laid_bc, he] at hp
  exact (h _ hp).out
end
theorem laid_first (n : List UInt8) (m : Nat) : laidOn (List.replicate (n.length + m) 0) 0 n = n ++ List.replicate m 0 := by
  unfold laidOn
  rw [List.take_zero, List.nil_append, Nat.zero_add, List.drop_replicate]
  congr 2
  omega
/-- a text of just so many bytes -/
def brS (s : ByteArray) (n : Nat) : ByteArray := s.extract 0 (min s.size n) ++ ⟨(List.replicate (n - (s.extract 0 (min s.size n)).size) 0).toArray⟩
theorem brS_size (s : ByteArray) (n : Nat) : (brS s n).size = n := by
  have e : (⟨(List.replicate (n - (s.extract 0 (min s.size n)).size) 0).toArray⟩ : ByteArray).size = n - (s.extract 0 (min s.size n)).size := by show (List.replicate _ _).toArray.size = _; rw [List.size_toArray, List.length_replicate]
  unfold brS
  rw [ByteArray.size_append, e, extract_size _ _ (Nat.min_le_left _ _)]
  omega

set_option linter.unusedVariables false in
set_option maxRecDepth 100000 in
set_option maxHeartbeats 2000000 in
theorem brought_any (s : ByteArray) (n : Nat) (hn : n ≤ 1000) (w : World) :
    Calls Try.prog 13 #[.string s, iN .i64 n] w fun e w' => e = .returned (.string (brS s n)) ∧ Below w.heap.size w w' := by
  have ex := extract_size s (min s.size n) (Nat.min_le_left _ _)
  have eb : (⟨(List.replicate (n - (s.extract 0 (min s.size n)).size) 0).toArray⟩ : ByteArray).size = n - (s.extract 0 (min s.size n)).size := by
    show (List.replicate _ _).toArray.size = _
    rw [List.size_toArray, List.length_replicate]
  have H0 := HA.start w
  go_enter Try.func13, Try.ntmps13
  refine wp_seq ?_
  -- region 0
  refine wl_region ?_
  refine wl_val (.string { data := #[] }) (by kernel_rfl) (by kernel_rfl) ?_
  refine wl_nil ?_
  refine then_at (F := ⟨(.string s :: iN .i64 n :: un :: un :: .string { data := #[] } :: List.replicate 14 un).toArray, []⟩) (by kernel_rfl) ?_
  refine wp_seq ?_
  -- region 1
  refine wl_region ?_
  refine wl_val (.string s) (by kernel_rfl) (by kernel_rfl) ?_
  refine wl_val (.string s) (by kernel_rfl) (by kernel_rfl) ?_
  refine wl_val (iN .i64 s.size) (by kernel_rfl) (run_len (s := s) (by kernel_rfl)) ?_
  refine wl_val (iN .i64 n) (by kernel_rfl) (by kernel_rfl) ?_
  refine wl_val (iN .i64 (min s.size n)) (by kernel_rfl) (run_min (i := s.size) (j := n) (by kernel_rfl) (by kernel_rfl)) ?_
  refine wl_val (.string (s.extract 0 (min s.size n))) (by kernel_rfl) (run_cut_hi (s := s) (b := min s.size n) (by kernel_rfl) (by kernel_rfl) (Nat.min_le_left _ _)) ?_
  refine wl_val (.string (s.extract 0 (min s.size n))) (by kernel_rfl) (by kernel_rfl) ?_
  refine wl_nil ?_
  refine then_at (F := ⟨(.string (s.extract 0 (min s.size n)) :: iN .i64 n :: un :: un :: .string { data := #[] } :: .string s :: .string s :: iN .i64 s.size :: iN .i64 n :: iN .i64 (min s.size n) :: .string (s.extract 0 (min s.size n)) :: List.replicate 8 un).toArray, []⟩) (by kernel_rfl) ?_
  refine wp_seq ?_
  -- region 2
  refine wl_region ?_
  refine wl_val (.string (s.extract 0 (min s.size n))) (by kernel_rfl) (by kernel_rfl) ?_
  refine wl_val (iN .i64 n) (by kernel_rfl) (by kernel_rfl) ?_
  refine wl_val (.string (s.extract 0 (min s.size n))) (by kernel_rfl) (by kernel_rfl) ?_
  refine wl_val (iN .i64 ((s.extract 0 (min s.size n)).size)) (by kernel_rfl) (run_len (s := s.extract 0 (min s.size n)) (by kernel_rfl)) ?_
  refine wl_val (iN .i64 (n - ((s.extract 0 (min s.size n)).size))) (by kernel_rfl) (run_sub (k := .i64) (a := n) (b := (s.extract 0 (min s.size n)).size) (by kernel_rfl) (by kernel_rfl) (by omega) (by simp only [top]; omega)) ?_
  refine wl_mks (n := n - ((s.extract 0 (min s.size n)).size)) (m := n - ((s.extract 0 (min s.size n)).size)) H0 5 (by kernel_rfl) (run_mk (k := .i64) (m := n - ((s.extract 0 (min s.size n)).size)) (c := n - ((s.extract 0 (min s.size n)).size)) (by kernel_rfl) (by kernel_rfl) (by omega) (by omega)) ?_
  intro q1 w2 h3
  refine wl_val (.string (⟨((List.replicate (n - ((s.extract 0 (min s.size n)).size)) 0).take (n - ((s.extract 0 (min s.size n)).size))).toArray⟩)) (by kernel_rfl) (run_textg (q := q1) (m := n - ((s.extract 0 (min s.size n)).size)) (c := n - ((s.extract 0 (min s.size n)).size)) (l := List.replicate (n - ((s.extract 0 (min s.size n)).size)) 0) (by kernel_rfl) (h3.get 0 rfl) (by rw [List.length_replicate]; omega)) ?_
  refine wl_val (.string (s.extract 0 (min s.size n) ++ ⟨((List.replicate (n - ((s.extract 0 (min s.size n)).size)) 0).take (n - ((s.extract 0 (min s.size n)).size))).toArray⟩)) (by kernel_rfl) (run_cat (s := s.extract 0 (min s.size n)) (t := ⟨((List.replicate (n - ((s.extract 0 (min s.size n)).size)) 0).take (n - ((s.extract 0 (min s.size n)).size))).toArray⟩) (by kernel_rfl) (by kernel_rfl) (by rw [List.take_of_length_le (by rw [List.length_replicate]; omega), eb, ex]; omega)) ?_
  refine wl_val (.string (s.extract 0 (min s.size n) ++ ⟨((List.replicate (n - ((s.extract 0 (min s.size n)).size)) 0).take (n - ((s.extract 0 (min s.size n)).size))).toArray⟩)) (by kernel_rfl) (by kernel_rfl) ?_
  refine wl_nil ?_
  refine then_at (F := ⟨(.string (s.extract 0 (min s.size n)) :: iN .i64 n :: un :: un :: .string (s.extract 0 (min s.size n) ++ ⟨((List.replicate (n - ((s.extract 0 (min s.size n)).size)) 0).take (n - ((s.extract 0 (min s.size n)).size))).toArray⟩) :: .string s :: .string s :: iN .i64 s.size :: iN .i64 n :: iN .i64 (min s.size n) :: .string (s.extract 0 (min s.size n)) :: .string (s.extract 0 (min s.size n)) :: iN .i64 n :: .string (s.extract 0 (min s.size n)) :: iN .i64 ((s.extract 0 (min s.size n)).size) :: iN .i64 (n - ((s.extract 0 (min s.size n)).size)) :: .slice (some ⟨q1, 0, none⟩) (n - ((s.extract 0 (min s.size n)).size)) (n - ((s.extract 0 (min s.size n)).size)) :: .string (⟨((List.replicate (n - ((s.extract 0 (min s.size n)).size)) 0).take (n - ((s.extract 0 (min s.size n)).size))).toArray⟩) :: .string (s.extract 0 (min s.size n) ++ ⟨((List.replicate (n - ((s.extract 0 (min s.size n)).size)) 0).take (n - ((s.extract 0 (min s.size n)).size))).toArray⟩) :: List.replicate 0 un).toArray, []⟩) (by kernel_rfl) ?_
  refine wp_ret ?_
  repeat first | refine then_ret ?_ | refine block_ret ?_
  exact bodyPost_ret (v := .string (s.extract 0 (min s.size n) ++ ⟨((List.replicate (n - ((s.extract 0 (min s.size n)).size)) 0).take (n - ((s.extract 0 (min s.size n)).size))).toArray⟩)) (by kernel_rfl) rfl ⟨by rw [List.take_of_length_le (by rw [List.length_replicate]; omega)]; rfl, h3.old⟩
theorem takepad {l r : List UInt8} {m : Nat} (h : l.length = m) : (l ++ r).take m = l := by subst h; exact List.take_left
theorem take_all2 {l : List UInt8} {n : Nat} (h : l.length = n) : l.take n = l := List.take_of_length_le (by omega)
def risL : Nat → List UInt8
  | 0 => []
  | k + 1 => risL k ++ [UInt8.ofNat k]
theorem risL_len : ∀ k, (risL k).length = k
  | 0 => rfl
  | k + 1 => by rw [risL, List.length_append, risL_len k]; rfl
theorem rb_len (k : Nat) (h : k ≤ 32) : (risL k ++ List.replicate (32 - k) 0).length = 32 := by rw [padb_len, risL_len]; omega
def ris : ByteArray := ⟨(risL 32).toArray⟩

set_option linter.unusedVariables false in
set_option maxRecDepth 100000 in
set_option maxHeartbeats 2000000 in
theorem rising_any (w : World) :
    Calls Try.prog 15 #[] w fun e w' => e = .returned (.string ris) ∧ Below w.heap.size w w' := by
  have H0 := HA.start w
  go_enter Try.func15, Try.ntmps15
  refine wp_seq ?_
  -- region 0
  refine wl_region ?_
  refine wl_val (.string { data := #[] }) (by kernel_rfl) (by kernel_rfl) ?_
  refine wl_nil ?_
  refine then_at (F := ⟨(.string { data := #[] } :: List.replicate 12 un).toArray, []⟩) (by kernel_rfl) ?_
  refine wp_seq ?_
  -- region 1
  refine wl_region ?_
  refine wl_make H0 56 (by kernel_rfl) run_alloc56 ?_
  intro q1 w2 h3
  refine wl_nil ?_
  refine then_at (F := ⟨(.string { data := #[] } :: pt q1 :: List.replicate 11 un).toArray, []⟩) (by kernel_rfl) ?_
  refine wp_seq ?_
  refine wp_seq ?_
  -- region 2
  refine wl_region ?_
  refine wl_val (iN .i64 0) (by kernel_rfl) (by kernel_rfl) ?_
  refine wl_nil ?_
  refine then_at (F := ⟨(.string { data := #[] } :: pt q1 :: iN .i64 0 :: List.replicate 10 un).toArray, []⟩) (by kernel_rfl) ?_
  refine wp_block ?_
  refine wp_count (fun k A w' => ∃ u4 : Nat → Value, A = ⟨(.string { data := #[] } :: pt q1 :: iN .i64 k :: u4 3 :: u4 4 :: u4 5 :: u4 6 :: u4 7 :: u4 8 :: u4 9 :: u4 10 :: List.replicate 2 un).toArray, []⟩ ∧ HA w [(q1, 56, bc (risL k ++ List.replicate (32 - k) 0))] w') 32 ?_ ?_ ?_
  · exact ⟨fun ii => (([(3, undef), (4, undef), (5, undef), (6, undef), (7, undef), (8, undef), (9, undef), (10, undef)] : List (Nat × Value)).find? (·.1 == ii)).elim undef (·.2), by kernel_rfl, h3⟩
  · rintro k hk _ w5 ⟨u4, rfl, h6⟩
    refine wp_seq ?_
    refine wp_seq ?_
    -- region 3
    refine wl_region ?_
    refine wl_val (iN .i64 k) (by kernel_rfl) (by kernel_rfl) ?_
    refine wl_val (.bool true) (by kernel_rfl) (run_lss (k := .i64) (a := k) (b := 32) (by kernel_rfl) (by kernel_rfl) true (decide_eq_true (by omega))) ?_
    refine wl_nil ?_
    refine then_at (F := ⟨(.string { data := #[] } :: pt q1 :: iN .i64 k :: iN .i64 k :: .bool true :: u4 5 :: u4 6 :: u4 7 :: u4 8 :: u4 9 :: u4 10 :: List.replicate 2 un).toArray, []⟩) (by kernel_rfl) ?_
    refine wp_cond_true (by kernel_rfl) ?_
    refine wp_skip ?_
    refine then_at (F := ⟨(.string { data := #[] } :: pt q1 :: iN .i64 k :: iN .i64 k :: .bool true :: u4 5 :: u4 6 :: u4 7 :: u4 8 :: u4 9 :: u4 10 :: List.replicate 2 un).toArray, []⟩) (by kernel_rfl) ?_
    refine wp_seq ?_
    refine wp_block ?_
    -- region 5
    refine wl_region ?_
    refine wl_val (iN .i64 k) (by kernel_rfl) (by kernel_rfl) ?_
    refine wl_val (iN .i64 k) (by kernel_rfl) (by kernel_rfl) ?_
    refine wl_val (by8 (UInt8.ofNat k)) (by kernel_rfl) (run_lown (a := k) (by kernel_rfl) Try.underlying3 Try.underlying5) ?_
    refine wl_val (.pointer (some ⟨q1, k, none⟩)) (by kernel_rfl) (addr_eq (by omega) (run_addr_k (k := .i64) (q := q1) (o := 0) (a := k) (m := 1) Try.underlying56 (fun w => Try.sizeOf5 w) (by kernel_rfl) (by kernel_rfl) (by omega))) ?_
    refine wl_put (k := .u8) (z := (((UInt8.ofNat k).toNat : Nat) : Int)) h6 0 rfl k (by rw [bc_size, (rb_len k (by omega))]; omega) (by kernel_rfl) (fun w => Try.sizeOf5 w) (by kernel_rfl) (by kernel_rfl) ?_
    intro w7 h8
    have h9 : HA w [(q1, 56, bc (risL (k + 1) ++ List.replicate (32 - (k + 1)) 0))] w7 := by
      have e : (bc (risL k ++ List.replicate (32 - k) 0)).setIfInBounds k (.int .u8 (((UInt8.ofNat k).toNat : Nat) : Int)) = bc (risL (k + 1) ++ List.replicate (32 - (k + 1)) 0) := (padb_put (risL k) (32 - k) (32 - (k + 1)) k (UInt8.ofNat k) (risL_len k) (by omega))
      rw [← e]; exact h8
    clear h8
    refine wl_nil ?_
    refine block_normal ?_
    refine then_at (F := ⟨(.string { data := #[] } :: pt q1 :: iN .i64 k :: iN .i64 k :: .bool true :: u4 5 :: u4 6 :: iN .i64 k :: iN .i64 k :: by8 (UInt8.ofNat k) :: .pointer (some ⟨q1, k, none⟩) :: List.replicate 2 un).toArray, []⟩) (by kernel_rfl) ?_
    -- region 4
    refine wl_region ?_
    refine wl_val (iN .i64 k) (by kernel_rfl) (by kernel_rfl) ?_
    refine wl_val (iN .i64 (k + 1)) (by kernel_rfl) (run_add (k := .i64) (a := k) (b := 1) (by kernel_rfl) (by kernel_rfl) (by simp only [top]; omega)) ?_
    refine wl_val (iN .i64 (k + 1)) (by kernel_rfl) (by kernel_rfl) ?_
    refine wl_nil ?_
    exact then_I ⟨fun ii => (([(3, iN .i64 k), (4, .bool true), (5, iN .i64 k), (6, iN .i64 (k + 1)), (7, iN .i64 k), (8, iN .i64 k), (9, by8 (UInt8.ofNat k)), (10, .pointer (some ⟨q1, k, none⟩))] : List (Nat × Value)).find? (·.1 == ii)).elim undef (·.2), by kernel_rfl, h9⟩
  · rintro _ w10 ⟨u4, rfl, h11⟩
    refine wp_seq ?_
    refine wp_seq ?_
    -- region 3
    refine wl_region ?_
    refine wl_val (iN .i64 32) (by kernel_rfl) (by kernel_rfl) ?_
    refine wl_val (.bool false) (by kernel_rfl) (run_lss (k := .i64) (a := 32) (b := 32) (by kernel_rfl) (by kernel_rfl) false (by decide)) ?_
    refine wl_nil ?_
    refine then_at (F := ⟨(.string { data := #[] } :: pt q1 :: iN .i64 32 :: iN .i64 32 :: .bool false :: u4 5 :: u4 6 :: u4 7 :: u4 8 :: u4 9 :: u4 10 :: List.replicate 2 un).toArray, []⟩) (by kernel_rfl) ?_
    refine wp_cond_false (by kernel_rfl) ?_
    refine wp_exit ?_
    repeat first | refine then_exit ?_ | refine block_exit ?_ | refine block_exit_ne (by decide) ?_
    refine then_at (F := ⟨(.string { data := #[] } :: pt q1 :: iN .i64 32 :: iN .i64 32 :: .bool false :: u4 5 :: u4 6 :: u4 7 :: u4 8 :: u4 9 :: u4 10 :: List.replicate 2 un).toArray, []⟩) (by kernel_rfl) ?_
    refine wp_seq ?_
    -- region 6
    refine wl_region ?_
    refine wl_val (.slice (some ⟨q1, 0, none⟩) 32 32) (by kernel_rfl) (run_cutA56 (q := q1) (by kernel_rfl)) ?_
    refine wl_val (.string (⟨((risL 32 ++ List.replicate (32 - 32) 0).take 32).toArray⟩)) (by kernel_rfl) (run_textg (q := q1) (m := 32) (c := 32) (l := risL 32 ++ List.replicate (32 - 32) 0) (by kernel_rfl) (h11.get 0 rfl) (by rw [(rb_len 32 (by omega))]; decide)) ?_
    refine wl_val (.string (⟨((risL 32 ++ List.replicate (32 - 32) 0).take 32).toArray⟩)) (by kernel_rfl) (by kernel_rfl) ?_
    refine wl_nil ?_
    refine then_at (F := ⟨(.string (⟨((risL 32 ++ List.replicate (32 - 32) 0).take 32).toArray⟩) :: pt q1 :: iN .i64 32 :: iN .i64 32 :: .bool false :: u4 5 :: u4 6 :: u4 7 :: u4 8 :: u4 9 :: u4 10 :: .slice (some ⟨q1, 0, none⟩) 32 32 :: .string (⟨((risL 32 ++ List.replicate (32 - 32) 0).take 32).toArray⟩) :: List.replicate 0 un).toArray, []⟩) (by kernel_rfl) ?_
    refine wp_ret ?_
    repeat first | refine then_ret ?_ | refine block_ret ?_
    exact bodyPost_ret (v := .string (⟨((risL 32 ++ List.replicate (32 - 32) 0).take 32).toArray⟩)) (by kernel_rfl) rfl ⟨by rw [take_all2 (rb_len 32 (by omega))]; rfl, h11.old⟩

def p4 (s : ByteArray) (n : Nat) : List UInt8 := (((bl s ++ [UInt8.ofNat (n / 2 ^ 24)]) ++ [UInt8.ofNat (n / 2 ^ 16)]) ++ [UInt8.ofNat (n / 2 ^ 8)]) ++ [UInt8.ofNat (n / 2 ^ 0)]
def putS (s : ByteArray) (n : Nat) : ByteArray := ⟨(p4 s n).toArray⟩
theorem p4_len (s : ByteArray) (n : Nat) : (p4 s n).length = s.size + 4 := by unfold p4; simp only [List.length_append, List.length_singleton, bl_len]
theorem pl1 (s : ByteArray) (n : Nat) : ((bl s) ++ [UInt8.ofNat (n / 2 ^ 24)]).length = s.size + 1 := by rw [List.length_append, bl_len]; rfl
theorem pl2 (s : ByteArray) (n : Nat) : (((bl s) ++ [UInt8.ofNat (n / 2 ^ 24)]) ++ [UInt8.ofNat (n / 2 ^ 16)]).length = s.size + 2 := by rw [List.length_append, pl1]; rfl
theorem pl3 (s : ByteArray) (n : Nat) : ((((bl s) ++ [UInt8.ofNat (n / 2 ^ 24)]) ++ [UInt8.ofNat (n / 2 ^ 16)]) ++ [UInt8.ofNat (n / 2 ^ 8)]).length = s.size + 3 := by rw [List.length_append, pl2]; rfl
theorem pl4 (s : ByteArray) (n : Nat) : (((((bl s) ++ [UInt8.ofNat (n / 2 ^ 24)]) ++ [UInt8.ofNat (n / 2 ^ 16)]) ++ [UInt8.ofNat (n / 2 ^ 8)]) ++ [UInt8.ofNat (n / 2 ^ 0)]).length = s.size + 4 := by rw [List.length_append, pl3]; rfl
theorem pb_len {l : List UInt8} {m c : Nat} (h : l.length = m) (hm : m ≤ c) : (l ++ List.replicate (c - m) 0).length = c := by rw [padb_len, h]; omega

set_option linter.unusedVariables false in
set_option maxRecDepth 100000 in
set_option maxHeartbeats 2000000 in
theorem PutNumber_4 (s : ByteArray) (n : Nat) (hs : s.size ≤ 1000) (hn : n < 18446744073709551616) (w : World) :
    Calls Try.prog 14 #[.string s, iN .i64 4, iN .u64 n] w fun e w' => e = .returned (.string (putS s n)) ∧ Below w.heap.size w w' := by
  have H0 := HA.start w
  go_enter Try.func14, Try.ntmps14
  refine wp_seq ?_
  -- region 0
  refine wl_region ?_
  refine wl_val (.string { data := #[] }) (by kernel_rfl) (by kernel_rfl) ?_
  refine wl_nil ?_
  refine then_at (F := ⟨(.string s :: iN .i64 4 :: iN .u64 n :: un :: un :: un :: .string { data := #[] } :: List.replicate 30 un).toArray, []⟩) (by kernel_rfl) ?_
  refine wp_seq ?_
  -- region 1
  refine wl_region ?_
  refine wl_val (iN .i64 4) (by kernel_rfl) (by kernel_rfl) ?_
  refine wl_val (iN .i64 4) (by kernel_rfl) (by kernel_rfl) ?_
  refine wl_val (iN .i64 4) (by kernel_rfl) (by kernel_rfl) ?_
  refine wl_val (iN .i64 4) (by kernel_rfl) (by kernel_rfl) ?_
  refine wl_nil ?_
  refine then_at (F := ⟨(.string s :: iN .i64 4 :: iN .u64 n :: un :: un :: un :: .string { data := #[] } :: iN .i64 4 :: un :: un :: iN .i64 4 :: iN .i64 4 :: iN .i64 4 :: List.replicate 24 un).toArray, []⟩) (by kernel_rfl) ?_
  refine wp_seq ?_
  -- region 2
  refine wl_region ?_
  refine wl_val (.string s) (by kernel_rfl) (by kernel_rfl) ?_
  refine wl_val (iN .i64 s.size) (by kernel_rfl) (run_len (s := s) (by kernel_rfl)) ?_
  refine wl_val (iN .i64 4) (by kernel_rfl) (by kernel_rfl) ?_
  refine wl_val (iN .i64 (s.size + 4)) (by kernel_rfl) (run_add (k := .i64) (a := s.size) (b := 4) (by kernel_rfl) (by kernel_rfl) (by simp only [top]; omega)) ?_
  refine wl_mks (n := 0) (m := s.size + 4) H0 5 (by kernel_rfl) (run_mk (k := .i64) (m := 0) (c := s.size + 4) (by kernel_rfl) (by kernel_rfl) (by omega) (by omega)) ?_
  intro q1 w2 h3
  refine wl_val (.slice (some ⟨q1, 0, none⟩) 0 (s.size + 4)) (by kernel_rfl) (by kernel_rfl) ?_
  refine wl_nil ?_
  refine then_at (F := ⟨(.string s :: iN .i64 4 :: iN .u64 n :: un :: un :: un :: .string { data := #[] } :: iN .i64 4 :: .slice (some ⟨q1, 0, none⟩) 0 (s.size + 4) :: un :: iN .i64 4 :: iN .i64 4 :: iN .i64 4 :: .string s :: iN .i64 s.size :: iN .i64 4 :: iN .i64 (s.size + 4) :: .slice (some ⟨q1, 0, none⟩) 0 (s.size + 4) :: List.replicate 19 un).toArray, []⟩) (by kernel_rfl) ?_
  refine wp_seq ?_
  -- region 3
  refine wl_region ?_
  refine wl_val (.slice (some ⟨q1, 0, none⟩) 0 (s.size + 4)) (by kernel_rfl) (by kernel_rfl) ?_
  refine wl_val (.string s) (by kernel_rfl) (by kernel_rfl) ?_
  refine wl_apps (q := q1) (m := 0) (c := s.size + 4) (l := List.replicate (s.size + 4) 0) (l' := (bl s) ++ List.replicate (s.size + 4 - (0 + s.size)) 0) (s := s) h3 0 rfl (by kernel_rfl) (by kernel_rfl) (by kernel_rfl) (by omega) List.length_replicate (by rw [show s.size + 4 = (bl s).length + 4 by rw [bl_len], laid_first, bl_len]; congr 2; omega) ?_
  intro w4 (h5 : HA w [(q1, 5, bc ((bl s) ++ List.replicate (s.size + 4 - (0 + s.size)) 0))] w4)
  refine wl_val (.slice (some ⟨q1, 0, none⟩) (0 + s.size) (s.size + 4)) (by kernel_rfl) (by kernel_rfl) ?_
  refine wl_nil ?_
  refine then_at (F := ⟨(.string s :: iN .i64 4 :: iN .u64 n :: un :: un :: un :: .string { data := #[] } :: iN .i64 4 :: .slice (some ⟨q1, 0, none⟩) (0 + s.size) (s.size + 4) :: un :: iN .i64 4 :: iN .i64 4 :: iN .i64 4 :: .string s :: iN .i64 s.size :: iN .i64 4 :: iN .i64 (s.size + 4) :: .slice (some ⟨q1, 0, none⟩) 0 (s.size + 4) :: .slice (some ⟨q1, 0, none⟩) 0 (s.size + 4) :: .string s :: .slice (some ⟨q1, 0, none⟩) (0 + s.size) (s.size + 4) :: List.replicate 16 un).toArray, []⟩) (by kernel_rfl) ?_
  refine wp_seq ?_
  refine wp_seq ?_
  -- region 4
  refine wl_region ?_
  refine wl_val (iN .i64 4) (by kernel_rfl) (by kernel_rfl) ?_
  refine wl_val (iN .i64 3) (by kernel_rfl) (by kernel_rfl) ?_
  refine wl_val (iN .i64 3) (by kernel_rfl) (by kernel_rfl) ?_
  refine wl_nil ?_
  refine then_at (F := ⟨(.string s :: iN .i64 4 :: iN .u64 n :: un :: un :: un :: .string { data := #[] } :: iN .i64 4 :: .slice (some ⟨q1, 0, none⟩) (0 + s.size) (s.size + 4) :: iN .i64 3 :: iN .i64 4 :: iN .i64 4 :: iN .i64 4 :: .string s :: iN .i64 s.size :: iN .i64 4 :: iN .i64 (s.size + 4) :: .slice (some ⟨q1, 0, none⟩) 0 (s.size + 4) :: .slice (some ⟨q1, 0, none⟩) 0 (s.size + 4) :: .string s :: .slice (some ⟨q1, 0, none⟩) (0 + s.size) (s.size + 4) :: iN .i64 4 :: iN .i64 3 :: List.replicate 14 un).toArray, []⟩) (by kernel_rfl) ?_
  refine wp_block ?_
  refine wp_loop_rounds 5 ?_
  try rw [rounds_succ]
  refine wp_seq ?_
  refine wp_seq ?_
  -- region 5
  refine wl_region ?_
  refine wl_val (iN .i64 3) (by kernel_rfl) (by kernel_rfl) ?_
  refine wl_val (.bool true) (by kernel_rfl) (by kernel_rfl) ?_
  refine wl_nil ?_
  refine then_at (F := ⟨(.string s :: iN .i64 4 :: iN .u64 n :: un :: un :: un :: .string { data := #[] } :: iN .i64 4 :: .slice (some ⟨q1, 0, none⟩) (0 + s.size) (s.size + 4) :: iN .i64 3 :: iN .i64 4 :: iN .i64 4 :: iN .i64 4 :: .string s :: iN .i64 s.size :: iN .i64 4 :: iN .i64 (s.size + 4) :: .slice (some ⟨q1, 0, none⟩) 0 (s.size + 4) :: .slice (some ⟨q1, 0, none⟩) 0 (s.size + 4) :: .string s :: .slice (some ⟨q1, 0, none⟩) (0 + s.size) (s.size + 4) :: iN .i64 4 :: iN .i64 3 :: iN .i64 3 :: .bool true :: List.replicate 12 un).toArray, []⟩) (by kernel_rfl) ?_
  refine wp_cond_true (by kernel_rfl) ?_
  refine wp_skip ?_
  refine then_at (F := ⟨(.string s :: iN .i64 4 :: iN .u64 n :: un :: un :: un :: .string { data := #[] } :: iN .i64 4 :: .slice (some ⟨q1, 0, none⟩) (0 + s.size) (s.size + 4) :: iN .i64 3 :: iN .i64 4 :: iN .i64 4 :: iN .i64 4 :: .string s :: iN .i64 s.size :: iN .i64 4 :: iN .i64 (s.size + 4) :: .slice (some ⟨q1, 0, none⟩) 0 (s.size + 4) :: .slice (some ⟨q1, 0, none⟩) 0 (s.size + 4) :: .string s :: .slice (some ⟨q1, 0, none⟩) (0 + s.size) (s.size + 4) :: iN .i64 4 :: iN .i64 3 :: iN .i64 3 :: .bool true :: List.replicate 12 un).toArray, []⟩) (by kernel_rfl) ?_
  refine wp_seq ?_
  refine wp_block ?_
  -- region 7
  refine wl_region ?_
  refine wl_val (.slice (some ⟨q1, 0, none⟩) (0 + s.size) (s.size + 4)) (by kernel_rfl) (by kernel_rfl) ?_
  refine wl_val (iN .u64 n) (by kernel_rfl) (by kernel_rfl) ?_
  refine wl_val (iN .i64 3) (by kernel_rfl) (by kernel_rfl) ?_
  refine wl_val (iN .i64 24) (by kernel_rfl) (run_mul (k := .i64) (a := 8) (b := 3) (by kernel_rfl) (by kernel_rfl) (by decide)) ?_
  refine wl_val (iN .u64 (n / 2 ^ 24)) (by kernel_rfl) (run_shrn (k2 := .i64) (a := n) (b := 24) hn (by kernel_rfl) (by kernel_rfl)) ?_
  refine wl_val (by8 (UInt8.ofNat (n / 2 ^ 24))) (by kernel_rfl) (run_lown (a := n / 2 ^ 24) (by kernel_rfl) Try.underlying33 Try.underlying5) ?_
  refine wl_mks (n := 1) (m := 1) h5 5 (by kernel_rfl) (run_build1 (u := UInt8.ofNat (n / 2 ^ 24)) (by kernel_rfl)) ?_
  intro q6 w7 h8
  refine wl_app (q := q1) (r := q6) (m := 0 + s.size) (c := s.size + 4) (j := 1) (c2 := 1) (l := (bl s) ++ List.replicate (s.size + 4 - (0 + s.size)) 0) (n := [UInt8.ofNat (n / 2 ^ 24)]) (l' := ((bl s) ++ [UInt8.ofNat (n / 2 ^ 24)]) ++ List.replicate (s.size + 4 - (0 + s.size + 1)) 0) h8 1 0 rfl rfl (by kernel_rfl) (by kernel_rfl) (by kernel_rfl) rfl (by omega) (pb_len (m := 0 + s.size) (c := s.size + 4) ((bl_len s).trans (by omega)) (by omega)) (app_pad (bl s) (0 + s.size) (s.size + 4) _ ((bl_len s).trans (by omega)) (by omega)) ?_
  intro w9 (h10 : HA w [(q6, 5, bc ([UInt8.ofNat (n / 2 ^ 24)])), (q1, 5, bc (((bl s) ++ [UInt8.ofNat (n / 2 ^ 24)]) ++ List.replicate (s.size + 4 - (0 + s.size + 1)) 0))] w9)
  have h11 : HA w [(q1, 5, bc (((bl s) ++ [UInt8.ofNat (n / 2 ^ 24)]) ++ List.replicate (s.size + 4 - (0 + s.size + 1)) 0))] w9 := h10.tl
  clear h10
  refine wl_val (.slice (some ⟨q1, 0, none⟩) (0 + s.size + 1) (s.size + 4)) (by kernel_rfl) (by kernel_rfl) ?_
  refine wl_nil ?_
  refine block_normal ?_
  refine then_at (F := ⟨(.string s :: iN .i64 4 :: iN .u64 n :: un :: un :: un :: .string { data := #[] } :: iN .i64 4 :: .slice (some ⟨q1, 0, none⟩) (0 + s.size + 1) (s.size + 4) :: iN .i64 3 :: iN .i64 4 :: iN .i64 4 :: iN .i64 4 :: .string s :: iN .i64 s.size :: iN .i64 4 :: iN .i64 (s.size + 4) :: .slice (some ⟨q1, 0, none⟩) 0 (s.size + 4) :: .slice (some ⟨q1, 0, none⟩) 0 (s.size + 4) :: .string s :: .slice (some ⟨q1, 0, none⟩) (0 + s.size) (s.size + 4) :: iN .i64 4 :: iN .i64 3 :: iN .i64 3 :: .bool true :: un :: un :: .slice (some ⟨q1, 0, none⟩) (0 + s.size) (s.size + 4) :: iN .u64 n :: iN .i64 3 :: iN .i64 24 :: iN .u64 (n / 2 ^ 24) :: by8 (UInt8.ofNat (n / 2 ^ 24)) :: .slice (some ⟨q6, 0, none⟩) 1 1 :: .slice (some ⟨q1, 0, none⟩) (0 + s.size + 1) (s.size + 4) :: List.replicate 2 un).toArray, []⟩) (by kernel_rfl) ?_
  -- region 6
  refine wl_region ?_
  refine wl_val (iN .i64 3) (by kernel_rfl) (by kernel_rfl) ?_
  refine wl_val (iN .i64 2) (by kernel_rfl) (by kernel_rfl) ?_
  refine wl_val (iN .i64 2) (by kernel_rfl) (by kernel_rfl) ?_
  refine wl_nil ?_
  refine then_at (F := ⟨(.string s :: iN .i64 4 :: iN .u64 n :: un :: un :: un :: .string { data := #[] } :: iN .i64 4 :: .slice (some ⟨q1, 0, none⟩) (0 + s.size + 1) (s.size + 4) :: iN .i64 2 :: iN .i64 4 :: iN .i64 4 :: iN .i64 4 :: .string s :: iN .i64 s.size :: iN .i64 4 :: iN .i64 (s.size + 4) :: .slice (some ⟨q1, 0, none⟩) 0 (s.size + 4) :: .slice (some ⟨q1, 0, none⟩) 0 (s.size + 4) :: .string s :: .slice (some ⟨q1, 0, none⟩) (0 + s.size) (s.size + 4) :: iN .i64 4 :: iN .i64 3 :: iN .i64 3 :: .bool true :: iN .i64 3 :: iN .i64 2 :: .slice (some ⟨q1, 0, none⟩) (0 + s.size) (s.size + 4) :: iN .u64 n :: iN .i64 3 :: iN .i64 24 :: iN .u64 (n / 2 ^ 24) :: by8 (UInt8.ofNat (n / 2 ^ 24)) :: .slice (some ⟨q6, 0, none⟩) 1 1 :: .slice (some ⟨q1, 0, none⟩) (0 + s.size + 1) (s.size + 4) :: List.replicate 2 un).toArray, []⟩) (by kernel_rfl) ?_
  try rw [rounds_succ]
  refine wp_seq ?_
  refine wp_seq ?_
  -- region 5
  refine wl_region ?_
  refine wl_val (iN .i64 2) (by kernel_rfl) (by kernel_rfl) ?_
  refine wl_val (.bool true) (by kernel_rfl) (by kernel_rfl) ?_
  refine wl_nil ?_
  refine then_at (F := ⟨(.string s :: iN .i64 4 :: iN .u64 n :: un :: un :: un :: .string { data := #[] } :: iN .i64 4 :: .slice (some ⟨q1, 0, none⟩) (0 + s.size + 1) (s.size + 4) :: iN .i64 2 :: iN .i64 4 :: iN .i64 4 :: iN .i64 4 :: .string s :: iN .i64 s.size :: iN .i64 4 :: iN .i64 (s.size + 4) :: .slice (some ⟨q1, 0, none⟩) 0 (s.size + 4) :: .slice (some ⟨q1, 0, none⟩) 0 (s.size + 4) :: .string s :: .slice (some ⟨q1, 0, none⟩) (0 + s.size) (s.size + 4) :: iN .i64 4 :: iN .i64 3 :: iN .i64 2 :: .bool true :: iN .i64 3 :: iN .i64 2 :: .slice (some ⟨q1, 0, none⟩) (0 + s.size) (s.size + 4) :: iN .u64 n :: iN .i64 3 :: iN .i64 24 :: iN .u64 (n / 2 ^ 24) :: by8 (UInt8.ofNat (n / 2 ^ 24)) :: .slice (some ⟨q6, 0, none⟩) 1 1 :: .slice (some ⟨q1, 0, none⟩) (0 + s.size + 1) (s.size + 4) :: List.replicate 2 un).toArray, []⟩) (by kernel_rfl) ?_
  refine wp_cond_true (by kernel_rfl) ?_
  refine wp_skip ?_
  refine then_at (F := ⟨(.string s :: iN .i64 4 :: iN .u64 n :: un :: un :: un :: .string { data := #[] } :: iN .i64 4 :: .slice (some ⟨q1, 0, none⟩) (0 + s.size + 1) (s.size + 4) :: iN .i64 2 :: iN .i64 4 :: iN .i64 4 :: iN .i64 4 :: .string s :: iN .i64 s.size :: iN .i64 4 :: iN .i64 (s.size + 4) :: .slice (some ⟨q1, 0, none⟩) 0 (s.size + 4) :: .slice (some ⟨q1, 0, none⟩) 0 (s.size + 4) :: .string s :: .slice (some ⟨q1, 0, none⟩) (0 + s.size) (s.size + 4) :: iN .i64 4 :: iN .i64 3 :: iN .i64 2 :: .bool true :: iN .i64 3 :: iN .i64 2 :: .slice (some ⟨q1, 0, none⟩) (0 + s.size) (s.size + 4) :: iN .u64 n :: iN .i64 3 :: iN .i64 24 :: iN .u64 (n / 2 ^ 24) :: by8 (UInt8.ofNat (n / 2 ^ 24)) :: .slice (some ⟨q6, 0, none⟩) 1 1 :: .slice (some ⟨q1, 0, none⟩) (0 + s.size + 1) (s.size + 4) :: List.replicate 2 un).toArray, []⟩) (by kernel_rfl) ?_
  refine wp_seq ?_
  refine wp_block ?_
  -- region 7
  refine wl_region ?_
  refine wl_val (.slice (some ⟨q1, 0, none⟩) (0 + s.size + 1) (s.size + 4)) (by kernel_rfl) (by kernel_rfl) ?_
  refine wl_val (iN .u64 n) (by kernel_rfl) (by kernel_rfl) ?_
  refine wl_val (iN .i64 2) (by kernel_rfl) (by kernel_rfl) ?_
  refine wl_val (iN .i64 16) (by kernel_rfl) (run_mul (k := .i64) (a := 8) (b := 2) (by kernel_rfl) (by kernel_rfl) (by decide)) ?_
  refine wl_val (iN .u64 (n / 2 ^ 16)) (by kernel_rfl) (run_shrn (k2 := .i64) (a := n) (b := 16) hn (by kernel_rfl) (by kernel_rfl)) ?_
  refine wl_val (by8 (UInt8.ofNat (n / 2 ^ 16))) (by kernel_rfl) (run_lown (a := n / 2 ^ 16) (by kernel_rfl) Try.underlying33 Try.underlying5) ?_
  refine wl_mks (n := 1) (m := 1) h11 5 (by kernel_rfl) (run_build1 (u := UInt8.ofNat (n / 2 ^ 16)) (by kernel_rfl)) ?_
  intro q12 w13 h14
  refine wl_app (q := q1) (r := q12) (m := 0 + s.size + 1) (c := s.size + 4) (j := 1) (c2 := 1) (l := ((bl s) ++ [UInt8.ofNat (n / 2 ^ 24)]) ++ List.replicate (s.size + 4 - (0 + s.size + 1)) 0) (n := [UInt8.ofNat (n / 2 ^ 16)]) (l' := (((bl s) ++ [UInt8.ofNat (n / 2 ^ 24)]) ++ [UInt8.ofNat (n / 2 ^ 16)]) ++ List.replicate (s.size + 4 - (0 + s.size + 1 + 1)) 0) h14 1 0 rfl rfl (by kernel_rfl) (by kernel_rfl) (by kernel_rfl) rfl (by omega) (pb_len (m := 0 + s.size + 1) (c := s.size + 4) (((pl1 s n)).trans (by omega)) (by omega)) (app_pad ((bl s) ++ [UInt8.ofNat (n / 2 ^ 24)]) (0 + s.size + 1) (s.size + 4) _ (((pl1 s n)).trans (by omega)) (by omega)) ?_
  intro w15 (h16 : HA w [(q12, 5, bc ([UInt8.ofNat (n / 2 ^ 16)])), (q1, 5, bc ((((bl s) ++ [UInt8.ofNat (n / 2 ^ 24)]) ++ [UInt8.ofNat (n / 2 ^ 16)]) ++ List.replicate (s.size + 4 - (0 + s.size + 1 + 1)) 0))] w15)
  have h17 : HA w [(q1, 5, bc ((((bl s) ++ [UInt8.ofNat (n / 2 ^ 24)]) ++ [UInt8.ofNat (n / 2 ^ 16)]) ++ List.replicate (s.size + 4 - (0 + s.size + 1 + 1)) 0))] w15 := h16.tl
  clear h16
  refine wl_val (.slice (some ⟨q1, 0, none⟩) (0 + s.size + 1 + 1) (s.size + 4)) (by kernel_rfl) (by kernel_rfl) ?_
  refine wl_nil ?_
  refine block_normal ?_
  refine then_at (F := ⟨(.string s :: iN .i64 4 :: iN .u64 n :: un :: un :: un :: .string { data := #[] } :: iN .i64 4 :: .slice (some ⟨q1, 0, none⟩) (0 + s.size + 1 + 1) (s.size + 4) :: iN .i64 2 :: iN .i64 4 :: iN .i64 4 :: iN .i64 4 :: .string s :: iN .i64 s.size :: iN .i64 4 :: iN .i64 (s.size + 4) :: .slice (some ⟨q1, 0, none⟩) 0 (s.size + 4) :: .slice (some ⟨q1, 0, none⟩) 0 (s.size + 4) :: .string s :: .slice (some ⟨q1, 0, none⟩) (0 + s.size) (s.size + 4) :: iN .i64 4 :: iN .i64 3 :: iN .i64 2 :: .bool true :: iN .i64 3 :: iN .i64 2 :: .slice (some ⟨q1, 0, none⟩) (0 + s.size + 1) (s.size + 4) :: iN .u64 n :: iN .i64 2 :: iN .i64 16 :: iN .u64 (n / 2 ^ 16) :: by8 (UInt8.ofNat (n / 2 ^ 16)) :: .slice (some ⟨q12, 0, none⟩) 1 1 :: .slice (some ⟨q1, 0, none⟩) (0 + s.size + 1 + 1) (s.size + 4) :: List.replicate 2 un).toArray, []⟩) (by kernel_rfl) ?_
  -- region 6
  refine wl_region ?_
  refine wl_val (iN .i64 2) (by kernel_rfl) (by kernel_rfl) ?_
  refine wl_val (iN .i64 1) (by kernel_rfl) (by kernel_rfl) ?_
  refine wl_val (iN .i64 1) (by kernel_rfl) (by kernel_rfl) ?_
  refine wl_nil ?_
  refine then_at (F := ⟨(.string s :: iN .i64 4 :: iN .u64 n :: un :: un :: un :: .string { data := #[] } :: iN .i64 4 :: .slice (some ⟨q1, 0, none⟩) (0 + s.size + 1 + 1) (s.size + 4) :: iN .i64 1 :: iN .i64 4 :: iN .i64 4 :: iN .i64 4 :: .string s :: iN .i64 s.size :: iN .i64 4 :: iN .i64 (s.size + 4) :: .slice (some ⟨q1, 0, none⟩) 0 (s.size + 4) :: .slice (some ⟨q1, 0, none⟩) 0 (s.size + 4) :: .string s :: .slice (some ⟨q1, 0, none⟩) (0 + s.size) (s.size + 4) :: iN .i64 4 :: iN .i64 3 :: iN .i64 2 :: .bool true :: iN .i64 2 :: iN .i64 1 :: .slice (some ⟨q1, 0, none⟩) (0 + s.size + 1) (s.size + 4) :: iN .u64 n :: iN .i64 2 :: iN .i64 16 :: iN .u64 (n / 2 ^ 16) :: by8 (UInt8.ofNat (n / 2 ^ 16)) :: .slice (some ⟨q12, 0, none⟩) 1 1 :: .slice (some ⟨q1, 0, none⟩) (0 + s.size + 1 + 1) (s.size + 4) :: List.replicate 2 un).toArray, []⟩) (by kernel_rfl) ?_
  try rw [rounds_succ]
  refine wp_seq ?_
  refine wp_seq ?_
  -- region 5
  refine wl_region ?_
  refine wl_val (iN .i64 1) (by kernel_rfl) (by kernel_rfl) ?_
  refine wl_val (.bool true) (by kernel_rfl) (by kernel_rfl) ?_
  refine wl_nil ?_
  refine then_at (F := ⟨(.string s :: iN .i64 4 :: iN .u64 n :: un :: un :: un :: .string { data := #[] } :: iN .i64 4 :: .slice (some ⟨q1, 0, none⟩) (0 + s.size + 1 + 1) (s.size + 4) :: iN .i64 1 :: iN .i64 4 :: iN .i64 4 :: iN .i64 4 :: .string s :: iN .i64 s.size :: iN .i64 4 :: iN .i64 (s.size + 4) :: .slice (some ⟨q1, 0, none⟩) 0 (s.size + 4) :: .slice (some ⟨q1, 0, none⟩) 0 (s.size + 4) :: .string s :: .slice (some ⟨q1, 0, none⟩) (0 + s.size) (s.size + 4) :: iN .i64 4 :: iN .i64 3 :: iN .i64 1 :: .bool true :: iN .i64 2 :: iN .i64 1 :: .slice (some ⟨q1, 0, none⟩) (0 + s.size + 1) (s.size + 4) :: iN .u64 n :: iN .i64 2 :: iN .i64 16 :: iN .u64 (n / 2 ^ 16) :: by8 (UInt8.ofNat (n / 2 ^ 16)) :: .slice (some ⟨q12, 0, none⟩) 1 1 :: .slice (some ⟨q1, 0, none⟩) (0 + s.size + 1 + 1) (s.size + 4) :: List.replicate 2 un).toArray, []⟩) (by kernel_rfl) ?_
  refine wp_cond_true (by kernel_rfl) ?_
  refine wp_skip ?_
  refine then_at (F := ⟨(.string s :: iN .i64 4 :: iN .u64 n :: un :: un :: un :: .string { data := #[] } :: iN .i64 4 :: .slice (some ⟨q1, 0, none⟩) (0 + s.size + 1 + 1) (s.size + 4) :: iN .i64 1 :: iN .i64 4 :: iN .i64 4 :: iN .i64 4 :: .string s :: iN .i64 s.size :: iN .i64 4 :: iN .i64 (s.size + 4) :: .slice (some ⟨q1, 0, none⟩) 0 (s.size + 4) :: .slice (some ⟨q1, 0, none⟩) 0 (s.size + 4) :: .string s :: .slice (some ⟨q1, 0, none⟩) (0 + s.size) (s.size + 4) :: iN .i64 4 :: iN .i64 3 :: iN .i64 1 :: .bool true :: iN .i64 2 :: iN .i64 1 :: .slice (some ⟨q1, 0, none⟩) (0 + s.size + 1) (s.size + 4) :: iN .u64 n :: iN .i64 2 :: iN .i64 16 :: iN .u64 (n / 2 ^ 16) :: by8 (UInt8.ofNat (n / 2 ^ 16)) :: .slice (some ⟨q12, 0, none⟩) 1 1 :: .slice (some ⟨q1, 0, none⟩) (0 + s.size + 1 + 1) (s.size + 4) :: List.replicate 2 un).toArray, []⟩) (by kernel_rfl) ?_
  refine wp_seq ?_
  refine wp_block ?_
  -- region 7
  refine wl_region ?_
  refine wl_val (.slice (some ⟨q1, 0, none⟩) (0 + s.size + 1 + 1) (s.size + 4)) (by kernel_rfl) (by kernel_rfl) ?_
  refine wl_val (iN .u64 n) (by kernel_rfl) (by kernel_rfl) ?_
  refine wl_val (iN .i64 1) (by kernel_rfl) (by kernel_rfl) ?_
  refine wl_val (iN .i64 8) (by kernel_rfl) (run_mul (k := .i64) (a := 8) (b := 1) (by kernel_rfl) (by kernel_rfl) (by decide)) ?_
  refine wl_val (iN .u64 (n / 2 ^ 8)) (by kernel_rfl) (run_shrn (k2 := .i64) (a := n) (b := 8) hn (by kernel_rfl) (by kernel_rfl)) ?_
  refine wl_val (by8 (UInt8.ofNat (n / 2 ^ 8))) (by kernel_rfl) (run_lown (a := n / 2 ^ 8) (by kernel_rfl) Try.underlying33 Try.underlying5) ?_
  refine wl_mks (n := 1) (m := 1) h17 5 (by kernel_rfl) (run_build1 (u := UInt8.ofNat (n / 2 ^ 8)) (by kernel_rfl)) ?_
  intro q18 w19 h20
  refine wl_app (q := q1) (r := q18) (m := 0 + s.size + 1 + 1) (c := s.size + 4) (j := 1) (c2 := 1) (l := (((bl s) ++ [UInt8.ofNat (n / 2 ^ 24)]) ++ [UInt8.ofNat (n / 2 ^ 16)]) ++ List.replicate (s.size + 4 - (0 + s.size + 1 + 1)) 0) (n := [UInt8.ofNat (n / 2 ^ 8)]) (l' := ((((bl s) ++ [UInt8.ofNat (n / 2 ^ 24)]) ++ [UInt8.ofNat (n / 2 ^ 16)]) ++ [UInt8.ofNat (n / 2 ^ 8)]) ++ List.replicate (s.size + 4 - (0 + s.size + 1 + 1 + 1)) 0) h20 1 0 rfl rfl (by kernel_rfl) (by kernel_rfl) (by kernel_rfl) rfl (by omega) (pb_len (m := 0 + s.size + 1 + 1) (c := s.size + 4) (((pl2 s n)).trans (by omega)) (by omega)) (app_pad (((bl s) ++ [UInt8.ofNat (n / 2 ^ 24)]) ++ [UInt8.ofNat (n / 2 ^ 16)]) (0 + s.size + 1 + 1) (s.size + 4) _ (((pl2 s n)).trans (by omega)) (by omega)) ?_
  intro w21 (h22 : HA w [(q18, 5, bc ([UInt8.ofNat (n / 2 ^ 8)])), (q1, 5, bc (((((bl s) ++ [UInt8.ofNat (n / 2 ^ 24)]) ++ [UInt8.ofNat (n / 2 ^ 16)]) ++ [UInt8.ofNat (n / 2 ^ 8)]) ++ List.replicate (s.size + 4 - (0 + s.size + 1 + 1 + 1)) 0))] w21)
  have h23 : HA w [(q1, 5, bc (((((bl s) ++ [UInt8.ofNat (n / 2 ^ 24)]) ++ [UInt8.ofNat (n / 2 ^ 16)]) ++ [UInt8.ofNat (n / 2 ^ 8)]) ++ List.replicate (s.size + 4 - (0 + s.size + 1 + 1 + 1)) 0))] w21 := h22.tl
  clear h22
  refine wl_val (.slice (some ⟨q1, 0, none⟩) (0 + s.size + 1 + 1 + 1) (s.size + 4)) (by kernel_rfl) (by kernel_rfl) ?_
  refine wl_nil ?_
  refine block_normal ?_
  refine then_at (F := ⟨(.string s :: iN .i64 4 :: iN .u64 n :: un :: un :: un :: .string { data := #[] } :: iN .i64 4 :: .slice (some ⟨q1, 0, none⟩) (0 + s.size + 1 + 1 + 1) (s.size + 4) :: iN .i64 1 :: iN .i64 4 :: iN .i64 4 :: iN .i64 4 :: .string s :: iN .i64 s.size :: iN .i64 4 :: iN .i64 (s.size + 4) :: .slice (some ⟨q1, 0, none⟩) 0 (s.size + 4) :: .slice (some ⟨q1, 0, none⟩) 0 (s.size + 4) :: .string s :: .slice (some ⟨q1, 0, none⟩) (0 + s.size) (s.size + 4) :: iN .i64 4 :: iN .i64 3 :: iN .i64 1 :: .bool true :: iN .i64 2 :: iN .i64 1 :: .slice (some ⟨q1, 0, none⟩) (0 + s.size + 1 + 1) (s.size + 4) :: iN .u64 n :: iN .i64 1 :: iN .i64 8 :: iN .u64 (n / 2 ^ 8) :: by8 (UInt8.ofNat (n / 2 ^ 8)) :: .slice (some ⟨q18, 0, none⟩) 1 1 :: .slice (some ⟨q1, 0, none⟩) (0 + s.size + 1 + 1 + 1) (s.size + 4) :: List.replicate 2 un).toArray, []⟩) (by kernel_rfl) ?_
  -- region 6
  refine wl_region ?_
  refine wl_val (iN .i64 1) (by kernel_rfl) (by kernel_rfl) ?_
  refine wl_val (iN .i64 0) (by kernel_rfl) (by kernel_rfl) ?_
  refine wl_val (iN .i64 0) (by kernel_rfl) (by kernel_rfl) ?_
  refine wl_nil ?_
  refine then_at (F := ⟨(.string s :: iN .i64 4 :: iN .u64 n :: un :: un :: un :: .string { data := #[] } :: iN .i64 4 :: .slice (some ⟨q1, 0, none⟩) (0 + s.size + 1 + 1 + 1) (s.size + 4) :: iN .i64 0 :: iN .i64 4 :: iN .i64 4 :: iN .i64 4 :: .string s :: iN .i64 s.size :: iN .i64 4 :: iN .i64 (s.size + 4) :: .slice (some ⟨q1, 0, none⟩) 0 (s.size + 4) :: .slice (some ⟨q1, 0, none⟩) 0 (s.size + 4) :: .string s :: .slice (some ⟨q1, 0, none⟩) (0 + s.size) (s.size + 4) :: iN .i64 4 :: iN .i64 3 :: iN .i64 1 :: .bool true :: iN .i64 1 :: iN .i64 0 :: .slice (some ⟨q1, 0, none⟩) (0 + s.size + 1 + 1) (s.size + 4) :: iN .u64 n :: iN .i64 1 :: iN .i64 8 :: iN .u64 (n / 2 ^ 8) :: by8 (UInt8.ofNat (n / 2 ^ 8)) :: .slice (some ⟨q18, 0, none⟩) 1 1 :: .slice (some ⟨q1, 0, none⟩) (0 + s.size + 1 + 1 + 1) (s.size + 4) :: List.replicate 2 un).toArray, []⟩) (by kernel_rfl) ?_
  try rw [rounds_succ]
  refine wp_seq ?_
  refine wp_seq ?_
  -- region 5
  refine wl_region ?_
  refine wl_val (iN .i64 0) (by kernel_rfl) (by kernel_rfl) ?_
  refine wl_val (.bool true) (by kernel_rfl) (by kernel_rfl) ?_
  refine wl_nil ?_
  refine then_at (F := ⟨(.string s :: iN .i64 4 :: iN .u64 n :: un :: un :: un :: .string { data := #[] } :: iN .i64 4 :: .slice (some ⟨q1, 0, none⟩) (0 + s.size + 1 + 1 + 1) (s.size + 4) :: iN .i64 0 :: iN .i64 4 :: iN .i64 4 :: iN .i64 4 :: .string s :: iN .i64 s.size :: iN .i64 4 :: iN .i64 (s.size + 4) :: .slice (some ⟨q1, 0, none⟩) 0 (s.size + 4) :: .slice (some ⟨q1, 0, none⟩) 0 (s.size + 4) :: .string s :: .slice (some ⟨q1, 0, none⟩) (0 + s.size) (s.size + 4) :: iN .i64 4 :: iN .i64 3 :: iN .i64 0 :: .bool true :: iN .i64 1 :: iN .i64 0 :: .slice (some ⟨q1, 0, none⟩) (0 + s.size + 1 + 1) (s.size + 4) :: iN .u64 n :: iN .i64 1 :: iN .i64 8 :: iN .u64 (n / 2 ^ 8) :: by8 (UInt8.ofNat (n / 2 ^ 8)) :: .slice (some ⟨q18, 0, none⟩) 1 1 :: .slice (some ⟨q1, 0, none⟩) (0 + s.size + 1 + 1 + 1) (s.size + 4) :: List.replicate 2 un).toArray, []⟩) (by kernel_rfl) ?_
  refine wp_cond_true (by kernel_rfl) ?_
  refine wp_skip ?_
  refine then_at (F := ⟨(.string s :: iN .i64 4 :: iN .u64 n :: un :: un :: un :: .string { data := #[] } :: iN .i64 4 :: .slice (some ⟨q1, 0, none⟩) (0 + s.size + 1 + 1 + 1) (s.size + 4) :: iN .i64 0 :: iN .i64 4 :: iN .i64 4 :: iN .i64 4 :: .string s :: iN .i64 s.size :: iN .i64 4 :: iN .i64 (s.size + 4) :: .slice (some ⟨q1, 0, none⟩) 0 (s.size + 4) :: .slice (some ⟨q1, 0, none⟩) 0 (s.size + 4) :: .string s :: .slice (some ⟨q1, 0, none⟩) (0 + s.size) (s.size + 4) :: iN .i64 4 :: iN .i64 3 :: iN .i64 0 :: .bool true :: iN .i64 1 :: iN .i64 0 :: .slice (some ⟨q1, 0, none⟩) (0 + s.size + 1 + 1) (s.size + 4) :: iN .u64 n :: iN .i64 1 :: iN .i64 8 :: iN .u64 (n / 2 ^ 8) :: by8 (UInt8.ofNat (n / 2 ^ 8)) :: .slice (some ⟨q18, 0, none⟩) 1 1 :: .slice (some ⟨q1, 0, none⟩) (0 + s.size + 1 + 1 + 1) (s.size + 4) :: List.replicate 2 un).toArray, []⟩) (by kernel_rfl) ?_
  refine wp_seq ?_
  refine wp_block ?_
  -- region 7
  refine wl_region ?_
  refine wl_val (.slice (some ⟨q1, 0, none⟩) (0 + s.size + 1 + 1 + 1) (s.size + 4)) (by kernel_rfl) (by kernel_rfl) ?_
  refine wl_val (iN .u64 n) (by kernel_rfl) (by kernel_rfl) ?_
  refine wl_val (iN .i64 0) (by kernel_rfl) (by kernel_rfl) ?_
  refine wl_val (iN .i64 0) (by kernel_rfl) (run_mul (k := .i64) (a := 8) (b := 0) (by kernel_rfl) (by kernel_rfl) (by decide)) ?_
  refine wl_val (iN .u64 (n / 2 ^ 0)) (by kernel_rfl) (run_shrn (k2 := .i64) (a := n) (b := 0) hn (by kernel_rfl) (by kernel_rfl)) ?_
  refine wl_val (by8 (UInt8.ofNat (n / 2 ^ 0))) (by kernel_rfl) (run_lown (a := n / 2 ^ 0) (by kernel_rfl) Try.underlying33 Try.underlying5) ?_
  refine wl_mks (n := 1) (m := 1) h23 5 (by kernel_rfl) (run_build1 (u := UInt8.ofNat (n / 2 ^ 0)) (by kernel_rfl)) ?_
  intro q24 w25 h26
  refine wl_app (q := q1) (r := q24) (m := 0 + s.size + 1 + 1 + 1) (c := s.size + 4) (j := 1) (c2 := 1) (l := ((((bl s) ++ [UInt8.ofNat (n / 2 ^ 24)]) ++ [UInt8.ofNat (n / 2 ^ 16)]) ++ [UInt8.ofNat (n / 2 ^ 8)]) ++ List.replicate (s.size + 4 - (0 + s.size + 1 + 1 + 1)) 0) (n := [UInt8.ofNat (n / 2 ^ 0)]) (l' := (((((bl s) ++ [UInt8.ofNat (n / 2 ^ 24)]) ++ [UInt8.ofNat (n / 2 ^ 16)]) ++ [UInt8.ofNat (n / 2 ^ 8)]) ++ [UInt8.ofNat (n / 2 ^ 0)]) ++ List.replicate (s.size + 4 - (0 + s.size + 1 + 1 + 1 + 1)) 0) h26 1 0 rfl rfl (by kernel_rfl) (by kernel_rfl) (by kernel_rfl) rfl (by omega) (pb_len (m := 0 + s.size + 1 + 1 + 1) (c := s.size + 4) (((pl3 s n)).trans (by omega)) (by omega)) (app_pad ((((bl s) ++ [UInt8.ofNat (n / 2 ^ 24)]) ++ [UInt8.ofNat (n / 2 ^ 16)]) ++ [UInt8.ofNat (n / 2 ^ 8)]) (0 + s.size + 1 + 1 + 1) (s.size + 4) _ (((pl3 s n)).trans (by omega)) (by omega)) ?_
  intro w27 (h28 : HA w [(q24, 5, bc ([UInt8.ofNat (n / 2 ^ 0)])), (q1, 5, bc ((((((bl s) ++ [UInt8.ofNat (n / 2 ^ 24)]) ++ [UInt8.ofNat (n / 2 ^ 16)]) ++ [UInt8.ofNat (n / 2 ^ 8)]) ++ [UInt8.ofNat (n / 2 ^ 0)]) ++ List.replicate (s.size + 4 - (0 + s.size + 1 + 1 + 1 + 1)) 0))] w27)
  have h29 : HA w [(q1, 5, bc ((((((bl s) ++ [UInt8.ofNat (n / 2 ^ 24)]) ++ [UInt8.ofNat (n / 2 ^ 16)]) ++ [UInt8.ofNat (n / 2 ^ 8)]) ++ [UInt8.ofNat (n / 2 ^ 0)]) ++ List.replicate (s.size + 4 - (0 + s.size + 1 + 1 + 1 + 1)) 0))] w27 := h28.tl
  clear h28
  refine wl_val (.slice (some ⟨q1, 0, none⟩) (0 + s.size + 1 + 1 + 1 + 1) (s.size + 4)) (by kernel_rfl) (by kernel_rfl) ?_
  refine wl_nil ?_
  refine block_normal ?_
  refine then_at (F := ⟨(.string s :: iN .i64 4 :: iN .u64 n :: un :: un :: un :: .string { data := #[] } :: iN .i64 4 :: .slice (some ⟨q1, 0, none⟩) (0 + s.size + 1 + 1 + 1 + 1) (s.size + 4) :: iN .i64 0 :: iN .i64 4 :: iN .i64 4 :: iN .i64 4 :: .string s :: iN .i64 s.size :: iN .i64 4 :: iN .i64 (s.size + 4) :: .slice (some ⟨q1, 0, none⟩) 0 (s.size + 4) :: .slice (some ⟨q1, 0, none⟩) 0 (s.size + 4) :: .string s :: .slice (some ⟨q1, 0, none⟩) (0 + s.size) (s.size + 4) :: iN .i64 4 :: iN .i64 3 :: iN .i64 0 :: .bool true :: iN .i64 1 :: iN .i64 0 :: .slice (some ⟨q1, 0, none⟩) (0 + s.size + 1 + 1 + 1) (s.size + 4) :: iN .u64 n :: iN .i64 0 :: iN .i64 0 :: iN .u64 (n / 2 ^ 0) :: by8 (UInt8.ofNat (n / 2 ^ 0)) :: .slice (some ⟨q24, 0, none⟩) 1 1 :: .slice (some ⟨q1, 0, none⟩) (0 + s.size + 1 + 1 + 1 + 1) (s.size + 4) :: List.replicate 2 un).toArray, []⟩) (by kernel_rfl) ?_
  -- region 6
  refine wl_region ?_
  refine wl_val (iN .i64 0) (by kernel_rfl) (by kernel_rfl) ?_
  refine wl_val (.int .i64 (-1)) (by kernel_rfl) (by kernel_rfl) ?_
  refine wl_val (.int .i64 (-1)) (by kernel_rfl) (by kernel_rfl) ?_
  refine wl_nil ?_
  refine then_at (F := ⟨(.string s :: iN .i64 4 :: iN .u64 n :: un :: un :: un :: .string { data := #[] } :: iN .i64 4 :: .slice (some ⟨q1, 0, none⟩) (0 + s.size + 1 + 1 + 1 + 1) (s.size + 4) :: .int .i64 (-1) :: iN .i64 4 :: iN .i64 4 :: iN .i64 4 :: .string s :: iN .i64 s.size :: iN .i64 4 :: iN .i64 (s.size + 4) :: .slice (some ⟨q1, 0, none⟩) 0 (s.size + 4) :: .slice (some ⟨q1, 0, none⟩) 0 (s.size + 4) :: .string s :: .slice (some ⟨q1, 0, none⟩) (0 + s.size) (s.size + 4) :: iN .i64 4 :: iN .i64 3 :: iN .i64 0 :: .bool true :: iN .i64 0 :: .int .i64 (-1) :: .slice (some ⟨q1, 0, none⟩) (0 + s.size + 1 + 1 + 1) (s.size + 4) :: iN .u64 n :: iN .i64 0 :: iN .i64 0 :: iN .u64 (n / 2 ^ 0) :: by8 (UInt8.ofNat (n / 2 ^ 0)) :: .slice (some ⟨q24, 0, none⟩) 1 1 :: .slice (some ⟨q1, 0, none⟩) (0 + s.size + 1 + 1 + 1 + 1) (s.size + 4) :: List.replicate 2 un).toArray, []⟩) (by kernel_rfl) ?_
  try rw [rounds_succ]
  refine wp_seq ?_
  refine wp_seq ?_
  -- region 5
  refine wl_region ?_
  refine wl_val (.int .i64 (-1)) (by kernel_rfl) (by kernel_rfl) ?_
  refine wl_val (.bool false) (by kernel_rfl) (by kernel_rfl) ?_
  refine wl_nil ?_
  refine then_at (F := ⟨(.string s :: iN .i64 4 :: iN .u64 n :: un :: un :: un :: .string { data := #[] } :: iN .i64 4 :: .slice (some ⟨q1, 0, none⟩) (0 + s.size + 1 + 1 + 1 + 1) (s.size + 4) :: .int .i64 (-1) :: iN .i64 4 :: iN .i64 4 :: iN .i64 4 :: .string s :: iN .i64 s.size :: iN .i64 4 :: iN .i64 (s.size + 4) :: .slice (some ⟨q1, 0, none⟩) 0 (s.size + 4) :: .slice (some ⟨q1, 0, none⟩) 0 (s.size + 4) :: .string s :: .slice (some ⟨q1, 0, none⟩) (0 + s.size) (s.size + 4) :: iN .i64 4 :: iN .i64 3 :: .int .i64 (-1) :: .bool false :: iN .i64 0 :: .int .i64 (-1) :: .slice (some ⟨q1, 0, none⟩) (0 + s.size + 1 + 1 + 1) (s.size + 4) :: iN .u64 n :: iN .i64 0 :: iN .i64 0 :: iN .u64 (n / 2 ^ 0) :: by8 (UInt8.ofNat (n / 2 ^ 0)) :: .slice (some ⟨q24, 0, none⟩) 1 1 :: .slice (some ⟨q1, 0, none⟩) (0 + s.size + 1 + 1 + 1 + 1) (s.size + 4) :: List.replicate 2 un).toArray, []⟩) (by kernel_rfl) ?_
  refine wp_cond_false (by kernel_rfl) ?_
  refine wp_exit ?_
  repeat first | refine then_exit ?_ | refine block_exit ?_ | refine block_exit_ne (by decide) ?_
  refine then_at (F := ⟨(.string s :: iN .i64 4 :: iN .u64 n :: un :: un :: un :: .string { data := #[] } :: iN .i64 4 :: .slice (some ⟨q1, 0, none⟩) (0 + s.size + 1 + 1 + 1 + 1) (s.size + 4) :: .int .i64 (-1) :: iN .i64 4 :: iN .i64 4 :: iN .i64 4 :: .string s :: iN .i64 s.size :: iN .i64 4 :: iN .i64 (s.size + 4) :: .slice (some ⟨q1, 0, none⟩) 0 (s.size + 4) :: .slice (some ⟨q1, 0, none⟩) 0 (s.size + 4) :: .string s :: .slice (some ⟨q1, 0, none⟩) (0 + s.size) (s.size + 4) :: iN .i64 4 :: iN .i64 3 :: .int .i64 (-1) :: .bool false :: iN .i64 0 :: .int .i64 (-1) :: .slice (some ⟨q1, 0, none⟩) (0 + s.size + 1 + 1 + 1) (s.size + 4) :: iN .u64 n :: iN .i64 0 :: iN .i64 0 :: iN .u64 (n / 2 ^ 0) :: by8 (UInt8.ofNat (n / 2 ^ 0)) :: .slice (some ⟨q24, 0, none⟩) 1 1 :: .slice (some ⟨q1, 0, none⟩) (0 + s.size + 1 + 1 + 1 + 1) (s.size + 4) :: List.replicate 2 un).toArray, []⟩) (by kernel_rfl) ?_
  refine wp_seq ?_
  -- region 8
  refine wl_region ?_
  refine wl_val (.slice (some ⟨q1, 0, none⟩) (0 + s.size + 1 + 1 + 1 + 1) (s.size + 4)) (by kernel_rfl) (by kernel_rfl) ?_
  refine wl_val (.string (⟨(((((((bl s) ++ [UInt8.ofNat (n / 2 ^ 24)]) ++ [UInt8.ofNat (n / 2 ^ 16)]) ++ [UInt8.ofNat (n / 2 ^ 8)]) ++ [UInt8.ofNat (n / 2 ^ 0)]) ++ List.replicate (s.size + 4 - (0 + s.size + 1 + 1 + 1 + 1)) 0).take (0 + s.size + 1 + 1 + 1 + 1)).toArray⟩)) (by kernel_rfl) (run_textg (q := q1) (m := 0 + s.size + 1 + 1 + 1 + 1) (c := s.size + 4) (l := (((((bl s) ++ [UInt8.ofNat (n / 2 ^ 24)]) ++ [UInt8.ofNat (n / 2 ^ 16)]) ++ [UInt8.ofNat (n / 2 ^ 8)]) ++ [UInt8.ofNat (n / 2 ^ 0)]) ++ List.replicate (s.size + 4 - (0 + s.size + 1 + 1 + 1 + 1)) 0) (by kernel_rfl) (h29.get 0 rfl) (by rw [(pb_len (m := 0 + s.size + 1 + 1 + 1 + 1) (c := s.size + 4) (((pl4 s n)).trans (by omega)) (by omega))]; omega)) ?_
  refine wl_val (.string (⟨(((((((bl s) ++ [UInt8.ofNat (n / 2 ^ 24)]) ++ [UInt8.ofNat (n / 2 ^ 16)]) ++ [UInt8.ofNat (n / 2 ^ 8)]) ++ [UInt8.ofNat (n / 2 ^ 0)]) ++ List.replicate (s.size + 4 - (0 + s.size + 1 + 1 + 1 + 1)) 0).take (0 + s.size + 1 + 1 + 1 + 1)).toArray⟩)) (by kernel_rfl) (by kernel_rfl) ?_
  refine wl_nil ?_
  refine then_at (F := ⟨(.string s :: iN .i64 4 :: iN .u64 n :: un :: un :: un :: .string (⟨(((((((bl s) ++ [UInt8.ofNat (n / 2 ^ 24)]) ++ [UInt8.ofNat (n / 2 ^ 16)]) ++ [UInt8.ofNat (n / 2 ^ 8)]) ++ [UInt8.ofNat (n / 2 ^ 0)]) ++ List.replicate (s.size + 4 - (0 + s.size + 1 + 1 + 1 + 1)) 0).take (0 + s.size + 1 + 1 + 1 + 1)).toArray⟩) :: iN .i64 4 :: .slice (some ⟨q1, 0, none⟩) (0 + s.size + 1 + 1 + 1 + 1) (s.size + 4) :: .int .i64 (-1) :: iN .i64 4 :: iN .i64 4 :: iN .i64 4 :: .string s :: iN .i64 s.size :: iN .i64 4 :: iN .i64 (s.size + 4) :: .slice (some ⟨q1, 0, none⟩) 0 (s.size + 4) :: .slice (some ⟨q1, 0, none⟩) 0 (s.size + 4) :: .string s :: .slice (some ⟨q1, 0, none⟩) (0 + s.size) (s.size + 4) :: iN .i64 4 :: iN .i64 3 :: .int .i64 (-1) :: .bool false :: iN .i64 0 :: .int .i64 (-1) :: .slice (some ⟨q1, 0, none⟩) (0 + s.size + 1 + 1 + 1) (s.size + 4) :: iN .u64 n :: iN .i64 0 :: iN .i64 0 :: iN .u64 (n / 2 ^ 0) :: by8 (UInt8.ofNat (n / 2 ^ 0)) :: .slice (some ⟨q24, 0, none⟩) 1 1 :: .slice (some ⟨q1, 0, none⟩) (0 + s.size + 1 + 1 + 1 + 1) (s.size + 4) :: .slice (some ⟨q1, 0, none⟩) (0 + s.size + 1 + 1 + 1 + 1) (s.size + 4) :: .string (⟨(((((((bl s) ++ [UInt8.ofNat (n / 2 ^ 24)]) ++ [UInt8.ofNat (n / 2 ^ 16)]) ++ [UInt8.ofNat (n / 2 ^ 8)]) ++ [UInt8.ofNat (n / 2 ^ 0)]) ++ List.replicate (s.size + 4 - (0 + s.size + 1 + 1 + 1 + 1)) 0).take (0 + s.size + 1 + 1 + 1 + 1)).toArray⟩) :: List.replicate 0 un).toArray, []⟩) (by kernel_rfl) ?_
  refine wp_ret ?_
  repeat first | refine then_ret ?_ | refine block_ret ?_
  exact bodyPost_ret (v := .string (⟨(((((((bl s) ++ [UInt8.ofNat (n / 2 ^ 24)]) ++ [UInt8.ofNat (n / 2 ^ 16)]) ++ [UInt8.ofNat (n / 2 ^ 8)]) ++ [UInt8.ofNat (n / 2 ^ 0)]) ++ List.replicate (s.size + 4 - (0 + s.size + 1 + 1 + 1 + 1)) 0).take (0 + s.size + 1 + 1 + 1 + 1)).toArray⟩)) (by kernel_rfl) rfl ⟨by rw [takepad ((pl4 s n).trans (by omega))]; rfl, h29.old⟩
end Go.Proofs.Ythljhhhjdajfhaa
