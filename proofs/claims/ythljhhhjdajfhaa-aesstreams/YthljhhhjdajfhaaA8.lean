/-
  digits; what works tells.
-/
import Derived.Test.YthljhhhjdajfhaaA1
import Derived.Test.YthljhhhjdajfhaaOld
namespace Go.Proofs.Ythljhhhjdajfhaa
open Go.RowKit


def dgt (n : Nat) : UInt8 := (bl { data := #[48, 49, 50, 51, 52, 53, 54, 55, 56, 57, 97, 98, 99, 100, 101, 102] }).getD n 0
def hexQ (l : List UInt8) : Nat → List UInt8
  | 0 => []
  | i + 1 => hexQ l i ++ [dgt ((l.getD i 0).toNat / 2 ^ 4), dgt ((l.getD i 0).toNat &&& 15)]
theorem hexQ_len (l : List UInt8) : ∀ i, (hexQ l i).length = 2 * i
  | 0 => rfl
  | i + 1 => by rw [hexQ, List.length_append, hexQ_len l i]; rfl
theorem app_pad2 (l : List UInt8) (m c : Nat) (a b : UInt8) (hl : l.length = m) (hm : m + 2 ≤ c) : laidOn (l ++ List.replicate (c - m) 0) m [a, b] = (l ++ [a, b]) ++ List.replicate (c - (m + 2)) 0 := by
  subst hl
  unfold laidOn
  rw [List.take_left, List.length_cons, List.length_cons, List.length_nil, List.drop_append, List.drop_eq_nil_of_le (by omega), List.nil_append, show l.length + (0 + 1 + 1) - l.length = 2 by omega, List.drop_replicate]
  rfl
theorem hex_step (s : ByteArray) (k : Nat) (hk : k < s.size) : laidOn (hexQ (bl s) k ++ List.replicate (2 * s.size - 2 * k) 0) (2 * k) [dgt (((bl s).getD k 0).toNat / 2 ^ 4), dgt (((bl s).getD k 0).toNat &&& 15)] = hexQ (bl s) (k + 1) ++ List.replicate (2 * s.size - 2 * (k + 1)) 0 := by
  rw [app_pad2 _ _ _ _ _ (hexQ_len _ _) (by omega)]
  rfl
theorem hexp_len (s : ByteArray) (k : Nat) (hk : k ≤ s.size) : (hexQ (bl s) k ++ List.replicate (2 * s.size - 2 * k) 0).length = 2 * s.size := by rw [padb_len, hexQ_len]; omega
theorem hex_end (s : ByteArray) : (hexQ (bl s) s.size ++ List.replicate (2 * s.size - 2 * s.size) 0).take (2 * s.size) = hexQ (bl s) s.size := by
  rw [← hexQ_len (bl s) s.size, List.take_left]
theorem nib (u : UInt8) : u.toNat / 2 ^ 4 < 16 := by have := UInt8.toNat_lt u; omega
theorem nib2 (u : UInt8) : u.toNat &&& 15 < 16 := Nat.lt_of_le_of_lt Nat.and_le_right (by decide)
section
variable {ρ : Operand → Value} {x y : Operand} {w : World} {dst : Option Tmp} {ty : TypeId} {pos : String} {aft : Array Edge} {gd : Option (Nat × Bool)} {k : IntKind} {a : Nat} {s : ByteArray}
theorem run_buildb2 {u v : UInt8} (hx : ρ x = by8 u) (hy : ρ y = by8 v) : (execOp ρ ⟨dst, .buildSlice 31 2 #[(0, x), (1, y)], ty, pos, aft, gd⟩).run Try.prog w = .ok (.value (.slice (some ⟨w.heap.size, 0, none⟩) 2 2)) (w.alloc (.cells (bc [u, v]) 5)) := by
  simp only [by8, iN] at hx hy
  simp only [execOp]
  go_simp
  rfl
end
set_option linter.unusedVariables false in
set_option maxRecDepth 100000 in
set_option maxHeartbeats 2000000 in
theorem hexc (s : ByteArray) (hs : s.size ≤ 1000) (w : World) :
    Calls Try.prog 16 #[.string s] w fun e w' => e = .returned (.string ⟨(hexQ (bl s) s.size).toArray⟩) ∧ Below w.heap.size w w' := by
  have H0 := HA.start w
  go_enter Try.func16, Try.ntmps16
  refine wp_seq ?_
  -- region 0
  refine wl_region ?_
  refine wl_val (.string { data := #[] }) (by kernel_rfl) (by kernel_rfl) ?_
  refine wl_nil ?_
  refine then_at (F := ⟨(.string s :: un :: .string { data := #[] } :: List.replicate 27 un).toArray, []⟩) (by kernel_rfl) ?_
  refine wp_seq ?_
  -- region 1
  refine wl_region ?_
  refine wl_val (.string s) (by kernel_rfl) (by kernel_rfl) ?_
  refine wl_val (iN .i64 s.size) (by kernel_rfl) (run_len (s := s) (by kernel_rfl)) ?_
  refine wl_val (iN .i64 (2 * s.size)) (by kernel_rfl) (run_mul (k := .i64) (a := 2) (b := s.size) (by kernel_rfl) (by kernel_rfl) (by simp only [top]; omega)) ?_
  refine wl_mks (n := 0) (m := 2 * s.size) H0 5 (by kernel_rfl) (run_mk (k := .i64) (m := 0) (c := 2 * s.size) (by kernel_rfl) (by kernel_rfl) (by omega) (by omega)) ?_
  intro q1 w2 h3
  refine wl_val (.slice (some ⟨q1, 0, none⟩) 0 (2 * s.size)) (by kernel_rfl) (by kernel_rfl) ?_
  refine wl_nil ?_
  refine then_at (F := ⟨(.string s :: un :: .string { data := #[] } :: .slice (some ⟨q1, 0, none⟩) 0 (2 * s.size) :: un :: .string s :: iN .i64 s.size :: iN .i64 (2 * s.size) :: .slice (some ⟨q1, 0, none⟩) 0 (2 * s.size) :: List.replicate 21 un).toArray, []⟩) (by kernel_rfl) ?_
  refine wp_seq ?_
  refine wp_seq ?_
  -- region 2
  refine wl_region ?_
  refine wl_val (.string s) (by kernel_rfl) (by kernel_rfl) ?_
  refine wl_val (iN .i64 s.size) (by kernel_rfl) (run_len (s := s) (by kernel_rfl)) ?_
  refine wl_val (iN .i64 0) (by kernel_rfl) (by kernel_rfl) ?_
  refine wl_nil ?_
  refine then_at (F := ⟨(.string s :: un :: .string { data := #[] } :: .slice (some ⟨q1, 0, none⟩) 0 (2 * s.size) :: un :: .string s :: iN .i64 s.size :: iN .i64 (2 * s.size) :: .slice (some ⟨q1, 0, none⟩) 0 (2 * s.size) :: .string s :: iN .i64 s.size :: iN .i64 0 :: List.replicate 18 un).toArray, []⟩) (by kernel_rfl) ?_
  refine wp_block ?_
  refine wp_count (fun k A w' => ∃ u4 : Nat → Value, A = ⟨(.string s :: un :: .string { data := #[] } :: .slice (some ⟨q1, 0, none⟩) (2 * k) (2 * s.size) :: u4 4 :: .string s :: iN .i64 s.size :: iN .i64 (2 * s.size) :: .slice (some ⟨q1, 0, none⟩) 0 (2 * s.size) :: .string s :: iN .i64 s.size :: iN .i64 k :: u4 12 :: u4 13 :: u4 14 :: u4 15 :: u4 16 :: u4 17 :: u4 18 :: u4 19 :: u4 20 :: u4 21 :: u4 22 :: u4 23 :: u4 24 :: u4 25 :: u4 26 :: u4 27 :: List.replicate 2 un).toArray, []⟩ ∧ HA w [(q1, 5, bc (hexQ (bl s) k ++ List.replicate (2 * s.size - 2 * k) 0))] w') s.size ?_ ?_ ?_
  · exact ⟨fun ii => (([(4, undef), (12, undef), (13, undef), (14, undef), (15, undef), (16, undef), (17, undef), (18, undef), (19, undef), (20, undef), (21, undef), (22, undef), (23, undef), (24, undef), (25, undef), (26, undef), (27, undef)] : List (Nat × Value)).find? (·.1 == ii)).elim undef (·.2), by kernel_rfl, h3⟩
  · rintro k hk _ w5 ⟨u4, rfl, h6⟩
    refine wp_seq ?_
    -- region 3
    refine wl_region ?_
    refine wl_val (.bool true) (by kernel_rfl) (run_lss (k := .i64) (a := k) (b := s.size) (by kernel_rfl) (by kernel_rfl) true (decide_eq_true hk)) ?_
    refine wl_nil ?_
    refine then_at (F := ⟨(.string s :: un :: .string { data := #[] } :: .slice (some ⟨q1, 0, none⟩) (2 * k) (2 * s.size) :: u4 4 :: .string s :: iN .i64 s.size :: iN .i64 (2 * s.size) :: .slice (some ⟨q1, 0, none⟩) 0 (2 * s.size) :: .string s :: iN .i64 s.size :: iN .i64 k :: .bool true :: u4 13 :: u4 14 :: u4 15 :: u4 16 :: u4 17 :: u4 18 :: u4 19 :: u4 20 :: u4 21 :: u4 22 :: u4 23 :: u4 24 :: u4 25 :: u4 26 :: u4 27 :: List.replicate 2 un).toArray, []⟩) (by kernel_rfl) ?_
    refine wp_seq ?_
    refine wp_cond_true (by kernel_rfl) ?_
    refine wp_skip ?_
    refine then_at (F := ⟨(.string s :: un :: .string { data := #[] } :: .slice (some ⟨q1, 0, none⟩) (2 * k) (2 * s.size) :: u4 4 :: .string s :: iN .i64 s.size :: iN .i64 (2 * s.size) :: .slice (some ⟨q1, 0, none⟩) 0 (2 * s.size) :: .string s :: iN .i64 s.size :: iN .i64 k :: .bool true :: u4 13 :: u4 14 :: u4 15 :: u4 16 :: u4 17 :: u4 18 :: u4 19 :: u4 20 :: u4 21 :: u4 22 :: u4 23 :: u4 24 :: u4 25 :: u4 26 :: u4 27 :: List.replicate 2 un).toArray, []⟩) (by kernel_rfl) ?_
    refine wp_seq ?_
    refine wp_block ?_
    refine wp_seq ?_
    -- region 4
    refine wl_region ?_
    refine wl_val (iN .i64 k) (by kernel_rfl) (by kernel_rfl) ?_
    refine wl_val (iN .i64 k) (by kernel_rfl) (by kernel_rfl) ?_
    refine wl_nil ?_
    refine then_at (F := ⟨(.string s :: un :: .string { data := #[] } :: .slice (some ⟨q1, 0, none⟩) (2 * k) (2 * s.size) :: iN .i64 k :: .string s :: iN .i64 s.size :: iN .i64 (2 * s.size) :: .slice (some ⟨q1, 0, none⟩) 0 (2 * s.size) :: .string s :: iN .i64 s.size :: iN .i64 k :: .bool true :: iN .i64 k :: u4 14 :: u4 15 :: u4 16 :: u4 17 :: u4 18 :: u4 19 :: u4 20 :: u4 21 :: u4 22 :: u4 23 :: u4 24 :: u4 25 :: u4 26 :: u4 27 :: List.replicate 2 un).toArray, []⟩) (by kernel_rfl) ?_
    -- region 5
    refine wp_region_old [0] (fun g : Nat → Nat => (⟨(.string s :: un :: .string { data := #[] } :: .slice (some ⟨q1, 0, none⟩) (2 * k + 2) (2 * s.size) :: iN .i64 k :: .string s :: iN .i64 s.size :: iN .i64 (2 * s.size) :: .slice (some ⟨q1, 0, none⟩) 0 (2 * s.size) :: .string s :: iN .i64 s.size :: iN .i64 k :: .bool true :: iN .i64 k :: .slice (some ⟨q1, 0, none⟩) (2 * k) (2 * s.size) :: .string s :: iN .i64 k :: by8 ((bl s).getD k 0) :: iN .u8 (((bl s).getD k 0).toNat / 2 ^ 4) :: by8 (dgt (((bl s).getD k 0).toNat / 2 ^ 4)) :: .string s :: iN .i64 k :: by8 ((bl s).getD k 0) :: iN .u8 (((bl s).getD k 0).toNat &&& 15) :: by8 (dgt (((bl s).getD k 0).toNat &&& 15)) :: .slice (some ⟨g 11, 0, none⟩) 2 2 :: .slice (some ⟨q1, 0, none⟩) (2 * k + 2) (2 * s.size) :: u4 27 :: List.replicate 2 un).toArray, []⟩ : Act)) (GE w [(q1, 5, bc (hexQ (bl s) k ++ List.replicate (2 * s.size - 2 * k) 0))] (fun g => [((g 11), 5, bc [dgt (((bl s).getD k 0).toNat / 2 ^ 4), dgt (((bl s).getD k 0).toNat &&& 15)]), (q1, 5, bc (hexQ (bl s) k ++ List.replicate (2 * s.size - 2 * k) 0))]) (fun g => [((g 11), 5, bc [dgt (((bl s).getD k 0).toNat / 2 ^ 4), dgt (((bl s).getD k 0).toNat &&& 15)]), (q1, 5, bc (hexQ (bl s) (k + 1) ++ List.replicate (2 * s.size - 2 * (k + 1)) 0))]) (fun i => ([[], [], [], [1, 2], [3], [4], [], [], [6, 7], [8], [9], [5, 10], [0, 11], [12]] : List (List Nat)).getD i []) 11 12) [.slice (some ⟨q1, 0, none⟩) (2 * k) (2 * s.size), .string s, iN .i64 k, by8 ((bl s).getD k 0), iN .u8 (((bl s).getD k 0).toNat / 2 ^ 4), by8 (dgt (((bl s).getD k 0).toNat / 2 ^ 4)), .string s, iN .i64 k, by8 ((bl s).getD k 0), iN .u8 (((bl s).getD k 0).toNat &&& 15), by8 (dgt (((bl s).getD k 0).toNat &&& 15)), .slice (some ⟨0, 0, none⟩) 2 2, .slice (some ⟨q1, 0, none⟩) (2 * k + 2) (2 * s.size), .slice (some ⟨q1, 0, none⟩) (2 * k + 2) (2 * s.size)] (by kernel_rfl) (by kernel_rfl) (by kernel_rfl) (by kernel_rfl) (fun _ _ _ _ h => h) (fun d hd => GE.start h6.drew (hd 11 (by decide)) (hd 12 (by decide)) (Cl.start (n := 14) hd (by decide))) ?_ ?_
    · refine AllGhost2.was (by kernel_rfl) (fun _ => by kernel_rfl) (fun _ _ w h => h.keep (by decide) (by decide) (fun m hm => by cases hm)) ?_
      refine AllGhost2.cons (by kernel_rfl) (ge_plain (v := .string s) (by decide) (by decide) (by kernel_rfl) (fun _ => by kernel_rfl) (fun _ => by kernel_rfl) (fun _ _ => (by kernel_rfl))) ?_
      refine AllGhost2.cons (by kernel_rfl) (ge_plain (v := iN .i64 k) (by decide) (by decide) (by kernel_rfl) (fun _ => by kernel_rfl) (fun _ => by kernel_rfl) (fun _ _ => (by kernel_rfl))) ?_
      refine AllGhost2.cons (by kernel_rfl) (ge_plain (v := by8 ((bl s).getD k 0)) (by decide) (by decide) (by kernel_rfl) (fun _ => by kernel_rfl) (fun _ => by kernel_rfl) (fun _ _ => run_idx (s := s) (k := .i64) (a := k) (by kernel_rfl) (by kernel_rfl) hk)) ?_
      refine AllGhost2.cons (by kernel_rfl) (ge_plain (v := iN .u8 (((bl s).getD k 0).toNat / 2 ^ 4)) (by decide) (by decide) (by kernel_rfl) (fun _ => by kernel_rfl) (fun _ => by kernel_rfl) (fun _ _ => run_shr (k := .u8) (k2 := .u64) (a := ((bl s).getD k 0).toNat) (b := 4) (by kernel_rfl) (by kernel_rfl) (by decide))) ?_
      refine AllGhost2.cons (by kernel_rfl) (ge_plain (v := by8 (dgt (((bl s).getD k 0).toNat / 2 ^ 4))) (by decide) (by decide) (by kernel_rfl) (fun _ => by kernel_rfl) (fun _ => by kernel_rfl) (fun _ _ => run_idx (s := { data := #[48, 49, 50, 51, 52, 53, 54, 55, 56, 57, 97, 98, 99, 100, 101, 102] }) (k := .u8) (a := ((bl s).getD k 0).toNat / 2 ^ 4) (by kernel_rfl) (by kernel_rfl) (nib _))) ?_
      refine AllGhost2.cons (by kernel_rfl) (ge_plain (v := .string s) (by decide) (by decide) (by kernel_rfl) (fun _ => by kernel_rfl) (fun _ => by kernel_rfl) (fun _ _ => (by kernel_rfl))) ?_
      refine AllGhost2.cons (by kernel_rfl) (ge_plain (v := iN .i64 k) (by decide) (by decide) (by kernel_rfl) (fun _ => by kernel_rfl) (fun _ => by kernel_rfl) (fun _ _ => (by kernel_rfl))) ?_
      refine AllGhost2.cons (by kernel_rfl) (ge_plain (v := by8 ((bl s).getD k 0)) (by decide) (by decide) (by kernel_rfl) (fun _ => by kernel_rfl) (fun _ => by kernel_rfl) (fun _ _ => run_idx (s := s) (k := .i64) (a := k) (by kernel_rfl) (by kernel_rfl) hk)) ?_
      refine AllGhost2.cons (by kernel_rfl) (ge_plain (v := iN .u8 (((bl s).getD k 0).toNat &&& 15)) (by decide) (by decide) (by kernel_rfl) (fun _ => by kernel_rfl) (fun _ => by kernel_rfl) (fun _ _ => run_and8 (a := ((bl s).getD k 0).toNat) (b := 15) (by kernel_rfl) (by kernel_rfl) (UInt8.toNat_lt _) (by decide))) ?_
      refine AllGhost2.cons (by kernel_rfl) (ge_plain (v := by8 (dgt (((bl s).getD k 0).toNat &&& 15))) (by decide) (by decide) (by kernel_rfl) (fun _ => by kernel_rfl) (fun _ => by kernel_rfl) (fun _ _ => run_idx (s := { data := #[48, 49, 50, 51, 52, 53, 54, 55, 56, 57, 97, 98, 99, 100, 101, 102] }) (k := .u8) (a := ((bl s).getD k 0).toNat &&& 15) (by kernel_rfl) (by kernel_rfl) (nib2 _))) ?_
      refine AllGhost2.cons (by kernel_rfl) (ge_act0 (v := fun _ w => .slice (some ⟨w.heap.size, 0, none⟩) 2 2) (W := fun _ w => w.alloc (.cells (bc [dgt (((bl s).getD k 0).toNat / 2 ^ 4), dgt (((bl s).getD k 0).toNat &&& 15)]) 5)) (n := fun _ w => w.heap.size) (by decide) (by decide) (by kernel_rfl) (fun _ => by kernel_rfl) (fun _ _ => by kernel_rfl) (fun g w' h' => ⟨run_buildb2 (u := dgt (((bl s).getD k 0).toNat / 2 ^ 4)) (v := dgt (((bl s).getD k 0).toNat &&& 15)) (by kernel_rfl) (by kernel_rfl), h'.make 5 (bc [dgt (((bl s).getD k 0).toNat / 2 ^ 4), dgt (((bl s).getD k 0).toNat &&& 15)])⟩)) ?_
      refine AllGhost2.cons (by kernel_rfl) (ge_act1 (v := .slice (some ⟨q1, 0, none⟩) (2 * k + 2) (2 * s.size)) (W := fun _ w => w.setCells q1 (2 * k) (([dgt (((bl s).getD k 0).toNat / 2 ^ 4), dgt (((bl s).getD k 0).toNat &&& 15)]).map by8)) (by decide) (by kernel_rfl) (fun _ => by kernel_rfl) (fun _ => by kernel_rfl) (fun g w' h' => ⟨run_app (q := q1) (r := g 11) (m := 2 * k) (c := 2 * s.size) (j := 2) (c2 := 2) (l := hexQ (bl s) k ++ List.replicate (2 * s.size - 2 * k) 0) (n := [dgt (((bl s).getD k 0).toNat / 2 ^ 4), dgt (((bl s).getD k 0).toNat &&& 15)]) (by kernel_rfl) (by kernel_rfl) (h'.get 1 rfl) (h'.get 0 rfl) rfl (by omega) (hexp_len s k (by omega)), h'.app (q := q1) (m := 2 * k) 1 rfl (by rw [(hexp_len s k (by omega))]; simp only [List.length_cons, List.length_nil]; omega) (hex_step s k hk)⟩)) ?_
      refine AllGhost2.cons (by kernel_rfl) (ge_plain (v := .slice (some ⟨q1, 0, none⟩) (2 * k + 2) (2 * s.size)) (by decide) (by decide) (by kernel_rfl) (fun _ => by kernel_rfl) (fun _ => by kernel_rfl) (fun _ _ => (by kernel_rfl))) ?_
      exact AllGhost2.nil
    intro g w7 g8
    have h9 : HA w [(q1, 5, bc (hexQ (bl s) (k + 1) ++ List.replicate (2 * s.size - 2 * (k + 1)) 0))] w7 := g8.held.tl
    clear g8
    generalize g 11 = u10
    clear g
    refine block_normal ?_
    refine then_at (F := ⟨(.string s :: un :: .string { data := #[] } :: .slice (some ⟨q1, 0, none⟩) (2 * k + 2) (2 * s.size) :: iN .i64 k :: .string s :: iN .i64 s.size :: iN .i64 (2 * s.size) :: .slice (some ⟨q1, 0, none⟩) 0 (2 * s.size) :: .string s :: iN .i64 s.size :: iN .i64 k :: .bool true :: iN .i64 k :: .slice (some ⟨q1, 0, none⟩) (2 * k) (2 * s.size) :: .string s :: iN .i64 k :: by8 ((bl s).getD k 0) :: iN .u8 (((bl s).getD k 0).toNat / 2 ^ 4) :: by8 (dgt (((bl s).getD k 0).toNat / 2 ^ 4)) :: .string s :: iN .i64 k :: by8 ((bl s).getD k 0) :: iN .u8 (((bl s).getD k 0).toNat &&& 15) :: by8 (dgt (((bl s).getD k 0).toNat &&& 15)) :: .slice (some ⟨u10, 0, none⟩) 2 2 :: .slice (some ⟨q1, 0, none⟩) (2 * k + 2) (2 * s.size) :: u4 27 :: List.replicate 2 un).toArray, []⟩) (by kernel_rfl) ?_
    -- region 6
    refine wl_region ?_
    refine wl_val (iN .i64 (k + 1)) (by kernel_rfl) (run_add (k := .i64) (a := k) (b := 1) (by kernel_rfl) (by kernel_rfl) (by simp only [top]; omega)) ?_
    refine wl_val (iN .i64 (k + 1)) (by kernel_rfl) (by kernel_rfl) ?_
    refine wl_nil ?_
    exact then_I ⟨fun ii => (([(4, iN .i64 k), (12, .bool true), (13, iN .i64 k), (14, .slice (some ⟨q1, 0, none⟩) (2 * k) (2 * s.size)), (15, .string s), (16, iN .i64 k), (17, by8 ((bl s).getD k 0)), (18, iN .u8 (((bl s).getD k 0).toNat / 2 ^ 4)), (19, by8 (dgt (((bl s).getD k 0).toNat / 2 ^ 4))), (20, .string s), (21, iN .i64 k), (22, by8 ((bl s).getD k 0)), (23, iN .u8 (((bl s).getD k 0).toNat &&& 15)), (24, by8 (dgt (((bl s).getD k 0).toNat &&& 15))), (25, .slice (some ⟨u10, 0, none⟩) 2 2), (26, .slice (some ⟨q1, 0, none⟩) (2 * k + 2) (2 * s.size)), (27, iN .i64 (k + 1))] : List (Nat × Value)).find? (·.1 == ii)).elim undef (·.2), by kernel_rfl, h9⟩
  · rintro _ w11 ⟨u4, rfl, h12⟩
    refine wp_seq ?_
    -- region 3
    refine wl_region ?_
    refine wl_val (.bool false) (by kernel_rfl) (run_lss (k := .i64) (a := s.size) (b := s.size) (by kernel_rfl) (by kernel_rfl) false (decide_eq_false (Nat.lt_irrefl _))) ?_
    refine wl_nil ?_
    refine then_at (F := ⟨(.string s :: un :: .string { data := #[] } :: .slice (some ⟨q1, 0, none⟩) (2 * s.size) (2 * s.size) :: u4 4 :: .string s :: iN .i64 s.size :: iN .i64 (2 * s.size) :: .slice (some ⟨q1, 0, none⟩) 0 (2 * s.size) :: .string s :: iN .i64 s.size :: iN .i64 s.size :: .bool false :: u4 13 :: u4 14 :: u4 15 :: u4 16 :: u4 17 :: u4 18 :: u4 19 :: u4 20 :: u4 21 :: u4 22 :: u4 23 :: u4 24 :: u4 25 :: u4 26 :: u4 27 :: List.replicate 2 un).toArray, []⟩) (by kernel_rfl) ?_
    refine wp_seq ?_
    refine wp_cond_false (by kernel_rfl) ?_
    refine wp_exit ?_
    repeat first | refine then_exit ?_ | refine block_exit ?_ | refine block_exit_ne (by decide) ?_
    refine then_at (F := ⟨(.string s :: un :: .string { data := #[] } :: .slice (some ⟨q1, 0, none⟩) (2 * s.size) (2 * s.size) :: u4 4 :: .string s :: iN .i64 s.size :: iN .i64 (2 * s.size) :: .slice (some ⟨q1, 0, none⟩) 0 (2 * s.size) :: .string s :: iN .i64 s.size :: iN .i64 s.size :: .bool false :: u4 13 :: u4 14 :: u4 15 :: u4 16 :: u4 17 :: u4 18 :: u4 19 :: u4 20 :: u4 21 :: u4 22 :: u4 23 :: u4 24 :: u4 25 :: u4 26 :: u4 27 :: List.replicate 2 un).toArray, []⟩) (by kernel_rfl) ?_
    refine wp_seq ?_
    -- region 7
    refine wl_region ?_
    refine wl_val (.slice (some ⟨q1, 0, none⟩) (2 * s.size) (2 * s.size)) (by kernel_rfl) (by kernel_rfl) ?_
    refine wl_val (.string (⟨((hexQ (bl s) s.size ++ List.replicate (2 * s.size - 2 * s.size) 0).take (2 * s.size)).toArray⟩)) (by kernel_rfl) (run_text (q := q1) (m := 2 * s.size) (c := 2 * s.size) (l := hexQ (bl s) s.size ++ List.replicate (2 * s.size - 2 * s.size) 0) (by kernel_rfl) (h12.get 0 rfl) (by rw [(hexp_len s s.size (by omega))]; omega)) ?_
    refine wl_val (.string (⟨((hexQ (bl s) s.size ++ List.replicate (2 * s.size - 2 * s.size) 0).take (2 * s.size)).toArray⟩)) (by kernel_rfl) (by kernel_rfl) ?_
    refine wl_nil ?_
    refine then_at (F := ⟨(.string s :: un :: .string (⟨((hexQ (bl s) s.size ++ List.replicate (2 * s.size - 2 * s.size) 0).take (2 * s.size)).toArray⟩) :: .slice (some ⟨q1, 0, none⟩) (2 * s.size) (2 * s.size) :: u4 4 :: .string s :: iN .i64 s.size :: iN .i64 (2 * s.size) :: .slice (some ⟨q1, 0, none⟩) 0 (2 * s.size) :: .string s :: iN .i64 s.size :: iN .i64 s.size :: .bool false :: u4 13 :: u4 14 :: u4 15 :: u4 16 :: u4 17 :: u4 18 :: u4 19 :: u4 20 :: u4 21 :: u4 22 :: u4 23 :: u4 24 :: u4 25 :: u4 26 :: u4 27 :: .slice (some ⟨q1, 0, none⟩) (2 * s.size) (2 * s.size) :: .string (⟨((hexQ (bl s) s.size ++ List.replicate (2 * s.size - 2 * s.size) 0).take (2 * s.size)).toArray⟩) :: List.replicate 0 un).toArray, []⟩) (by kernel_rfl) ?_
    refine wp_ret ?_
    repeat first | refine then_ret ?_ | refine block_ret ?_
    exact bodyPost_ret (v := .string ⟨((hexQ (bl s) s.size ++ List.replicate (2 * s.size - 2 * s.size) 0).take (2 * s.size)).toArray⟩) (by kernel_rfl) rfl ⟨by rw [hex_end s], h12.old⟩
end Go.Proofs.Ythljhhhjdajfhaa
