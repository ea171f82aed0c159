/-
  ScalarReduces: the walk.
-/
import Derived.Test.YtdblnbcclfenkaaDoorRefS4
import Derived.Test.YtdblnbcclfenkaaDoorClamp
namespace Go.Proofs.YtdblnbcclfenkaaDoor
open Go.RowKit Num

theorem run_eqb {ρ : Operand → Value} {x y : Operand} (p q : Bool) {w : World} {dst : Option Tmp} {ty : TypeId} {pos : String} {aft : Array Edge} {gd : Option (Nat × Bool)} (hx : ρ x = .bool p) (hy : ρ y = .bool q) :
    (execOp ρ ⟨dst, .binOp .eql 4 x y 4, ty, pos, aft, gd⟩).run Tryd.prog w = .ok (.value (.bool (p == q))) w := by
  simp only [execOp, hx, hy]
  cases p <;> cases q <;> go_simp
theorem run_cut_c {ρ : Operand → Value} {x y z : Operand} {s : ByteArray} {w : World} {dst : Option Tmp} {ty : TypeId} {pos : String} {aft : Array Edge} {gd : Option (Nat × Bool)} (hx : ρ x = .string s) (hz : ρ z = iN .i64 1) (hy : ρ y = iN .i64 31) (hl : s.size = 32) :
    (execOp ρ ⟨dst, .slice 9 x (some z) (some y) none, ty, pos, aft, gd⟩).run Tryd.prog w = .ok (.value (.string (s.extract 1 31))) w := run_cut_mid hx hz hy (by omega) (by decide)
theorem isS_iff (s : ByteArray) : isS s ↔ s.size = 32 ∧ rS s = s := by
  unfold isS
  constructor
  · rintro ⟨h1, h2⟩
    refine ⟨h1, ?_⟩
    have e : val s = numS s := by
      unfold val
      rw [cut_short s (by omega), Nat.mod_eq_of_lt h2]
    unfold rS
    rw [e, bytesOf_num s h1]
  · rintro ⟨h1, h2⟩
    refine ⟨h1, ?_⟩
    have e := numS_bytesOf (val s) (val_lt32 s)
    have e2 : bytesOf (val s) = s := h2
    rw [e2] at e
    rw [e]
    exact val_lt s
/-- the reference's way to clamp -/
def rclS (s : ByteArray) : ByteArray := (byteS (sb s 0 / 8 * 8) ++ s.extract 1 31) ++ byteS (sb s 31 % 64 + 64)
theorem and248 (x : Nat) (h : x < 256) : cla x = x / 8 * 8 := by
  have : ∀ y : Fin 256, cla y.1 = y.1 / 8 * 8 := by decide +kernel
  exact this ⟨x, h⟩
theorem and127 (x : Nat) (h : x < 256) : clb x = x % 64 + 64 := by
  have : ∀ y : Fin 256, clb y.1 = y.1 % 64 + 64 := by decide +kernel
  exact this ⟨x, h⟩
theorem sb_bl (s : ByteArray) (i : Nat) (h : i < s.size) : sb s i = ((bl s).getD i 0).toNat := by
  rw [← sb_get s i h]
  unfold bl
  rw [List.getD_eq_getElem?_getD, Array.getElem?_toList, Array.getElem?_eq_getElem h]
  rfl
theorem list32 (l : List UInt8) (h : l.length = 32) (a b : UInt8) : (l.set 0 a).set 31 b = a :: ((l.drop 1).take 30 ++ [b]) := by
  refine List.ext_getElem? fun i => ?_
  by_cases h0 : i = 0
  · subst h0
    rw [List.getElem?_set_ne (by decide), List.getElem?_set_self (by omega)]
    rfl
  · obtain ⟨k, rfl⟩ : ∃ k, i = k + 1 := ⟨i - 1, by omega⟩
    rw [List.getElem?_cons_succ]
    by_cases h1 : k < 30
    · rw [List.getElem?_set_ne (by omega), List.getElem?_set_ne (by omega), List.getElem?_append_left (by rw [List.length_take, List.length_drop]; omega), List.getElem?_take_of_lt h1, List.getElem?_drop, Nat.add_comm 1 k]
    · rw [List.getElem?_append_right (by rw [List.length_take, List.length_drop]; omega), List.length_take, List.length_drop, h]
      by_cases h2 : k = 30
      · subst h2
        rw [List.getElem?_set_self (by rw [List.length_set]; omega)]
        rfl
      · rw [List.getElem?_eq_none (by rw [List.length_set, List.length_set]; omega), List.getElem?_eq_none (by simp; omega)]
theorem clamp_same (s : ByteArray) (h : s.size = 32) : clampS s = rclS s := by
  have hl : (bl s).length = 32 := by rw [bl_len, h]
  unfold clampS clampL rclS
  rw [list32 _ hl, sb_bl s 0 (by omega), sb_bl s 31 (by omega), ← and248 _ (u8_lt _), ← and127 _ (u8_lt _)]
  have e : (s.extract 1 31).data.toList = ((bl s).drop 1).take 30 := by
    rw [ByteArray.data_extract, Array.toList_extract, List.extract_eq_take_drop]
    rfl
  have e1 : ∀ n, (byteS n).data.toList = [UInt8.ofNat n] := fun _ => rfl
  apply ByteArray.ext
  apply Array.toList_inj.1
  rw [List.toList_toArray, ByteArray.data_append, ByteArray.data_append, Array.toList_append, Array.toList_append, e, e1, e1]
  rfl

set_option linter.unusedVariables false in
set_option maxRecDepth 100000 in
set_option maxHeartbeats 2000000 in
theorem rcheck_yes (s : ByteArray) (hl : s.size = 32) (hr : rS s = s) (w : World) :
    Calls Tryd.prog 13 #[.string s] w fun e w' => e = .returned (.bool true) ∧ Below w.heap.size w w' := by
  have H0 := HA.start w
  go_enter Tryd.func13, Tryd.ntmps13
  refine wp_seq ?_
  -- region 0
  refine wl_region ?_
  refine wl_val (.bool false) (by kernel_rfl) (by kernel_rfl) ?_
  refine wl_nil ?_
  refine then_at (F := ⟨(.string s :: un :: .bool false :: List.replicate 9 un).toArray, []⟩) (by kernel_rfl) ?_
  refine wp_seq ?_
  -- region 1
  refine wl_region ?_
  refine wl_val (.string s) (by kernel_rfl) (by kernel_rfl) ?_
  refine wl_val (iN .i64 s.size) (by kernel_rfl) (run_len (s := s) (by kernel_rfl)) ?_
  refine wl_val (.bool true) (by kernel_rfl) (run_eqi (k := .i64) (a := s.size) (b := 32) (by kernel_rfl) (by kernel_rfl) true (decide_eq_true hl)) ?_
  refine wl_val (.bool true) (by kernel_rfl) (by kernel_rfl) ?_
  refine wl_val (.string s) (by kernel_rfl) (by kernel_rfl) ?_
  refine wl_call (v := .string (rS s)) H0 (by kernel_rfl) enter11 #[.string s] (by kernel_rfl) (rReduce_any s w) ?_
  intro w1 h2
  refine wl_val (.string s) (by kernel_rfl) (by kernel_rfl) ?_
  refine wl_val (.bool true) (by kernel_rfl) (run_eqs (s := rS s) (t := s) (by kernel_rfl) (by kernel_rfl) true (decide_eq_true hr)) ?_
  refine wl_val (.bool true) (by kernel_rfl) (by kernel_rfl) ?_
  refine wl_val (.bool true) (by kernel_rfl) (by kernel_rfl) ?_
  refine wl_nil ?_
  refine then_at (F := ⟨(.string s :: un :: .bool true :: .string s :: iN .i64 s.size :: .bool true :: .bool true :: .string s :: .string (rS s) :: .string s :: .bool true :: .bool true :: List.replicate 0 un).toArray, []⟩) (by kernel_rfl) ?_
  refine wp_ret ?_
  repeat first | refine then_ret ?_ | refine block_ret ?_
  exact bodyPost_ret (v := .bool true) (by kernel_rfl) rfl ⟨rfl, h2.old⟩

set_option linter.unusedVariables false in
set_option maxRecDepth 100000 in
set_option maxHeartbeats 2000000 in
theorem rcheck_no (s : ByteArray) (hl : s.size = 32) (hr : ¬ rS s = s) (w : World) :
    Calls Tryd.prog 13 #[.string s] w fun e w' => e = .returned (.bool false) ∧ Below w.heap.size w w' := by
  have H0 := HA.start w
  go_enter Tryd.func13, Tryd.ntmps13
  refine wp_seq ?_
  -- region 0
  refine wl_region ?_
  refine wl_val (.bool false) (by kernel_rfl) (by kernel_rfl) ?_
  refine wl_nil ?_
  refine then_at (F := ⟨(.string s :: un :: .bool false :: List.replicate 9 un).toArray, []⟩) (by kernel_rfl) ?_
  refine wp_seq ?_
  -- region 1
  refine wl_region ?_
  refine wl_val (.string s) (by kernel_rfl) (by kernel_rfl) ?_
  refine wl_val (iN .i64 s.size) (by kernel_rfl) (run_len (s := s) (by kernel_rfl)) ?_
  refine wl_val (.bool true) (by kernel_rfl) (run_eqi (k := .i64) (a := s.size) (b := 32) (by kernel_rfl) (by kernel_rfl) true (decide_eq_true hl)) ?_
  refine wl_val (.bool true) (by kernel_rfl) (by kernel_rfl) ?_
  refine wl_val (.string s) (by kernel_rfl) (by kernel_rfl) ?_
  refine wl_call (v := .string (rS s)) H0 (by kernel_rfl) enter11 #[.string s] (by kernel_rfl) (rReduce_any s w) ?_
  intro w1 h2
  refine wl_val (.string s) (by kernel_rfl) (by kernel_rfl) ?_
  refine wl_val (.bool false) (by kernel_rfl) (run_eqs (s := rS s) (t := s) (by kernel_rfl) (by kernel_rfl) false (decide_eq_false hr)) ?_
  refine wl_val (.bool false) (by kernel_rfl) (by kernel_rfl) ?_
  refine wl_val (.bool false) (by kernel_rfl) (by kernel_rfl) ?_
  refine wl_nil ?_
  refine then_at (F := ⟨(.string s :: un :: .bool false :: .string s :: iN .i64 s.size :: .bool true :: .bool true :: .string s :: .string (rS s) :: .string s :: .bool false :: .bool false :: List.replicate 0 un).toArray, []⟩) (by kernel_rfl) ?_
  refine wp_ret ?_
  repeat first | refine then_ret ?_ | refine block_ret ?_
  exact bodyPost_ret (v := .bool false) (by kernel_rfl) rfl ⟨rfl, h2.old⟩

set_option linter.unusedVariables false in
set_option maxRecDepth 100000 in
set_option maxHeartbeats 2000000 in
theorem rcheck_len (s : ByteArray) (hl : ¬ s.size = 32) (w : World) :
    Calls Tryd.prog 13 #[.string s] w fun e w' => e = .returned (.bool false) ∧ Below w.heap.size w w' := by
  have H0 := HA.start w
  go_enter Tryd.func13, Tryd.ntmps13
  refine wp_seq ?_
  -- region 0
  refine wl_region ?_
  refine wl_val (.bool false) (by kernel_rfl) (by kernel_rfl) ?_
  refine wl_nil ?_
  refine then_at (F := ⟨(.string s :: un :: .bool false :: List.replicate 9 un).toArray, []⟩) (by kernel_rfl) ?_
  refine wp_seq ?_
  -- region 1
  refine wl_region ?_
  refine wl_val (.string s) (by kernel_rfl) (by kernel_rfl) ?_
  refine wl_val (iN .i64 s.size) (by kernel_rfl) (run_len (s := s) (by kernel_rfl)) ?_
  refine wl_val (.bool false) (by kernel_rfl) (run_eqi (k := .i64) (a := s.size) (b := 32) (by kernel_rfl) (by kernel_rfl) false (decide_eq_false hl)) ?_
  refine wl_val (.bool false) (by kernel_rfl) (by kernel_rfl) ?_
  refine wl_skip (by kernel_rfl) ?_
  refine wl_skip (by kernel_rfl) ?_
  refine wl_skip (by kernel_rfl) ?_
  refine wl_skip (by kernel_rfl) ?_
  refine wl_val (.bool false) (by kernel_rfl) (by kernel_rfl) ?_
  refine wl_val (.bool false) (by kernel_rfl) (by kernel_rfl) ?_
  refine wl_nil ?_
  refine then_at (F := ⟨(.string s :: un :: .bool false :: .string s :: iN .i64 s.size :: .bool false :: .bool false :: un :: un :: un :: un :: .bool false :: List.replicate 0 un).toArray, []⟩) (by kernel_rfl) ?_
  refine wp_ret ?_
  repeat first | refine then_ret ?_ | refine block_ret ?_
  exact bodyPost_ret (v := .bool false) (by kernel_rfl) rfl ⟨rfl, H0.old⟩

theorem rCheck_yes (s : ByteArray) (h : isS s) (w : World) : Calls Tryd.prog 13 #[.string s] w fun e w' => e = .returned (.bool true) ∧ Below w.heap.size w w' :=
  rcheck_yes s ((isS_iff s).1 h).1 ((isS_iff s).1 h).2 w
theorem rCheck_no (s : ByteArray) (h : ¬ isS s) (w : World) : Calls Tryd.prog 13 #[.string s] w fun e w' => e = .returned (.bool false) ∧ Below w.heap.size w w' := by
  by_cases hl : s.size = 32
  · exact rcheck_no s hl (fun hr => h ((isS_iff s).2 ⟨hl, hr⟩)) w
  · exact rcheck_len s hl w

theorem size1 (n : Nat) : (byteS n).size = 1 := rfl
theorem len1 (s : ByteArray) (hl : s.size = 32) (n : Nat) : (byteS n).size + (s.extract 1 31).size ≤ 9223372036854775807 := by
  rw [size1, size_extract s 1 31 (by omega)]
  decide
theorem len2 (s : ByteArray) (hl : s.size = 32) (n m : Nat) : (byteS n ++ s.extract 1 31).size + (byteS m).size ≤ 9223372036854775807 := by
  rw [ByteArray.size_append, size1, size1, size_extract s 1 31 (by omega)]
  decide

set_option linter.unusedVariables false in
set_option maxRecDepth 100000 in
set_option maxHeartbeats 2000000 in
theorem rClamp_yes (s : ByteArray) (hl : s.size = 32) (w : World) :
    Calls Tryd.prog 15 #[.string s] w fun e w' => e = .returned (.string (rclS s)) ∧ Below w.heap.size w w' := by
  have hb0 := sb_lt s 0
  have hb1 := sb_lt s 31
  have H0 := HA.start w
  go_enter Tryd.func15, Tryd.ntmps15
  refine wp_seq ?_
  -- region 0
  refine wl_region ?_
  refine wl_val (.string { data := #[] }) (by kernel_rfl) (by kernel_rfl) ?_
  refine wl_nil ?_
  refine then_at (F := ⟨(.string s :: un :: .string { data := #[] } :: List.replicate 19 un).toArray, []⟩) (by kernel_rfl) ?_
  refine wp_seq ?_
  refine wp_seq ?_
  -- region 1
  refine wl_region ?_
  refine wl_val (.string s) (by kernel_rfl) (by kernel_rfl) ?_
  refine wl_val (iN .i64 s.size) (by kernel_rfl) (run_len (s := s) (by kernel_rfl)) ?_
  refine wl_val (.bool false) (by kernel_rfl) (run_nei (k := .i64) (a := s.size) (b := 32) (by kernel_rfl) (by kernel_rfl) false (decide_eq_false (fun h => h hl))) ?_
  refine wl_nil ?_
  refine then_at (F := ⟨(.string s :: un :: .string { data := #[] } :: .string s :: iN .i64 s.size :: .bool false :: List.replicate 16 un).toArray, []⟩) (by kernel_rfl) ?_
  refine wp_cond_false (by kernel_rfl) ?_
  refine wp_skip ?_
  refine then_at (F := ⟨(.string s :: un :: .string { data := #[] } :: .string s :: iN .i64 s.size :: .bool false :: List.replicate 16 un).toArray, []⟩) (by kernel_rfl) ?_
  refine wp_seq ?_
  -- region 3
  refine wp_region_ghost (fun g : Nat → Nat => (⟨(.string s :: un :: .string (((byteS (((sb s 0) / 8) * 8) ++ s.extract 1 31) ++ byteS (((sb s 31) % 64) + 64))) :: .string s :: iN .i64 s.size :: .bool false :: .string s :: iN .u8 (sb s 0) :: iN .u8 ((sb s 0) / 8) :: iN .u8 (((sb s 0) / 8) * 8) :: .slice (some ⟨g 4, 0, none⟩) 1 1 :: .string (byteS (((sb s 0) / 8) * 8)) :: .string s :: .string (s.extract 1 31) :: .string ((byteS (((sb s 0) / 8) * 8) ++ s.extract 1 31)) :: .string s :: iN .u8 (sb s 31) :: iN .u8 ((sb s 31) % 64) :: iN .u8 (((sb s 31) % 64) + 64) :: .slice (some ⟨g 13, 0, none⟩) 1 1 :: .string (byteS (((sb s 31) % 64) + 64)) :: .string (((byteS (((sb s 0) / 8) * 8) ++ s.extract 1 31) ++ byteS (((sb s 31) % 64) + 64))) :: List.replicate 0 un).toArray, []⟩ : Act)) (GM w [] [(4, 5, #[iN .u8 (((sb s 0) / 8) * 8)]), (13, 5, #[iN .u8 (((sb s 31) % 64) + 64)])]) [.string s, iN .u8 (sb s 0), iN .u8 ((sb s 0) / 8), iN .u8 (((sb s 0) / 8) * 8), .slice (some ⟨0, 0, none⟩) 1 1, .string (byteS (((sb s 0) / 8) * 8)), .string s, .string (s.extract 1 31), .string ((byteS (((sb s 0) / 8) * 8) ++ s.extract 1 31)), .string s, iN .u8 (sb s 31), iN .u8 ((sb s 31) % 64), iN .u8 (((sb s 31) % 64) + 64), .slice (some ⟨0, 0, none⟩) 1 1, .string (byteS (((sb s 31) % 64) + 64)), .string (((byteS (((sb s 0) / 8) * 8) ++ s.extract 1 31) ++ byteS (((sb s 31) % 64) + 64))), .string (((byteS (((sb s 0) / 8) * 8) ++ s.extract 1 31) ++ byteS (((sb s 31) % 64) + 64)))] (by kernel_rfl) (by kernel_rfl) (by kernel_rfl) (by kernel_rfl) (fun _ _ _ _ h => h) (fun d hd => GM.start H0.drew 17 (by kernel_rfl) hd) ?_ ?_
  · refine AllGhost.cons (gm_plain (v := fun _ => .string s) (by kernel_rfl) (fun _ => by kernel_rfl) (fun _ => by kernel_rfl) (fun _ _ => (by kernel_rfl))) ?_
    refine AllGhost.cons (gm_plain (v := fun _ => iN .u8 (sb s 0)) (by kernel_rfl) (fun _ => by kernel_rfl) (fun _ => by kernel_rfl) (fun _ _ => (run_sidx (s := s) (a := 0) (by kernel_rfl) (by kernel_rfl) (by omega)))) ?_
    refine AllGhost.cons (gm_plain (v := fun _ => iN .u8 ((sb s 0) / 8)) (by kernel_rfl) (fun _ => by kernel_rfl) (fun _ => by kernel_rfl) (fun _ _ => (run_quo (k := .u8) (a := sb s 0) (b := 8) (by kernel_rfl) (by kernel_rfl) (by omega) (by simp only [top]; omega)))) ?_
    refine AllGhost.cons (gm_plain (v := fun _ => iN .u8 (((sb s 0) / 8) * 8)) (by kernel_rfl) (fun _ => by kernel_rfl) (fun _ => by kernel_rfl) (fun _ _ => (run_mul (k := .u8) (a := (sb s 0) / 8) (b := 8) (by kernel_rfl) (by kernel_rfl) (by simp only [top]; omega)))) ?_
    refine AllGhost.cons (gm_make (fun m => .slice (some ⟨m, 0, none⟩) 1 1) (by kernel_rfl) (by simp) (fun _ => by kernel_rfl) (fun _ _ => by kernel_rfl) (fun _ _ => (run_byte1 (n := ((sb s 0) / 8) * 8) (by kernel_rfl)))) ?_
    refine AllGhost.cons (gm_reads (v := .string (byteS (((sb s 0) / 8) * 8))) 0 rfl (by kernel_rfl) (fun _ => by kernel_rfl) (fun _ => by kernel_rfl) (by kernel_rfl) (fun g w' hb => run_text [UInt8.ofNat (((sb s 0) / 8) * 8)] (by kernel_rfl) hb (by rw [cs, List.map_cons, List.map_nil, UInt8.toNat_ofNat', Nat.mod_eq_of_lt (show (((sb s 0) / 8) * 8) < 2 ^ 8 by omega)]; rfl) rfl)) ?_
    refine AllGhost.cons (gm_plain (v := fun _ => .string s) (by kernel_rfl) (fun _ => by kernel_rfl) (fun _ => by kernel_rfl) (fun _ _ => (by kernel_rfl))) ?_
    refine AllGhost.cons (gm_plain (v := fun _ => .string (s.extract 1 31)) (by kernel_rfl) (fun _ => by kernel_rfl) (fun _ => by kernel_rfl) (fun _ _ => (run_cut_c (s := s) (by kernel_rfl) (by kernel_rfl) (by kernel_rfl) hl))) ?_
    refine AllGhost.cons (gm_plain (v := fun _ => .string ((byteS (((sb s 0) / 8) * 8) ++ s.extract 1 31))) (by kernel_rfl) (fun _ => by kernel_rfl) (fun _ => by kernel_rfl) (fun _ _ => (run_cat (s := byteS (((sb s 0) / 8) * 8)) (t := s.extract 1 31) (by kernel_rfl) (by kernel_rfl) (by first | exact len1 s hl _ | exact len2 s hl _ _)))) ?_
    refine AllGhost.cons (gm_plain (v := fun _ => .string s) (by kernel_rfl) (fun _ => by kernel_rfl) (fun _ => by kernel_rfl) (fun _ _ => (by kernel_rfl))) ?_
    refine AllGhost.cons (gm_plain (v := fun _ => iN .u8 (sb s 31)) (by kernel_rfl) (fun _ => by kernel_rfl) (fun _ => by kernel_rfl) (fun _ _ => (run_sidx (s := s) (a := 31) (by kernel_rfl) (by kernel_rfl) (by omega)))) ?_
    refine AllGhost.cons (gm_plain (v := fun _ => iN .u8 ((sb s 31) % 64)) (by kernel_rfl) (fun _ => by kernel_rfl) (fun _ => by kernel_rfl) (fun _ _ => (run_rem (k := .u8) (a := sb s 31) (b := 64) (by kernel_rfl) (by kernel_rfl) (by omega)))) ?_
    refine AllGhost.cons (gm_plain (v := fun _ => iN .u8 (((sb s 31) % 64) + 64)) (by kernel_rfl) (fun _ => by kernel_rfl) (fun _ => by kernel_rfl) (fun _ _ => (run_add (k := .u8) (a := (sb s 31) % 64) (b := 64) (by kernel_rfl) (by kernel_rfl) (by simp only [top]; omega)))) ?_
    refine AllGhost.cons (gm_make (fun m => .slice (some ⟨m, 0, none⟩) 1 1) (by kernel_rfl) (by simp) (fun _ => by kernel_rfl) (fun _ _ => by kernel_rfl) (fun _ _ => (run_byte1 (n := ((sb s 31) % 64) + 64) (by kernel_rfl)))) ?_
    refine AllGhost.cons (gm_reads (v := .string (byteS (((sb s 31) % 64) + 64))) 1 rfl (by kernel_rfl) (fun _ => by kernel_rfl) (fun _ => by kernel_rfl) (by kernel_rfl) (fun g w' hb => run_text [UInt8.ofNat (((sb s 31) % 64) + 64)] (by kernel_rfl) hb (by rw [cs, List.map_cons, List.map_nil, UInt8.toNat_ofNat', Nat.mod_eq_of_lt (show (((sb s 31) % 64) + 64) < 2 ^ 8 by omega)]; rfl) rfl)) ?_
    refine AllGhost.cons (gm_plain (v := fun _ => .string (((byteS (((sb s 0) / 8) * 8) ++ s.extract 1 31) ++ byteS (((sb s 31) % 64) + 64)))) (by kernel_rfl) (fun _ => by kernel_rfl) (fun _ => by kernel_rfl) (fun _ _ => (run_cat (s := (byteS (((sb s 0) / 8) * 8) ++ s.extract 1 31)) (t := byteS (((sb s 31) % 64) + 64)) (by kernel_rfl) (by kernel_rfl) (by first | exact len1 s hl _ | exact len2 s hl _ _)))) ?_
    refine AllGhost.cons (gm_plain (v := fun _ => .string (((byteS (((sb s 0) / 8) * 8) ++ s.extract 1 31) ++ byteS (((sb s 31) % 64) + 64)))) (by kernel_rfl) (fun _ => by kernel_rfl) (fun _ => by kernel_rfl) (fun _ _ => (by kernel_rfl))) ?_
    exact AllGhost.nil
  intro g w1 g2
  have h3 := g2.held
  clear g2
  generalize g 4 = u4
  generalize g 13 = u5
  clear g
  refine then_at (F := ⟨(.string s :: un :: .string (((byteS (((sb s 0) / 8) * 8) ++ s.extract 1 31) ++ byteS (((sb s 31) % 64) + 64))) :: .string s :: iN .i64 s.size :: .bool false :: .string s :: iN .u8 (sb s 0) :: iN .u8 ((sb s 0) / 8) :: iN .u8 (((sb s 0) / 8) * 8) :: .slice (some ⟨u4, 0, none⟩) 1 1 :: .string (byteS (((sb s 0) / 8) * 8)) :: .string s :: .string (s.extract 1 31) :: .string ((byteS (((sb s 0) / 8) * 8) ++ s.extract 1 31)) :: .string s :: iN .u8 (sb s 31) :: iN .u8 ((sb s 31) % 64) :: iN .u8 (((sb s 31) % 64) + 64) :: .slice (some ⟨u5, 0, none⟩) 1 1 :: .string (byteS (((sb s 31) % 64) + 64)) :: .string (((byteS (((sb s 0) / 8) * 8) ++ s.extract 1 31) ++ byteS (((sb s 31) % 64) + 64))) :: List.replicate 0 un).toArray, []⟩) (by kernel_rfl) ?_
  refine wp_ret ?_
  repeat first | refine then_ret ?_ | refine block_ret ?_
  exact bodyPost_ret (v := .string (rclS s)) (by kernel_rfl) rfl ⟨rfl, h3.old⟩

set_option linter.unusedVariables false in
set_option maxRecDepth 100000 in
set_option maxHeartbeats 2000000 in
theorem rClamp_len (s : ByteArray) (hl : s.size ≠ 32) (w : World) :
    Calls Tryd.prog 15 #[.string s] w fun e w' => e = .returned (.string ByteArray.empty) ∧ Below w.heap.size w w' := by
  have hb0 := sb_lt s 0
  have hb1 := sb_lt s 31
  have H0 := HA.start w
  go_enter Tryd.func15, Tryd.ntmps15
  refine wp_seq ?_
  -- region 0
  refine wl_region ?_
  refine wl_val (.string { data := #[] }) (by kernel_rfl) (by kernel_rfl) ?_
  refine wl_nil ?_
  refine then_at (F := ⟨(.string s :: un :: .string { data := #[] } :: List.replicate 19 un).toArray, []⟩) (by kernel_rfl) ?_
  refine wp_seq ?_
  refine wp_seq ?_
  -- region 1
  refine wl_region ?_
  refine wl_val (.string s) (by kernel_rfl) (by kernel_rfl) ?_
  refine wl_val (iN .i64 s.size) (by kernel_rfl) (run_len (s := s) (by kernel_rfl)) ?_
  refine wl_val (.bool true) (by kernel_rfl) (run_nei (k := .i64) (a := s.size) (b := 32) (by kernel_rfl) (by kernel_rfl) true (decide_eq_true hl)) ?_
  refine wl_nil ?_
  refine then_at (F := ⟨(.string s :: un :: .string { data := #[] } :: .string s :: iN .i64 s.size :: .bool true :: List.replicate 16 un).toArray, []⟩) (by kernel_rfl) ?_
  refine wp_cond_true (by kernel_rfl) ?_
  refine wp_seq ?_
  -- region 2
  refine wl_region ?_
  refine wl_val (.string { data := #[] }) (by kernel_rfl) (by kernel_rfl) ?_
  refine wl_nil ?_
  refine then_at (F := ⟨(.string s :: un :: .string { data := #[] } :: .string s :: iN .i64 s.size :: .bool true :: List.replicate 16 un).toArray, []⟩) (by kernel_rfl) ?_
  refine wp_ret ?_
  repeat first | refine then_ret ?_ | refine block_ret ?_
  exact bodyPost_ret (v := .string ByteArray.empty) (by kernel_rfl) rfl ⟨rfl, H0.old⟩

theorem rClamp_same (s : ByteArray) (hl : s.size = 32) (w : World) : Calls Tryd.prog 15 #[.string s] w fun e w' => e = .returned (.string (clampS s)) ∧ Below w.heap.size w w' := by
  rw [clamp_same s hl]
  exact rClamp_yes s hl w

set_option linter.unusedVariables false in
set_option maxRecDepth 100000 in
set_option maxHeartbeats 4000000 in
theorem red_11 (s : ByteArray) (hs : isS s) (hl : s.size = 32) (w : World) (VV : Vars w) :
    Calls Tryd.prog 3 #[.string s] w fun e w' => e = .returned (.bool true) ∧ Below w.heap.size w w' := by
  have H0 := HA.start w
  go_enter Tryd.func3, Tryd.ntmps3
  refine wp_seq ?_
  -- region 0
  refine wl_region ?_
  refine wl_val (.bool false) (by kernel_rfl) (by kernel_rfl) ?_
  refine wl_nil ?_
  refine then_at (F := ⟨(.string s :: un :: .bool false :: List.replicate 22 un).toArray, []⟩) (by kernel_rfl) ?_
  refine wp_seq ?_
  -- region 1
  refine wl_region ?_
  refine wl_val (.string s) (by kernel_rfl) (by kernel_rfl) ?_
  refine wl_call (v := .string (rS s)) H0 (by kernel_rfl) enter10 #[.string s] (by kernel_rfl) (Reduce_any s w (VV.below H0.old VV.big)) ?_
  intro w1 h2
  refine wl_val (.string s) (by kernel_rfl) (by kernel_rfl) ?_
  refine wl_call (v := .string (rS s)) h2 (by kernel_rfl) enter11 #[.string s] (by kernel_rfl) (rReduce_any s w1) ?_
  intro w3 h4
  refine wl_val (.bool true) (by kernel_rfl) (run_eqs (s := rS s) (t := rS s) (by kernel_rfl) (by kernel_rfl) true (decide_eq_true rfl)) ?_
  refine wl_val (.bool true) (by kernel_rfl) (by kernel_rfl) ?_
  refine wl_val (.string s) (by kernel_rfl) (by kernel_rfl) ?_
  refine wl_call (v := .bool true) h4 (by kernel_rfl) enter12 #[.string s] (by kernel_rfl) (Check_yes s hs w3 (VV.below h4.old VV.big)) ?_
  intro w5 h6
  refine wl_val (.string s) (by kernel_rfl) (by kernel_rfl) ?_
  refine wl_call (v := .bool true) h6 (by kernel_rfl) enter13 #[.string s] (by kernel_rfl) (rCheck_yes s hs w5) ?_
  intro w7 h8
  refine wl_val (.bool true) (by kernel_rfl) (run_eqb true true (by kernel_rfl) (by kernel_rfl)) ?_
  refine wl_val (.bool true) (by kernel_rfl) (by kernel_rfl) ?_
  refine wl_val (.bool true) (by kernel_rfl) (by kernel_rfl) ?_
  refine wl_val (.string s) (by kernel_rfl) (by kernel_rfl) ?_
  refine wl_call (v := .string (clampS s)) h8 (by kernel_rfl) enter14 #[.string s] (by kernel_rfl) (Clamp_yes s hl w7) ?_
  intro w9 h10
  refine wl_val (.string s) (by kernel_rfl) (by kernel_rfl) ?_
  refine wl_call (v := .string (clampS s)) h10 (by kernel_rfl) enter15 #[.string s] (by kernel_rfl) (rClamp_same s hl w9) ?_
  intro w11 h12
  refine wl_val (.bool true) (by kernel_rfl) (run_eqs (s := clampS s) (t := clampS s) (by kernel_rfl) (by kernel_rfl) true (decide_eq_true rfl)) ?_
  refine wl_val (.bool true) (by kernel_rfl) (by kernel_rfl) ?_
  refine wl_val (.bool true) (by kernel_rfl) (by kernel_rfl) ?_
  refine wl_call (v := .bool true) h12 (by kernel_rfl) enter16 #[] (by kernel_rfl) (works_any w11 (VV.below h12.old VV.big)) ?_
  intro w13 h14
  refine wl_val (.bool true) (by kernel_rfl) (by kernel_rfl) ?_
  refine wl_val (.bool true) (by kernel_rfl) (by kernel_rfl) ?_
  refine wl_nil ?_
  refine then_at (F := ⟨(.string s :: un :: .bool true :: .string s :: .string (rS s) :: .string s :: .string (rS s) :: .bool true :: .bool true :: .string s :: .bool true :: .string s :: .bool true :: .bool true :: .bool true :: .bool true :: .string s :: .string (clampS s) :: .string s :: .string (clampS s) :: .bool true :: .bool true :: .bool true :: .bool true :: .bool true :: List.replicate 0 un).toArray, []⟩) (by kernel_rfl) ?_
  refine wp_ret ?_
  repeat first | refine then_ret ?_ | refine block_ret ?_
  exact bodyPost_ret (v := .bool true) (by kernel_rfl) rfl ⟨rfl, h14.old⟩

set_option linter.unusedVariables false in
set_option maxRecDepth 100000 in
set_option maxHeartbeats 4000000 in
theorem red_01 (s : ByteArray) (hs : ¬ isS s) (hl : s.size = 32) (w : World) (VV : Vars w) :
    Calls Tryd.prog 3 #[.string s] w fun e w' => e = .returned (.bool true) ∧ Below w.heap.size w w' := by
  have H0 := HA.start w
  go_enter Tryd.func3, Tryd.ntmps3
  refine wp_seq ?_
  -- region 0
  refine wl_region ?_
  refine wl_val (.bool false) (by kernel_rfl) (by kernel_rfl) ?_
  refine wl_nil ?_
  refine then_at (F := ⟨(.string s :: un :: .bool false :: List.replicate 22 un).toArray, []⟩) (by kernel_rfl) ?_
  refine wp_seq ?_
  -- region 1
  refine wl_region ?_
  refine wl_val (.string s) (by kernel_rfl) (by kernel_rfl) ?_
  refine wl_call (v := .string (rS s)) H0 (by kernel_rfl) enter10 #[.string s] (by kernel_rfl) (Reduce_any s w (VV.below H0.old VV.big)) ?_
  intro w1 h2
  refine wl_val (.string s) (by kernel_rfl) (by kernel_rfl) ?_
  refine wl_call (v := .string (rS s)) h2 (by kernel_rfl) enter11 #[.string s] (by kernel_rfl) (rReduce_any s w1) ?_
  intro w3 h4
  refine wl_val (.bool true) (by kernel_rfl) (run_eqs (s := rS s) (t := rS s) (by kernel_rfl) (by kernel_rfl) true (decide_eq_true rfl)) ?_
  refine wl_val (.bool true) (by kernel_rfl) (by kernel_rfl) ?_
  refine wl_val (.string s) (by kernel_rfl) (by kernel_rfl) ?_
  refine wl_call (v := .bool false) h4 (by kernel_rfl) enter12 #[.string s] (by kernel_rfl) (Check_no s hs w3 (VV.below h4.old VV.big)) ?_
  intro w5 h6
  refine wl_val (.string s) (by kernel_rfl) (by kernel_rfl) ?_
  refine wl_call (v := .bool false) h6 (by kernel_rfl) enter13 #[.string s] (by kernel_rfl) (rCheck_no s hs w5) ?_
  intro w7 h8
  refine wl_val (.bool true) (by kernel_rfl) (run_eqb false false (by kernel_rfl) (by kernel_rfl)) ?_
  refine wl_val (.bool true) (by kernel_rfl) (by kernel_rfl) ?_
  refine wl_val (.bool true) (by kernel_rfl) (by kernel_rfl) ?_
  refine wl_val (.string s) (by kernel_rfl) (by kernel_rfl) ?_
  refine wl_call (v := .string (clampS s)) h8 (by kernel_rfl) enter14 #[.string s] (by kernel_rfl) (Clamp_yes s hl w7) ?_
  intro w9 h10
  refine wl_val (.string s) (by kernel_rfl) (by kernel_rfl) ?_
  refine wl_call (v := .string (clampS s)) h10 (by kernel_rfl) enter15 #[.string s] (by kernel_rfl) (rClamp_same s hl w9) ?_
  intro w11 h12
  refine wl_val (.bool true) (by kernel_rfl) (run_eqs (s := clampS s) (t := clampS s) (by kernel_rfl) (by kernel_rfl) true (decide_eq_true rfl)) ?_
  refine wl_val (.bool true) (by kernel_rfl) (by kernel_rfl) ?_
  refine wl_val (.bool true) (by kernel_rfl) (by kernel_rfl) ?_
  refine wl_call (v := .bool true) h12 (by kernel_rfl) enter16 #[] (by kernel_rfl) (works_any w11 (VV.below h12.old VV.big)) ?_
  intro w13 h14
  refine wl_val (.bool true) (by kernel_rfl) (by kernel_rfl) ?_
  refine wl_val (.bool true) (by kernel_rfl) (by kernel_rfl) ?_
  refine wl_nil ?_
  refine then_at (F := ⟨(.string s :: un :: .bool true :: .string s :: .string (rS s) :: .string s :: .string (rS s) :: .bool true :: .bool true :: .string s :: .bool false :: .string s :: .bool false :: .bool true :: .bool true :: .bool true :: .string s :: .string (clampS s) :: .string s :: .string (clampS s) :: .bool true :: .bool true :: .bool true :: .bool true :: .bool true :: List.replicate 0 un).toArray, []⟩) (by kernel_rfl) ?_
  refine wp_ret ?_
  repeat first | refine then_ret ?_ | refine block_ret ?_
  exact bodyPost_ret (v := .bool true) (by kernel_rfl) rfl ⟨rfl, h14.old⟩

set_option linter.unusedVariables false in
set_option maxRecDepth 100000 in
set_option maxHeartbeats 4000000 in
theorem red_00 (s : ByteArray) (hs : ¬ isS s) (hl : s.size ≠ 32) (w : World) (VV : Vars w) :
    Calls Tryd.prog 3 #[.string s] w fun e w' => e = .returned (.bool true) ∧ Below w.heap.size w w' := by
  have H0 := HA.start w
  go_enter Tryd.func3, Tryd.ntmps3
  refine wp_seq ?_
  -- region 0
  refine wl_region ?_
  refine wl_val (.bool false) (by kernel_rfl) (by kernel_rfl) ?_
  refine wl_nil ?_
  refine then_at (F := ⟨(.string s :: un :: .bool false :: List.replicate 22 un).toArray, []⟩) (by kernel_rfl) ?_
  refine wp_seq ?_
  -- region 1
  refine wl_region ?_
  refine wl_val (.string s) (by kernel_rfl) (by kernel_rfl) ?_
  refine wl_call (v := .string (rS s)) H0 (by kernel_rfl) enter10 #[.string s] (by kernel_rfl) (Reduce_any s w (VV.below H0.old VV.big)) ?_
  intro w1 h2
  refine wl_val (.string s) (by kernel_rfl) (by kernel_rfl) ?_
  refine wl_call (v := .string (rS s)) h2 (by kernel_rfl) enter11 #[.string s] (by kernel_rfl) (rReduce_any s w1) ?_
  intro w3 h4
  refine wl_val (.bool true) (by kernel_rfl) (run_eqs (s := rS s) (t := rS s) (by kernel_rfl) (by kernel_rfl) true (decide_eq_true rfl)) ?_
  refine wl_val (.bool true) (by kernel_rfl) (by kernel_rfl) ?_
  refine wl_val (.string s) (by kernel_rfl) (by kernel_rfl) ?_
  refine wl_call (v := .bool false) h4 (by kernel_rfl) enter12 #[.string s] (by kernel_rfl) (Check_no s hs w3 (VV.below h4.old VV.big)) ?_
  intro w5 h6
  refine wl_val (.string s) (by kernel_rfl) (by kernel_rfl) ?_
  refine wl_call (v := .bool false) h6 (by kernel_rfl) enter13 #[.string s] (by kernel_rfl) (rCheck_no s hs w5) ?_
  intro w7 h8
  refine wl_val (.bool true) (by kernel_rfl) (run_eqb false false (by kernel_rfl) (by kernel_rfl)) ?_
  refine wl_val (.bool true) (by kernel_rfl) (by kernel_rfl) ?_
  refine wl_val (.bool true) (by kernel_rfl) (by kernel_rfl) ?_
  refine wl_val (.string s) (by kernel_rfl) (by kernel_rfl) ?_
  refine wl_call (v := .string ByteArray.empty) h8 (by kernel_rfl) enter14 #[.string s] (by kernel_rfl) (Clamp_len s hl w7) ?_
  intro w9 h10
  refine wl_val (.string s) (by kernel_rfl) (by kernel_rfl) ?_
  refine wl_call (v := .string ByteArray.empty) h10 (by kernel_rfl) enter15 #[.string s] (by kernel_rfl) (rClamp_len s hl w9) ?_
  intro w11 h12
  refine wl_val (.bool true) (by kernel_rfl) (run_eqs (s := ByteArray.empty) (t := ByteArray.empty) (by kernel_rfl) (by kernel_rfl) true (decide_eq_true rfl)) ?_
  refine wl_val (.bool true) (by kernel_rfl) (by kernel_rfl) ?_
  refine wl_val (.bool true) (by kernel_rfl) (by kernel_rfl) ?_
  refine wl_call (v := .bool true) h12 (by kernel_rfl) enter16 #[] (by kernel_rfl) (works_any w11 (VV.below h12.old VV.big)) ?_
  intro w13 h14
  refine wl_val (.bool true) (by kernel_rfl) (by kernel_rfl) ?_
  refine wl_val (.bool true) (by kernel_rfl) (by kernel_rfl) ?_
  refine wl_nil ?_
  refine then_at (F := ⟨(.string s :: un :: .bool true :: .string s :: .string (rS s) :: .string s :: .string (rS s) :: .bool true :: .bool true :: .string s :: .bool false :: .string s :: .bool false :: .bool true :: .bool true :: .bool true :: .string s :: .string ByteArray.empty :: .string s :: .string ByteArray.empty :: .bool true :: .bool true :: .bool true :: .bool true :: .bool true :: List.replicate 0 un).toArray, []⟩) (by kernel_rfl) ?_
  refine wp_ret ?_
  repeat first | refine then_ret ?_ | refine block_ret ?_
  exact bodyPost_ret (v := .bool true) (by kernel_rfl) rfl ⟨rfl, h14.old⟩

theorem ScalarReduces_any (s : ByteArray) (w : World) (VV : Vars w) :
    Calls Tryd.prog 3 #[.string s] w fun e w' => e = .returned (.bool true) ∧ Below w.heap.size w w' := by
  by_cases hl : s.size = 32
  · by_cases hs : isS s
    · exact red_11 s hs hl w VV
    · exact red_01 s hs hl w VV
  · exact red_00 s (fun h => hl h.1) hl w VV
end Go.Proofs.YtdblnbcclfenkaaDoor
