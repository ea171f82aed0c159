/-
  Clamp: five bits of 32 bytes.
-/
import Derived.Test.YtdblnbcclfenkaaDoorChk
import Derived.Lib.ConvBytes
namespace Go.Proofs.YtdblnbcclfenkaaDoor
open Go.RowKit Num

/-- bytes of a text -/
def bl (s : ByteArray) : List UInt8 := s.data.toList
theorem bl_len (s : ByteArray) : (bl s).length = s.size := by unfold bl; rw [Array.length_toList]; rfl
def cla (x : Nat) : Nat := x &&& 248
def clb (x : Nat) : Nat := x &&& 127 ||| 64
def clampL (s : ByteArray) : List UInt8 := ((bl s).set 0 (UInt8.ofNat (cla ((bl s).getD 0 0).toNat))).set 31 (UInt8.ofNat (clb ((bl s).getD 31 0).toNat))
def clampS (s : ByteArray) : ByteArray := ⟨(clampL s).toArray⟩
theorem cla_lt (x : Nat) (h : x < 256) : cla x < 256 := Nat.lt_of_le_of_lt Nat.and_le_left h
theorem clb_lt (x : Nat) (h : x < 256) : clb x < 256 := Nat.or_lt_two_pow (n := 8) (Nat.lt_of_le_of_lt Nat.and_le_left h) (by decide)
theorem clampL_len (s : ByteArray) : (clampL s).length = s.size := by unfold clampL; rw [List.length_set, List.length_set, bl_len]
/-- the bytes as cells, in a block of one's own -/
structure Bts (w0 : World) (q : Nat) (l : List UInt8) (w : World) : Prop where
  old : Below w0.heap.size w0 w
  own : w0.heap.size ≤ q
  cell : ∀ j, j < l.length → w.cell? ⟨q, j, none⟩ = some (.int .u8 ((l.getD j 0).toNat : Int))
  free : ∀ j, j < l.length → w.frozen? ⟨q, j, none⟩ = false
theorem bts_conv {ρ : Operand → Value} {x : Operand} {s : ByteArray} {w : World} {dst : Option Tmp} {ty : TypeId} {pos : String} {aft : Array Edge} {gd : Option (Nat × Bool)} (hx : ρ x = .string s) :
    (execOp ρ ⟨dst, .convert 9 31 x, ty, pos, aft, gd⟩).run Tryd.prog w = .ok (.value (.slice (some ⟨w.heap.size, 0, none⟩) s.size (grownCap w s.size 0 5))) (Lib.bytesWorld w 5 s) := by
  simp only [execOp, hx, Sem.run_bind, Lib.run_convert_string_bytes w 9 31 5 s Tryd.underlying9 Tryd.underlying31 Tryd.underlying5, Result.andThen_ok, Sem.run_pure]
theorem bts_new (w : World) (s : ByteArray) : Bts w w.heap.size (bl s) (Lib.bytesWorld w 5 s) := by
  have hsz : (Lib.bytesCells w 5 s).size = s.size + (grownCap w s.size 0 5 - s.size) := by
    unfold Lib.bytesCells
    rw [Array.size_append, Array.size_map, Array.size_replicate]
    rfl
  refine ⟨⟨rfl, rfl, rfl, by rw [Lib.bytesWorld_size]; omega, fun k hk => Lib.bytesWorld_at_old w 5 s k hk⟩, Nat.le_refl _, fun j hj => Lib.bytesWorld_cell w 5 s j (by rw [← bl_len]; exact hj), fun j hj => ?_⟩
  rw [bl_len] at hj
  simp only [World.frozen?, Lib.bytesWorld_at_new]
  simp only [Bool.and_eq_false_iff, decide_eq_false_iff_not]
  left
  omega
theorem Bts.set {w0 w : World} {q : Nat} {l : List UInt8} (h : Bts w0 q l w) (i : Nat) (hi : i < l.length) (x : Nat) (hx : x < 256) : Bts w0 q (l.set i (UInt8.ofNat x)) (w.setCell ⟨q, i, none⟩ (.int .u8 (x : Int))) := by
  refine ⟨h.old.setCell (p := ⟨q, i, none⟩) h.own _, h.own, fun j hj => ?_, fun j hj => ?_⟩
  · rw [List.length_set] at hj
    by_cases hij : i = j
    · subst hij
      rw [World.cell?_setCell_same' _ _ _ (by rw [h.cell i hi]; rfl), List.getD_eq_getElem?_getD, List.getElem?_set_self hi, Option.getD_some, UInt8.toNat_ofNat', Nat.mod_eq_of_lt hx]
    · rw [World.cell?_setCell_other _ _ _ _ (by simp <;> omega), h.cell j hj, List.getD_eq_getElem?_getD, List.getD_eq_getElem?_getD, List.getElem?_set_ne hij]
  · rw [List.length_set] at hj
    rw [World.frozen?_setCell]
    exact h.free j hj
theorem bts_text {ρ : Operand → Value} {x : Operand} {q n m : Nat} {l : List UInt8} {w0 w : World} {dst : Option Tmp} {ty : TypeId} {pos : String} {aft : Array Edge} {gd : Option (Nat × Bool)} (h : Bts w0 q l w) (hn : n = l.length) (hx : ρ x = .slice (some ⟨q, 0, none⟩) n m) :
    (execOp ρ ⟨dst, .convert 31 9 x, ty, pos, aft, gd⟩).run Tryd.prog w = .ok (.value (.string ⟨l.toArray⟩)) w := by
  subst hn
  have e := run_convert_bytes_back (P := Tryd.prog) w 31 9 5 ⟨q, 0, none⟩ m l Tryd.underlying31 Tryd.underlying5 Tryd.underlying9 (fun j hj => by
    have hadd : (⟨q, 0, none⟩ : Addr).add j = ⟨q, j, none⟩ := by unfold Addr.add; split <;> simp_all
    rw [hadd, h.cell j hj, List.getD_eq_getElem?_getD, List.getElem?_eq_getElem hj]
    rfl)
  simp only [execOp, hx, Sem.run_bind, e, Result.andThen_ok, Sem.run_pure]
theorem u8_lt (u : UInt8) : u.toNat < 256 := UInt8.toNat_lt u
theorem clamp_eq (s : ByteArray) : clampL s = ((bl s).set 0 (UInt8.ofNat (cla ((bl s).getD 0 0).toNat))).set 31 (UInt8.ofNat (clb ((((bl s).set 0 (UInt8.ofNat (cla ((bl s).getD 0 0).toNat)))).getD 31 0).toNat)) := by
  unfold clampL
  rw [List.getD_eq_getElem?_getD (i := 31), List.getD_eq_getElem?_getD (i := 31), List.getElem?_set_ne (by decide)]

set_option linter.unusedVariables false in
set_option maxRecDepth 100000 in
set_option maxHeartbeats 2000000 in
theorem Clamp_yes (s : ByteArray) (hl : s.size = 32) (w : World) :
    Calls Tryd.prog 14 #[.string s] w fun e w' => e = .returned (.string (clampS s)) ∧ Below w.heap.size w w' := by
  have H0 := HA.start w
  go_enter Tryd.func14, Tryd.ntmps14
  refine wp_seq ?_
  -- region 0
  refine wl_region ?_
  refine wl_val (.string { data := #[] }) (by kernel_rfl) (by kernel_rfl) ?_
  refine wl_nil ?_
  refine then_at (F := ⟨(.string s :: un :: .string { data := #[] } :: List.replicate 20 un).toArray, []⟩) (by kernel_rfl) ?_
  refine wp_seq ?_
  refine wp_seq ?_
  -- region 1
  refine wl_region ?_
  refine wl_val (.string s) (by kernel_rfl) (by kernel_rfl) ?_
  refine wl_val (iN .i64 s.size) (by kernel_rfl) (run_len (s := s) (by kernel_rfl)) ?_
  refine wl_val (.bool false) (by kernel_rfl) (run_nei (k := .i64) (a := s.size) (b := 32) (by kernel_rfl) (by kernel_rfl) false (decide_eq_false (fun h => h hl))) ?_
  refine wl_nil ?_
  refine then_at (F := ⟨(.string s :: un :: .string { data := #[] } :: un :: .string s :: iN .i64 s.size :: .bool false :: List.replicate 16 un).toArray, []⟩) (by kernel_rfl) ?_
  refine wp_cond_false (by kernel_rfl) ?_
  refine wp_skip ?_
  refine then_at (F := ⟨(.string s :: un :: .string { data := #[] } :: un :: .string s :: iN .i64 s.size :: .bool false :: List.replicate 16 un).toArray, []⟩) (by kernel_rfl) ?_
  refine wp_seq ?_
  -- region 3
  refine wl_region ?_
  refine wl_val (.string s) (by kernel_rfl) (by kernel_rfl) ?_
  refine wl_world (.slice (some ⟨w.heap.size, 0, none⟩) s.size (grownCap w s.size 0 5)) (by kernel_rfl) (bts_conv (s := s) (by kernel_rfl)) ?_
  have b0 := bts_new w s
  generalize grownCap w s.size 0 5 = cp at *
  generalize Lib.bytesWorld w 5 s = w1 at *
  obtain ⟨qb, hq⟩ : ∃ qb, qb = w.heap.size := ⟨_, rfl⟩
  rw [← hq] at b0 ⊢
  refine wl_val (.slice (some ⟨qb, 0, none⟩) s.size cp) (by kernel_rfl) (by kernel_rfl) ?_
  refine wl_nil ?_
  refine then_at (F := ⟨(.string s :: un :: .string { data := #[] } :: .slice (some ⟨qb, 0, none⟩) s.size cp :: .string s :: iN .i64 s.size :: .bool false :: .string s :: .slice (some ⟨qb, 0, none⟩) s.size cp :: List.replicate 14 un).toArray, []⟩) (by kernel_rfl) ?_
  refine wp_seq ?_
  -- region 4
  refine wl_region ?_
  refine wl_val (.slice (some ⟨qb, 0, none⟩) s.size cp) (by kernel_rfl) (by kernel_rfl) ?_
  refine wl_val (.pointer (some ⟨qb, 0, none⟩)) (by kernel_rfl) (run_addr_slice (q := qb) (n := s.size) (m := cp) (a := 0) Tryd.underlying31 (fun w => Tryd.sizeOf5 w) (by kernel_rfl) (by kernel_rfl) (by omega)) ?_
  refine wl_val (iN .u8 (((bl s).getD 0 0).toNat)) (by kernel_rfl) (run_load1 (fun w => Tryd.isAgg5 w) (by kernel_rfl) (b0.cell 0 (by rw [bl_len]; omega))) ?_
  refine wl_val (iN .u8 ((((bl s).getD 0 0).toNat) &&& 248)) (by kernel_rfl) (run_and8 (a := ((bl s).getD 0 0).toNat) (b := 248) (by kernel_rfl) (by kernel_rfl) (u8_lt _) (by decide)) ?_
  refine wl_val (.pointer (some ⟨qb, 0, none⟩)) (by kernel_rfl) (run_addr_slice (q := qb) (n := s.size) (m := cp) (a := 0) Tryd.underlying31 (fun w => Tryd.sizeOf5 w) (by kernel_rfl) (by kernel_rfl) (by omega)) ?_
  refine wl_skips (by kernel_rfl) (run_store1 (k := .u8) (z := ((cla ((bl s).getD 0 0).toNat : Nat) : Int)) (fun w => Tryd.sizeOf5 w) (by kernel_rfl) (by kernel_rfl) (by rw [b0.cell 0 (by rw [bl_len]; omega)]; rfl) (b0.free 0 (by rw [bl_len]; omega))) ?_
  have b2 := b0.set 0 (by rw [bl_len]; omega) (cla ((bl s).getD 0 0).toNat) (cla_lt _ (u8_lt _))
  generalize w1.setCell ⟨qb, 0, none⟩ (.int .u8 ((cla ((bl s).getD 0 0).toNat : Nat) : Int)) = w1 at *
  refine wl_nil ?_
  refine then_at (F := ⟨(.string s :: un :: .string { data := #[] } :: .slice (some ⟨qb, 0, none⟩) s.size cp :: .string s :: iN .i64 s.size :: .bool false :: .string s :: .slice (some ⟨qb, 0, none⟩) s.size cp :: .slice (some ⟨qb, 0, none⟩) s.size cp :: pt qb :: iN .u8 (((bl s).getD 0 0).toNat) :: iN .u8 ((((bl s).getD 0 0).toNat) &&& 248) :: pt qb :: List.replicate 9 un).toArray, []⟩) (by kernel_rfl) ?_
  refine wp_seq ?_
  -- region 5
  refine wl_region ?_
  refine wl_val (.slice (some ⟨qb, 0, none⟩) s.size cp) (by kernel_rfl) (by kernel_rfl) ?_
  refine wl_val (.slice (some ⟨qb, 0, none⟩) s.size cp) (by kernel_rfl) (by kernel_rfl) ?_
  refine wl_val (.pointer (some ⟨qb, 31, none⟩)) (by kernel_rfl) (run_addr_slice (q := qb) (n := s.size) (m := cp) (a := 31) Tryd.underlying31 (fun w => Tryd.sizeOf5 w) (by kernel_rfl) (by kernel_rfl) (by omega)) ?_
  refine wl_val (iN .u8 ((((bl s).set 0 (UInt8.ofNat (cla ((bl s).getD 0 0).toNat))).getD 31 0).toNat)) (by kernel_rfl) (run_load1 (fun w => Tryd.isAgg5 w) (by kernel_rfl) (b2.cell 31 (by rw [List.length_set, bl_len]; omega))) ?_
  refine wl_val (iN .u8 (((((bl s).set 0 (UInt8.ofNat (cla ((bl s).getD 0 0).toNat))).getD 31 0).toNat) &&& 127)) (by kernel_rfl) (run_and8 (a := (((bl s).set 0 (UInt8.ofNat (cla ((bl s).getD 0 0).toNat))).getD 31 0).toNat) (b := 127) (by kernel_rfl) (by kernel_rfl) (u8_lt _) (by decide)) ?_
  refine wl_val (iN .u8 ((((((bl s).set 0 (UInt8.ofNat (cla ((bl s).getD 0 0).toNat))).getD 31 0).toNat) &&& 127) ||| 64)) (by kernel_rfl) (run_or8 (a := ((((bl s).set 0 (UInt8.ofNat (cla ((bl s).getD 0 0).toNat))).getD 31 0).toNat) &&& 127) (b := 64) (by kernel_rfl) (by kernel_rfl) (Nat.lt_of_le_of_lt Nat.and_le_left (u8_lt _)) (by decide)) ?_
  refine wl_val (.pointer (some ⟨qb, 31, none⟩)) (by kernel_rfl) (run_addr_slice (q := qb) (n := s.size) (m := cp) (a := 31) Tryd.underlying31 (fun w => Tryd.sizeOf5 w) (by kernel_rfl) (by kernel_rfl) (by omega)) ?_
  refine wl_skips (by kernel_rfl) (run_store1 (k := .u8) (z := ((clb (((bl s).set 0 (UInt8.ofNat (cla ((bl s).getD 0 0).toNat))).getD 31 0).toNat : Nat) : Int)) (fun w => Tryd.sizeOf5 w) (by kernel_rfl) (by kernel_rfl) (by rw [b2.cell 31 (by rw [List.length_set, bl_len]; omega)]; rfl) (b2.free 31 (by rw [List.length_set, bl_len]; omega))) ?_
  have b4 := b2.set 31 (by rw [List.length_set, bl_len]; omega) (clb (((bl s).set 0 (UInt8.ofNat (cla ((bl s).getD 0 0).toNat))).getD 31 0).toNat) (clb_lt _ (u8_lt _))
  generalize w1.setCell ⟨qb, 31, none⟩ (.int .u8 ((clb (((bl s).set 0 (UInt8.ofNat (cla ((bl s).getD 0 0).toNat))).getD 31 0).toNat : Nat) : Int)) = w3 at *
  refine wl_nil ?_
  refine then_at (F := ⟨(.string s :: un :: .string { data := #[] } :: .slice (some ⟨qb, 0, none⟩) s.size cp :: .string s :: iN .i64 s.size :: .bool false :: .string s :: .slice (some ⟨qb, 0, none⟩) s.size cp :: .slice (some ⟨qb, 0, none⟩) s.size cp :: pt qb :: iN .u8 (((bl s).getD 0 0).toNat) :: iN .u8 ((((bl s).getD 0 0).toNat) &&& 248) :: pt qb :: .slice (some ⟨qb, 0, none⟩) s.size cp :: .slice (some ⟨qb, 0, none⟩) s.size cp :: .pointer (some ⟨qb, 31, none⟩) :: iN .u8 ((((bl s).set 0 (UInt8.ofNat (cla ((bl s).getD 0 0).toNat))).getD 31 0).toNat) :: iN .u8 (((((bl s).set 0 (UInt8.ofNat (cla ((bl s).getD 0 0).toNat))).getD 31 0).toNat) &&& 127) :: iN .u8 ((((((bl s).set 0 (UInt8.ofNat (cla ((bl s).getD 0 0).toNat))).getD 31 0).toNat) &&& 127) ||| 64) :: .pointer (some ⟨qb, 31, none⟩) :: List.replicate 2 un).toArray, []⟩) (by kernel_rfl) ?_
  refine wp_seq ?_
  have c9 : Bts w qb (clampL s) w3 := by rw [clamp_eq s]; exact b4
  -- region 6
  refine wl_region ?_
  refine wl_val (.slice (some ⟨qb, 0, none⟩) s.size cp) (by kernel_rfl) (by kernel_rfl) ?_
  refine wl_val (.string (clampS s)) (by kernel_rfl) (bts_text (n := s.size) (m := cp) c9 (by rw [clampL_len]) (by kernel_rfl)) ?_
  refine wl_val (.string (clampS s)) (by kernel_rfl) (by kernel_rfl) ?_
  refine wl_nil ?_
  refine then_at (F := ⟨(.string s :: un :: .string (clampS s) :: .slice (some ⟨qb, 0, none⟩) s.size cp :: .string s :: iN .i64 s.size :: .bool false :: .string s :: .slice (some ⟨qb, 0, none⟩) s.size cp :: .slice (some ⟨qb, 0, none⟩) s.size cp :: pt qb :: iN .u8 (((bl s).getD 0 0).toNat) :: iN .u8 ((((bl s).getD 0 0).toNat) &&& 248) :: pt qb :: .slice (some ⟨qb, 0, none⟩) s.size cp :: .slice (some ⟨qb, 0, none⟩) s.size cp :: .pointer (some ⟨qb, 31, none⟩) :: iN .u8 ((((bl s).set 0 (UInt8.ofNat (cla ((bl s).getD 0 0).toNat))).getD 31 0).toNat) :: iN .u8 (((((bl s).set 0 (UInt8.ofNat (cla ((bl s).getD 0 0).toNat))).getD 31 0).toNat) &&& 127) :: iN .u8 ((((((bl s).set 0 (UInt8.ofNat (cla ((bl s).getD 0 0).toNat))).getD 31 0).toNat) &&& 127) ||| 64) :: .pointer (some ⟨qb, 31, none⟩) :: .slice (some ⟨qb, 0, none⟩) s.size cp :: .string (clampS s) :: List.replicate 0 un).toArray, []⟩) (by kernel_rfl) ?_
  refine wp_ret ?_
  repeat first | refine then_ret ?_ | refine block_ret ?_
  exact bodyPost_ret (v := .string (clampS s)) (by kernel_rfl) rfl ⟨rfl, by rw [hq]; exact c9.old⟩

set_option linter.unusedVariables false in
set_option maxRecDepth 100000 in
set_option maxHeartbeats 2000000 in
theorem Clamp_len (s : ByteArray) (hl : s.size ≠ 32) (w : World) :
    Calls Tryd.prog 14 #[.string s] w fun e w' => e = .returned (.string ByteArray.empty) ∧ Below w.heap.size w w' := by
  have H0 := HA.start w
  go_enter Tryd.func14, Tryd.ntmps14
  refine wp_seq ?_
  -- region 0
  refine wl_region ?_
  refine wl_val (.string { data := #[] }) (by kernel_rfl) (by kernel_rfl) ?_
  refine wl_nil ?_
  refine then_at (F := ⟨(.string s :: un :: .string { data := #[] } :: List.replicate 20 un).toArray, []⟩) (by kernel_rfl) ?_
  refine wp_seq ?_
  refine wp_seq ?_
  -- region 1
  refine wl_region ?_
  refine wl_val (.string s) (by kernel_rfl) (by kernel_rfl) ?_
  refine wl_val (iN .i64 s.size) (by kernel_rfl) (run_len (s := s) (by kernel_rfl)) ?_
  refine wl_val (.bool true) (by kernel_rfl) (run_nei (k := .i64) (a := s.size) (b := 32) (by kernel_rfl) (by kernel_rfl) true (decide_eq_true hl)) ?_
  refine wl_nil ?_
  refine then_at (F := ⟨(.string s :: un :: .string { data := #[] } :: un :: .string s :: iN .i64 s.size :: .bool true :: List.replicate 16 un).toArray, []⟩) (by kernel_rfl) ?_
  refine wp_cond_true (by kernel_rfl) ?_
  refine wp_seq ?_
  -- region 2
  refine wl_region ?_
  refine wl_val (.string { data := #[] }) (by kernel_rfl) (by kernel_rfl) ?_
  refine wl_nil ?_
  refine then_at (F := ⟨(.string s :: un :: .string { data := #[] } :: un :: .string s :: iN .i64 s.size :: .bool true :: List.replicate 16 un).toArray, []⟩) (by kernel_rfl) ?_
  refine wp_ret ?_
  repeat first | refine then_ret ?_ | refine block_ret ?_
  exact bodyPost_ret (v := .string ByteArray.empty) (by kernel_rfl) rfl ⟨rfl, H0.old⟩
end Go.Proofs.YtdblnbcclfenkaaDoor
