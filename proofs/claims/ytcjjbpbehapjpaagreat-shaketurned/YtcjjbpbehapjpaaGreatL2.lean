/-
  A text of which a byte is turned.
-/
import Derived.Test.YtcjjbpbehapjpaaGreatL1
namespace Go.Proofs.YtcjjbpbehapjpaaGreat
open Go.RowKit

/-- a byte is turned -/
def trn (s : ByteArray) (i : Nat) (b : UInt8) : ByteArray := ⟨((bl s).set i ((bl s).getD i 0 ^^^ b)).toArray⟩
theorem trn_size (s : ByteArray) (i : Nat) (b : UInt8) : (trn s i b).size = s.size := by
  show (((bl s).set i _).toArray).size = _
  rw [List.size_toArray, List.length_set, bl_len]
section
variable {ρ : Operand → Value} {x y : Operand} {w : World} {dst : Option Tmp} {T T2 ty : TypeId} {pos : String} {aft : Array Edge} {gd : Option (Nat × Bool)} {P : Program}
theorem run_xor8 {a b : UInt8} (hx : ρ x = by8 a) (hy : ρ y = by8 b) : (execOp ρ ⟨dst, .binOp .xor T x y T2, ty, pos, aft, gd⟩).run P w = .ok (.value (by8 (a ^^^ b))) w := by
  have h := u8_xor_nat a.toNat b.toNat (UInt8.toNat_lt a) (UInt8.toNat_lt b)
  simp only [execOp, hx, hy, by8, iN, UInt8.toNat_xor]
  simpa [binOp, go_sem] using h
end
theorem set_take (l r : List UInt8) (i : Nat) (x : UInt8) (hi : i < l.length) : ((l ++ r).set i x).take l.length = l.set i x := by
  rw [List.set_append_left _ _ hi]
  have : l.length = (l.set i x).length := by rw [List.length_set]
  rw [this, List.take_left]
theorem app_nil' (s : ByteArray) : s ++ (({ data := #[] } : ByteArray).extract 0 (min 0 100)) = s := by
  apply ByteArray.ext
  simp
theorem set_take' {s : ByteArray} {N i m : Nat} {x : UInt8} (hs : s.size = N) (hi : i < N) : ((((bl s ++ List.replicate m 0).set i x).take N).toArray).size = N := by
  have e := set_take (bl s) (List.replicate m 0) i x (by rw [bl_len]; omega)
  rw [bl_len, hs] at e
  rw [e, List.size_toArray, List.length_set, bl_len, hs]
theorem cat_le {s : ByteArray} {N : Nat} {a : Array UInt8} (hs : s.size = N) (hN : N ≤ 1000) (h : a.size = N) : (⟨a⟩ : ByteArray).size + (({ data := #[] } : ByteArray).extract 0 (min 0 100)).size ≤ 9223372036854775807 := by
  have h1 : (⟨a⟩ : ByteArray).size = a.size := rfl
  have h2 : (({ data := #[] } : ByteArray).extract 0 (min 0 100)).size = 0 := by decide
  omega
theorem getD_left {l r : List UInt8} {i : Nat} (h : i < l.length) : (l ++ r).getD i 0 = l.getD i 0 := by
  rw [List.getD_eq_getElem?_getD, List.getD_eq_getElem?_getD, List.getElem?_append_left h]
set_option linter.unusedVariables false in
set_option maxRecDepth 100000 in
set_option maxHeartbeats 2000000 in
theorem turned_P (s : ByteArray) {N : Nat} (hs : s.size = N) (hp : 0 < N) (hN2 : N ≤ 1000) (at0 : Nat) (hat : at0 < 65536) (b : UInt8) (w : World) :
    Calls Tryz.prog 17 #[.string s, iN .u16 at0, by8 b, .string { data := #[] }] w fun e w' => e = .returned (.string (trn s (at0 % N) b)) ∧ Below w.heap.size w w' := by
  have H0 := HA.start w
  go_enter Tryz.func17, Tryz.ntmps17
  refine wp_seq (wl_region ?_)
  refine zv (.string ({ data := #[] })) ?_
  refine wl_nil (then_at rfl (wp_seq (wl_region ?_)))
  refine zv (.string s) ?_
  refine Rs.wl_bytes2 (s := s) H0 (by kernel_rfl) (by kernel_rfl) ?_
  intro d cp m w1 hcp h2
  rw [hs] at hcp
  rw [hs]
  refine zv (.slice (some ⟨d, 0, none⟩) N cp) ?_
  refine wl_nil (then_at rfl (wp_seq (wp_seq (wl_region ?_))))
  refine zv (.slice (some ⟨d, 0, none⟩) N cp) ?_
  refine zv (iN .i64 N) ?_
  refine zu (.bool true) (run_gtr (k := .i64) (a := N) (b := 0) (by kernel_rfl) (by kernel_rfl) true (decide_eq_true (by omega))) ?_
  refine wl_nil (then_at rfl ?_)
  refine wp_cond_true (by kernel_rfl) ?_
  refine wp_region_wx (HA (bs w) [(d, 5, bc (bl s ++ List.replicate m 0))]) (fun AQ w' => AQ = ⟨(.string s :: iN .u16 at0 :: by8 b :: .string ({ data := #[] }) :: un :: un :: un :: un :: .string ({ data := #[] }) :: .slice (some ⟨d, 0, none⟩) N cp :: .string s :: .slice (some ⟨d, 0, none⟩) N cp :: .slice (some ⟨d, 0, none⟩) N cp :: iN .i64 N :: .bool true :: .slice (some ⟨d, 0, none⟩) N cp :: iN .u16 at0 :: iN .i64 at0 :: .slice (some ⟨d, 0, none⟩) N cp :: iN .i64 N :: iN .i64 (at0 % N) :: .slice (some ⟨d, 0, none⟩) N cp :: iN .u16 at0 :: iN .i64 at0 :: .slice (some ⟨d, 0, none⟩) N cp :: iN .i64 N :: iN .i64 (at0 % N) :: .pointer (some ⟨d, at0 % N, none⟩) :: by8 ((bl s ++ List.replicate m 0).getD (at0 % N) 0) :: by8 b :: by8 ((bl s ++ List.replicate m 0).getD (at0 % N) 0 ^^^ b) :: .pointer (some ⟨d, at0 % N, none⟩) :: List.replicate 8 un).toArray, []⟩ ∧ HA (bs w) [(d, 5, bc ((bl s ++ List.replicate m 0).set (at0 % N) ((bl s ++ List.replicate m 0).getD (at0 % N) 0 ^^^ b)))] w') 18 (by kernel_rfl) (by kernel_rfl) (by kernel_rfl) (by kernel_rfl) (by kernel_rfl) (h2.drew) ?_ ?_
  · have h3 := h2.drew
    refine zp 0 (.slice (some ⟨d, 0, none⟩) N cp) ?_
    refine zp 1 (iN .u16 at0) ?_
    refine wx_pure (i := 2) (iN .i64 at0) rfl rfl (by kernel_rfl) (by kernel_rfl) (fun _ => (run_conv .i64 Tryz.underlying23 Tryz.underlying3 (by kernel_rfl) (by first | omega | (simp only [top]; omega)))) ?_
    refine zp 3 (.slice (some ⟨d, 0, none⟩) N cp) ?_
    refine zp 4 (iN .i64 N) ?_
    refine wx_pure (i := 5) (iN .i64 (at0 % N)) rfl rfl (by kernel_rfl) (by kernel_rfl) (fun _ => (run_rem (k := .i64) (a := at0) (b := N) (by kernel_rfl) (by kernel_rfl) (by omega))) ?_
    refine zp 6 (.slice (some ⟨d, 0, none⟩) N cp) ?_
    refine zp 7 (iN .u16 at0) ?_
    refine wx_pure (i := 8) (iN .i64 at0) rfl rfl (by kernel_rfl) (by kernel_rfl) (fun _ => (run_conv .i64 Tryz.underlying23 Tryz.underlying3 (by kernel_rfl) (by first | omega | (simp only [top]; omega)))) ?_
    refine zp 9 (.slice (some ⟨d, 0, none⟩) N cp) ?_
    refine zp 10 (iN .i64 N) ?_
    refine wx_pure (i := 11) (iN .i64 (at0 % N)) rfl rfl (by kernel_rfl) (by kernel_rfl) (fun _ => (run_rem (k := .i64) (a := at0) (b := N) (by kernel_rfl) (by kernel_rfl) (by omega))) ?_
    refine wx_pure (i := 12) (.pointer (some ⟨d, at0 % N, none⟩)) rfl rfl (by kernel_rfl) (by kernel_rfl) (fun _ => (run_addr_slice (q := d) (n := N) (m := cp) (a := at0 % N) Tryz.underlying74 (fun w => Tryz.sizeOf5 w) (by kernel_rfl) (by kernel_rfl) (Nat.mod_lt at0 hp))) ?_
    refine wx_val (i := 13) (by8 ((bl s ++ List.replicate m 0).getD (at0 % N) 0)) rfl rfl (by kernel_rfl) (by kernel_rfl) (fun w' h' => run_load1 (fun w => Tryz.isAgg5 w) (by kernel_rfl) (((h'.get 0 rfl).cell (at0 % N)).trans (bc_get _ _ (by rw [List.length_append, bl_len]; have := Nat.mod_lt at0 hp; omega)))) ?_
    refine zp 14 (by8 b) ?_
    refine wx_pure (i := 15) (by8 ((bl s ++ List.replicate m 0).getD (at0 % N) 0 ^^^ b)) rfl rfl (by kernel_rfl) (by kernel_rfl) (fun _ => (run_xor8 (a := (bl s ++ List.replicate m 0).getD (at0 % N) 0) (b := b) (by kernel_rfl) (by kernel_rfl))) ?_
    refine wx_pure (i := 16) (.pointer (some ⟨d, at0 % N, none⟩)) rfl rfl (by kernel_rfl) (by kernel_rfl) (fun _ => (run_addr_slice (q := d) (n := N) (m := cp) (a := at0 % N) Tryz.underlying74 (fun w => Tryz.sizeOf5 w) (by kernel_rfl) (by kernel_rfl) (Nat.mod_lt at0 hp))) ?_
    refine wx_one 17 (by kernel_rfl) ?_
    refine ex_skipT rfl (by kernel_rfl) h3 fun w4 h5 => ⟨_, run_storev (q := d) (i := at0 % N) (v := by8 ((bl s ++ List.replicate m 0).getD (at0 % N) 0 ^^^ b)) (fun w => Tryz.sizeOf5 w) (by kernel_rfl) (by kernel_rfl) (by kernel_rfl) (by rw [(h5.get 0 rfl).cell, bc_get _ _ (by rw [List.length_append, bl_len]; have := Nat.mod_lt at0 hp; omega)]; rfl) ((h5.get 0 rfl).free _ (by rw [bc_size, List.length_append, bl_len]; have := Nat.mod_lt at0 hp; omega)), ?_⟩
    have h7 := h5.put 0 rfl (at0 % N) (by8 ((bl s ++ List.replicate m 0).getD (at0 % N) 0 ^^^ b))
    have h6 : HA (bs w) [(d, 5, bc ((bl s ++ List.replicate m 0).set (at0 % N) ((bl s ++ List.replicate m 0).getD (at0 % N) 0 ^^^ b)))] _ := (by rw [← bc_put]; exact h7)
    refine ⟨_, .inl (by kernel_rfl), h6, ?_⟩
    refine wx_end fun w8 hbx _ => ?_
    have h9 := HA.keep _ _ h6 hbx
    exact ⟨by kernel_rfl, h9⟩
  · rintro _ w10 ⟨rfl, h11⟩
    refine then_at rfl (wp_seq ?_)
    refine wp_region_wx (HA (bs w) [(d, 5, bc ((bl s ++ List.replicate m 0).set (at0 % N) ((bl s ++ List.replicate m 0).getD (at0 % N) 0 ^^^ b)))]) (fun AQ w' => AQ = ⟨(.string s :: iN .u16 at0 :: by8 b :: .string ({ data := #[] }) :: un :: un :: un :: un :: .string ((⟨(((bl s ++ List.replicate m 0).set (at0 % N) ((bl s ++ List.replicate m 0).getD (at0 % N) 0 ^^^ b)).take N).toArray⟩) ++ (ByteArray.extract { data := #[] } 0 (min 0 100))) :: .slice (some ⟨d, 0, none⟩) N cp :: .string s :: .slice (some ⟨d, 0, none⟩) N cp :: .slice (some ⟨d, 0, none⟩) N cp :: iN .i64 N :: .bool true :: .slice (some ⟨d, 0, none⟩) N cp :: iN .u16 at0 :: iN .i64 at0 :: .slice (some ⟨d, 0, none⟩) N cp :: iN .i64 N :: iN .i64 (at0 % N) :: .slice (some ⟨d, 0, none⟩) N cp :: iN .u16 at0 :: iN .i64 at0 :: .slice (some ⟨d, 0, none⟩) N cp :: iN .i64 N :: iN .i64 (at0 % N) :: .pointer (some ⟨d, at0 % N, none⟩) :: by8 ((bl s ++ List.replicate m 0).getD (at0 % N) 0) :: by8 b :: by8 ((bl s ++ List.replicate m 0).getD (at0 % N) 0 ^^^ b) :: .pointer (some ⟨d, at0 % N, none⟩) :: .slice (some ⟨d, 0, none⟩) N cp :: .string (⟨(((bl s ++ List.replicate m 0).set (at0 % N) ((bl s ++ List.replicate m 0).getD (at0 % N) 0 ^^^ b)).take N).toArray⟩) :: .string ({ data := #[] }) :: .string ({ data := #[] }) :: iN .i64 0 :: iN .i64 (min 0 100) :: .string (ByteArray.extract { data := #[] } 0 (min 0 100)) :: .string ((⟨(((bl s ++ List.replicate m 0).set (at0 % N) ((bl s ++ List.replicate m 0).getD (at0 % N) 0 ^^^ b)).take N).toArray⟩) ++ (ByteArray.extract { data := #[] } 0 (min 0 100))) :: List.replicate 0 un).toArray, []⟩ ∧ HA (bs w) [(d, 5, bc ((bl s ++ List.replicate m 0).set (at0 % N) ((bl s ++ List.replicate m 0).getD (at0 % N) 0 ^^^ b)))] w') 9 (by kernel_rfl) (by kernel_rfl) (by kernel_rfl) (by kernel_rfl) (by kernel_rfl) (h11.drew) ?_ ?_
    · have h12 := h11.drew
      refine zp 0 (.slice (some ⟨d, 0, none⟩) N cp) ?_
      refine wx_val (i := 1) (.string (⟨(((bl s ++ List.replicate m 0).set (at0 % N) ((bl s ++ List.replicate m 0).getD (at0 % N) 0 ^^^ b)).take N).toArray⟩)) rfl rfl (by kernel_rfl) (by kernel_rfl) (fun w' h' => run_text (q := d) (m := N) (c := cp) (l := (bl s ++ List.replicate m 0).set (at0 % N) ((bl s ++ List.replicate m 0).getD (at0 % N) 0 ^^^ b)) (by kernel_rfl) (h'.get 0 rfl) (by rw [List.length_set, List.length_append, bl_len]; omega)) ?_
      refine zp 2 (.string ({ data := #[] })) ?_
      refine zp 3 (.string ({ data := #[] })) ?_
      refine wx_pure (i := 4) (iN .i64 0) rfl rfl (by kernel_rfl) (by kernel_rfl) (fun _ => (run_len (s := { data := #[] }) (by kernel_rfl))) ?_
      refine wx_pure (i := 5) (iN .i64 (min 0 100)) rfl rfl (by kernel_rfl) (by kernel_rfl) (fun _ => (run_min (i := 0) (j := 100) (by kernel_rfl) (by kernel_rfl))) ?_
      refine wx_pure (i := 6) (.string (ByteArray.extract { data := #[] } 0 (min 0 100))) rfl rfl (by kernel_rfl) (by kernel_rfl) (fun _ => (run_cut_hi (s := { data := #[] }) (b := min 0 100) (by kernel_rfl) (by kernel_rfl) (by decide))) ?_
      refine wx_pure (i := 7) (.string ((⟨(((bl s ++ List.replicate m 0).set (at0 % N) ((bl s ++ List.replicate m 0).getD (at0 % N) 0 ^^^ b)).take N).toArray⟩) ++ (ByteArray.extract { data := #[] } 0 (min 0 100)))) rfl rfl (by kernel_rfl) (by kernel_rfl) (fun _ => (run_cat (s := ⟨(((bl s ++ List.replicate m 0).set (at0 % N) ((bl s ++ List.replicate m 0).getD (at0 % N) 0 ^^^ b)).take N).toArray⟩) (t := ByteArray.extract { data := #[] } 0 (min 0 100)) (by kernel_rfl) (by kernel_rfl) (cat_le hs hN2 (set_take' hs (Nat.mod_lt at0 hp))))) ?_
      refine zp 8 (.string ((⟨(((bl s ++ List.replicate m 0).set (at0 % N) ((bl s ++ List.replicate m 0).getD (at0 % N) 0 ^^^ b)).take N).toArray⟩) ++ (ByteArray.extract { data := #[] } 0 (min 0 100)))) ?_
      refine wx_end fun w13 hbx _ => ?_
      have h14 := HA.keep _ _ h12 hbx
      exact ⟨by kernel_rfl, h14⟩
    · rintro _ w15 ⟨rfl, h16⟩
      refine then_at rfl ?_
      refine wp_ret ?_
      repeat first | refine then_ret ?_ | refine block_ret ?_
      exact bodyPost_ret (v := .string ((⟨(((bl s ++ List.replicate m 0).set (at0 % N) ((bl s ++ List.replicate m 0).getD (at0 % N) 0 ^^^ b)).take N).toArray⟩) ++ (ByteArray.extract { data := #[] } 0 (min 0 100)))) (by kernel_rfl) rfl ⟨by rw [app_nil', ← hs, ← bl_len s, set_take (bl s) _ _ _ (by rw [bl_len, hs]; exact Nat.mod_lt at0 hp), getD_left (by rw [bl_len, hs]; exact Nat.mod_lt at0 hp)]; rfl, h16.old.old⟩
end Go.Proofs.YtcjjbpbehapjpaaGreat
