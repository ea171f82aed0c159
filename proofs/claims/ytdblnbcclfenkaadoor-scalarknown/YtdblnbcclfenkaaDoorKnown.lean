/-
  ScalarKnown: the walk.
-/
import Derived.Test.YtdblnbcclfenkaaDoorClamp
import Derived.Test.YtdblnbcclfenkaaDoorLess
namespace Go.Proofs.YtdblnbcclfenkaaDoor
open Go.RowKit Num

/-- an operation that reads what is held -/
theorem gm_held {ops : Array Oper} {Q : Exit → Act → World → Prop} {F : (Nat → Nat) → Act} {md : Region.Mode} {i : Nat} {w0 : World} {L M : List (Nat × TypeId × Array Value)} {o : Oper} {v : Value} (hi : M.all (fun x => x.1 != i) = true) (hw : ∀ g, Region.wanted o (yielded ops (F g).tmps) = true) (hp : ∀ g, (F g).put o.dst v = F g)
    (hr : ∀ g w, HA w0 L w → (execOp (F g).eval o).run Tryd.prog w = .ok (.value v) w) : OpGhost Tryd.prog md ops Q (GM w0 L M) F i o :=
  OpGhost.take (v := fun _ => v) hw hp (fun g _ w h _ => ⟨hr g w h.held, h.call hi (Below.refl _ w)⟩)
/-- k bytes 255, then noughts -/
def ff64 (k : Nat) : Array Value := (List.replicate k (iN .u8 255) ++ List.replicate (64 - k) (iN .u8 0)).toArray
theorem ff64_put (k : Nat) (hk : k < 64) : (ff64 k).setIfInBounds k (.int .u8 255) = ff64 (k + 1) := by
  unfold ff64
  rw [List.setIfInBounds_toArray]
  congr 1
  rw [List.set_append_right _ _ (by simp)]
  have e : 64 - k = (64 - (k + 1)) + 1 := by omega
  rw [List.length_replicate, Nat.sub_self, e, List.replicate_succ, List.set_cons_zero, List.replicate_succ', List.append_assoc]
  rfl
theorem ff64_size (k : Nat) (hk : k ≤ 64) : (ff64 k).size = 64 := by simp [ff64]; omega
def fS (n : Nat) : ByteArray := ⟨(List.replicate n 255).toArray⟩
theorem run_fS {ρ : Operand → Value} {x : Operand} {q m : Nat} (n : Nat) (hn : n ≤ 64) {w : World} {dst : Option Tmp} {ty : TypeId} {pos : String} {aft : Array Edge} {gd : Option (Nat × Bool)} (hx : ρ x = .slice (some ⟨q, 0, none⟩) n m) (h : Blk w q 5 (ff64 64)) :
    (execOp ρ ⟨dst, .convert 31 9 x, ty, pos, aft, gd⟩).run Tryd.prog w = .ok (.value (.string (fS n))) w := by
  have e := run_convert_bytes_back (P := Tryd.prog) w 31 9 5 ⟨q, 0, none⟩ m (List.replicate n 255) Tryd.underlying31 Tryd.underlying5 Tryd.underlying9 (fun j hj => by
    have hadd : (⟨q, 0, none⟩ : Addr).add j = ⟨q, j, none⟩ := by unfold Addr.add; split <;> simp_all
    rw [List.length_replicate] at hj
    have hv : (ff64 64)[j]? = some (iN .u8 255) := by
      unfold ff64
      rw [List.getElem?_toArray, Nat.sub_self, List.replicate_zero, List.append_nil, List.getElem?_replicate, if_pos (by omega)]
    rw [hadd, h.cell j, hv, List.getElem_replicate]
    rfl)
  rw [List.length_replicate] at e
  simp only [execOp, hx, Sem.run_bind, e, Result.andThen_ok, Sem.run_pure]
  rfl
theorem run_cutb {ρ : Operand → Value} {x y : Operand} {q n : Nat} {w : World} {dst : Option Tmp} {ty : TypeId} {pos : String} {aft : Array Edge} {gd : Option (Nat × Bool)} (hx : ρ x = .slice (some ⟨q, 0, none⟩) 64 64) (hy : ρ y = iN .i64 n) (hn : n ≤ 64) :
    (execOp ρ ⟨dst, .slice 31 x none (some y) none, ty, pos, aft, gd⟩).run Tryd.prog w = .ok (.value (.slice (some ⟨q, 0, none⟩) n 64)) w := by
  have h1 : (n : Int) ≤ 64 := by omega
  have h2 : ¬ (64 : Int) < (n : Int) := by omega
  simp only [execOp, hx, Option.map, hy, iN]
  go_simp
/-- the chapter's text, the order less 2 -/
def allS : ByteArray := { data := #[0, 15, 156, 68, 227, 17, 6, 164, 71, 147, 133, 104, 167, 27, 14, 208, 101, 190, 245, 23, 210, 115, 236, 206, 61, 154, 48, 124, 27, 65, 153, 3] }
def mi2S : ByteArray := { data := #[235] } ++ ordS.extract 1 ordS.size
def fxS : ByteArray := fS 64 ++ { data := #[120] }
def b33S : ByteArray := bytesOf 1 ++ { data := #[0] }
def c0S : ByteArray := { data := #[248] } ++ fS 30
def c1S : ByteArray := c0S ++ { data := #[127] }
def c2S : ByteArray := zs 31 ++ { data := #[64] }
theorem not_isS (s : ByteArray) (h : decide (s.size = 32 ∧ numS s < Lq) = false) : ¬ isS s := fun hs => of_decide_eq_false h hs
theorem yes_isS (s : ByteArray) (h : decide (s.size = 32 ∧ numS s < Lq) = true) : isS s := (of_decide_eq_true h : s.size = 32 ∧ numS s < Lq)
theorem Clamp_to (s t : ByteArray) (hl : s.size = 32) (ht : clampS s = t) (w : World) :
    Calls Tryd.prog 14 #[.string s] w fun e w' => e = .returned (.string t) ∧ Below w.heap.size w w' := by
  subst ht
  exact Clamp_yes s hl w

set_option linter.unusedVariables false in
set_option maxRecDepth 100000 in
set_option maxHeartbeats 8000000 in
theorem ScalarKnown_any (w : World) (VV : Vars w) :
    Calls Tryd.prog 9 #[] w fun e w' => e = .returned (.bool true) ∧ Below w.heap.size w w' := by
  have H0 := HA.start w
  go_enter Tryd.func9, Tryd.ntmps9
  refine wp_seq ?_
  -- region 0
  refine wl_region ?_
  refine wl_val (.bool false) (by kernel_rfl) (by kernel_rfl) ?_
  refine wl_nil ?_
  refine then_at (F := ⟨(.bool false :: List.replicate 127 un).toArray, []⟩) (by kernel_rfl) ?_
  refine wp_seq ?_
  -- region 1
  refine wl_region ?_
  refine wl_mkslice (n := 64) H0 5 (by kernel_rfl) (run_mk 64 (by decide) (by kernel_rfl) (by kernel_rfl)) ?_
  intro q1 w2 h3
  refine wl_val (.slice (some ⟨q1, 0, none⟩) 64 64) (by kernel_rfl) (by kernel_rfl) ?_
  refine wl_nil ?_
  refine then_at (F := ⟨(.bool false :: .slice (some ⟨q1, 0, none⟩) 64 64 :: un :: un :: un :: un :: un :: un :: .slice (some ⟨q1, 0, none⟩) 64 64 :: List.replicate 119 un).toArray, []⟩) (by kernel_rfl) ?_
  refine wp_seq ?_
  refine wp_seq ?_
  -- region 2
  refine wl_region ?_
  refine wl_val (iN .i64 0) (by kernel_rfl) (by kernel_rfl) ?_
  refine wl_nil ?_
  refine then_at (F := ⟨(.bool false :: .slice (some ⟨q1, 0, none⟩) 64 64 :: iN .i64 0 :: un :: un :: un :: un :: un :: .slice (some ⟨q1, 0, none⟩) 64 64 :: List.replicate 119 un).toArray, []⟩) (by kernel_rfl) ?_
  refine wp_block ?_
  refine wp_count (fun k A w' => ∃ u4 : Nat → Value, A = ⟨(.bool false :: .slice (some ⟨q1, 0, none⟩) 64 64 :: iN .i64 k :: un :: un :: un :: un :: un :: .slice (some ⟨q1, 0, none⟩) 64 64 :: u4 9 :: u4 10 :: u4 11 :: u4 12 :: u4 13 :: u4 14 :: u4 15 :: List.replicate 112 un).toArray, []⟩ ∧ HA w [(q1, 5, ff64 k)] w') 64 ?_ ?_ ?_
  · exact ⟨fun ii => (([(9, undef), (10, undef), (11, undef), (12, undef), (13, undef), (14, undef), (15, undef)] : List (Nat × Value)).find? (·.1 == ii)).elim undef (·.2), by kernel_rfl, (by rw [← (by kernel_rfl : zr 64 = ff64 0)]; exact h3)⟩
  · rintro k hk _ w5 ⟨u4, rfl, h6⟩
    refine wp_seq ?_
    refine wp_seq ?_
    -- region 3
    refine wl_region ?_
    refine wl_val (iN .i64 k) (by kernel_rfl) (by kernel_rfl) ?_
    refine wl_val (.bool true) (by kernel_rfl) (run_lss (k := .i64) (a := k) (b := 64) (by kernel_rfl) (by kernel_rfl) true (decide_eq_true hk)) ?_
    refine wl_nil ?_
    refine then_at (F := ⟨(.bool false :: .slice (some ⟨q1, 0, none⟩) 64 64 :: iN .i64 k :: un :: un :: un :: un :: un :: .slice (some ⟨q1, 0, none⟩) 64 64 :: iN .i64 k :: .bool true :: u4 11 :: u4 12 :: u4 13 :: u4 14 :: u4 15 :: List.replicate 112 un).toArray, []⟩) (by kernel_rfl) ?_
    refine wp_cond_true (by kernel_rfl) ?_
    refine wp_skip ?_
    refine then_at (F := ⟨(.bool false :: .slice (some ⟨q1, 0, none⟩) 64 64 :: iN .i64 k :: un :: un :: un :: un :: un :: .slice (some ⟨q1, 0, none⟩) 64 64 :: iN .i64 k :: .bool true :: u4 11 :: u4 12 :: u4 13 :: u4 14 :: u4 15 :: List.replicate 112 un).toArray, []⟩) (by kernel_rfl) ?_
    refine wp_seq ?_
    refine wp_block ?_
    -- region 5
    refine wl_region ?_
    refine wl_val (.slice (some ⟨q1, 0, none⟩) 64 64) (by kernel_rfl) (by kernel_rfl) ?_
    refine wl_val (iN .i64 k) (by kernel_rfl) (by kernel_rfl) ?_
    refine wl_val (.pointer (some ⟨q1, k, none⟩)) (by kernel_rfl) (run_addr_slice (q := q1) (n := 64) (m := 64) (a := k) Tryd.underlying31 (fun w => Tryd.sizeOf5 w) (by kernel_rfl) (by kernel_rfl) (by omega)) ?_
    refine wl_put (k := .u8) (z := ((255 : Nat) : Int)) h6 0 rfl k (by rw [ff64_size k (by omega)]; exact hk) (by kernel_rfl) (fun w => Tryd.sizeOf5 w) (by kernel_rfl) (by kernel_rfl) ?_
    intro w7 h8
    have h9 : HA w [(q1, 5, ff64 (k + 1))] w7 := (by rw [← ff64_put k hk]; exact h8)
    clear h8
    refine wl_nil ?_
    refine block_normal ?_
    refine then_at (F := ⟨(.bool false :: .slice (some ⟨q1, 0, none⟩) 64 64 :: iN .i64 k :: un :: un :: un :: un :: un :: .slice (some ⟨q1, 0, none⟩) 64 64 :: iN .i64 k :: .bool true :: u4 11 :: u4 12 :: .slice (some ⟨q1, 0, none⟩) 64 64 :: iN .i64 k :: .pointer (some ⟨q1, k, none⟩) :: List.replicate 112 un).toArray, []⟩) (by kernel_rfl) ?_
    -- region 4
    refine wl_region ?_
    refine wl_val (iN .i64 k) (by kernel_rfl) (by kernel_rfl) ?_
    refine wl_val (iN .i64 (k + 1)) (by kernel_rfl) (run_add (k := .i64) (a := k) (b := 1) (by kernel_rfl) (by kernel_rfl) (by simp only [top]; omega)) ?_
    refine wl_val (iN .i64 (k + 1)) (by kernel_rfl) (by kernel_rfl) ?_
    refine wl_nil ?_
    exact then_I ⟨fun ii => (([(9, iN .i64 k), (10, .bool true), (11, iN .i64 k), (12, iN .i64 (k + 1)), (13, .slice (some ⟨q1, 0, none⟩) 64 64), (14, iN .i64 k), (15, .pointer (some ⟨q1, k, none⟩))] : List (Nat × Value)).find? (·.1 == ii)).elim undef (·.2), by kernel_rfl, h9⟩
  · rintro _ w10 ⟨u4, rfl, h11⟩
    refine wp_seq ?_
    refine wp_seq ?_
    -- region 3
    refine wl_region ?_
    refine wl_val (iN .i64 64) (by kernel_rfl) (by kernel_rfl) ?_
    refine wl_val (.bool false) (by kernel_rfl) (run_lss (k := .i64) (a := 64) (b := 64) (by kernel_rfl) (by kernel_rfl) false (by decide)) ?_
    refine wl_nil ?_
    refine then_at (F := ⟨(.bool false :: .slice (some ⟨q1, 0, none⟩) 64 64 :: iN .i64 64 :: un :: un :: un :: un :: un :: .slice (some ⟨q1, 0, none⟩) 64 64 :: iN .i64 64 :: .bool false :: u4 11 :: u4 12 :: u4 13 :: u4 14 :: u4 15 :: List.replicate 112 un).toArray, []⟩) (by kernel_rfl) ?_
    refine wp_cond_false (by kernel_rfl) ?_
    refine wp_exit ?_
    repeat first | refine then_exit ?_ | refine block_exit ?_ | refine block_exit_ne (by decide) ?_
    refine then_at (F := ⟨(.bool false :: .slice (some ⟨q1, 0, none⟩) 64 64 :: iN .i64 64 :: un :: un :: un :: un :: un :: .slice (some ⟨q1, 0, none⟩) 64 64 :: iN .i64 64 :: .bool false :: u4 11 :: u4 12 :: u4 13 :: u4 14 :: u4 15 :: List.replicate 112 un).toArray, []⟩) (by kernel_rfl) ?_
    refine wp_seq ?_
    -- region 6
    refine wl_region ?_
    refine wl_val (.string { data := #[0, 15, 156, 68, 227, 17, 6, 164, 71, 147, 133, 104, 167, 27, 14, 208, 101, 190, 245, 23, 210, 115, 236, 206, 61, 154, 48, 124, 27, 65, 153, 3] }) (by kernel_rfl) (by kernel_rfl) ?_
    refine wl_nil ?_
    refine then_at (F := ⟨(.bool false :: .slice (some ⟨q1, 0, none⟩) 64 64 :: iN .i64 64 :: .string { data := #[0, 15, 156, 68, 227, 17, 6, 164, 71, 147, 133, 104, 167, 27, 14, 208, 101, 190, 245, 23, 210, 115, 236, 206, 61, 154, 48, 124, 27, 65, 153, 3] } :: un :: un :: un :: un :: .slice (some ⟨q1, 0, none⟩) 64 64 :: iN .i64 64 :: .bool false :: u4 11 :: u4 12 :: u4 13 :: u4 14 :: u4 15 :: List.replicate 112 un).toArray, []⟩) (by kernel_rfl) ?_
    refine wp_seq ?_
    -- region 7
    refine wl_region ?_
    refine wl_call (v := .string ordS) h11 (by kernel_rfl) enter22 #[] (by kernel_rfl) (order_any w10) ?_
    intro w12 h13
    refine wl_val (.string (ordS.extract 1 ordS.size)) (by kernel_rfl) (run_cut_lo (s := ordS) (a := 1) (by kernel_rfl) (by kernel_rfl) (by decide +kernel)) ?_
    refine wl_val (.string minS) (by kernel_rfl) (run_cat (s := { data := #[236] }) (t := ordS.extract 1 ordS.size) (by kernel_rfl) (by kernel_rfl) (by decide +kernel)) ?_
    refine wl_val (.string minS) (by kernel_rfl) (by kernel_rfl) ?_
    refine wl_nil ?_
    refine then_at (F := ⟨(.bool false :: .slice (some ⟨q1, 0, none⟩) 64 64 :: iN .i64 64 :: .string { data := #[0, 15, 156, 68, 227, 17, 6, 164, 71, 147, 133, 104, 167, 27, 14, 208, 101, 190, 245, 23, 210, 115, 236, 206, 61, 154, 48, 124, 27, 65, 153, 3] } :: .string minS :: un :: un :: un :: .slice (some ⟨q1, 0, none⟩) 64 64 :: iN .i64 64 :: .bool false :: u4 11 :: u4 12 :: u4 13 :: u4 14 :: u4 15 :: .string ordS :: .string (ordS.extract 1 ordS.size) :: .string minS :: List.replicate 109 un).toArray, []⟩) (by kernel_rfl) ?_
    refine wp_seq ?_
    -- region 8
    refine wl_region ?_
    refine wl_call (v := .string (rS ({ data := #[1] }))) h13 (by kernel_rfl) enter10 #[.string { data := #[1] }] (by kernel_rfl) (Reduce_any ({ data := #[1] }) w12 (VV.below h13.old VV.big)) ?_
    intro w14 h15
    refine wl_call (v := .string (bytesOf 1)) h15 (by kernel_rfl) enter21 #[iN .u8 1] (by kernel_rfl) (small_any 1 (by decide) w14) ?_
    intro w16 h17
    refine wl_val (.bool true) (by kernel_rfl) (run_eqs (s := rS ({ data := #[1] })) (t := bytesOf 1) (by kernel_rfl) (by kernel_rfl) true (decide_eq_true (by decide +kernel))) ?_
    refine wl_val (.bool true) (by kernel_rfl) (by kernel_rfl) ?_
    refine wl_call (v := .string ordS) h17 (by kernel_rfl) enter22 #[] (by kernel_rfl) (order_any w16) ?_
    intro w18 h19
    refine wl_call (v := .string (rS ordS)) h19 (by kernel_rfl) enter10 #[.string ordS] (by kernel_rfl) (Reduce_any ordS w18 (VV.below h19.old VV.big)) ?_
    intro w20 h21
    refine wl_call (v := .string (bytesOf 0)) h21 (by kernel_rfl) enter21 #[iN .u8 0] (by kernel_rfl) (small_any 0 (by decide) w20) ?_
    intro w22 h23
    refine wl_val (.bool true) (by kernel_rfl) (run_eqs (s := rS ordS) (t := bytesOf 0) (by kernel_rfl) (by kernel_rfl) true (decide_eq_true (by decide +kernel))) ?_
    refine wl_val (.bool true) (by kernel_rfl) (by kernel_rfl) ?_
    refine wl_val (.bool true) (by kernel_rfl) (by kernel_rfl) ?_
    refine wl_call (v := .string ordS) h23 (by kernel_rfl) enter22 #[] (by kernel_rfl) (order_any w22) ?_
    intro w24 h25
    refine wl_call (v := .bool false) h25 (by kernel_rfl) enter12 #[.string ordS] (by kernel_rfl) (Check_no ordS (not_isS _ (by decide +kernel)) w24 (VV.below h25.old VV.big)) ?_
    intro w26 h27
    refine wl_val (.bool true) (by kernel_rfl) (by kernel_rfl) ?_
    refine wl_val (.bool true) (by kernel_rfl) (by kernel_rfl) ?_
    refine wl_val (.bool true) (by kernel_rfl) (by kernel_rfl) ?_
    refine wl_val (.string minS) (by kernel_rfl) (by kernel_rfl) ?_
    refine wl_call (v := .string (rS minS)) h27 (by kernel_rfl) enter10 #[.string minS] (by kernel_rfl) (Reduce_any minS w26 (VV.below h27.old VV.big)) ?_
    intro w28 h29
    refine wl_val (.string minS) (by kernel_rfl) (by kernel_rfl) ?_
    refine wl_val (.bool true) (by kernel_rfl) (run_eqs (s := rS minS) (t := minS) (by kernel_rfl) (by kernel_rfl) true (decide_eq_true (by decide +kernel))) ?_
    refine wl_val (.bool true) (by kernel_rfl) (by kernel_rfl) ?_
    refine wl_val (.bool true) (by kernel_rfl) (by kernel_rfl) ?_
    refine wl_val (.string minS) (by kernel_rfl) (by kernel_rfl) ?_
    refine wl_call (v := .bool true) h29 (by kernel_rfl) enter12 #[.string minS] (by kernel_rfl) (Check_yes minS (yes_isS _ (by decide +kernel)) w28 (VV.below h29.old VV.big)) ?_
    intro w30 h31
    refine wl_val (.bool true) (by kernel_rfl) (by kernel_rfl) ?_
    refine wl_val (.bool true) (by kernel_rfl) (by kernel_rfl) ?_
    refine wl_val (.slice (some ⟨q1, 0, none⟩) 64 64) (by kernel_rfl) (by kernel_rfl) ?_
    refine wl_val (.string (fS 64)) (by kernel_rfl) (run_fS (q := q1) (m := 64) 64 (by decide) (by kernel_rfl) (h31.get 0 rfl)) ?_
    refine wl_call (v := .string (rS (fS 64))) h31 (by kernel_rfl) enter10 #[.string (fS 64)] (by kernel_rfl) (Reduce_any (fS 64) w30 (VV.below h31.old VV.big)) ?_
    intro w32 h33
    refine wl_val (.string { data := #[0, 15, 156, 68, 227, 17, 6, 164, 71, 147, 133, 104, 167, 27, 14, 208, 101, 190, 245, 23, 210, 115, 236, 206, 61, 154, 48, 124, 27, 65, 153, 3] }) (by kernel_rfl) (by kernel_rfl) ?_
    refine wl_val (.bool true) (by kernel_rfl) (run_eqs (s := rS (fS 64)) (t := { data := #[0, 15, 156, 68, 227, 17, 6, 164, 71, 147, 133, 104, 167, 27, 14, 208, 101, 190, 245, 23, 210, 115, 236, 206, 61, 154, 48, 124, 27, 65, 153, 3] }) (by kernel_rfl) (by kernel_rfl) true (decide_eq_true (by decide +kernel))) ?_
    refine wl_val (.bool true) (by kernel_rfl) (by kernel_rfl) ?_
    refine wl_val (.bool true) (by kernel_rfl) (by kernel_rfl) ?_
    refine wl_val (.slice (some ⟨q1, 0, none⟩) 64 64) (by kernel_rfl) (by kernel_rfl) ?_
    refine wl_val (.string (fS 64)) (by kernel_rfl) (run_fS (q := q1) (m := 64) 64 (by decide) (by kernel_rfl) (h33.get 0 rfl)) ?_
    refine wl_val (.string fxS) (by kernel_rfl) (run_cat (s := fS 64) (t := { data := #[120] }) (by kernel_rfl) (by kernel_rfl) (by decide +kernel)) ?_
    refine wl_call (v := .string (rS fxS)) h33 (by kernel_rfl) enter10 #[.string fxS] (by kernel_rfl) (Reduce_any fxS w32 (VV.below h33.old VV.big)) ?_
    intro w34 h35
    refine wl_val (.string { data := #[0, 15, 156, 68, 227, 17, 6, 164, 71, 147, 133, 104, 167, 27, 14, 208, 101, 190, 245, 23, 210, 115, 236, 206, 61, 154, 48, 124, 27, 65, 153, 3] }) (by kernel_rfl) (by kernel_rfl) ?_
    refine wl_val (.bool true) (by kernel_rfl) (run_eqs (s := rS fxS) (t := { data := #[0, 15, 156, 68, 227, 17, 6, 164, 71, 147, 133, 104, 167, 27, 14, 208, 101, 190, 245, 23, 210, 115, 236, 206, 61, 154, 48, 124, 27, 65, 153, 3] }) (by kernel_rfl) (by kernel_rfl) true (decide_eq_true (by decide +kernel))) ?_
    refine wl_val (.bool true) (by kernel_rfl) (by kernel_rfl) ?_
    refine wl_val (.bool true) (by kernel_rfl) (by kernel_rfl) ?_
    refine wl_nil ?_
    refine then_at (F := ⟨(.bool false :: .slice (some ⟨q1, 0, none⟩) 64 64 :: iN .i64 64 :: .string { data := #[0, 15, 156, 68, 227, 17, 6, 164, 71, 147, 133, 104, 167, 27, 14, 208, 101, 190, 245, 23, 210, 115, 236, 206, 61, 154, 48, 124, 27, 65, 153, 3] } :: .string minS :: .bool true :: un :: un :: .slice (some ⟨q1, 0, none⟩) 64 64 :: iN .i64 64 :: .bool false :: u4 11 :: u4 12 :: u4 13 :: u4 14 :: u4 15 :: .string ordS :: .string (ordS.extract 1 ordS.size) :: .string minS :: .string (rS ({ data := #[1] })) :: .string (bytesOf 1) :: .bool true :: .bool true :: .string ordS :: .string (rS ordS) :: .string (bytesOf 0) :: .bool true :: .bool true :: .bool true :: .string ordS :: .bool false :: .bool true :: .bool true :: .bool true :: .string minS :: .string (rS minS) :: .string minS :: .bool true :: .bool true :: .bool true :: .string minS :: .bool true :: .bool true :: .bool true :: .slice (some ⟨q1, 0, none⟩) 64 64 :: .string (fS 64) :: .string (rS (fS 64)) :: .string { data := #[0, 15, 156, 68, 227, 17, 6, 164, 71, 147, 133, 104, 167, 27, 14, 208, 101, 190, 245, 23, 210, 115, 236, 206, 61, 154, 48, 124, 27, 65, 153, 3] } :: .bool true :: .bool true :: .bool true :: .slice (some ⟨q1, 0, none⟩) 64 64 :: .string (fS 64) :: .string fxS :: .string (rS fxS) :: .string { data := #[0, 15, 156, 68, 227, 17, 6, 164, 71, 147, 133, 104, 167, 27, 14, 208, 101, 190, 245, 23, 210, 115, 236, 206, 61, 154, 48, 124, 27, 65, 153, 3] } :: .bool true :: .bool true :: List.replicate 70 un).toArray, []⟩) (by kernel_rfl) ?_
    refine wp_seq ?_
    -- region 9
    refine wl_region ?_
    refine wl_val (.string minS) (by kernel_rfl) (by kernel_rfl) ?_
    refine wl_call (v := .string (aS minS ({ data := #[1] }))) h35 (by kernel_rfl) enter17 #[.string minS, .string { data := #[1] }] (by kernel_rfl) (Add_any minS ({ data := #[1] }) w34 (VV.below h35.old VV.big)) ?_
    intro w36 h37
    refine wl_call (v := .string (bytesOf 0)) h37 (by kernel_rfl) enter21 #[iN .u8 0] (by kernel_rfl) (small_any 0 (by decide) w36) ?_
    intro w38 h39
    refine wl_val (.bool true) (by kernel_rfl) (run_eqs (s := aS minS ({ data := #[1] })) (t := bytesOf 0) (by kernel_rfl) (by kernel_rfl) true (decide_eq_true (by decide +kernel))) ?_
    refine wl_val (.bool true) (by kernel_rfl) (by kernel_rfl) ?_
    refine wl_val (.string minS) (by kernel_rfl) (by kernel_rfl) ?_
    refine wl_val (.string minS) (by kernel_rfl) (by kernel_rfl) ?_
    refine wl_call (v := .string (mS minS minS)) h39 (by kernel_rfl) enter19 #[.string minS, .string minS] (by kernel_rfl) (Mul_any minS minS w38 (VV.below h39.old VV.big)) ?_
    intro w40 h41
    refine wl_call (v := .string (bytesOf 1)) h41 (by kernel_rfl) enter21 #[iN .u8 1] (by kernel_rfl) (small_any 1 (by decide) w40) ?_
    intro w42 h43
    refine wl_val (.bool true) (by kernel_rfl) (run_eqs (s := mS minS minS) (t := bytesOf 1) (by kernel_rfl) (by kernel_rfl) true (decide_eq_true (by decide +kernel))) ?_
    refine wl_val (.bool true) (by kernel_rfl) (by kernel_rfl) ?_
    refine wl_val (.bool true) (by kernel_rfl) (by kernel_rfl) ?_
    refine wl_val (.string minS) (by kernel_rfl) (by kernel_rfl) ?_
    refine wl_val (.string minS) (by kernel_rfl) (by kernel_rfl) ?_
    refine wl_call (v := .string (aS minS minS)) h43 (by kernel_rfl) enter17 #[.string minS, .string minS] (by kernel_rfl) (Add_any minS minS w42 (VV.below h43.old VV.big)) ?_
    intro w44 h45
    refine wl_call (v := .string ordS) h45 (by kernel_rfl) enter22 #[] (by kernel_rfl) (order_any w44) ?_
    intro w46 h47
    refine wl_val (.string (ordS.extract 1 ordS.size)) (by kernel_rfl) (run_cut_lo (s := ordS) (a := 1) (by kernel_rfl) (by kernel_rfl) (by decide +kernel)) ?_
    refine wl_val (.string mi2S) (by kernel_rfl) (run_cat (s := { data := #[235] }) (t := ordS.extract 1 ordS.size) (by kernel_rfl) (by kernel_rfl) (by decide +kernel)) ?_
    refine wl_val (.bool true) (by kernel_rfl) (run_eqs (s := aS minS minS) (t := mi2S) (by kernel_rfl) (by kernel_rfl) true (decide_eq_true (by decide +kernel))) ?_
    refine wl_val (.bool true) (by kernel_rfl) (by kernel_rfl) ?_
    refine wl_val (.bool true) (by kernel_rfl) (by kernel_rfl) ?_
    refine wl_nil ?_
    refine then_at (F := ⟨(.bool false :: .slice (some ⟨q1, 0, none⟩) 64 64 :: iN .i64 64 :: .string { data := #[0, 15, 156, 68, 227, 17, 6, 164, 71, 147, 133, 104, 167, 27, 14, 208, 101, 190, 245, 23, 210, 115, 236, 206, 61, 154, 48, 124, 27, 65, 153, 3] } :: .string minS :: .bool true :: .bool true :: un :: .slice (some ⟨q1, 0, none⟩) 64 64 :: iN .i64 64 :: .bool false :: u4 11 :: u4 12 :: u4 13 :: u4 14 :: u4 15 :: .string ordS :: .string (ordS.extract 1 ordS.size) :: .string minS :: .string (rS ({ data := #[1] })) :: .string (bytesOf 1) :: .bool true :: .bool true :: .string ordS :: .string (rS ordS) :: .string (bytesOf 0) :: .bool true :: .bool true :: .bool true :: .string ordS :: .bool false :: .bool true :: .bool true :: .bool true :: .string minS :: .string (rS minS) :: .string minS :: .bool true :: .bool true :: .bool true :: .string minS :: .bool true :: .bool true :: .bool true :: .slice (some ⟨q1, 0, none⟩) 64 64 :: .string (fS 64) :: .string (rS (fS 64)) :: .string { data := #[0, 15, 156, 68, 227, 17, 6, 164, 71, 147, 133, 104, 167, 27, 14, 208, 101, 190, 245, 23, 210, 115, 236, 206, 61, 154, 48, 124, 27, 65, 153, 3] } :: .bool true :: .bool true :: .bool true :: .slice (some ⟨q1, 0, none⟩) 64 64 :: .string (fS 64) :: .string fxS :: .string (rS fxS) :: .string { data := #[0, 15, 156, 68, 227, 17, 6, 164, 71, 147, 133, 104, 167, 27, 14, 208, 101, 190, 245, 23, 210, 115, 236, 206, 61, 154, 48, 124, 27, 65, 153, 3] } :: .bool true :: .bool true :: .string minS :: .string (aS minS ({ data := #[1] })) :: .string (bytesOf 0) :: .bool true :: .bool true :: .string minS :: .string minS :: .string (mS minS minS) :: .string (bytesOf 1) :: .bool true :: .bool true :: .bool true :: .string minS :: .string minS :: .string (aS minS minS) :: .string ordS :: .string (ordS.extract 1 ordS.size) :: .string mi2S :: .bool true :: .bool true :: List.replicate 50 un).toArray, []⟩) (by kernel_rfl) ?_
    refine wp_seq ?_
    -- region 10
    refine wp_region_ghost (fun g : Nat → Nat => (⟨(.bool false :: .slice (some ⟨q1, 0, none⟩) 64 64 :: iN .i64 64 :: .string { data := #[0, 15, 156, 68, 227, 17, 6, 164, 71, 147, 133, 104, 167, 27, 14, 208, 101, 190, 245, 23, 210, 115, 236, 206, 61, 154, 48, 124, 27, 65, 153, 3] } :: .string minS :: .bool true :: .bool true :: .bool true :: .slice (some ⟨q1, 0, none⟩) 64 64 :: iN .i64 64 :: .bool false :: u4 11 :: u4 12 :: u4 13 :: u4 14 :: u4 15 :: .string ordS :: .string (ordS.extract 1 ordS.size) :: .string minS :: .string (rS ({ data := #[1] })) :: .string (bytesOf 1) :: .bool true :: .bool true :: .string ordS :: .string (rS ordS) :: .string (bytesOf 0) :: .bool true :: .bool true :: .bool true :: .string ordS :: .bool false :: .bool true :: .bool true :: .bool true :: .string minS :: .string (rS minS) :: .string minS :: .bool true :: .bool true :: .bool true :: .string minS :: .bool true :: .bool true :: .bool true :: .slice (some ⟨q1, 0, none⟩) 64 64 :: .string (fS 64) :: .string (rS (fS 64)) :: .string { data := #[0, 15, 156, 68, 227, 17, 6, 164, 71, 147, 133, 104, 167, 27, 14, 208, 101, 190, 245, 23, 210, 115, 236, 206, 61, 154, 48, 124, 27, 65, 153, 3] } :: .bool true :: .bool true :: .bool true :: .slice (some ⟨q1, 0, none⟩) 64 64 :: .string (fS 64) :: .string fxS :: .string (rS fxS) :: .string { data := #[0, 15, 156, 68, 227, 17, 6, 164, 71, 147, 133, 104, 167, 27, 14, 208, 101, 190, 245, 23, 210, 115, 236, 206, 61, 154, 48, 124, 27, 65, 153, 3] } :: .bool true :: .bool true :: .string minS :: .string (aS minS ({ data := #[1] })) :: .string (bytesOf 0) :: .bool true :: .bool true :: .string minS :: .string minS :: .string (mS minS minS) :: .string (bytesOf 1) :: .bool true :: .bool true :: .bool true :: .string minS :: .string minS :: .string (aS minS minS) :: .string ordS :: .string (ordS.extract 1 ordS.size) :: .string mi2S :: .bool true :: .bool true :: .slice (some ⟨q1, 0, none⟩) 64 64 :: .slice (some ⟨q1, 0, none⟩) 32 64 :: .string (fS 32) :: .string c1S :: .slice (some ⟨q1, 0, none⟩) 64 64 :: .slice (some ⟨q1, 0, none⟩) 30 64 :: .string (fS 30) :: .string c0S :: .string c1S :: .bool true :: .bool true :: .slice (some ⟨q1, 0, none⟩) 64 64 :: .slice (some ⟨q1, 0, none⟩) 31 64 :: .string (fS 31) :: .string ByteArray.empty :: .bool true :: .bool true :: .bool true :: .slice (some ⟨g 18, 0, none⟩) 32 32 :: .string (zs 32) :: .string c2S :: .slice (some ⟨g 21, 0, none⟩) 31 31 :: .string (zs 31) :: .string c2S :: .bool true :: .bool true :: .bool true :: .bool false :: .bool true :: .bool true :: .bool true :: .string (bytesOf 1) :: .string b33S :: .bool false :: .bool true :: .bool true :: .bool true :: .bool false :: .bool true :: .bool true :: List.replicate 10 un).toArray, []⟩ : Act)) (GM w [(q1, 5, ff64 64)] [(18, 5, zr 32), (21, 5, zr 31)]) [.slice (some ⟨q1, 0, none⟩) 64 64, .slice (some ⟨q1, 0, none⟩) 32 64, .string (fS 32), .string c1S, .slice (some ⟨q1, 0, none⟩) 64 64, .slice (some ⟨q1, 0, none⟩) 30 64, .string (fS 30), .string c0S, .string c1S, .bool true, .bool true, .slice (some ⟨q1, 0, none⟩) 64 64, .slice (some ⟨q1, 0, none⟩) 31 64, .string (fS 31), .string ByteArray.empty, .bool true, .bool true, .bool true, .slice (some ⟨0, 0, none⟩) 32 32, .string (zs 32), .string c2S, .slice (some ⟨0, 0, none⟩) 31 31, .string (zs 31), .string c2S, .bool true, .bool true, .bool true, .bool false, .bool true, .bool true, .bool true, .string (bytesOf 1), .string b33S, .bool false, .bool true, .bool true, .bool true, .bool false, .bool true, .bool true, .bool true] (by kernel_rfl) (by kernel_rfl) (by kernel_rfl) (by kernel_rfl) (fun _ _ _ _ h => h) (fun d hd => GM.start h47.drew 41 (by kernel_rfl) hd) ?_ ?_
    · refine AllGhost.cons (gm_plain (v := fun _ => .slice (some ⟨q1, 0, none⟩) 64 64) (by kernel_rfl) (fun _ => by kernel_rfl) (fun _ => by kernel_rfl) (fun _ _ => (by kernel_rfl))) ?_
      refine AllGhost.cons (gm_plain (v := fun _ => .slice (some ⟨q1, 0, none⟩) 32 64) (by kernel_rfl) (fun _ => by kernel_rfl) (fun _ => by kernel_rfl) (fun _ _ => (run_cutb (q := q1) (n := 32) (by kernel_rfl) (by kernel_rfl) (by decide)))) ?_
      refine AllGhost.cons (gm_held (v := .string (fS 32)) (by kernel_rfl) (fun _ => by kernel_rfl) (fun _ => by kernel_rfl) (fun g w' h' => run_fS (q := q1) (m := 64) 32 (by decide) (by kernel_rfl) (h'.get 0 rfl))) ?_
      refine AllGhost.cons (gm_call (v := .string c1S) (by kernel_rfl) (fun _ => by kernel_rfl) (fun _ => by kernel_rfl) enter14 #[.string (fS 32)] (fun _ => by kernel_rfl) (fun w' h' => Clamp_to (fS 32) (c1S) (by decide +kernel) (by decide +kernel) w')) ?_
      refine AllGhost.cons (gm_plain (v := fun _ => .slice (some ⟨q1, 0, none⟩) 64 64) (by kernel_rfl) (fun _ => by kernel_rfl) (fun _ => by kernel_rfl) (fun _ _ => (by kernel_rfl))) ?_
      refine AllGhost.cons (gm_plain (v := fun _ => .slice (some ⟨q1, 0, none⟩) 30 64) (by kernel_rfl) (fun _ => by kernel_rfl) (fun _ => by kernel_rfl) (fun _ _ => (run_cutb (q := q1) (n := 30) (by kernel_rfl) (by kernel_rfl) (by decide)))) ?_
      refine AllGhost.cons (gm_held (v := .string (fS 30)) (by kernel_rfl) (fun _ => by kernel_rfl) (fun _ => by kernel_rfl) (fun g w' h' => run_fS (q := q1) (m := 64) 30 (by decide) (by kernel_rfl) (h'.get 0 rfl))) ?_
      refine AllGhost.cons (gm_plain (v := fun _ => .string c0S) (by kernel_rfl) (fun _ => by kernel_rfl) (fun _ => by kernel_rfl) (fun _ _ => (run_cat (s := { data := #[248] }) (t := fS 30) (by kernel_rfl) (by kernel_rfl) (by decide +kernel)))) ?_
      refine AllGhost.cons (gm_plain (v := fun _ => .string c1S) (by kernel_rfl) (fun _ => by kernel_rfl) (fun _ => by kernel_rfl) (fun _ _ => (run_cat (s := c0S) (t := { data := #[127] }) (by kernel_rfl) (by kernel_rfl) (by decide +kernel)))) ?_
      refine AllGhost.cons (gm_plain (v := fun _ => .bool true) (by kernel_rfl) (fun _ => by kernel_rfl) (fun _ => by kernel_rfl) (fun _ _ => (run_eqs (s := c1S) (t := c1S) (by kernel_rfl) (by kernel_rfl) true (decide_eq_true (by decide +kernel))))) ?_
      refine AllGhost.cons (gm_plain (v := fun _ => .bool true) (by kernel_rfl) (fun _ => by kernel_rfl) (fun _ => by kernel_rfl) (fun _ _ => (by kernel_rfl))) ?_
      refine AllGhost.cons (gm_plain (v := fun _ => .slice (some ⟨q1, 0, none⟩) 64 64) (by kernel_rfl) (fun _ => by kernel_rfl) (fun _ => by kernel_rfl) (fun _ _ => (by kernel_rfl))) ?_
      refine AllGhost.cons (gm_plain (v := fun _ => .slice (some ⟨q1, 0, none⟩) 31 64) (by kernel_rfl) (fun _ => by kernel_rfl) (fun _ => by kernel_rfl) (fun _ _ => (run_cutb (q := q1) (n := 31) (by kernel_rfl) (by kernel_rfl) (by decide)))) ?_
      refine AllGhost.cons (gm_held (v := .string (fS 31)) (by kernel_rfl) (fun _ => by kernel_rfl) (fun _ => by kernel_rfl) (fun g w' h' => run_fS (q := q1) (m := 64) 31 (by decide) (by kernel_rfl) (h'.get 0 rfl))) ?_
      refine AllGhost.cons (gm_call (v := .string ByteArray.empty) (by kernel_rfl) (fun _ => by kernel_rfl) (fun _ => by kernel_rfl) enter14 #[.string (fS 31)] (fun _ => by kernel_rfl) (fun w' h' => Clamp_len (fS 31) (by decide +kernel) w')) ?_
      refine AllGhost.cons (gm_plain (v := fun _ => .bool true) (by kernel_rfl) (fun _ => by kernel_rfl) (fun _ => by kernel_rfl) (fun _ _ => (run_eqs (s := ByteArray.empty) (t := { data := #[] }) (by kernel_rfl) (by kernel_rfl) true (decide_eq_true (by decide +kernel))))) ?_
      refine AllGhost.cons (gm_plain (v := fun _ => .bool true) (by kernel_rfl) (fun _ => by kernel_rfl) (fun _ => by kernel_rfl) (fun _ _ => (by kernel_rfl))) ?_
      refine AllGhost.cons (gm_plain (v := fun _ => .bool true) (by kernel_rfl) (fun _ => by kernel_rfl) (fun _ => by kernel_rfl) (fun _ _ => (by kernel_rfl))) ?_
      refine AllGhost.cons (gm_make (fun m => .slice (some ⟨m, 0, none⟩) 32 32) (by kernel_rfl) (by simp) (fun _ => by kernel_rfl) (fun _ _ => by kernel_rfl) (fun _ _ => (run_mk 32 (by decide) (by kernel_rfl) (by kernel_rfl)))) ?_
      refine AllGhost.cons (gm_reads (v := .string (zs 32)) 0 rfl (by kernel_rfl) (fun _ => by kernel_rfl) (fun _ => by kernel_rfl) (by kernel_rfl) (fun g w' hb => run_noughts 32 (by kernel_rfl) hb)) ?_
      refine AllGhost.cons (gm_call (v := .string c2S) (by kernel_rfl) (fun _ => by kernel_rfl) (fun _ => by kernel_rfl) enter14 #[.string (zs 32)] (fun _ => by kernel_rfl) (fun w' h' => Clamp_to (zs 32) (c2S) (by decide +kernel) (by decide +kernel) w')) ?_
      refine AllGhost.cons (gm_make (fun m => .slice (some ⟨m, 0, none⟩) 31 31) (by kernel_rfl) (by simp) (fun _ => by kernel_rfl) (fun _ _ => by kernel_rfl) (fun _ _ => (run_mk 31 (by decide) (by kernel_rfl) (by kernel_rfl)))) ?_
      refine AllGhost.cons (gm_reads (v := .string (zs 31)) 1 rfl (by kernel_rfl) (fun _ => by kernel_rfl) (fun _ => by kernel_rfl) (by kernel_rfl) (fun g w' hb => run_noughts 31 (by kernel_rfl) hb)) ?_
      refine AllGhost.cons (gm_plain (v := fun _ => .string c2S) (by kernel_rfl) (fun _ => by kernel_rfl) (fun _ => by kernel_rfl) (fun _ _ => (run_cat (s := zs 31) (t := { data := #[64] }) (by kernel_rfl) (by kernel_rfl) (by decide +kernel)))) ?_
      refine AllGhost.cons (gm_plain (v := fun _ => .bool true) (by kernel_rfl) (fun _ => by kernel_rfl) (fun _ => by kernel_rfl) (fun _ _ => (run_eqs (s := c2S) (t := c2S) (by kernel_rfl) (by kernel_rfl) true (decide_eq_true (by decide +kernel))))) ?_
      refine AllGhost.cons (gm_plain (v := fun _ => .bool true) (by kernel_rfl) (fun _ => by kernel_rfl) (fun _ => by kernel_rfl) (fun _ _ => (by kernel_rfl))) ?_
      refine AllGhost.cons (gm_plain (v := fun _ => .bool true) (by kernel_rfl) (fun _ => by kernel_rfl) (fun _ => by kernel_rfl) (fun _ _ => (by kernel_rfl))) ?_
      refine AllGhost.cons (gm_call (v := .bool false) (by kernel_rfl) (fun _ => by kernel_rfl) (fun _ => by kernel_rfl) enter12 #[.string { data := #[] }] (fun _ => by kernel_rfl) (fun w' h' => Check_no ({ data := #[] }) (not_isS _ (by decide +kernel)) w' (VV.below h'.old VV.big))) ?_
      refine AllGhost.cons (gm_plain (v := fun _ => .bool true) (by kernel_rfl) (fun _ => by kernel_rfl) (fun _ => by kernel_rfl) (fun _ _ => (by kernel_rfl))) ?_
      refine AllGhost.cons (gm_plain (v := fun _ => .bool true) (by kernel_rfl) (fun _ => by kernel_rfl) (fun _ => by kernel_rfl) (fun _ _ => (by kernel_rfl))) ?_
      refine AllGhost.cons (gm_plain (v := fun _ => .bool true) (by kernel_rfl) (fun _ => by kernel_rfl) (fun _ => by kernel_rfl) (fun _ _ => (by kernel_rfl))) ?_
      refine AllGhost.cons (gm_call (v := .string (bytesOf 1)) (by kernel_rfl) (fun _ => by kernel_rfl) (fun _ => by kernel_rfl) enter21 #[iN .u8 1] (fun _ => by kernel_rfl) (fun w' h' => small_any 1 (by decide) w')) ?_
      refine AllGhost.cons (gm_plain (v := fun _ => .string b33S) (by kernel_rfl) (fun _ => by kernel_rfl) (fun _ => by kernel_rfl) (fun _ _ => (run_cat (s := bytesOf 1) (t := { data := #[0] }) (by kernel_rfl) (by kernel_rfl) (by decide +kernel)))) ?_
      refine AllGhost.cons (gm_call (v := .bool false) (by kernel_rfl) (fun _ => by kernel_rfl) (fun _ => by kernel_rfl) enter12 #[.string b33S] (fun _ => by kernel_rfl) (fun w' h' => Check_no b33S (not_isS _ (by decide +kernel)) w' (VV.below h'.old VV.big))) ?_
      refine AllGhost.cons (gm_plain (v := fun _ => .bool true) (by kernel_rfl) (fun _ => by kernel_rfl) (fun _ => by kernel_rfl) (fun _ _ => (by kernel_rfl))) ?_
      refine AllGhost.cons (gm_plain (v := fun _ => .bool true) (by kernel_rfl) (fun _ => by kernel_rfl) (fun _ => by kernel_rfl) (fun _ _ => (by kernel_rfl))) ?_
      refine AllGhost.cons (gm_plain (v := fun _ => .bool true) (by kernel_rfl) (fun _ => by kernel_rfl) (fun _ => by kernel_rfl) (fun _ _ => (by kernel_rfl))) ?_
      refine AllGhost.cons (gm_call (v := .bool false) (by kernel_rfl) (fun _ => by kernel_rfl) (fun _ => by kernel_rfl) enter12 #[.string { data := #[1] }] (fun _ => by kernel_rfl) (fun w' h' => Check_no ({ data := #[1] }) (not_isS _ (by decide +kernel)) w' (VV.below h'.old VV.big))) ?_
      refine AllGhost.cons (gm_plain (v := fun _ => .bool true) (by kernel_rfl) (fun _ => by kernel_rfl) (fun _ => by kernel_rfl) (fun _ _ => (by kernel_rfl))) ?_
      refine AllGhost.cons (gm_plain (v := fun _ => .bool true) (by kernel_rfl) (fun _ => by kernel_rfl) (fun _ => by kernel_rfl) (fun _ _ => (by kernel_rfl))) ?_
      refine AllGhost.cons (gm_plain (v := fun _ => .bool true) (by kernel_rfl) (fun _ => by kernel_rfl) (fun _ => by kernel_rfl) (fun _ _ => (by kernel_rfl))) ?_
      exact AllGhost.nil
    intro g w48 g49
    have h50 := g49.held
    clear g49
    generalize g 18 = u51
    generalize g 21 = u52
    clear g
    refine then_at (F := ⟨(.bool false :: .slice (some ⟨q1, 0, none⟩) 64 64 :: iN .i64 64 :: .string { data := #[0, 15, 156, 68, 227, 17, 6, 164, 71, 147, 133, 104, 167, 27, 14, 208, 101, 190, 245, 23, 210, 115, 236, 206, 61, 154, 48, 124, 27, 65, 153, 3] } :: .string minS :: .bool true :: .bool true :: .bool true :: .slice (some ⟨q1, 0, none⟩) 64 64 :: iN .i64 64 :: .bool false :: u4 11 :: u4 12 :: u4 13 :: u4 14 :: u4 15 :: .string ordS :: .string (ordS.extract 1 ordS.size) :: .string minS :: .string (rS ({ data := #[1] })) :: .string (bytesOf 1) :: .bool true :: .bool true :: .string ordS :: .string (rS ordS) :: .string (bytesOf 0) :: .bool true :: .bool true :: .bool true :: .string ordS :: .bool false :: .bool true :: .bool true :: .bool true :: .string minS :: .string (rS minS) :: .string minS :: .bool true :: .bool true :: .bool true :: .string minS :: .bool true :: .bool true :: .bool true :: .slice (some ⟨q1, 0, none⟩) 64 64 :: .string (fS 64) :: .string (rS (fS 64)) :: .string { data := #[0, 15, 156, 68, 227, 17, 6, 164, 71, 147, 133, 104, 167, 27, 14, 208, 101, 190, 245, 23, 210, 115, 236, 206, 61, 154, 48, 124, 27, 65, 153, 3] } :: .bool true :: .bool true :: .bool true :: .slice (some ⟨q1, 0, none⟩) 64 64 :: .string (fS 64) :: .string fxS :: .string (rS fxS) :: .string { data := #[0, 15, 156, 68, 227, 17, 6, 164, 71, 147, 133, 104, 167, 27, 14, 208, 101, 190, 245, 23, 210, 115, 236, 206, 61, 154, 48, 124, 27, 65, 153, 3] } :: .bool true :: .bool true :: .string minS :: .string (aS minS ({ data := #[1] })) :: .string (bytesOf 0) :: .bool true :: .bool true :: .string minS :: .string minS :: .string (mS minS minS) :: .string (bytesOf 1) :: .bool true :: .bool true :: .bool true :: .string minS :: .string minS :: .string (aS minS minS) :: .string ordS :: .string (ordS.extract 1 ordS.size) :: .string mi2S :: .bool true :: .bool true :: .slice (some ⟨q1, 0, none⟩) 64 64 :: .slice (some ⟨q1, 0, none⟩) 32 64 :: .string (fS 32) :: .string c1S :: .slice (some ⟨q1, 0, none⟩) 64 64 :: .slice (some ⟨q1, 0, none⟩) 30 64 :: .string (fS 30) :: .string c0S :: .string c1S :: .bool true :: .bool true :: .slice (some ⟨q1, 0, none⟩) 64 64 :: .slice (some ⟨q1, 0, none⟩) 31 64 :: .string (fS 31) :: .string ByteArray.empty :: .bool true :: .bool true :: .bool true :: .slice (some ⟨u51, 0, none⟩) 32 32 :: .string (zs 32) :: .string c2S :: .slice (some ⟨u52, 0, none⟩) 31 31 :: .string (zs 31) :: .string c2S :: .bool true :: .bool true :: .bool true :: .bool false :: .bool true :: .bool true :: .bool true :: .string (bytesOf 1) :: .string b33S :: .bool false :: .bool true :: .bool true :: .bool true :: .bool false :: .bool true :: .bool true :: List.replicate 10 un).toArray, []⟩) (by kernel_rfl) ?_
    refine wp_seq ?_
    -- region 11
    refine wl_region ?_
    refine wl_val (.bool true) (by kernel_rfl) (by kernel_rfl) ?_
    refine wl_val (.bool true) (by kernel_rfl) (by kernel_rfl) ?_
    refine wl_val (.bool true) (by kernel_rfl) (by kernel_rfl) ?_
    refine wl_val (.bool true) (by kernel_rfl) (by kernel_rfl) ?_
    refine wl_val (.bool true) (by kernel_rfl) (by kernel_rfl) ?_
    refine wl_val (.bool true) (by kernel_rfl) (by kernel_rfl) ?_
    refine wl_val (.bool true) (by kernel_rfl) (by kernel_rfl) ?_
    refine wl_val (.bool true) (by kernel_rfl) (by kernel_rfl) ?_
    refine wl_call (v := .bool true) h50 (by kernel_rfl) enter16 #[] (by kernel_rfl) (works_any w48 (VV.below h50.old VV.big)) ?_
    intro w53 h54
    refine wl_val (.bool true) (by kernel_rfl) (by kernel_rfl) ?_
    refine wl_val (.bool true) (by kernel_rfl) (by kernel_rfl) ?_
    refine wl_nil ?_
    refine then_at (F := ⟨(.bool true :: .slice (some ⟨q1, 0, none⟩) 64 64 :: iN .i64 64 :: .string { data := #[0, 15, 156, 68, 227, 17, 6, 164, 71, 147, 133, 104, 167, 27, 14, 208, 101, 190, 245, 23, 210, 115, 236, 206, 61, 154, 48, 124, 27, 65, 153, 3] } :: .string minS :: .bool true :: .bool true :: .bool true :: .slice (some ⟨q1, 0, none⟩) 64 64 :: iN .i64 64 :: .bool false :: u4 11 :: u4 12 :: u4 13 :: u4 14 :: u4 15 :: .string ordS :: .string (ordS.extract 1 ordS.size) :: .string minS :: .string (rS ({ data := #[1] })) :: .string (bytesOf 1) :: .bool true :: .bool true :: .string ordS :: .string (rS ordS) :: .string (bytesOf 0) :: .bool true :: .bool true :: .bool true :: .string ordS :: .bool false :: .bool true :: .bool true :: .bool true :: .string minS :: .string (rS minS) :: .string minS :: .bool true :: .bool true :: .bool true :: .string minS :: .bool true :: .bool true :: .bool true :: .slice (some ⟨q1, 0, none⟩) 64 64 :: .string (fS 64) :: .string (rS (fS 64)) :: .string { data := #[0, 15, 156, 68, 227, 17, 6, 164, 71, 147, 133, 104, 167, 27, 14, 208, 101, 190, 245, 23, 210, 115, 236, 206, 61, 154, 48, 124, 27, 65, 153, 3] } :: .bool true :: .bool true :: .bool true :: .slice (some ⟨q1, 0, none⟩) 64 64 :: .string (fS 64) :: .string fxS :: .string (rS fxS) :: .string { data := #[0, 15, 156, 68, 227, 17, 6, 164, 71, 147, 133, 104, 167, 27, 14, 208, 101, 190, 245, 23, 210, 115, 236, 206, 61, 154, 48, 124, 27, 65, 153, 3] } :: .bool true :: .bool true :: .string minS :: .string (aS minS ({ data := #[1] })) :: .string (bytesOf 0) :: .bool true :: .bool true :: .string minS :: .string minS :: .string (mS minS minS) :: .string (bytesOf 1) :: .bool true :: .bool true :: .bool true :: .string minS :: .string minS :: .string (aS minS minS) :: .string ordS :: .string (ordS.extract 1 ordS.size) :: .string mi2S :: .bool true :: .bool true :: .slice (some ⟨q1, 0, none⟩) 64 64 :: .slice (some ⟨q1, 0, none⟩) 32 64 :: .string (fS 32) :: .string c1S :: .slice (some ⟨q1, 0, none⟩) 64 64 :: .slice (some ⟨q1, 0, none⟩) 30 64 :: .string (fS 30) :: .string c0S :: .string c1S :: .bool true :: .bool true :: .slice (some ⟨q1, 0, none⟩) 64 64 :: .slice (some ⟨q1, 0, none⟩) 31 64 :: .string (fS 31) :: .string ByteArray.empty :: .bool true :: .bool true :: .bool true :: .slice (some ⟨u51, 0, none⟩) 32 32 :: .string (zs 32) :: .string c2S :: .slice (some ⟨u52, 0, none⟩) 31 31 :: .string (zs 31) :: .string c2S :: .bool true :: .bool true :: .bool true :: .bool false :: .bool true :: .bool true :: .bool true :: .string (bytesOf 1) :: .string b33S :: .bool false :: .bool true :: .bool true :: .bool true :: .bool false :: .bool true :: .bool true :: .bool true :: .bool true :: .bool true :: .bool true :: .bool true :: .bool true :: .bool true :: .bool true :: .bool true :: .bool true :: List.replicate 0 un).toArray, []⟩) (by kernel_rfl) ?_
    refine wp_ret ?_
    repeat first | refine then_ret ?_ | refine block_ret ?_
    exact bodyPost_ret (v := .bool true) (by kernel_rfl) rfl ⟨rfl, h54.old⟩
end Go.Proofs.YtdblnbcclfenkaaDoor
