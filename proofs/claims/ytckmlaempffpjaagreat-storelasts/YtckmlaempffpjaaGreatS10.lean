/-
 New, Left; the closures of changeOf.
-/
import Derived.Test.YtckmlaempffpjaaGreatS9
namespace Go.Proofs.YtckmlaempffpjaaGreat
open Go.RowKit

section
variable {ops : Array Oper} {Q : Exit → Act → World → Prop} {a : Act} {rest : List Oper} {w : World} {z : Base} {L : BL} {dst : Option Tmp} {ty : TypeId} {pos : String} {aft : Array Edge} {gd : Option (Nat × Bool)} {x : Operand} {s : ByteArray}
theorem wl_bytes2 (H : HA z L w) (hw : Region.wanted ⟨dst, .convert 9 62 x, ty, pos, aft, gd⟩ (yielded ops a.tmps) = true) (hx : a.eval x = .string s)
  (h : ∀ q cp m w', s.size ≤ cp → HA z ((q, 5, bc (bl s ++ List.replicate m 0)) :: L) w' → WL Tryz.prog ops Q rest (a.put dst (.slice (some ⟨q, 0, none⟩) s.size cp)) w') : WL Tryz.prog ops Q (⟨dst, .convert 9 62 x, ty, pos, aft, gd⟩ :: rest) a w := by
 obtain ⟨m, hm⟩ := H.bytes s
 refine wl_any (v := .slice (some ⟨w.heap.size, 0, none⟩) s.size (grownCap w s.size 0 5)) hw ?_ (h _ _ _ _ (grownCap_ge w s.size 0 5) hm)
 simp only [execOp, hx, Sem.run_bind, Lib.run_convert_string_bytes w 9 62 5 s Tryz.underlying9 Tryz.underlying62 Tryz.underlying5, Result.andThen_ok, Sem.run_pure]
end
/-- the next text, the next number -/
def nxt (m : Nat) (bs : List UInt8) : ByteArray × Bool × List UInt8 := if 4 ≤ bs.length ∧ Wi.val (bs.take 4) ≤ m ∧ 4 + Wi.val (bs.take 4) ≤ bs.length then (⟨(Wi.txt bs).toArray⟩, true, bs.drop (4 + Wi.val (bs.take 4))) else ({ data := #[] }, false, bs)
def nxn (m : Nat) (bs : List UInt8) : Nat × Bool × List UInt8 := if m ≤ bs.length then (Wi.val (bs.take m), true, bs.drop m) else (0, false, bs)
theorem Text_any {z : Base} {L : BL} {w : World} {b d : Nat} {cur : List UInt8} {v : Value} {bs : List UInt8} (hS : RdS d cur v bs) (H : HA z ((b, 171, #[.bool true, v]) :: (d, 5, bc cur) :: L) w) (m : Nat) (hmm : m ≤ 9223372036854775807) :
  Calls Tryz.prog 91 #[pt b, iN .i64 m] w fun e w' => e = .returned (.tuple #[.string (nxt m bs).1, .bool (nxt m bs).2.1]) ∧ ∃ v', RdS d cur v' (nxt m bs).2.2 ∧ HA z ((b, 171, #[.bool true, v']) :: (d, 5, bc cur) :: L) w' := by
 by_cases h : 4 ≤ bs.length ∧ Wi.val (bs.take 4) ≤ m ∧ 4 + Wi.val (bs.take 4) ≤ bs.length
 ·rw [nxt, if_pos h]
  exact Text_yes hS H m hmm h.1 h.2.1 h.2.2
 ·rw [nxt, if_neg h]
  refine (Text_no hS H m hmm (by omega)).mono ?_
  rintro e w' ⟨rfl, h2⟩
  exact ⟨rfl, v, hS, h2⟩
theorem Number_any {z : Base} {L : BL} {w : World} {b d : Nat} {cur : List UInt8} {v : Value} {bs : List UInt8} (hS : RdS d cur v bs) (H : HA z ((b, 171, #[.bool true, v]) :: (d, 5, bc cur) :: L) w) (m : Nat) (h1 : 1 ≤ m) (h8 : m ≤ 8) :
  Calls Tryz.prog 128 #[pt b, iN .i64 m] w fun e w' => e = .returned (.tuple #[iN .u64 (nxn m bs).1, .bool (nxn m bs).2.1]) ∧ ∃ v', RdS d cur v' (nxn m bs).2.2 ∧ HA z ((b, 171, #[.bool true, v']) :: (d, 5, bc cur) :: L) w' := by
 by_cases h : m ≤ bs.length
 ·rw [nxn, if_pos h]
  exact Number_yes hS H m h1 h8 h
 ·rw [nxn, if_neg h]
  refine (Number_no hS H m h1 h8 (by omega)).mono ?_
  rintro e w' ⟨rfl, h2⟩
  exact ⟨rfl, v, hS, h2⟩
set_option linter.unusedVariables false in
set_option maxRecDepth 100000 in
set_option maxHeartbeats 2000000 in
theorem New_h {z : Base} {L : BL} {w : World} (H0 : HA z L w) (s : ByteArray) (hs : s.size ≤ 1000000000) :
  Calls Tryz.prog 90 #[.string s] w fun e w' => ∃ b d cur v, e = .returned (pt b) ∧ RdS d cur v (bl s) ∧ HA z ((b, 171, #[.bool true, v]) :: (d, 5, bc cur) :: L) w' := by
 go_enter Tryz.func90, Tryz.ntmps90
 refine wp_seq ?_
 refine wl_region ?_
 refine zwv (.pointer none) ?_
 refine wl_nil ?_
 refine then_at (F := ⟨(.string s :: un :: .pointer none :: List.replicate 4 un).toArray, []⟩) (by kernel_rfl) ?_
 refine wp_seq ?_
 refine wl_region ?_
 refine zwv (.string s) ?_
 refine wl_bytes2 (s := s) H0 (by kernel_rfl) (by kernel_rfl) ?_
 intro d cp m w1 hcp h2
 refine zwv (.agg #[.bool true, .slice (some ⟨d, 0, none⟩) s.size cp]) ?_
 refine wl_make (c := #[.bool true, .slice (some ⟨d, 0, none⟩) s.size cp]) h2 171 (by kernel_rfl) (by kernel_rfl) ?_
 intro q3 w4 (h5 : HA z ((q3, 171, #[.bool true, .slice (some ⟨d, 0, none⟩) s.size cp]) :: (d, 5, bc (bl s ++ List.replicate m 0)) :: L) w4)
 refine zwv (.pointer (some ⟨q3, 0, none⟩)) ?_
 refine wl_nil ?_
 refine then_at (F := ⟨(.string s :: un :: pt q3 :: .string s :: .slice (some ⟨d, 0, none⟩) s.size cp :: .agg #[.bool true, .slice (some ⟨d, 0, none⟩) s.size cp] :: pt q3 :: List.replicate 0 un).toArray, []⟩) (by kernel_rfl) ?_
 refine wp_ret ?_
 repeat first | refine then_ret ?_ | refine block_ret ?_
 exact bodyPost_ret (v := pt q3) (by kernel_rfl) rfl ⟨q3, d, _, _, rfl, ⟨0, cp, by rw [bl_len], by rw [bl_len]; exact hcp, by rw [bl_len]; exact hs, by simp, by rw [List.drop_zero]; exact List.take_left⟩, h5⟩
theorem Left_h {z : Base} {L : BL} {w : World} {b d : Nat} {cur : List UInt8} {v : Value} {bs : List UInt8} (hS : RdS d cur v bs) (H : HA z ((b, 171, #[.bool true, v]) :: (d, 5, bc cur) :: L) w) : Calls Tryz.prog 93 #[pt b] w fun e w' => e = .returned (iN .i64 bs.length) ∧ Below w.heap.size w w' := by
 obtain ⟨o, cap, rfl, hr⟩ := hS.rd (H.get 0 rfl) (H.get 1 rfl)
 exact toBelow (Wi.Left_rd w b d o cap bs hr)
set_option linter.unusedVariables false in
set_option maxRecDepth 100000 in
set_option maxHeartbeats 2000000 in
theorem textC_true {z : Base} {L : BL} {w : World} {b d qr qw : Nat} {cur : List UInt8} {v : Value} {bs : List UInt8} (hS : RdS d cur v bs) (H0 : HA z ((b, 171, #[.bool true, v]) :: (d, 5, bc cur) :: (qr, 141, #[pt b]) :: (qw, 4, #[.bool true]) :: L) w) :
  Calls Tryz.prog 126 #[pt qr, pt qw] w fun e w' => e = .returned (.string (nxt 262144 bs).1) ∧ ∃ v', RdS d cur v' (nxt 262144 bs).2.2 ∧ HA z ((b, 171, #[.bool true, v']) :: (d, 5, bc cur) :: (qr, 141, #[pt b]) :: (qw, 4, #[.bool (nxt 262144 bs).2.1]) :: L) w' := by
 go_enter Tryz.func126, Tryz.ntmps126
 refine wp_seq ?_
 refine wl_region ?_
 refine zwv (.string ({ data := #[] })) ?_
 refine wl_nil ?_
 refine then_at (F := ⟨(pt qr :: pt qw :: .string ({ data := #[] }) :: List.replicate 12 un).toArray, []⟩) (by kernel_rfl) ?_
 refine wp_seq ?_
 refine wl_region ?_
 refine zwx (.pointer (some ⟨b, 0, none⟩)) (run_load1 (fun w => Tryz.isAgg141 w) (by kernel_rfl) (((H0.get 2 rfl).cell 0).trans rfl)) ?_
 refine wl_callx (by kernel_rfl) enter91 #[.pointer (some ⟨b, 0, none⟩), iN .i64 262144] (by kernel_rfl) (Text_any hS H0 262144 (by decide)) ?_
 rintro _ w1 ⟨rfl, v2, hS2, hr2⟩
 refine ⟨_, rfl, ?_⟩
 have h2 : HA z ((b, 171, #[.bool true, v2]) :: (d, 5, bc cur) :: (qr, 141, #[pt b]) :: (qw, 4, #[.bool true]) :: L) w1 := hr2
 refine zwv (.tuple #[.string ((nxt 262144 bs).1), .bool ((nxt 262144 bs).2.1)]) ?_
 refine zwv (.string ((nxt 262144 bs).1)) ?_
 refine zwv (.bool ((nxt 262144 bs).2.1)) ?_
 refine zwv (.string ((nxt 262144 bs).1)) ?_
 refine zwv (.bool ((nxt 262144 bs).2.1)) ?_
 refine wl_nil ?_
 refine then_at (F := ⟨(pt qr :: pt qw :: .string ({ data := #[] }) :: .string ((nxt 262144 bs).1) :: .bool ((nxt 262144 bs).2.1) :: .tuple #[.string ((nxt 262144 bs).1), .bool ((nxt 262144 bs).2.1)] :: pt b :: .tuple #[.string ((nxt 262144 bs).1), .bool ((nxt 262144 bs).2.1)] :: .string ((nxt 262144 bs).1) :: .bool ((nxt 262144 bs).2.1) :: List.replicate 5 un).toArray, []⟩) (by kernel_rfl) ?_
 refine wp_seq ?_
 refine wl_region ?_
 refine zwx (.bool true) (run_load1 (fun w => Tryz.isAgg4 w) (by kernel_rfl) (((h2.get 3 rfl).cell 0).trans rfl)) ?_
 refine zwv (.bool true) ?_
 refine zwv (.bool ((nxt 262144 bs).2.1)) ?_
 refine zwv (.bool ((nxt 262144 bs).2.1)) ?_
 refine wl_putv (v := .bool ((nxt 262144 bs).2.1)) h2 3 rfl 0 (by show 0 < 1; decide) (by kernel_rfl) (fun w => Tryz.sizeOf4 w) (by kernel_rfl) (by kernel_rfl) (by kernel_rfl) ?_
 intro w3 (h4 : HA z ((b, 171, #[.bool true, v2]) :: (d, 5, bc cur) :: (qr, 141, #[pt b]) :: (qw, 4, #[.bool ((nxt 262144 bs).2.1)]) :: L) w3)
 refine wl_nil ?_
 refine then_at (F := ⟨(pt qr :: pt qw :: .string ({ data := #[] }) :: .string ((nxt 262144 bs).1) :: .bool ((nxt 262144 bs).2.1) :: .tuple #[.string ((nxt 262144 bs).1), .bool ((nxt 262144 bs).2.1)] :: pt b :: .tuple #[.string ((nxt 262144 bs).1), .bool ((nxt 262144 bs).2.1)] :: .string ((nxt 262144 bs).1) :: .bool ((nxt 262144 bs).2.1) :: .bool true :: .bool true :: .bool ((nxt 262144 bs).2.1) :: .bool ((nxt 262144 bs).2.1) :: List.replicate 1 un).toArray, []⟩) (by kernel_rfl) ?_
 refine wp_seq ?_
 refine wl_region ?_
 refine zwv (.string ((nxt 262144 bs).1)) ?_
 refine zwv (.string ((nxt 262144 bs).1)) ?_
 refine wl_nil ?_
 refine then_at (F := ⟨(pt qr :: pt qw :: .string ((nxt 262144 bs).1) :: .string ((nxt 262144 bs).1) :: .bool ((nxt 262144 bs).2.1) :: .tuple #[.string ((nxt 262144 bs).1), .bool ((nxt 262144 bs).2.1)] :: pt b :: .tuple #[.string ((nxt 262144 bs).1), .bool ((nxt 262144 bs).2.1)] :: .string ((nxt 262144 bs).1) :: .bool ((nxt 262144 bs).2.1) :: .bool true :: .bool true :: .bool ((nxt 262144 bs).2.1) :: .bool ((nxt 262144 bs).2.1) :: .string ((nxt 262144 bs).1) :: List.replicate 0 un).toArray, []⟩) (by kernel_rfl) ?_
 refine wp_ret ?_
 repeat first | refine then_ret ?_ | refine block_ret ?_
 exact bodyPost_ret (v := .string (nxt 262144 bs).1) (by kernel_rfl) rfl ⟨rfl, v2, hS2, h4⟩
set_option linter.unusedVariables false in
set_option maxRecDepth 100000 in
set_option maxHeartbeats 2000000 in
theorem textC_false {z : Base} {L : BL} {w : World} {b d qr qw : Nat} {cur : List UInt8} {v : Value} {bs : List UInt8} (hS : RdS d cur v bs) (H0 : HA z ((b, 171, #[.bool true, v]) :: (d, 5, bc cur) :: (qr, 141, #[pt b]) :: (qw, 4, #[.bool false]) :: L) w) :
  Calls Tryz.prog 126 #[pt qr, pt qw] w fun e w' => e = .returned (.string (nxt 262144 bs).1) ∧ ∃ v', RdS d cur v' (nxt 262144 bs).2.2 ∧ HA z ((b, 171, #[.bool true, v']) :: (d, 5, bc cur) :: (qr, 141, #[pt b]) :: (qw, 4, #[.bool false]) :: L) w' := by
 go_enter Tryz.func126, Tryz.ntmps126
 refine wp_seq ?_
 refine wl_region ?_
 refine zwv (.string ({ data := #[] })) ?_
 refine wl_nil ?_
 refine then_at (F := ⟨(pt qr :: pt qw :: .string ({ data := #[] }) :: List.replicate 12 un).toArray, []⟩) (by kernel_rfl) ?_
 refine wp_seq ?_
 refine wl_region ?_
 refine zwx (.pointer (some ⟨b, 0, none⟩)) (run_load1 (fun w => Tryz.isAgg141 w) (by kernel_rfl) (((H0.get 2 rfl).cell 0).trans rfl)) ?_
 refine wl_callx (by kernel_rfl) enter91 #[.pointer (some ⟨b, 0, none⟩), iN .i64 262144] (by kernel_rfl) (Text_any hS H0 262144 (by decide)) ?_
 rintro _ w1 ⟨rfl, v2, hS2, hr2⟩
 refine ⟨_, rfl, ?_⟩
 have h2 : HA z ((b, 171, #[.bool true, v2]) :: (d, 5, bc cur) :: (qr, 141, #[pt b]) :: (qw, 4, #[.bool false]) :: L) w1 := hr2
 refine zwv (.tuple #[.string ((nxt 262144 bs).1), .bool ((nxt 262144 bs).2.1)]) ?_
 refine zwv (.string ((nxt 262144 bs).1)) ?_
 refine zwv (.bool ((nxt 262144 bs).2.1)) ?_
 refine zwv (.string ((nxt 262144 bs).1)) ?_
 refine zwv (.bool ((nxt 262144 bs).2.1)) ?_
 refine wl_nil ?_
 refine then_at (F := ⟨(pt qr :: pt qw :: .string ({ data := #[] }) :: .string ((nxt 262144 bs).1) :: .bool ((nxt 262144 bs).2.1) :: .tuple #[.string ((nxt 262144 bs).1), .bool ((nxt 262144 bs).2.1)] :: pt b :: .tuple #[.string ((nxt 262144 bs).1), .bool ((nxt 262144 bs).2.1)] :: .string ((nxt 262144 bs).1) :: .bool ((nxt 262144 bs).2.1) :: List.replicate 5 un).toArray, []⟩) (by kernel_rfl) ?_
 refine wp_seq ?_
 refine wl_region ?_
 refine zwx (.bool false) (run_load1 (fun w => Tryz.isAgg4 w) (by kernel_rfl) (((h2.get 3 rfl).cell 0).trans rfl)) ?_
 refine zwv (.bool false) ?_
 refine wl_skip (by kernel_rfl) ?_
 refine zwv (.bool false) ?_
 refine wl_putv (v := .bool false) h2 3 rfl 0 (by show 0 < 1; decide) (by kernel_rfl) (fun w => Tryz.sizeOf4 w) (by kernel_rfl) (by kernel_rfl) (by kernel_rfl) ?_
 intro w3 (h4 : HA z ((b, 171, #[.bool true, v2]) :: (d, 5, bc cur) :: (qr, 141, #[pt b]) :: (qw, 4, #[.bool false]) :: L) w3)
 refine wl_nil ?_
 refine then_at (F := ⟨(pt qr :: pt qw :: .string ({ data := #[] }) :: .string ((nxt 262144 bs).1) :: .bool ((nxt 262144 bs).2.1) :: .tuple #[.string ((nxt 262144 bs).1), .bool ((nxt 262144 bs).2.1)] :: pt b :: .tuple #[.string ((nxt 262144 bs).1), .bool ((nxt 262144 bs).2.1)] :: .string ((nxt 262144 bs).1) :: .bool ((nxt 262144 bs).2.1) :: .bool false :: .bool false :: un :: .bool false :: List.replicate 1 un).toArray, []⟩) (by kernel_rfl) ?_
 refine wp_seq ?_
 refine wl_region ?_
 refine zwv (.string ((nxt 262144 bs).1)) ?_
 refine zwv (.string ((nxt 262144 bs).1)) ?_
 refine wl_nil ?_
 refine then_at (F := ⟨(pt qr :: pt qw :: .string ((nxt 262144 bs).1) :: .string ((nxt 262144 bs).1) :: .bool ((nxt 262144 bs).2.1) :: .tuple #[.string ((nxt 262144 bs).1), .bool ((nxt 262144 bs).2.1)] :: pt b :: .tuple #[.string ((nxt 262144 bs).1), .bool ((nxt 262144 bs).2.1)] :: .string ((nxt 262144 bs).1) :: .bool ((nxt 262144 bs).2.1) :: .bool false :: .bool false :: un :: .bool false :: .string ((nxt 262144 bs).1) :: List.replicate 0 un).toArray, []⟩) (by kernel_rfl) ?_
 refine wp_ret ?_
 repeat first | refine then_ret ?_ | refine block_ret ?_
 exact bodyPost_ret (v := .string (nxt 262144 bs).1) (by kernel_rfl) rfl ⟨rfl, v2, hS2, h4⟩
theorem textC {z : Base} {L : BL} {w : World} {b d qr qw : Nat} {cur : List UInt8} {v : Value} {bs : List UInt8} (hS : RdS d cur v bs) {wh : Bool} (H : HA z ((b, 171, #[.bool true, v]) :: (d, 5, bc cur) :: (qr, 141, #[pt b]) :: (qw, 4, #[.bool wh]) :: L) w) :
  Calls Tryz.prog 126 #[pt qr, pt qw] w fun e w' => e = .returned (.string (nxt 262144 bs).1) ∧ ∃ v', RdS d cur v' (nxt 262144 bs).2.2 ∧ HA z ((b, 171, #[.bool true, v']) :: (d, 5, bc cur) :: (qr, 141, #[pt b]) :: (qw, 4, #[.bool (wh && (nxt 262144 bs).2.1)]) :: L) w' := by
 cases wh with
 | true => rw [Bool.true_and]; exact textC_true hS H
 | false => rw [Bool.false_and]; exact textC_false hS H
set_option linter.unusedVariables false in
set_option maxRecDepth 100000 in
set_option maxHeartbeats 2000000 in
theorem cntC_true {z : Base} {L : BL} {w : World} {b d qr qw : Nat} {cur : List UInt8} {v : Value} {bs : List UInt8} (hS : RdS d cur v bs) (H0 : HA z ((b, 171, #[.bool true, v]) :: (d, 5, bc cur) :: (qr, 141, #[pt b]) :: (qw, 4, #[.bool true]) :: L) w) :
  Calls Tryz.prog 127 #[pt qr, pt qw] w fun e w' => e = .returned (iN .u64 (nxn 2 bs).1) ∧ ∃ v', RdS d cur v' (nxn 2 bs).2.2 ∧ HA z ((b, 171, #[.bool true, v']) :: (d, 5, bc cur) :: (qr, 141, #[pt b]) :: (qw, 4, #[.bool (nxn 2 bs).2.1]) :: L) w' := by
 go_enter Tryz.func127, Tryz.ntmps127
 refine wp_seq ?_
 refine wl_region ?_
 refine zwv (iN .u64 0) ?_
 refine wl_nil ?_
 refine then_at (F := ⟨(pt qr :: pt qw :: iN .u64 0 :: List.replicate 12 un).toArray, []⟩) (by kernel_rfl) ?_
 refine wp_seq ?_
 refine wl_region ?_
 refine zwx (.pointer (some ⟨b, 0, none⟩)) (run_load1 (fun w => Tryz.isAgg141 w) (by kernel_rfl) (((H0.get 2 rfl).cell 0).trans rfl)) ?_
 refine wl_callx (by kernel_rfl) enter128 #[.pointer (some ⟨b, 0, none⟩), iN .i64 2] (by kernel_rfl) (Number_any hS H0 2 (by decide) (by decide)) ?_
 rintro _ w1 ⟨rfl, v2, hS2, hr2⟩
 refine ⟨_, rfl, ?_⟩
 have h2 : HA z ((b, 171, #[.bool true, v2]) :: (d, 5, bc cur) :: (qr, 141, #[pt b]) :: (qw, 4, #[.bool true]) :: L) w1 := hr2
 refine zwv (.tuple #[iN .u64 ((nxn 2 bs).1), .bool ((nxn 2 bs).2.1)]) ?_
 refine zwv (iN .u64 ((nxn 2 bs).1)) ?_
 refine zwv (.bool ((nxn 2 bs).2.1)) ?_
 refine zwv (iN .u64 ((nxn 2 bs).1)) ?_
 refine zwv (.bool ((nxn 2 bs).2.1)) ?_
 refine wl_nil ?_
 refine then_at (F := ⟨(pt qr :: pt qw :: iN .u64 0 :: iN .u64 ((nxn 2 bs).1) :: .bool ((nxn 2 bs).2.1) :: .tuple #[iN .u64 ((nxn 2 bs).1), .bool ((nxn 2 bs).2.1)] :: pt b :: .tuple #[iN .u64 ((nxn 2 bs).1), .bool ((nxn 2 bs).2.1)] :: iN .u64 ((nxn 2 bs).1) :: .bool ((nxn 2 bs).2.1) :: List.replicate 5 un).toArray, []⟩) (by kernel_rfl) ?_
 refine wp_seq ?_
 refine wl_region ?_
 refine zwx (.bool true) (run_load1 (fun w => Tryz.isAgg4 w) (by kernel_rfl) (((h2.get 3 rfl).cell 0).trans rfl)) ?_
 refine zwv (.bool true) ?_
 refine zwv (.bool ((nxn 2 bs).2.1)) ?_
 refine zwv (.bool ((nxn 2 bs).2.1)) ?_
 refine wl_putv (v := .bool ((nxn 2 bs).2.1)) h2 3 rfl 0 (by show 0 < 1; decide) (by kernel_rfl) (fun w => Tryz.sizeOf4 w) (by kernel_rfl) (by kernel_rfl) (by kernel_rfl) ?_
 intro w3 (h4 : HA z ((b, 171, #[.bool true, v2]) :: (d, 5, bc cur) :: (qr, 141, #[pt b]) :: (qw, 4, #[.bool ((nxn 2 bs).2.1)]) :: L) w3)
 refine wl_nil ?_
 refine then_at (F := ⟨(pt qr :: pt qw :: iN .u64 0 :: iN .u64 ((nxn 2 bs).1) :: .bool ((nxn 2 bs).2.1) :: .tuple #[iN .u64 ((nxn 2 bs).1), .bool ((nxn 2 bs).2.1)] :: pt b :: .tuple #[iN .u64 ((nxn 2 bs).1), .bool ((nxn 2 bs).2.1)] :: iN .u64 ((nxn 2 bs).1) :: .bool ((nxn 2 bs).2.1) :: .bool true :: .bool true :: .bool ((nxn 2 bs).2.1) :: .bool ((nxn 2 bs).2.1) :: List.replicate 1 un).toArray, []⟩) (by kernel_rfl) ?_
 refine wp_seq ?_
 refine wl_region ?_
 refine zwv (iN .u64 ((nxn 2 bs).1)) ?_
 refine zwv (iN .u64 ((nxn 2 bs).1)) ?_
 refine wl_nil ?_
 refine then_at (F := ⟨(pt qr :: pt qw :: iN .u64 ((nxn 2 bs).1) :: iN .u64 ((nxn 2 bs).1) :: .bool ((nxn 2 bs).2.1) :: .tuple #[iN .u64 ((nxn 2 bs).1), .bool ((nxn 2 bs).2.1)] :: pt b :: .tuple #[iN .u64 ((nxn 2 bs).1), .bool ((nxn 2 bs).2.1)] :: iN .u64 ((nxn 2 bs).1) :: .bool ((nxn 2 bs).2.1) :: .bool true :: .bool true :: .bool ((nxn 2 bs).2.1) :: .bool ((nxn 2 bs).2.1) :: iN .u64 ((nxn 2 bs).1) :: List.replicate 0 un).toArray, []⟩) (by kernel_rfl) ?_
 refine wp_ret ?_
 repeat first | refine then_ret ?_ | refine block_ret ?_
 exact bodyPost_ret (v := iN .u64 (nxn 2 bs).1) (by kernel_rfl) rfl ⟨rfl, v2, hS2, h4⟩
set_option linter.unusedVariables false in
set_option maxRecDepth 100000 in
set_option maxHeartbeats 2000000 in
theorem cntC_false {z : Base} {L : BL} {w : World} {b d qr qw : Nat} {cur : List UInt8} {v : Value} {bs : List UInt8} (hS : RdS d cur v bs) (H0 : HA z ((b, 171, #[.bool true, v]) :: (d, 5, bc cur) :: (qr, 141, #[pt b]) :: (qw, 4, #[.bool false]) :: L) w) :
  Calls Tryz.prog 127 #[pt qr, pt qw] w fun e w' => e = .returned (iN .u64 (nxn 2 bs).1) ∧ ∃ v', RdS d cur v' (nxn 2 bs).2.2 ∧ HA z ((b, 171, #[.bool true, v']) :: (d, 5, bc cur) :: (qr, 141, #[pt b]) :: (qw, 4, #[.bool false]) :: L) w' := by
 go_enter Tryz.func127, Tryz.ntmps127
 refine wp_seq ?_
 refine wl_region ?_
 refine zwv (iN .u64 0) ?_
 refine wl_nil ?_
 refine then_at (F := ⟨(pt qr :: pt qw :: iN .u64 0 :: List.replicate 12 un).toArray, []⟩) (by kernel_rfl) ?_
 refine wp_seq ?_
 refine wl_region ?_
 refine zwx (.pointer (some ⟨b, 0, none⟩)) (run_load1 (fun w => Tryz.isAgg141 w) (by kernel_rfl) (((H0.get 2 rfl).cell 0).trans rfl)) ?_
 refine wl_callx (by kernel_rfl) enter128 #[.pointer (some ⟨b, 0, none⟩), iN .i64 2] (by kernel_rfl) (Number_any hS H0 2 (by decide) (by decide)) ?_
 rintro _ w1 ⟨rfl, v2, hS2, hr2⟩
 refine ⟨_, rfl, ?_⟩
 have h2 : HA z ((b, 171, #[.bool true, v2]) :: (d, 5, bc cur) :: (qr, 141, #[pt b]) :: (qw, 4, #[.bool false]) :: L) w1 := hr2
 refine zwv (.tuple #[iN .u64 ((nxn 2 bs).1), .bool ((nxn 2 bs).2.1)]) ?_
 refine zwv (iN .u64 ((nxn 2 bs).1)) ?_
 refine zwv (.bool ((nxn 2 bs).2.1)) ?_
 refine zwv (iN .u64 ((nxn 2 bs).1)) ?_
 refine zwv (.bool ((nxn 2 bs).2.1)) ?_
 refine wl_nil ?_
 refine then_at (F := ⟨(pt qr :: pt qw :: iN .u64 0 :: iN .u64 ((nxn 2 bs).1) :: .bool ((nxn 2 bs).2.1) :: .tuple #[iN .u64 ((nxn 2 bs).1), .bool ((nxn 2 bs).2.1)] :: pt b :: .tuple #[iN .u64 ((nxn 2 bs).1), .bool ((nxn 2 bs).2.1)] :: iN .u64 ((nxn 2 bs).1) :: .bool ((nxn 2 bs).2.1) :: List.replicate 5 un).toArray, []⟩) (by kernel_rfl) ?_
 refine wp_seq ?_
 refine wl_region ?_
 refine zwx (.bool false) (run_load1 (fun w => Tryz.isAgg4 w) (by kernel_rfl) (((h2.get 3 rfl).cell 0).trans rfl)) ?_
 refine zwv (.bool false) ?_
 refine wl_skip (by kernel_rfl) ?_
 refine zwv (.bool false) ?_
 refine wl_putv (v := .bool false) h2 3 rfl 0 (by show 0 < 1; decide) (by kernel_rfl) (fun w => Tryz.sizeOf4 w) (by kernel_rfl) (by kernel_rfl) (by kernel_rfl) ?_
 intro w3 (h4 : HA z ((b, 171, #[.bool true, v2]) :: (d, 5, bc cur) :: (qr, 141, #[pt b]) :: (qw, 4, #[.bool false]) :: L) w3)
 refine wl_nil ?_
 refine then_at (F := ⟨(pt qr :: pt qw :: iN .u64 0 :: iN .u64 ((nxn 2 bs).1) :: .bool ((nxn 2 bs).2.1) :: .tuple #[iN .u64 ((nxn 2 bs).1), .bool ((nxn 2 bs).2.1)] :: pt b :: .tuple #[iN .u64 ((nxn 2 bs).1), .bool ((nxn 2 bs).2.1)] :: iN .u64 ((nxn 2 bs).1) :: .bool ((nxn 2 bs).2.1) :: .bool false :: .bool false :: un :: .bool false :: List.replicate 1 un).toArray, []⟩) (by kernel_rfl) ?_
 refine wp_seq ?_
 refine wl_region ?_
 refine zwv (iN .u64 ((nxn 2 bs).1)) ?_
 refine zwv (iN .u64 ((nxn 2 bs).1)) ?_
 refine wl_nil ?_
 refine then_at (F := ⟨(pt qr :: pt qw :: iN .u64 ((nxn 2 bs).1) :: iN .u64 ((nxn 2 bs).1) :: .bool ((nxn 2 bs).2.1) :: .tuple #[iN .u64 ((nxn 2 bs).1), .bool ((nxn 2 bs).2.1)] :: pt b :: .tuple #[iN .u64 ((nxn 2 bs).1), .bool ((nxn 2 bs).2.1)] :: iN .u64 ((nxn 2 bs).1) :: .bool ((nxn 2 bs).2.1) :: .bool false :: .bool false :: un :: .bool false :: iN .u64 ((nxn 2 bs).1) :: List.replicate 0 un).toArray, []⟩) (by kernel_rfl) ?_
 refine wp_ret ?_
 repeat first | refine then_ret ?_ | refine block_ret ?_
 exact bodyPost_ret (v := iN .u64 (nxn 2 bs).1) (by kernel_rfl) rfl ⟨rfl, v2, hS2, h4⟩
theorem cntC {z : Base} {L : BL} {w : World} {b d qr qw : Nat} {cur : List UInt8} {v : Value} {bs : List UInt8} (hS : RdS d cur v bs) {wh : Bool} (H : HA z ((b, 171, #[.bool true, v]) :: (d, 5, bc cur) :: (qr, 141, #[pt b]) :: (qw, 4, #[.bool wh]) :: L) w) :
  Calls Tryz.prog 127 #[pt qr, pt qw] w fun e w' => e = .returned (iN .u64 (nxn 2 bs).1) ∧ ∃ v', RdS d cur v' (nxn 2 bs).2.2 ∧ HA z ((b, 171, #[.bool true, v']) :: (d, 5, bc cur) :: (qr, 141, #[pt b]) :: (qw, 4, #[.bool (wh && (nxn 2 bs).2.1)]) :: L) w' := by
 cases wh with
 | true => rw [Bool.true_and]; exact cntC_true hS H
 | false => rw [Bool.false_and]; exact cntC_false hS H
end Go.Proofs.YtckmlaempffpjaaGreat
