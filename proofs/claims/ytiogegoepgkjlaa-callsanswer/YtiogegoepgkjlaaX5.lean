/-
  DecodeBundle.
-/
import Derived.Test.YtiogegoepgkjlaaX2
set_option maxRecDepth 100000
set_option linter.unusedVariables false
namespace Go.Proofs.Ytiogegoepgkjlaa
open Go.RowKit

namespace Rs
theorem Text_E {z : Base} {L : BL} {w : World} {b d : Nat} {cur : List UInt8} {v : Value} {bs : List UInt8} (hS : RdS d cur v bs) (H : HA z ((b, 123, #[.bool true, v]) :: (d, 5, bc cur) :: L) w) {m : Nat} (hmm : m ≤ 9223372036854775807) {x : ByteArray} {o : Bool} {r : List UInt8} (h : nxt m bs = (x, o, r)) :
    Calls Try.prog 88 #[pt b, iN .i64 m] w fun e w' => e = .returned (.tuple #[.string x, .bool o]) ∧ ∃ v', RdS d cur v' r ∧ HA z ((b, 123, #[.bool true, v']) :: (d, 5, bc cur) :: L) w' := by
  have h2 := Text_any hS H m hmm
  rw [h] at h2
  exact h2
theorem Number_E {z : Base} {L : BL} {w : World} {b d : Nat} {cur : List UInt8} {v : Value} {bs : List UInt8} (hS : RdS d cur v bs) (H : HA z ((b, 123, #[.bool true, v]) :: (d, 5, bc cur) :: L) w) {m : Nat} (h1 : 1 ≤ m) (h8 : m ≤ 8) {x : Nat} {o : Bool} {r : List UInt8} (h : nxn m bs = (x, o, r)) :
    Calls Try.prog 85 #[pt b, iN .i64 m] w fun e w' => e = .returned (.tuple #[iN .u64 x, .bool o]) ∧ ∃ v', RdS d cur v' r ∧ HA z ((b, 123, #[.bool true, v']) :: (d, 5, bc cur) :: L) w' := by
  have h2 := Number_any hS H m h1 h8
  rw [h] at h2
  exact h2
theorem nxt_le {m : Nat} {bs r : List UInt8} {x : ByteArray} {o : Bool} (h : nxt m bs = (x, o, r)) : x.size ≤ m := by
  unfold nxt at h
  split at h
  · next hc =>
    obtain ⟨rfl, _⟩ := Prod.mk.inj h
    rw [txt_size hc.2.2]
    exact hc.2.1
  · obtain ⟨rfl, _⟩ := Prod.mk.inj h
    exact Nat.zero_le _
theorem nxn_lt {m : Nat} {bs r : List UInt8} {x : Nat} {o : Bool} (hm : m ≤ 4) (h : nxn m bs = (x, o, r)) : x < 4294967296 := by
  unfold nxn at h
  split at h
  · obtain ⟨rfl, _⟩ := Prod.mk.inj h
    have h1 := Wi.val_lt (bs.take m)
    have h2 : (bs.take m).length ≤ m := List.length_take_le _ _
    have h3 : 256 ^ (bs.take m).length ≤ 256 ^ 4 := Nat.pow_le_pow_right (by decide) (by omega)
    omega
  · obtain ⟨rfl, _⟩ := Prod.mk.inj h
    decide
end Rs
open Rs
/-- what was read -/
def mkB (u d : Nat) (sg dh : ByteArray) (pi : Nat) (pr ps : ByteArray) (oi : Nat) (on : ByteArray) : Bu := ⟨u, d, sg, dh, pi, pr, ps, oi, on⟩
set_option maxHeartbeats 2000000 in
theorem tn_true {z : Base} {L : BL} {w : World} {rb tb b d : Nat} {cur : List UInt8} {v : Value} {bs : List UInt8} (hS : Rs.RdS d cur v bs) (H0 : HA z ((rb, 111, #[pt b]) :: (tb, 4, #[.bool true]) :: (b, 123, #[.bool true, v]) :: (d, 5, bc cur) :: L) w) {x : Nat} {ob : Bool} {r : List UInt8} {m : Nat} (hm1 : 1 ≤ m) (hm8 : m ≤ 8) (hxl : x < 4294967296) (hx : Rs.nxn m bs = (x, ob, r)) :
    Calls Try.prog 104 #[iN .i64 m, pt rb, pt tb] w fun e w' => e = .returned (iN .i64 x) ∧ ∃ v', Rs.RdS d cur v' r ∧ HA z ((rb, 111, #[pt b]) :: (tb, 4, #[.bool ob]) :: (b, 123, #[.bool true, v']) :: (d, 5, bc cur) :: L) w' := by
  go_enter Try.func104, Try.ntmps104
  refine wp_seq (wl_region (zv (iN .i64 0) (wl_nil (then_at rfl (wp_seq (wl_region (zu (.pointer (some ⟨b, 0, none⟩)) (run_load1 (fun w => Try.isAgg111 w) ky (((H0.get 0 rfl).cell 0).trans rfl)) (zv (iN .i64 m) ?_))))))))
  refine wl_callx ky enter85 #[.pointer (some ⟨b, 0, none⟩), iN .i64 m] ky (Rs.Number_E hS (HA.perm H0 (List.Perm.trans (List.Perm.cons _ (List.Perm.swap _ _ _)) (List.Perm.trans (List.Perm.swap _ _ _) (List.Perm.trans (List.Perm.cons _ (List.Perm.cons _ (List.Perm.swap _ _ _))) (List.Perm.cons _ (List.Perm.swap _ _ _)))))) hm1 hm8 hx) ?_
  rintro _ w4 ⟨rfl, v1, hS3, h2⟩
  refine ⟨_, rfl, ?_⟩
  have h5 := h2
  refine zv (.tuple #[iN .u64 x, .bool ob]) (zv (iN .u64 x) (zv (.bool ob) (zv (iN .u64 x) (zv (.bool ob) (wl_nil (then_at rfl (wp_seq (wl_region (zu (.bool true) (run_load1 (fun w => Try.isAgg4 w) ky (((h5.get 3 rfl).cell 0).trans rfl)) (zv (.bool true) (zv (.bool ob) (zv (.bool ob) (wl_putv (v := .bool ob) h5 3 rfl 0 (by show 0 < 1; decide) ky (fun w => Try.sizeOf4 w) ky ky ky (fun w6 h7 => (wl_nil (then_at rfl (wp_seq (wl_region (zv (iN .u64 x) (zu (iN .i64 x) (run_conv .i64 Try.underlying22 Try.underlying3 ky (by first | omega | (simp only [top]; omega))) (zv (iN .i64 x) (wl_nil (then_at rfl (wp_ret ?_))))))))))))))))))))))))
  repeat first|refine tr ?_|refine block_ret ?_
  exact bodyPost_ret (v := iN .i64 x) ky rfl ⟨rfl, _, hS3, (h7.perm (List.Perm.trans (List.Perm.cons _ (List.Perm.swap _ _ _)) (List.Perm.trans (List.Perm.swap _ _ _) (List.Perm.trans (List.Perm.cons _ (List.Perm.cons _ (List.Perm.swap _ _ _))) (List.Perm.cons _ (List.Perm.swap _ _ _))))))⟩
set_option maxHeartbeats 2000000 in
theorem tt_true {z : Base} {L : BL} {w : World} {rb tb b d : Nat} {cur : List UInt8} {v : Value} {bs : List UInt8} (hS : Rs.RdS d cur v bs) (H0 : HA z ((rb, 111, #[pt b]) :: (tb, 4, #[.bool true]) :: (b, 123, #[.bool true, v]) :: (d, 5, bc cur) :: L) w) {x : ByteArray} {ob : Bool} {r : List UInt8} (hx : Rs.nxt 16384 bs = (x, ob, r)) :
    Calls Try.prog 105 #[pt rb, pt tb] w fun e w' => e = .returned (.string x) ∧ ∃ v', Rs.RdS d cur v' r ∧ HA z ((rb, 111, #[pt b]) :: (tb, 4, #[.bool ob]) :: (b, 123, #[.bool true, v']) :: (d, 5, bc cur) :: L) w' := by
  go_enter Try.func105, Try.ntmps105
  refine wp_seq (wl_region (zv (.string ({ data := #[] })) (wl_nil (then_at rfl (wp_seq (wl_region (zu (.pointer (some ⟨b, 0, none⟩)) (run_load1 (fun w => Try.isAgg111 w) ky (((H0.get 0 rfl).cell 0).trans rfl)) ?_)))))))
  refine wl_callx ky enter88 #[.pointer (some ⟨b, 0, none⟩), iN .i64 16384] ky (Rs.Text_E hS (HA.perm H0 (List.Perm.trans (List.Perm.cons _ (List.Perm.swap _ _ _)) (List.Perm.trans (List.Perm.swap _ _ _) (List.Perm.trans (List.Perm.cons _ (List.Perm.cons _ (List.Perm.swap _ _ _))) (List.Perm.cons _ (List.Perm.swap _ _ _)))))) (by decide) hx) ?_
  rintro _ w4 ⟨rfl, v1, hS3, h2⟩
  refine ⟨_, rfl, ?_⟩
  have h5 := h2
  refine zv (.tuple #[.string x, .bool ob]) (zv (.string x) (zv (.bool ob) (zv (.string x) (zv (.bool ob) (wl_nil (then_at rfl (wp_seq (wl_region (zu (.bool true) (run_load1 (fun w => Try.isAgg4 w) ky (((h5.get 3 rfl).cell 0).trans rfl)) (zv (.bool true) (zv (.bool ob) (zv (.bool ob) (wl_putv (v := .bool ob) h5 3 rfl 0 (by show 0 < 1; decide) ky (fun w => Try.sizeOf4 w) ky ky ky (fun w6 h7 => (wl_nil (then_at rfl (wp_seq (wl_region (zv (.string x) (zv (.string x) (wl_nil (then_at rfl (wp_ret ?_)))))))))))))))))))))))
  repeat first|refine tr ?_|refine block_ret ?_
  exact bodyPost_ret (v := .string x) ky rfl ⟨rfl, _, hS3, (h7.perm (List.Perm.trans (List.Perm.cons _ (List.Perm.swap _ _ _)) (List.Perm.trans (List.Perm.swap _ _ _) (List.Perm.trans (List.Perm.cons _ (List.Perm.cons _ (List.Perm.swap _ _ _))) (List.Perm.cons _ (List.Perm.swap _ _ _))))))⟩
set_option maxHeartbeats 2000000 in
theorem tn_false {z : Base} {L : BL} {w : World} {rb tb b d : Nat} {cur : List UInt8} {v : Value} {bs : List UInt8} (hS : Rs.RdS d cur v bs) (H0 : HA z ((rb, 111, #[pt b]) :: (tb, 4, #[.bool false]) :: (b, 123, #[.bool true, v]) :: (d, 5, bc cur) :: L) w) {x : Nat} {ob : Bool} {r : List UInt8} {m : Nat} (hm1 : 1 ≤ m) (hm8 : m ≤ 8) (hxl : x < 4294967296) (hx : Rs.nxn m bs = (x, ob, r)) :
    Calls Try.prog 104 #[iN .i64 m, pt rb, pt tb] w fun e w' => e = .returned (iN .i64 x) ∧ ∃ v', Rs.RdS d cur v' r ∧ HA z ((rb, 111, #[pt b]) :: (tb, 4, #[.bool false]) :: (b, 123, #[.bool true, v']) :: (d, 5, bc cur) :: L) w' := by
  go_enter Try.func104, Try.ntmps104
  refine wp_seq (wl_region (zv (iN .i64 0) (wl_nil (then_at rfl (wp_seq (wl_region (zu (.pointer (some ⟨b, 0, none⟩)) (run_load1 (fun w => Try.isAgg111 w) ky (((H0.get 0 rfl).cell 0).trans rfl)) (zv (iN .i64 m) ?_))))))))
  refine wl_callx ky enter85 #[.pointer (some ⟨b, 0, none⟩), iN .i64 m] ky (Rs.Number_E hS (HA.perm H0 (List.Perm.trans (List.Perm.cons _ (List.Perm.swap _ _ _)) (List.Perm.trans (List.Perm.swap _ _ _) (List.Perm.trans (List.Perm.cons _ (List.Perm.cons _ (List.Perm.swap _ _ _))) (List.Perm.cons _ (List.Perm.swap _ _ _)))))) hm1 hm8 hx) ?_
  rintro _ w4 ⟨rfl, v1, hS3, h2⟩
  refine ⟨_, rfl, ?_⟩
  have h5 := h2
  refine zv (.tuple #[iN .u64 x, .bool ob]) (zv (iN .u64 x) (zv (.bool ob) (zv (iN .u64 x) (zv (.bool ob) (wl_nil (then_at rfl (wp_seq (wl_region (zu (.bool false) (run_load1 (fun w => Try.isAgg4 w) ky (((h5.get 3 rfl).cell 0).trans rfl)) (zv (.bool false) (zk (zv (.bool false) (wl_putv (v := .bool false) h5 3 rfl 0 (by show 0 < 1; decide) ky (fun w => Try.sizeOf4 w) ky ky ky (fun w6 h7 => (wl_nil (then_at rfl (wp_seq (wl_region (zv (iN .u64 x) (zu (iN .i64 x) (run_conv .i64 Try.underlying22 Try.underlying3 ky (by first | omega | (simp only [top]; omega))) (zv (iN .i64 x) (wl_nil (then_at rfl (wp_ret ?_))))))))))))))))))))))))
  repeat first|refine tr ?_|refine block_ret ?_
  exact bodyPost_ret (v := iN .i64 x) ky rfl ⟨rfl, _, hS3, (h7.perm (List.Perm.trans (List.Perm.cons _ (List.Perm.swap _ _ _)) (List.Perm.trans (List.Perm.swap _ _ _) (List.Perm.trans (List.Perm.cons _ (List.Perm.cons _ (List.Perm.swap _ _ _))) (List.Perm.cons _ (List.Perm.swap _ _ _))))))⟩
set_option maxHeartbeats 2000000 in
theorem tt_false {z : Base} {L : BL} {w : World} {rb tb b d : Nat} {cur : List UInt8} {v : Value} {bs : List UInt8} (hS : Rs.RdS d cur v bs) (H0 : HA z ((rb, 111, #[pt b]) :: (tb, 4, #[.bool false]) :: (b, 123, #[.bool true, v]) :: (d, 5, bc cur) :: L) w) {x : ByteArray} {ob : Bool} {r : List UInt8} (hx : Rs.nxt 16384 bs = (x, ob, r)) :
    Calls Try.prog 105 #[pt rb, pt tb] w fun e w' => e = .returned (.string x) ∧ ∃ v', Rs.RdS d cur v' r ∧ HA z ((rb, 111, #[pt b]) :: (tb, 4, #[.bool false]) :: (b, 123, #[.bool true, v']) :: (d, 5, bc cur) :: L) w' := by
  go_enter Try.func105, Try.ntmps105
  refine wp_seq (wl_region (zv (.string ({ data := #[] })) (wl_nil (then_at rfl (wp_seq (wl_region (zu (.pointer (some ⟨b, 0, none⟩)) (run_load1 (fun w => Try.isAgg111 w) ky (((H0.get 0 rfl).cell 0).trans rfl)) ?_)))))))
  refine wl_callx ky enter88 #[.pointer (some ⟨b, 0, none⟩), iN .i64 16384] ky (Rs.Text_E hS (HA.perm H0 (List.Perm.trans (List.Perm.cons _ (List.Perm.swap _ _ _)) (List.Perm.trans (List.Perm.swap _ _ _) (List.Perm.trans (List.Perm.cons _ (List.Perm.cons _ (List.Perm.swap _ _ _))) (List.Perm.cons _ (List.Perm.swap _ _ _)))))) (by decide) hx) ?_
  rintro _ w4 ⟨rfl, v1, hS3, h2⟩
  refine ⟨_, rfl, ?_⟩
  have h5 := h2
  refine zv (.tuple #[.string x, .bool ob]) (zv (.string x) (zv (.bool ob) (zv (.string x) (zv (.bool ob) (wl_nil (then_at rfl (wp_seq (wl_region (zu (.bool false) (run_load1 (fun w => Try.isAgg4 w) ky (((h5.get 3 rfl).cell 0).trans rfl)) (zv (.bool false) (zk (zv (.bool false) (wl_putv (v := .bool false) h5 3 rfl 0 (by show 0 < 1; decide) ky (fun w => Try.sizeOf4 w) ky ky ky (fun w6 h7 => (wl_nil (then_at rfl (wp_seq (wl_region (zv (.string x) (zv (.string x) (wl_nil (then_at rfl (wp_ret ?_)))))))))))))))))))))))
  repeat first|refine tr ?_|refine block_ret ?_
  exact bodyPost_ret (v := .string x) ky rfl ⟨rfl, _, hS3, (h7.perm (List.Perm.trans (List.Perm.cons _ (List.Perm.swap _ _ _)) (List.Perm.trans (List.Perm.swap _ _ _) (List.Perm.trans (List.Perm.cons _ (List.Perm.cons _ (List.Perm.swap _ _ _))) (List.Perm.cons _ (List.Perm.swap _ _ _))))))⟩
theorem tn_any {z : Base} {L : BL} {w : World} {rb tb b d : Nat} {cur : List UInt8} {v : Value} {bs : List UInt8} (hS : Rs.RdS d cur v bs) {o : Bool} (H0 : HA z ((rb, 111, #[pt b]) :: (tb, 4, #[.bool o]) :: (b, 123, #[.bool true, v]) :: (d, 5, bc cur) :: L) w) {x : Nat} {ob : Bool} {r : List UInt8} {m : Nat} (hm1 : 1 ≤ m) (hm8 : m ≤ 8) (hxl : x < 4294967296) (hx : Rs.nxn m bs = (x, ob, r)) :
    Calls Try.prog 104 #[iN .i64 m, pt rb, pt tb] w fun e w' => e = .returned (iN .i64 x) ∧ ∃ v', Rs.RdS d cur v' r ∧ HA z ((rb, 111, #[pt b]) :: (tb, 4, #[.bool (o && ob)]) :: (b, 123, #[.bool true, v']) :: (d, 5, bc cur) :: L) w' := by
  cases o with
  | true => exact tn_true hS H0 hm1 hm8 hxl hx
  | false => exact tn_false hS H0 hm1 hm8 hxl hx
theorem tt_any {z : Base} {L : BL} {w : World} {rb tb b d : Nat} {cur : List UInt8} {v : Value} {bs : List UInt8} (hS : Rs.RdS d cur v bs) {o : Bool} (H0 : HA z ((rb, 111, #[pt b]) :: (tb, 4, #[.bool o]) :: (b, 123, #[.bool true, v]) :: (d, 5, bc cur) :: L) w) {x : ByteArray} {ob : Bool} {r : List UInt8} (hx : Rs.nxt 16384 bs = (x, ob, r)) :
    Calls Try.prog 105 #[pt rb, pt tb] w fun e w' => e = .returned (.string x) ∧ ∃ v', Rs.RdS d cur v' r ∧ HA z ((rb, 111, #[pt b]) :: (tb, 4, #[.bool (o && ob)]) :: (b, 123, #[.bool true, v']) :: (d, 5, bc cur) :: L) w' := by
  cases o with
  | true => exact tt_true hS H0 hx
  | false => exact tt_false hS H0 hx
set_option maxHeartbeats 2000000 in
theorem db_0 {w : World} (s : ByteArray) (hs : s.size ≤ 140737488351232) {u dv pi oi : Nat} {sg dh pr ps on : ByteArray} {o1 o2 o3 o4 o5 o6 o7 o8 o9 : Bool} {r1 r2 r3 r4 r5 r6 r7 r8 r9 : List UInt8} (i1 : Rs.nxn 1 (bl s) = (u, o1, r1)) (i2 : Rs.nxn 1 r1 = (dv, o2, r2)) (i3 : Rs.nxt 16384 r2 = (sg, o3, r3)) (i4 : Rs.nxt 16384 r3 = (dh, o4, r4)) (i5 : Rs.nxn 4 r4 = (pi, o5, r5)) (i6 : Rs.nxt 16384 r5 = (pr, o6, r6)) (i7 : Rs.nxt 16384 r6 = (ps, o7, r7)) (i8 : Rs.nxn 4 r7 = (oi, o8, r8)) (i9 : Rs.nxt 16384 r8 = (on, o9, r9)) (hO : (((((((((true && o1) && o2) && o3) && o4) && o5) && o6) && o7) && o8) && o9) = false) :
    Calls Try.prog 89 #[.string s] w fun e w' => e = .returned (.tuple #[.agg (buC bu0), iN .i64 4]) ∧ Below w.heap.size w w' := by
  have H0 := HA.start w
  go_enter Try.func89, Try.ntmps89
  refine wp_seq (wl_region (wl_make (c := #[iN .i64 0, iN .i64 0, .string ({ data := #[] }), .string ({ data := #[] }), iN .i64 0, .string ({ data := #[] }), .string ({ data := #[] }), iN .i64 0, .string ({ data := #[] })]) H0 27 ky ky ?_))
  intro q1 w2 (h3 : HA (bs w) [(q1, 27, #[iN .i64 0, iN .i64 0, .string ({ data := #[] }), .string ({ data := #[] }), iN .i64 0, .string ({ data := #[] }), .string ({ data := #[] }), iN .i64 0, .string ({ data := #[] })])] w2)
  refine zv (iN .i64 0) (wl_nil (then_at rfl (wp_seq (wl_region (zv (.string s) ?_)))))
  refine wl_callx ky enter83 _ ky (Rs.New_h h3 s hs) ?_
  rintro _ w10 ⟨b4, d5, cur6, v7, rfl, hS8, h9⟩
  refine ⟨_, rfl, ?_⟩
  have h11 := h9
  refine wl_make (c := #[.pointer none]) h11 111 ky ky ?_
  intro q12 w13 (h14 : HA (bs w) [(q12, 111, #[.pointer none]), (b4, 123, #[.bool true, v7]), (d5, 5, bc cur6), (q1, 27, #[iN .i64 0, iN .i64 0, .string ({ data := #[] }), .string ({ data := #[] }), iN .i64 0, .string ({ data := #[] }), .string ({ data := #[] }), iN .i64 0, .string ({ data := #[] })])] w13)
  refine wl_make (c := #[.bool false]) h14 4 ky ky ?_
  intro q15 w16 (h17 : HA (bs w) [(q15, 4, #[.bool false]), (q12, 111, #[.pointer none]), (b4, 123, #[.bool true, v7]), (d5, 5, bc cur6), (q1, 27, #[iN .i64 0, iN .i64 0, .string ({ data := #[] }), .string ({ data := #[] }), iN .i64 0, .string ({ data := #[] }), .string ({ data := #[] }), iN .i64 0, .string ({ data := #[] })])] w16)
  refine wl_putv (v := .pointer (some ⟨b4, 0, none⟩)) h17 1 rfl 0 (by show 0 < 1; decide) ky (fun w => Try.sizeOf111 w) ky ky ky (fun w18 h19 => (wl_putv (v := .bool true) h19 0 rfl 0 (by show 0 < 1; decide) ky (fun w => Try.sizeOf4 w) ky ky ky (fun w20 h21 => (wl_nil (then_at rfl (wp_seq (wl_region (zv (.func (.func 104) #[] #[.pointer (some ⟨q12, 0, none⟩), .pointer (some ⟨q15, 0, none⟩)]) (zv (.func (.func 104) #[] #[.pointer (some ⟨q12, 0, none⟩), .pointer (some ⟨q15, 0, none⟩)]) (wl_nil (then_at rfl (wp_seq (wl_region (zv (.func (.func 105) #[] #[.pointer (some ⟨q12, 0, none⟩), .pointer (some ⟨q15, 0, none⟩)]) (zv (.func (.func 105) #[] #[.pointer (some ⟨q12, 0, none⟩), .pointer (some ⟨q15, 0, none⟩)]) (wl_nil (then_at rfl (wp_seq (wl_region (zv (.func (.func 104) #[] #[.pointer (some ⟨q12, 0, none⟩), .pointer (some ⟨q15, 0, none⟩)]) ?_))))))))))))))))))))
  refine wl_callvx (cap := #[.pointer (some ⟨q12, 0, none⟩), .pointer (some ⟨q15, 0, none⟩)]) (args := #[iN .i64 1, .pointer (some ⟨q12, 0, none⟩), .pointer (some ⟨q15, 0, none⟩)]) ky enter104 ky ky (tn_any hS8 (HA.perm h21 (List.Perm.swap _ _ _)) (by decide) (by decide) (Rs.nxn_lt (by decide) i1) i1) ?_
  rintro _ w25 ⟨rfl, v22, hS24, h23⟩
  refine ⟨_, rfl, ?_⟩
  have h26 := h23
  refine zv (.func (.func 104) #[] #[.pointer (some ⟨q12, 0, none⟩), .pointer (some ⟨q15, 0, none⟩)]) ?_
  refine wl_callvx (cap := #[.pointer (some ⟨q12, 0, none⟩), .pointer (some ⟨q15, 0, none⟩)]) (args := #[iN .i64 1, .pointer (some ⟨q12, 0, none⟩), .pointer (some ⟨q15, 0, none⟩)]) ky enter104 ky ky (tn_any hS24 h26 (by decide) (by decide) (Rs.nxn_lt (by decide) i2) i2) ?_
  rintro _ w30 ⟨rfl, v27, hS29, h28⟩
  refine ⟨_, rfl, ?_⟩
  have h31 := h28
  refine zv (.func (.func 105) #[] #[.pointer (some ⟨q12, 0, none⟩), .pointer (some ⟨q15, 0, none⟩)]) ?_
  refine wl_callvx (cap := #[.pointer (some ⟨q12, 0, none⟩), .pointer (some ⟨q15, 0, none⟩)]) (args := #[.pointer (some ⟨q12, 0, none⟩), .pointer (some ⟨q15, 0, none⟩)]) ky enter105 ky ky (tt_any hS29 h31 i3) ?_
  rintro _ w35 ⟨rfl, v32, hS34, h33⟩
  refine ⟨_, rfl, ?_⟩
  have h36 := h33
  refine zv (.func (.func 105) #[] #[.pointer (some ⟨q12, 0, none⟩), .pointer (some ⟨q15, 0, none⟩)]) ?_
  refine wl_callvx (cap := #[.pointer (some ⟨q12, 0, none⟩), .pointer (some ⟨q15, 0, none⟩)]) (args := #[.pointer (some ⟨q12, 0, none⟩), .pointer (some ⟨q15, 0, none⟩)]) ky enter105 ky ky (tt_any hS34 h36 i4) ?_
  rintro _ w40 ⟨rfl, v37, hS39, h38⟩
  refine ⟨_, rfl, ?_⟩
  have h41 := h38
  refine zv (.func (.func 104) #[] #[.pointer (some ⟨q12, 0, none⟩), .pointer (some ⟨q15, 0, none⟩)]) ?_
  refine wl_callvx (cap := #[.pointer (some ⟨q12, 0, none⟩), .pointer (some ⟨q15, 0, none⟩)]) (args := #[iN .i64 4, .pointer (some ⟨q12, 0, none⟩), .pointer (some ⟨q15, 0, none⟩)]) ky enter104 ky ky (tn_any hS39 h41 (by decide) (by decide) (Rs.nxn_lt (by decide) i5) i5) ?_
  rintro _ w45 ⟨rfl, v42, hS44, h43⟩
  refine ⟨_, rfl, ?_⟩
  have h46 := h43
  refine zv (.func (.func 105) #[] #[.pointer (some ⟨q12, 0, none⟩), .pointer (some ⟨q15, 0, none⟩)]) ?_
  refine wl_callvx (cap := #[.pointer (some ⟨q12, 0, none⟩), .pointer (some ⟨q15, 0, none⟩)]) (args := #[.pointer (some ⟨q12, 0, none⟩), .pointer (some ⟨q15, 0, none⟩)]) ky enter105 ky ky (tt_any hS44 h46 i6) ?_
  rintro _ w50 ⟨rfl, v47, hS49, h48⟩
  refine ⟨_, rfl, ?_⟩
  have h51 := h48
  refine zv (.func (.func 105) #[] #[.pointer (some ⟨q12, 0, none⟩), .pointer (some ⟨q15, 0, none⟩)]) ?_
  refine wl_callvx (cap := #[.pointer (some ⟨q12, 0, none⟩), .pointer (some ⟨q15, 0, none⟩)]) (args := #[.pointer (some ⟨q12, 0, none⟩), .pointer (some ⟨q15, 0, none⟩)]) ky enter105 ky ky (tt_any hS49 h51 i7) ?_
  rintro _ w55 ⟨rfl, v52, hS54, h53⟩
  refine ⟨_, rfl, ?_⟩
  have h56 := h53
  refine zv (.func (.func 104) #[] #[.pointer (some ⟨q12, 0, none⟩), .pointer (some ⟨q15, 0, none⟩)]) ?_
  refine wl_callvx (cap := #[.pointer (some ⟨q12, 0, none⟩), .pointer (some ⟨q15, 0, none⟩)]) (args := #[iN .i64 4, .pointer (some ⟨q12, 0, none⟩), .pointer (some ⟨q15, 0, none⟩)]) ky enter104 ky ky (tn_any hS54 h56 (by decide) (by decide) (Rs.nxn_lt (by decide) i8) i8) ?_
  rintro _ w60 ⟨rfl, v57, hS59, h58⟩
  refine ⟨_, rfl, ?_⟩
  have h61 := h58
  refine zv (.func (.func 105) #[] #[.pointer (some ⟨q12, 0, none⟩), .pointer (some ⟨q15, 0, none⟩)]) ?_
  refine wl_callvx (cap := #[.pointer (some ⟨q12, 0, none⟩), .pointer (some ⟨q15, 0, none⟩)]) (args := #[.pointer (some ⟨q12, 0, none⟩), .pointer (some ⟨q15, 0, none⟩)]) ky enter105 ky ky (tt_any hS59 h61 i9) ?_
  rintro _ w65 ⟨rfl, v62, hS64, h63⟩
  refine ⟨_, rfl, ?_⟩
  have h66 := h63
  refine zv (.agg (buC (mkB u dv sg dh pi pr ps oi on))) (wl_make (c := #[iN .i64 0, iN .i64 0, .string ({ data := #[] }), .string ({ data := #[] }), iN .i64 0, .string ({ data := #[] }), .string ({ data := #[] }), iN .i64 0, .string ({ data := #[] })]) h66 27 ky ky ?_)
  intro q67 w68 (h69 : HA (bs w) [(q67, 27, #[iN .i64 0, iN .i64 0, .string ({ data := #[] }), .string ({ data := #[] }), iN .i64 0, .string ({ data := #[] }), .string ({ data := #[] }), iN .i64 0, .string ({ data := #[] })]), (q12, 111, #[pt b4]), (q15, 4, #[.bool (((((((((true && o1) && o2) && o3) && o4) && o5) && o6) && o7) && o8) && o9)]), (b4, 123, #[.bool true, v62]), (d5, 5, bc cur6), (q1, 27, #[iN .i64 0, iN .i64 0, .string ({ data := #[] }), .string ({ data := #[] }), iN .i64 0, .string ({ data := #[] }), .string ({ data := #[] }), iN .i64 0, .string ({ data := #[] })])] w68)
  refine wl_fill (c' := buC (mkB u dv sg dh pi pr ps oi on)) h69 0 rfl ky ky ky rfl ky ky (fun w70 h71 => (wl_nil (then_at rfl (wp_seq (wp_seq ?_)))))
  have hO2 : (((((((((true && o1) && o2) && o3) && o4) && o5) && o6) && o7) && o8) && o9) = false := hO
  rw [hO2] at h71
  have h72 := h71
  refine wl_region (zu (.bool false) (run_load1 (fun w => Try.isAgg4 w) ky (((h72.get 2 rfl).cell 0).trans rfl)) (zv (.bool true) (zv (.bool true) (zk (zk (zk (zv (.bool true) (zv (.bool true) (zk (zk (zk (zv (.bool true) (wl_nil (then_at rfl (wp_cond_true ky (wp_seq (wl_region (zv (.agg (buC bu0)) (wl_fill (c' := buC bu0) h72 5 rfl ky ky ky rfl ky ky (fun w73 h74 => (zv (iN .i64 4) (wl_nil (then_at rfl (wp_ret ?_))))))))))))))))))))))))
  repeat first|refine tr ?_|refine block_ret ?_
  exact bodyPost_ret (v := .tuple #[.agg (buC bu0), iN .i64 4]) (res_cell_tmp (p := 2) (r := 3) ky ky ky (h74.get 5 rfl) Try.underlying27 rfl ky) rfl ⟨rfl, h74.old.old⟩
set_option maxHeartbeats 2000000 in
theorem db_1 {w : World} (s : ByteArray) (hs : s.size ≤ 140737488351232) {u dv pi oi : Nat} {sg dh pr ps on : ByteArray} {r1 r2 r3 r4 r5 r6 r7 r8 r9 : List UInt8} (i1 : Rs.nxn 1 (bl s) = (u, true, r1)) (i2 : Rs.nxn 1 r1 = (dv, true, r2)) (i3 : Rs.nxt 16384 r2 = (sg, true, r3)) (i4 : Rs.nxt 16384 r3 = (dh, true, r4)) (i5 : Rs.nxn 4 r4 = (pi, true, r5)) (i6 : Rs.nxt 16384 r5 = (pr, true, r6)) (i7 : Rs.nxt 16384 r6 = (ps, true, r7)) (i8 : Rs.nxn 4 r7 = (oi, true, r8)) (i9 : Rs.nxt 16384 r8 = (on, true, r9)) (hl : ¬ r9.length = 0) :
    Calls Try.prog 89 #[.string s] w fun e w' => e = .returned (.tuple #[.agg (buC bu0), iN .i64 4]) ∧ Below w.heap.size w w' := by
  have H0 := HA.start w
  go_enter Try.func89, Try.ntmps89
  refine wp_seq (wl_region (wl_make (c := #[iN .i64 0, iN .i64 0, .string ({ data := #[] }), .string ({ data := #[] }), iN .i64 0, .string ({ data := #[] }), .string ({ data := #[] }), iN .i64 0, .string ({ data := #[] })]) H0 27 ky ky ?_))
  intro q1 w2 (h3 : HA (bs w) [(q1, 27, #[iN .i64 0, iN .i64 0, .string ({ data := #[] }), .string ({ data := #[] }), iN .i64 0, .string ({ data := #[] }), .string ({ data := #[] }), iN .i64 0, .string ({ data := #[] })])] w2)
  refine zv (iN .i64 0) (wl_nil (then_at rfl (wp_seq (wl_region (zv (.string s) ?_)))))
  refine wl_callx ky enter83 _ ky (Rs.New_h h3 s hs) ?_
  rintro _ w10 ⟨b4, d5, cur6, v7, rfl, hS8, h9⟩
  refine ⟨_, rfl, ?_⟩
  have h11 := h9
  refine wl_make (c := #[.pointer none]) h11 111 ky ky ?_
  intro q12 w13 (h14 : HA (bs w) [(q12, 111, #[.pointer none]), (b4, 123, #[.bool true, v7]), (d5, 5, bc cur6), (q1, 27, #[iN .i64 0, iN .i64 0, .string ({ data := #[] }), .string ({ data := #[] }), iN .i64 0, .string ({ data := #[] }), .string ({ data := #[] }), iN .i64 0, .string ({ data := #[] })])] w13)
  refine wl_make (c := #[.bool false]) h14 4 ky ky ?_
  intro q15 w16 (h17 : HA (bs w) [(q15, 4, #[.bool false]), (q12, 111, #[.pointer none]), (b4, 123, #[.bool true, v7]), (d5, 5, bc cur6), (q1, 27, #[iN .i64 0, iN .i64 0, .string ({ data := #[] }), .string ({ data := #[] }), iN .i64 0, .string ({ data := #[] }), .string ({ data := #[] }), iN .i64 0, .string ({ data := #[] })])] w16)
  refine wl_putv (v := .pointer (some ⟨b4, 0, none⟩)) h17 1 rfl 0 (by show 0 < 1; decide) ky (fun w => Try.sizeOf111 w) ky ky ky (fun w18 h19 => (wl_putv (v := .bool true) h19 0 rfl 0 (by show 0 < 1; decide) ky (fun w => Try.sizeOf4 w) ky ky ky (fun w20 h21 => (wl_nil (then_at rfl (wp_seq (wl_region (zv (.func (.func 104) #[] #[.pointer (some ⟨q12, 0, none⟩), .pointer (some ⟨q15, 0, none⟩)]) (zv (.func (.func 104) #[] #[.pointer (some ⟨q12, 0, none⟩), .pointer (some ⟨q15, 0, none⟩)]) (wl_nil (then_at rfl (wp_seq (wl_region (zv (.func (.func 105) #[] #[.pointer (some ⟨q12, 0, none⟩), .pointer (some ⟨q15, 0, none⟩)]) (zv (.func (.func 105) #[] #[.pointer (some ⟨q12, 0, none⟩), .pointer (some ⟨q15, 0, none⟩)]) (wl_nil (then_at rfl (wp_seq (wl_region (zv (.func (.func 104) #[] #[.pointer (some ⟨q12, 0, none⟩), .pointer (some ⟨q15, 0, none⟩)]) ?_))))))))))))))))))))
  refine wl_callvx (cap := #[.pointer (some ⟨q12, 0, none⟩), .pointer (some ⟨q15, 0, none⟩)]) (args := #[iN .i64 1, .pointer (some ⟨q12, 0, none⟩), .pointer (some ⟨q15, 0, none⟩)]) ky enter104 ky ky (tn_any hS8 (HA.perm h21 (List.Perm.swap _ _ _)) (by decide) (by decide) (Rs.nxn_lt (by decide) i1) i1) ?_
  rintro _ w25 ⟨rfl, v22, hS24, h23⟩
  refine ⟨_, rfl, ?_⟩
  have h26 := h23
  refine zv (.func (.func 104) #[] #[.pointer (some ⟨q12, 0, none⟩), .pointer (some ⟨q15, 0, none⟩)]) ?_
  refine wl_callvx (cap := #[.pointer (some ⟨q12, 0, none⟩), .pointer (some ⟨q15, 0, none⟩)]) (args := #[iN .i64 1, .pointer (some ⟨q12, 0, none⟩), .pointer (some ⟨q15, 0, none⟩)]) ky enter104 ky ky (tn_any hS24 h26 (by decide) (by decide) (Rs.nxn_lt (by decide) i2) i2) ?_
  rintro _ w30 ⟨rfl, v27, hS29, h28⟩
  refine ⟨_, rfl, ?_⟩
  have h31 := h28
  refine zv (.func (.func 105) #[] #[.pointer (some ⟨q12, 0, none⟩), .pointer (some ⟨q15, 0, none⟩)]) ?_
  refine wl_callvx (cap := #[.pointer (some ⟨q12, 0, none⟩), .pointer (some ⟨q15, 0, none⟩)]) (args := #[.pointer (some ⟨q12, 0, none⟩), .pointer (some ⟨q15, 0, none⟩)]) ky enter105 ky ky (tt_any hS29 h31 i3) ?_
  rintro _ w35 ⟨rfl, v32, hS34, h33⟩
  refine ⟨_, rfl, ?_⟩
  have h36 := h33
  refine zv (.func (.func 105) #[] #[.pointer (some ⟨q12, 0, none⟩), .pointer (some ⟨q15, 0, none⟩)]) ?_
  refine wl_callvx (cap := #[.pointer (some ⟨q12, 0, none⟩), .pointer (some ⟨q15, 0, none⟩)]) (args := #[.pointer (some ⟨q12, 0, none⟩), .pointer (some ⟨q15, 0, none⟩)]) ky enter105 ky ky (tt_any hS34 h36 i4) ?_
  rintro _ w40 ⟨rfl, v37, hS39, h38⟩
  refine ⟨_, rfl, ?_⟩
  have h41 := h38
  refine zv (.func (.func 104) #[] #[.pointer (some ⟨q12, 0, none⟩), .pointer (some ⟨q15, 0, none⟩)]) ?_
  refine wl_callvx (cap := #[.pointer (some ⟨q12, 0, none⟩), .pointer (some ⟨q15, 0, none⟩)]) (args := #[iN .i64 4, .pointer (some ⟨q12, 0, none⟩), .pointer (some ⟨q15, 0, none⟩)]) ky enter104 ky ky (tn_any hS39 h41 (by decide) (by decide) (Rs.nxn_lt (by decide) i5) i5) ?_
  rintro _ w45 ⟨rfl, v42, hS44, h43⟩
  refine ⟨_, rfl, ?_⟩
  have h46 := h43
  refine zv (.func (.func 105) #[] #[.pointer (some ⟨q12, 0, none⟩), .pointer (some ⟨q15, 0, none⟩)]) ?_
  refine wl_callvx (cap := #[.pointer (some ⟨q12, 0, none⟩), .pointer (some ⟨q15, 0, none⟩)]) (args := #[.pointer (some ⟨q12, 0, none⟩), .pointer (some ⟨q15, 0, none⟩)]) ky enter105 ky ky (tt_any hS44 h46 i6) ?_
  rintro _ w50 ⟨rfl, v47, hS49, h48⟩
  refine ⟨_, rfl, ?_⟩
  have h51 := h48
  refine zv (.func (.func 105) #[] #[.pointer (some ⟨q12, 0, none⟩), .pointer (some ⟨q15, 0, none⟩)]) ?_
  refine wl_callvx (cap := #[.pointer (some ⟨q12, 0, none⟩), .pointer (some ⟨q15, 0, none⟩)]) (args := #[.pointer (some ⟨q12, 0, none⟩), .pointer (some ⟨q15, 0, none⟩)]) ky enter105 ky ky (tt_any hS49 h51 i7) ?_
  rintro _ w55 ⟨rfl, v52, hS54, h53⟩
  refine ⟨_, rfl, ?_⟩
  have h56 := h53
  refine zv (.func (.func 104) #[] #[.pointer (some ⟨q12, 0, none⟩), .pointer (some ⟨q15, 0, none⟩)]) ?_
  refine wl_callvx (cap := #[.pointer (some ⟨q12, 0, none⟩), .pointer (some ⟨q15, 0, none⟩)]) (args := #[iN .i64 4, .pointer (some ⟨q12, 0, none⟩), .pointer (some ⟨q15, 0, none⟩)]) ky enter104 ky ky (tn_any hS54 h56 (by decide) (by decide) (Rs.nxn_lt (by decide) i8) i8) ?_
  rintro _ w60 ⟨rfl, v57, hS59, h58⟩
  refine ⟨_, rfl, ?_⟩
  have h61 := h58
  refine zv (.func (.func 105) #[] #[.pointer (some ⟨q12, 0, none⟩), .pointer (some ⟨q15, 0, none⟩)]) ?_
  refine wl_callvx (cap := #[.pointer (some ⟨q12, 0, none⟩), .pointer (some ⟨q15, 0, none⟩)]) (args := #[.pointer (some ⟨q12, 0, none⟩), .pointer (some ⟨q15, 0, none⟩)]) ky enter105 ky ky (tt_any hS59 h61 i9) ?_
  rintro _ w65 ⟨rfl, v62, hS64, h63⟩
  refine ⟨_, rfl, ?_⟩
  have h66 := h63
  refine zv (.agg (buC (mkB u dv sg dh pi pr ps oi on))) (wl_make (c := #[iN .i64 0, iN .i64 0, .string ({ data := #[] }), .string ({ data := #[] }), iN .i64 0, .string ({ data := #[] }), .string ({ data := #[] }), iN .i64 0, .string ({ data := #[] })]) h66 27 ky ky ?_)
  intro q67 w68 (h69 : HA (bs w) [(q67, 27, #[iN .i64 0, iN .i64 0, .string ({ data := #[] }), .string ({ data := #[] }), iN .i64 0, .string ({ data := #[] }), .string ({ data := #[] }), iN .i64 0, .string ({ data := #[] })]), (q12, 111, #[pt b4]), (q15, 4, #[.bool true]), (b4, 123, #[.bool true, v62]), (d5, 5, bc cur6), (q1, 27, #[iN .i64 0, iN .i64 0, .string ({ data := #[] }), .string ({ data := #[] }), iN .i64 0, .string ({ data := #[] }), .string ({ data := #[] }), iN .i64 0, .string ({ data := #[] })])] w68)
  refine wl_fill (c' := buC (mkB u dv sg dh pi pr ps oi on)) h69 0 rfl ky ky ky rfl ky ky (fun w70 h71 => (wl_nil (then_at rfl (wp_seq (wp_seq (wl_region (zu (.bool true) (run_load1 (fun w => Try.isAgg4 w) ky (((h71.get 2 rfl).cell 0).trans rfl)) (zv (.bool false) (zv (.bool false) (zu (.pointer (some ⟨b4, 0, none⟩)) (run_load1 (fun w => Try.isAgg111 w) ky (((h71.get 1 rfl).cell 0).trans rfl)) (zl (iN .i64 r9.length) h71 enter106 #[.pointer (some ⟨b4, 0, none⟩)] (Rs.Left_h hS64 (HA.perm h71 (List.Perm.trans (List.Perm.cons _ (List.Perm.cons _ (List.Perm.swap _ _ _))) (List.Perm.trans (List.Perm.cons _ (List.Perm.swap _ _ _)) (List.Perm.trans (List.Perm.swap _ _ _) (List.Perm.trans (List.Perm.cons _ (List.Perm.cons _ (List.Perm.cons _ (List.Perm.swap _ _ _)))) (List.Perm.trans (List.Perm.cons _ (List.Perm.cons _ (List.Perm.swap _ _ _))) (List.Perm.cons _ (List.Perm.swap _ _ _))))))))) (fun w72 h73 => (zu (.bool true) (run_nei (k := .i64) (a := r9.length) (b := 0) ky ky true (decide_eq_true (by omega))) (zv (.bool true) (zv (.bool true) (zk (zk (zk (zv (.bool true) (wl_nil (then_at rfl (wp_cond_true ky (wp_seq (wl_region (zv (.agg (buC bu0)) (wl_fill (c' := buC bu0) h73 5 rfl ky ky ky rfl ky ky (fun w74 h75 => (zv (iN .i64 4) (wl_nil (then_at rfl ?_))))))))))))))))))))))))))))))
  refine wp_ret ?_
  repeat first|refine tr ?_|refine block_ret ?_
  exact bodyPost_ret (v := .tuple #[.agg (buC bu0), iN .i64 4]) (res_cell_tmp (p := 2) (r := 3) ky ky ky (h75.get 5 rfl) Try.underlying27 rfl ky) rfl ⟨rfl, h75.old.old⟩
set_option maxHeartbeats 2000000 in
theorem db_2 {w : World} (s : ByteArray) (hs : s.size ≤ 140737488351232) {u dv pi oi : Nat} {sg dh pr ps on : ByteArray} {r1 r2 r3 r4 r5 r6 r7 r8 r9 : List UInt8} (i1 : Rs.nxn 1 (bl s) = (u, true, r1)) (i2 : Rs.nxn 1 r1 = (dv, true, r2)) (i3 : Rs.nxt 16384 r2 = (sg, true, r3)) (i4 : Rs.nxt 16384 r3 = (dh, true, r4)) (i5 : Rs.nxn 4 r4 = (pi, true, r5)) (i6 : Rs.nxt 16384 r5 = (pr, true, r6)) (i7 : Rs.nxt 16384 r6 = (ps, true, r7)) (i8 : Rs.nxn 4 r7 = (oi, true, r8)) (i9 : Rs.nxt 16384 r8 = (on, true, r9)) (hl : r9.length = 0) (hx : mayX (mkB u dv sg dh pi pr ps oi on) = false) :
    Calls Try.prog 89 #[.string s] w fun e w' => e = .returned (.tuple #[.agg (buC bu0), iN .i64 4]) ∧ Below w.heap.size w w' := by
  have H0 := HA.start w
  go_enter Try.func89, Try.ntmps89
  refine wp_seq (wl_region (wl_make (c := #[iN .i64 0, iN .i64 0, .string ({ data := #[] }), .string ({ data := #[] }), iN .i64 0, .string ({ data := #[] }), .string ({ data := #[] }), iN .i64 0, .string ({ data := #[] })]) H0 27 ky ky ?_))
  intro q1 w2 (h3 : HA (bs w) [(q1, 27, #[iN .i64 0, iN .i64 0, .string ({ data := #[] }), .string ({ data := #[] }), iN .i64 0, .string ({ data := #[] }), .string ({ data := #[] }), iN .i64 0, .string ({ data := #[] })])] w2)
  refine zv (iN .i64 0) (wl_nil (then_at rfl (wp_seq (wl_region (zv (.string s) ?_)))))
  refine wl_callx ky enter83 _ ky (Rs.New_h h3 s hs) ?_
  rintro _ w10 ⟨b4, d5, cur6, v7, rfl, hS8, h9⟩
  refine ⟨_, rfl, ?_⟩
  have h11 := h9
  refine wl_make (c := #[.pointer none]) h11 111 ky ky ?_
  intro q12 w13 (h14 : HA (bs w) [(q12, 111, #[.pointer none]), (b4, 123, #[.bool true, v7]), (d5, 5, bc cur6), (q1, 27, #[iN .i64 0, iN .i64 0, .string ({ data := #[] }), .string ({ data := #[] }), iN .i64 0, .string ({ data := #[] }), .string ({ data := #[] }), iN .i64 0, .string ({ data := #[] })])] w13)
  refine wl_make (c := #[.bool false]) h14 4 ky ky ?_
  intro q15 w16 (h17 : HA (bs w) [(q15, 4, #[.bool false]), (q12, 111, #[.pointer none]), (b4, 123, #[.bool true, v7]), (d5, 5, bc cur6), (q1, 27, #[iN .i64 0, iN .i64 0, .string ({ data := #[] }), .string ({ data := #[] }), iN .i64 0, .string ({ data := #[] }), .string ({ data := #[] }), iN .i64 0, .string ({ data := #[] })])] w16)
  refine wl_putv (v := .pointer (some ⟨b4, 0, none⟩)) h17 1 rfl 0 (by show 0 < 1; decide) ky (fun w => Try.sizeOf111 w) ky ky ky (fun w18 h19 => (wl_putv (v := .bool true) h19 0 rfl 0 (by show 0 < 1; decide) ky (fun w => Try.sizeOf4 w) ky ky ky (fun w20 h21 => (wl_nil (then_at rfl (wp_seq (wl_region (zv (.func (.func 104) #[] #[.pointer (some ⟨q12, 0, none⟩), .pointer (some ⟨q15, 0, none⟩)]) (zv (.func (.func 104) #[] #[.pointer (some ⟨q12, 0, none⟩), .pointer (some ⟨q15, 0, none⟩)]) (wl_nil (then_at rfl (wp_seq (wl_region (zv (.func (.func 105) #[] #[.pointer (some ⟨q12, 0, none⟩), .pointer (some ⟨q15, 0, none⟩)]) (zv (.func (.func 105) #[] #[.pointer (some ⟨q12, 0, none⟩), .pointer (some ⟨q15, 0, none⟩)]) (wl_nil (then_at rfl (wp_seq (wl_region (zv (.func (.func 104) #[] #[.pointer (some ⟨q12, 0, none⟩), .pointer (some ⟨q15, 0, none⟩)]) ?_))))))))))))))))))))
  refine wl_callvx (cap := #[.pointer (some ⟨q12, 0, none⟩), .pointer (some ⟨q15, 0, none⟩)]) (args := #[iN .i64 1, .pointer (some ⟨q12, 0, none⟩), .pointer (some ⟨q15, 0, none⟩)]) ky enter104 ky ky (tn_any hS8 (HA.perm h21 (List.Perm.swap _ _ _)) (by decide) (by decide) (Rs.nxn_lt (by decide) i1) i1) ?_
  rintro _ w25 ⟨rfl, v22, hS24, h23⟩
  refine ⟨_, rfl, ?_⟩
  have h26 := h23
  refine zv (.func (.func 104) #[] #[.pointer (some ⟨q12, 0, none⟩), .pointer (some ⟨q15, 0, none⟩)]) ?_
  refine wl_callvx (cap := #[.pointer (some ⟨q12, 0, none⟩), .pointer (some ⟨q15, 0, none⟩)]) (args := #[iN .i64 1, .pointer (some ⟨q12, 0, none⟩), .pointer (some ⟨q15, 0, none⟩)]) ky enter104 ky ky (tn_any hS24 h26 (by decide) (by decide) (Rs.nxn_lt (by decide) i2) i2) ?_
  rintro _ w30 ⟨rfl, v27, hS29, h28⟩
  refine ⟨_, rfl, ?_⟩
  have h31 := h28
  refine zv (.func (.func 105) #[] #[.pointer (some ⟨q12, 0, none⟩), .pointer (some ⟨q15, 0, none⟩)]) ?_
  refine wl_callvx (cap := #[.pointer (some ⟨q12, 0, none⟩), .pointer (some ⟨q15, 0, none⟩)]) (args := #[.pointer (some ⟨q12, 0, none⟩), .pointer (some ⟨q15, 0, none⟩)]) ky enter105 ky ky (tt_any hS29 h31 i3) ?_
  rintro _ w35 ⟨rfl, v32, hS34, h33⟩
  refine ⟨_, rfl, ?_⟩
  have h36 := h33
  refine zv (.func (.func 105) #[] #[.pointer (some ⟨q12, 0, none⟩), .pointer (some ⟨q15, 0, none⟩)]) ?_
  refine wl_callvx (cap := #[.pointer (some ⟨q12, 0, none⟩), .pointer (some ⟨q15, 0, none⟩)]) (args := #[.pointer (some ⟨q12, 0, none⟩), .pointer (some ⟨q15, 0, none⟩)]) ky enter105 ky ky (tt_any hS34 h36 i4) ?_
  rintro _ w40 ⟨rfl, v37, hS39, h38⟩
  refine ⟨_, rfl, ?_⟩
  have h41 := h38
  refine zv (.func (.func 104) #[] #[.pointer (some ⟨q12, 0, none⟩), .pointer (some ⟨q15, 0, none⟩)]) ?_
  refine wl_callvx (cap := #[.pointer (some ⟨q12, 0, none⟩), .pointer (some ⟨q15, 0, none⟩)]) (args := #[iN .i64 4, .pointer (some ⟨q12, 0, none⟩), .pointer (some ⟨q15, 0, none⟩)]) ky enter104 ky ky (tn_any hS39 h41 (by decide) (by decide) (Rs.nxn_lt (by decide) i5) i5) ?_
  rintro _ w45 ⟨rfl, v42, hS44, h43⟩
  refine ⟨_, rfl, ?_⟩
  have h46 := h43
  refine zv (.func (.func 105) #[] #[.pointer (some ⟨q12, 0, none⟩), .pointer (some ⟨q15, 0, none⟩)]) ?_
  refine wl_callvx (cap := #[.pointer (some ⟨q12, 0, none⟩), .pointer (some ⟨q15, 0, none⟩)]) (args := #[.pointer (some ⟨q12, 0, none⟩), .pointer (some ⟨q15, 0, none⟩)]) ky enter105 ky ky (tt_any hS44 h46 i6) ?_
  rintro _ w50 ⟨rfl, v47, hS49, h48⟩
  refine ⟨_, rfl, ?_⟩
  have h51 := h48
  refine zv (.func (.func 105) #[] #[.pointer (some ⟨q12, 0, none⟩), .pointer (some ⟨q15, 0, none⟩)]) ?_
  refine wl_callvx (cap := #[.pointer (some ⟨q12, 0, none⟩), .pointer (some ⟨q15, 0, none⟩)]) (args := #[.pointer (some ⟨q12, 0, none⟩), .pointer (some ⟨q15, 0, none⟩)]) ky enter105 ky ky (tt_any hS49 h51 i7) ?_
  rintro _ w55 ⟨rfl, v52, hS54, h53⟩
  refine ⟨_, rfl, ?_⟩
  have h56 := h53
  refine zv (.func (.func 104) #[] #[.pointer (some ⟨q12, 0, none⟩), .pointer (some ⟨q15, 0, none⟩)]) ?_
  refine wl_callvx (cap := #[.pointer (some ⟨q12, 0, none⟩), .pointer (some ⟨q15, 0, none⟩)]) (args := #[iN .i64 4, .pointer (some ⟨q12, 0, none⟩), .pointer (some ⟨q15, 0, none⟩)]) ky enter104 ky ky (tn_any hS54 h56 (by decide) (by decide) (Rs.nxn_lt (by decide) i8) i8) ?_
  rintro _ w60 ⟨rfl, v57, hS59, h58⟩
  refine ⟨_, rfl, ?_⟩
  have h61 := h58
  refine zv (.func (.func 105) #[] #[.pointer (some ⟨q12, 0, none⟩), .pointer (some ⟨q15, 0, none⟩)]) ?_
  refine wl_callvx (cap := #[.pointer (some ⟨q12, 0, none⟩), .pointer (some ⟨q15, 0, none⟩)]) (args := #[.pointer (some ⟨q12, 0, none⟩), .pointer (some ⟨q15, 0, none⟩)]) ky enter105 ky ky (tt_any hS59 h61 i9) ?_
  rintro _ w65 ⟨rfl, v62, hS64, h63⟩
  refine ⟨_, rfl, ?_⟩
  have h66 := h63
  refine zv (.agg (buC (mkB u dv sg dh pi pr ps oi on))) (wl_make (c := #[iN .i64 0, iN .i64 0, .string ({ data := #[] }), .string ({ data := #[] }), iN .i64 0, .string ({ data := #[] }), .string ({ data := #[] }), iN .i64 0, .string ({ data := #[] })]) h66 27 ky ky ?_)
  intro q67 w68 (h69 : HA (bs w) [(q67, 27, #[iN .i64 0, iN .i64 0, .string ({ data := #[] }), .string ({ data := #[] }), iN .i64 0, .string ({ data := #[] }), .string ({ data := #[] }), iN .i64 0, .string ({ data := #[] })]), (q12, 111, #[pt b4]), (q15, 4, #[.bool true]), (b4, 123, #[.bool true, v62]), (d5, 5, bc cur6), (q1, 27, #[iN .i64 0, iN .i64 0, .string ({ data := #[] }), .string ({ data := #[] }), iN .i64 0, .string ({ data := #[] }), .string ({ data := #[] }), iN .i64 0, .string ({ data := #[] })])] w68)
  refine wl_fill (c' := buC (mkB u dv sg dh pi pr ps oi on)) h69 0 rfl ky ky ky rfl ky ky (fun w70 h71 => (wl_nil (then_at rfl (wp_seq (wp_seq (wl_region (zu (.bool true) (run_load1 (fun w => Try.isAgg4 w) ky (((h71.get 2 rfl).cell 0).trans rfl)) (zv (.bool false) (zv (.bool false) (zu (.pointer (some ⟨b4, 0, none⟩)) (run_load1 (fun w => Try.isAgg111 w) ky (((h71.get 1 rfl).cell 0).trans rfl)) (zl (iN .i64 r9.length) h71 enter106 #[.pointer (some ⟨b4, 0, none⟩)] (Rs.Left_h hS64 (HA.perm h71 (List.Perm.trans (List.Perm.cons _ (List.Perm.cons _ (List.Perm.swap _ _ _))) (List.Perm.trans (List.Perm.cons _ (List.Perm.swap _ _ _)) (List.Perm.trans (List.Perm.swap _ _ _) (List.Perm.trans (List.Perm.cons _ (List.Perm.cons _ (List.Perm.cons _ (List.Perm.swap _ _ _)))) (List.Perm.trans (List.Perm.cons _ (List.Perm.cons _ (List.Perm.swap _ _ _))) (List.Perm.cons _ (List.Perm.swap _ _ _))))))))) (fun w72 h73 => (zu (.bool false) (run_nei (k := .i64) (a := r9.length) (b := 0) ky ky false (decide_eq_false (by omega))) (zv (.bool false) (zv (.bool false) (wl_load h73 0 rfl ky ky Try.underlying27 rfl ky (zl (.bool false) h73 enter107 _ (mayX_any (mkB u dv sg dh pi pr ps oi on) hx) (fun w74 h75 => (zv (.bool true) (zv (.bool true) (wl_nil (then_at rfl (wp_cond_true ky (wp_seq (wl_region (zv (.agg (buC bu0)) (wl_fill (c' := buC bu0) h75 5 rfl ky ky ky rfl ky ky (fun w76 h77 => (zv (iN .i64 4) ?_)))))))))))))))))))))))))))))
  refine wl_nil (then_at rfl (wp_ret ?_))
  repeat first|refine tr ?_|refine block_ret ?_
  exact bodyPost_ret (v := .tuple #[.agg (buC bu0), iN .i64 4]) (res_cell_tmp (p := 2) (r := 3) ky ky ky (h77.get 5 rfl) Try.underlying27 rfl ky) rfl ⟨rfl, h77.old.old⟩
set_option maxHeartbeats 2000000 in
theorem db_3 {w : World} (s : ByteArray) (hs : s.size ≤ 140737488351232) {u dv pi oi : Nat} {sg dh pr ps on : ByteArray} {r1 r2 r3 r4 r5 r6 r7 r8 r9 : List UInt8} (i1 : Rs.nxn 1 (bl s) = (u, true, r1)) (i2 : Rs.nxn 1 r1 = (dv, true, r2)) (i3 : Rs.nxt 16384 r2 = (sg, true, r3)) (i4 : Rs.nxt 16384 r3 = (dh, true, r4)) (i5 : Rs.nxn 4 r4 = (pi, true, r5)) (i6 : Rs.nxt 16384 r5 = (pr, true, r6)) (i7 : Rs.nxt 16384 r6 = (ps, true, r7)) (i8 : Rs.nxn 4 r7 = (oi, true, r8)) (i9 : Rs.nxt 16384 r8 = (on, true, r9)) (hl : r9.length = 0) (hx : mayX (mkB u dv sg dh pi pr ps oi on) = true) :
    Calls Try.prog 89 #[.string s] w fun e w' => e = .returned (.tuple #[.agg (buC (mkB u dv sg dh pi pr ps oi on)), iN .i64 0]) ∧ Below w.heap.size w w' := by
  have H0 := HA.start w
  go_enter Try.func89, Try.ntmps89
  refine wp_seq (wl_region (wl_make (c := #[iN .i64 0, iN .i64 0, .string ({ data := #[] }), .string ({ data := #[] }), iN .i64 0, .string ({ data := #[] }), .string ({ data := #[] }), iN .i64 0, .string ({ data := #[] })]) H0 27 ky ky ?_))
  intro q1 w2 (h3 : HA (bs w) [(q1, 27, #[iN .i64 0, iN .i64 0, .string ({ data := #[] }), .string ({ data := #[] }), iN .i64 0, .string ({ data := #[] }), .string ({ data := #[] }), iN .i64 0, .string ({ data := #[] })])] w2)
  refine zv (iN .i64 0) (wl_nil (then_at rfl (wp_seq (wl_region (zv (.string s) ?_)))))
  refine wl_callx ky enter83 _ ky (Rs.New_h h3 s hs) ?_
  rintro _ w10 ⟨b4, d5, cur6, v7, rfl, hS8, h9⟩
  refine ⟨_, rfl, ?_⟩
  have h11 := h9
  refine wl_make (c := #[.pointer none]) h11 111 ky ky ?_
  intro q12 w13 (h14 : HA (bs w) [(q12, 111, #[.pointer none]), (b4, 123, #[.bool true, v7]), (d5, 5, bc cur6), (q1, 27, #[iN .i64 0, iN .i64 0, .string ({ data := #[] }), .string ({ data := #[] }), iN .i64 0, .string ({ data := #[] }), .string ({ data := #[] }), iN .i64 0, .string ({ data := #[] })])] w13)
  refine wl_make (c := #[.bool false]) h14 4 ky ky ?_
  intro q15 w16 (h17 : HA (bs w) [(q15, 4, #[.bool false]), (q12, 111, #[.pointer none]), (b4, 123, #[.bool true, v7]), (d5, 5, bc cur6), (q1, 27, #[iN .i64 0, iN .i64 0, .string ({ data := #[] }), .string ({ data := #[] }), iN .i64 0, .string ({ data := #[] }), .string ({ data := #[] }), iN .i64 0, .string ({ data := #[] })])] w16)
  refine wl_putv (v := .pointer (some ⟨b4, 0, none⟩)) h17 1 rfl 0 (by show 0 < 1; decide) ky (fun w => Try.sizeOf111 w) ky ky ky (fun w18 h19 => (wl_putv (v := .bool true) h19 0 rfl 0 (by show 0 < 1; decide) ky (fun w => Try.sizeOf4 w) ky ky ky (fun w20 h21 => (wl_nil (then_at rfl (wp_seq (wl_region (zv (.func (.func 104) #[] #[.pointer (some ⟨q12, 0, none⟩), .pointer (some ⟨q15, 0, none⟩)]) (zv (.func (.func 104) #[] #[.pointer (some ⟨q12, 0, none⟩), .pointer (some ⟨q15, 0, none⟩)]) (wl_nil (then_at rfl (wp_seq (wl_region (zv (.func (.func 105) #[] #[.pointer (some ⟨q12, 0, none⟩), .pointer (some ⟨q15, 0, none⟩)]) (zv (.func (.func 105) #[] #[.pointer (some ⟨q12, 0, none⟩), .pointer (some ⟨q15, 0, none⟩)]) (wl_nil (then_at rfl (wp_seq (wl_region (zv (.func (.func 104) #[] #[.pointer (some ⟨q12, 0, none⟩), .pointer (some ⟨q15, 0, none⟩)]) ?_))))))))))))))))))))
  refine wl_callvx (cap := #[.pointer (some ⟨q12, 0, none⟩), .pointer (some ⟨q15, 0, none⟩)]) (args := #[iN .i64 1, .pointer (some ⟨q12, 0, none⟩), .pointer (some ⟨q15, 0, none⟩)]) ky enter104 ky ky (tn_any hS8 (HA.perm h21 (List.Perm.swap _ _ _)) (by decide) (by decide) (Rs.nxn_lt (by decide) i1) i1) ?_
  rintro _ w25 ⟨rfl, v22, hS24, h23⟩
  refine ⟨_, rfl, ?_⟩
  have h26 := h23
  refine zv (.func (.func 104) #[] #[.pointer (some ⟨q12, 0, none⟩), .pointer (some ⟨q15, 0, none⟩)]) ?_
  refine wl_callvx (cap := #[.pointer (some ⟨q12, 0, none⟩), .pointer (some ⟨q15, 0, none⟩)]) (args := #[iN .i64 1, .pointer (some ⟨q12, 0, none⟩), .pointer (some ⟨q15, 0, none⟩)]) ky enter104 ky ky (tn_any hS24 h26 (by decide) (by decide) (Rs.nxn_lt (by decide) i2) i2) ?_
  rintro _ w30 ⟨rfl, v27, hS29, h28⟩
  refine ⟨_, rfl, ?_⟩
  have h31 := h28
  refine zv (.func (.func 105) #[] #[.pointer (some ⟨q12, 0, none⟩), .pointer (some ⟨q15, 0, none⟩)]) ?_
  refine wl_callvx (cap := #[.pointer (some ⟨q12, 0, none⟩), .pointer (some ⟨q15, 0, none⟩)]) (args := #[.pointer (some ⟨q12, 0, none⟩), .pointer (some ⟨q15, 0, none⟩)]) ky enter105 ky ky (tt_any hS29 h31 i3) ?_
  rintro _ w35 ⟨rfl, v32, hS34, h33⟩
  refine ⟨_, rfl, ?_⟩
  have h36 := h33
  refine zv (.func (.func 105) #[] #[.pointer (some ⟨q12, 0, none⟩), .pointer (some ⟨q15, 0, none⟩)]) ?_
  refine wl_callvx (cap := #[.pointer (some ⟨q12, 0, none⟩), .pointer (some ⟨q15, 0, none⟩)]) (args := #[.pointer (some ⟨q12, 0, none⟩), .pointer (some ⟨q15, 0, none⟩)]) ky enter105 ky ky (tt_any hS34 h36 i4) ?_
  rintro _ w40 ⟨rfl, v37, hS39, h38⟩
  refine ⟨_, rfl, ?_⟩
  have h41 := h38
  refine zv (.func (.func 104) #[] #[.pointer (some ⟨q12, 0, none⟩), .pointer (some ⟨q15, 0, none⟩)]) ?_
  refine wl_callvx (cap := #[.pointer (some ⟨q12, 0, none⟩), .pointer (some ⟨q15, 0, none⟩)]) (args := #[iN .i64 4, .pointer (some ⟨q12, 0, none⟩), .pointer (some ⟨q15, 0, none⟩)]) ky enter104 ky ky (tn_any hS39 h41 (by decide) (by decide) (Rs.nxn_lt (by decide) i5) i5) ?_
  rintro _ w45 ⟨rfl, v42, hS44, h43⟩
  refine ⟨_, rfl, ?_⟩
  have h46 := h43
  refine zv (.func (.func 105) #[] #[.pointer (some ⟨q12, 0, none⟩), .pointer (some ⟨q15, 0, none⟩)]) ?_
  refine wl_callvx (cap := #[.pointer (some ⟨q12, 0, none⟩), .pointer (some ⟨q15, 0, none⟩)]) (args := #[.pointer (some ⟨q12, 0, none⟩), .pointer (some ⟨q15, 0, none⟩)]) ky enter105 ky ky (tt_any hS44 h46 i6) ?_
  rintro _ w50 ⟨rfl, v47, hS49, h48⟩
  refine ⟨_, rfl, ?_⟩
  have h51 := h48
  refine zv (.func (.func 105) #[] #[.pointer (some ⟨q12, 0, none⟩), .pointer (some ⟨q15, 0, none⟩)]) ?_
  refine wl_callvx (cap := #[.pointer (some ⟨q12, 0, none⟩), .pointer (some ⟨q15, 0, none⟩)]) (args := #[.pointer (some ⟨q12, 0, none⟩), .pointer (some ⟨q15, 0, none⟩)]) ky enter105 ky ky (tt_any hS49 h51 i7) ?_
  rintro _ w55 ⟨rfl, v52, hS54, h53⟩
  refine ⟨_, rfl, ?_⟩
  have h56 := h53
  refine zv (.func (.func 104) #[] #[.pointer (some ⟨q12, 0, none⟩), .pointer (some ⟨q15, 0, none⟩)]) ?_
  refine wl_callvx (cap := #[.pointer (some ⟨q12, 0, none⟩), .pointer (some ⟨q15, 0, none⟩)]) (args := #[iN .i64 4, .pointer (some ⟨q12, 0, none⟩), .pointer (some ⟨q15, 0, none⟩)]) ky enter104 ky ky (tn_any hS54 h56 (by decide) (by decide) (Rs.nxn_lt (by decide) i8) i8) ?_
  rintro _ w60 ⟨rfl, v57, hS59, h58⟩
  refine ⟨_, rfl, ?_⟩
  have h61 := h58
  refine zv (.func (.func 105) #[] #[.pointer (some ⟨q12, 0, none⟩), .pointer (some ⟨q15, 0, none⟩)]) ?_
  refine wl_callvx (cap := #[.pointer (some ⟨q12, 0, none⟩), .pointer (some ⟨q15, 0, none⟩)]) (args := #[.pointer (some ⟨q12, 0, none⟩), .pointer (some ⟨q15, 0, none⟩)]) ky enter105 ky ky (tt_any hS59 h61 i9) ?_
  rintro _ w65 ⟨rfl, v62, hS64, h63⟩
  refine ⟨_, rfl, ?_⟩
  have h66 := h63
  refine zv (.agg (buC (mkB u dv sg dh pi pr ps oi on))) (wl_make (c := #[iN .i64 0, iN .i64 0, .string ({ data := #[] }), .string ({ data := #[] }), iN .i64 0, .string ({ data := #[] }), .string ({ data := #[] }), iN .i64 0, .string ({ data := #[] })]) h66 27 ky ky ?_)
  intro q67 w68 (h69 : HA (bs w) [(q67, 27, #[iN .i64 0, iN .i64 0, .string ({ data := #[] }), .string ({ data := #[] }), iN .i64 0, .string ({ data := #[] }), .string ({ data := #[] }), iN .i64 0, .string ({ data := #[] })]), (q12, 111, #[pt b4]), (q15, 4, #[.bool true]), (b4, 123, #[.bool true, v62]), (d5, 5, bc cur6), (q1, 27, #[iN .i64 0, iN .i64 0, .string ({ data := #[] }), .string ({ data := #[] }), iN .i64 0, .string ({ data := #[] }), .string ({ data := #[] }), iN .i64 0, .string ({ data := #[] })])] w68)
  refine wl_fill (c' := buC (mkB u dv sg dh pi pr ps oi on)) h69 0 rfl ky ky ky rfl ky ky (fun w70 h71 => (wl_nil (then_at rfl (wp_seq (wp_seq (wl_region (zu (.bool true) (run_load1 (fun w => Try.isAgg4 w) ky (((h71.get 2 rfl).cell 0).trans rfl)) (zv (.bool false) (zv (.bool false) (zu (.pointer (some ⟨b4, 0, none⟩)) (run_load1 (fun w => Try.isAgg111 w) ky (((h71.get 1 rfl).cell 0).trans rfl)) (zl (iN .i64 r9.length) h71 enter106 #[.pointer (some ⟨b4, 0, none⟩)] (Rs.Left_h hS64 (HA.perm h71 (List.Perm.trans (List.Perm.cons _ (List.Perm.cons _ (List.Perm.swap _ _ _))) (List.Perm.trans (List.Perm.cons _ (List.Perm.swap _ _ _)) (List.Perm.trans (List.Perm.swap _ _ _) (List.Perm.trans (List.Perm.cons _ (List.Perm.cons _ (List.Perm.cons _ (List.Perm.swap _ _ _)))) (List.Perm.trans (List.Perm.cons _ (List.Perm.cons _ (List.Perm.swap _ _ _))) (List.Perm.cons _ (List.Perm.swap _ _ _))))))))) (fun w72 h73 => (zu (.bool false) (run_nei (k := .i64) (a := r9.length) (b := 0) ky ky false (decide_eq_false (by omega))) (zv (.bool false) (zv (.bool false) (wl_load h73 0 rfl ky ky Try.underlying27 rfl ky (zl (.bool true) h73 enter107 _ (mayX_any (mkB u dv sg dh pi pr ps oi on) hx) (fun w74 h75 => (zv (.bool false) (zv (.bool false) (wl_nil (then_at rfl (wp_cond_false ky (wp_skip (then_at rfl (wp_seq (wl_region (wl_load h75 0 rfl ky ky Try.underlying27 rfl ky (wl_fill (c' := buC (mkB u dv sg dh pi pr ps oi on)) h75 5 rfl ky ky ky rfl ky ky (fun w76 h77 => (zv (iN .i64 0) ?_)))))))))))))))))))))))))))))))
  refine wl_nil (then_at rfl (wp_ret ?_))
  repeat first|refine tr ?_|refine block_ret ?_
  exact bodyPost_ret (v := .tuple #[.agg (buC (mkB u dv sg dh pi pr ps oi on)), iN .i64 0]) (res_cell_tmp (p := 2) (r := 3) ky ky ky (h77.get 5 rfl) Try.underlying27 rfl ky) rfl ⟨rfl, h77.old.old⟩
/-- all that a bundle's reader takes: the bundle, is all there, what is left -/
def rdB (bs : List UInt8) : Bu × Bool × List UInt8 :=
  let a1 := nxn 1 bs
  let a2 := nxn 1 a1.2.2
  let a3 := nxt 16384 a2.2.2
  let a4 := nxt 16384 a3.2.2
  let a5 := nxn 4 a4.2.2
  let a6 := nxt 16384 a5.2.2
  let a7 := nxt 16384 a6.2.2
  let a8 := nxn 4 a7.2.2
  let a9 := nxt 16384 a8.2.2
  (mkB a1.1 a2.1 a3.1 a4.1 a5.1 a6.1 a7.1 a8.1 a9.1, (true && a1.2.1 && a2.2.1 && a3.2.1 && a4.2.1 && a5.2.1 && a6.2.1 && a7.2.1 && a8.2.1 && a9.2.1), a9.2.2)
/-- what DecodeBundle answers -/
def decA (s : ByteArray) : Bu × Nat := if (rdB (bl s)).2.1 = true ∧ (rdB (bl s)).2.2.length = 0 ∧ mayX (rdB (bl s)).1 = true then ((rdB (bl s)).1, 0) else (bu0, 4)
theorem dec_any {w : World} (s : ByteArray) (hs : s.size ≤ 140737488351232) :
    Calls Try.prog 89 #[.string s] w fun e w' => e = .returned (.tuple #[.agg (buC (decA s).1), iN .i64 (decA s).2]) ∧ Below w.heap.size w w' := by
  obtain ⟨x1, o1, r1, i1⟩ : ∃ x o r, nxn 1 (bl s) = (x, o, r) := ⟨_, _, _, rfl⟩
  obtain ⟨x2, o2, r2, i2⟩ : ∃ x o r, nxn 1 r1 = (x, o, r) := ⟨_, _, _, rfl⟩
  obtain ⟨x3, o3, r3, i3⟩ : ∃ x o r, nxt 16384 r2 = (x, o, r) := ⟨_, _, _, rfl⟩
  obtain ⟨x4, o4, r4, i4⟩ : ∃ x o r, nxt 16384 r3 = (x, o, r) := ⟨_, _, _, rfl⟩
  obtain ⟨x5, o5, r5, i5⟩ : ∃ x o r, nxn 4 r4 = (x, o, r) := ⟨_, _, _, rfl⟩
  obtain ⟨x6, o6, r6, i6⟩ : ∃ x o r, nxt 16384 r5 = (x, o, r) := ⟨_, _, _, rfl⟩
  obtain ⟨x7, o7, r7, i7⟩ : ∃ x o r, nxt 16384 r6 = (x, o, r) := ⟨_, _, _, rfl⟩
  obtain ⟨x8, o8, r8, i8⟩ : ∃ x o r, nxn 4 r7 = (x, o, r) := ⟨_, _, _, rfl⟩
  obtain ⟨x9, o9, r9, i9⟩ : ∃ x o r, nxt 16384 r8 = (x, o, r) := ⟨_, _, _, rfl⟩
  have e : rdB (bl s) = (mkB x1 x2 x3 x4 x5 x6 x7 x8 x9, (((((((((true && o1) && o2) && o3) && o4) && o5) && o6) && o7) && o8) && o9), r9) := by
    unfold rdB
    simp only [i1, i2, i3, i4, i5, i6, i7, i8, i9]
  unfold decA
  rw [e]
  simp only []
  by_cases hO : (((((((((true && o1) && o2) && o3) && o4) && o5) && o6) && o7) && o8) && o9) = true
  · by_cases hl : r9.length = 0
    · rcases hx : mayX (mkB x1 x2 x3 x4 x5 x6 x7 x8 x9) with _ | _
      · rw [if_neg (by simp)]
        simp only [Bool.and_eq_true] at hO
        obtain ⟨⟨⟨⟨⟨⟨⟨⟨⟨-, rfl⟩, rfl⟩, rfl⟩, rfl⟩, rfl⟩, rfl⟩, rfl⟩, rfl⟩, rfl⟩ := hO
        exact db_2 s hs i1 i2 i3 i4 i5 i6 i7 i8 i9 hl hx
      · rw [if_pos ⟨hO, hl, rfl⟩]
        simp only [Bool.and_eq_true] at hO
        obtain ⟨⟨⟨⟨⟨⟨⟨⟨⟨-, rfl⟩, rfl⟩, rfl⟩, rfl⟩, rfl⟩, rfl⟩, rfl⟩, rfl⟩, rfl⟩ := hO
        exact db_3 s hs i1 i2 i3 i4 i5 i6 i7 i8 i9 hl hx
    · rw [if_neg (fun h => hl h.2.1)]
      simp only [Bool.and_eq_true] at hO
      obtain ⟨⟨⟨⟨⟨⟨⟨⟨⟨-, rfl⟩, rfl⟩, rfl⟩, rfl⟩, rfl⟩, rfl⟩, rfl⟩, rfl⟩, rfl⟩ := hO
      exact db_1 s hs i1 i2 i3 i4 i5 i6 i7 i8 i9 hl
  · rw [if_neg (fun h => hO h.1)]
    exact db_0 s hs i1 i2 i3 i4 i5 i6 i7 i8 i9 (Bool.eq_false_iff.2 hO)
end Go.Proofs.Ytiogegoepgkjlaa
