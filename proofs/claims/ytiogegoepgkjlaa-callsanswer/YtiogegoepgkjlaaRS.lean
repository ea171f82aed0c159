/-
  The reader of wire, held.
-/
import Derived.Test.YtiogegoepgkjlaaWA
import Derived.Test.YtiogegoepgkjlaaGD
namespace Go.Proofs.Ytiogegoepgkjlaa.Rs
open Go.RowKit

/-- what is left of a reader's bytes -/
def RdS (d : Nat) (cur : List UInt8) (v : Value) (bs : List UInt8) : Prop := ∃ o cap, v = .slice (some ⟨d, o, none⟩) bs.length cap ∧ bs.length ≤ cap ∧ bs.length ≤ 140737488351232 ∧ o + bs.length ≤ cur.length ∧ (cur.drop o).take bs.length = bs
theorem RdS.rd {d b : Nat} {cur : List UInt8} {v : Value} {bs : List UInt8} {w : World} (h : RdS d cur v bs) (hb : Blk w b 123 #[.bool true, v]) (hd : Blk w d 5 (bc cur)) : ∃ o cap, v = .slice (some ⟨d, o, none⟩) bs.length cap ∧ Wi.Rd w b d o cap bs := by
  obtain ⟨o, cap, rfl, h1, h2, h3, h4⟩ := h
  refine ⟨o, cap, rfl, ⟨hb.cell 0, hb.cell 1, hb.free 1 (by simp), h1, h2, fun i hi => ?_⟩⟩
  rw [hd.cell (o + i)]
  have e : ((cur.drop o).take bs.length)[i]? = bs[i]? := by rw [h4]
  rw [List.getElem?_take_of_lt hi, List.getElem?_drop, List.getElem?_eq_getElem hi] at e
  simp only [bc, List.getElem?_toArray, List.getElem?_map, e]
  rfl
theorem RdS.drop {d : Nat} {cur : List UInt8} {o cap n : Nat} {bs : List UInt8} (h1 : bs.length ≤ cap) (h2 : bs.length ≤ 140737488351232) (h3 : o + bs.length ≤ cur.length) (h4 : (cur.drop o).take bs.length = bs) (hn : n ≤ bs.length) :
    RdS d cur (.slice (some (if cap = n then ⟨d, o, none⟩ else ⟨d, o + n, none⟩)) (bs.length - n) (cap - n)) (bs.drop n) := by
  have hl : (bs.drop n).length = bs.length - n := List.length_drop ..
  by_cases hc : cap = n
  · have e : bs.drop n = [] := List.eq_nil_of_length_eq_zero (by omega)
    rw [if_pos hc]
    exact ⟨o, cap - n, by rw [hl], by rw [e]; simp, by rw [e]; simp, by rw [e]; simp; omega, by rw [e]; simp⟩
  · rw [if_neg hc]
    refine ⟨o + n, cap - n, by rw [hl], by omega, by omega, by omega, ?_⟩
    conv => rhs; rw [← h4]
    rw [hl, List.drop_take, List.drop_drop]
theorem toBelow {P : Program} {f : FuncId} {args : Array Value} {w : World} {E : Ending} (h : Calls P f args w fun e w' => e = E ∧ w' = w) : Calls P f args w fun e w' => e = E ∧ Below w.heap.size w w' := h.mono fun _ _ h => ⟨h.1, by rw [h.2]; exact Below.refl _ _⟩
set_option linter.unusedVariables false in
set_option maxRecDepth 100000 in
set_option maxHeartbeats 2000000 in
theorem Number_yes {z : Base} {L : BL} {w : World} {b d : Nat} {cur : List UInt8} {v : Value} {bs : List UInt8} (hS : RdS d cur v bs) (H0 : HA z ((b, 123, #[.bool true, v]) :: (d, 5, bc cur) :: L) w) (m : Nat) (h1 : 1 ≤ m) (h8 : m ≤ 8) (hw : m ≤ bs.length) :
    Calls Try.prog 85 #[pt b, iN .i64 m] w fun e w' => e = .returned (.tuple #[iN .u64 (Wi.val (bs.take m)), .bool true]) ∧ ∃ v', RdS d cur v' (bs.drop m) ∧ HA z ((b, 123, #[.bool true, v']) :: (d, 5, bc cur) :: L) w' := by
  obtain ⟨o, cap, hv, k1, k2, k3, k4⟩ := hS
  subst hv
  have hrd : ∀ w', HA z ((b, 123, #[.bool true, .slice (some ⟨d, o, none⟩) bs.length cap]) :: (d, 5, bc cur) :: L) w' → Wi.Rd w' b d o cap bs := fun w' h => by
    obtain ⟨o2, cap2, e, hr⟩ := RdS.rd ⟨o, cap, rfl, k1, k2, k3, k4⟩ (h.get 0 rfl) (h.get 1 rfl)
    cases e
    exact hr
  go_enter Try.func85, Try.ntmps85
  refine wp_seq (wl_region (zv (iN .u64 0) (zv (.bool false) (wl_nil ?_))))
  refine then_at (F := ⟨(pt b :: iN .i64 m :: un :: un :: iN .u64 0 :: .bool false :: List.replicate 15 un).toArray, []⟩) ky ?_
  refine wp_seq (wl_region (zv (.pointer (some ⟨b, 0, none⟩)) (zl (.func (Fn.func 110) #[pt b] #[]) H0 enter101 _ (toBelow (Wi.look_any w (pt b))) (fun w1 h2 => (zv (iN .i64 m) (zl (.tuple #[iN .u64 (Wi.val (bs.take m)), .bool true]) h2 enter100 #[.func (Fn.func 110) #[pt b] #[], iN .i64 m] (toBelow (Wi.number_ok w1 b d o cap m bs (hrd _ h2) h1 h8 hw)) (fun w3 h4 => (zv (.tuple #[iN .u64 (Wi.val (bs.take m)), .bool true]) (zv (iN .u64 (Wi.val (bs.take m))) (zv (.bool true) (zv (iN .u64 (Wi.val (bs.take m))) (zv (.bool true) (wl_nil ?_)))))))))))))
  refine then_at (F := ⟨(pt b :: iN .i64 m :: un :: un :: iN .u64 0 :: .bool false :: iN .u64 (Wi.val (bs.take m)) :: .bool true :: .tuple #[iN .u64 (Wi.val (bs.take m)), .bool true] :: pt b :: .func (Fn.func 110) #[pt b] #[] :: iN .i64 m :: .tuple #[iN .u64 (Wi.val (bs.take m)), .bool true] :: iN .u64 (Wi.val (bs.take m)) :: .bool true :: List.replicate 6 un).toArray, []⟩) ky ?_
  refine wp_seq (wp_seq (wl_region (zv (.bool true) (wl_nil ?_))))
  refine then_at (F := ⟨(pt b :: iN .i64 m :: un :: un :: iN .u64 0 :: .bool false :: iN .u64 (Wi.val (bs.take m)) :: .bool true :: .tuple #[iN .u64 (Wi.val (bs.take m)), .bool true] :: pt b :: .func (Fn.func 110) #[pt b] #[] :: iN .i64 m :: .tuple #[iN .u64 (Wi.val (bs.take m)), .bool true] :: iN .u64 (Wi.val (bs.take m)) :: .bool true :: .bool true :: List.replicate 5 un).toArray, []⟩) ky ?_
  refine wp_cond_true ky (wl_region (zv (.pointer (some ⟨b, 0, none⟩)) (zv (iN .i64 m) ?_)))
  refine wl_callx ky enter102 #[.pointer (some ⟨b, 0, none⟩), iN .i64 m] ky (by have h9 := Wi.drop_ok w3 b d o bs.length cap (m) ((hrd _ h4).left) ((hrd _ h4).free) (hw); exact h9) ?_
  rintro _ w5 ⟨rfl, rfl⟩
  refine ⟨_, rfl, ?_⟩
  have h6 := HA.put h4 0 rfl 1 (.slice (some (if cap = m then ⟨d, o, none⟩ else ⟨d, o + m, none⟩)) (bs.length - m) (cap - m))
  refine wl_nil ?_
  refine then_at (F := ⟨(pt b :: iN .i64 m :: un :: un :: iN .u64 0 :: .bool false :: iN .u64 (Wi.val (bs.take m)) :: .bool true :: .tuple #[iN .u64 (Wi.val (bs.take m)), .bool true] :: pt b :: .func (Fn.func 110) #[pt b] #[] :: iN .i64 m :: .tuple #[iN .u64 (Wi.val (bs.take m)), .bool true] :: iN .u64 (Wi.val (bs.take m)) :: .bool true :: .bool true :: pt b :: iN .i64 m :: .tuple #[] :: List.replicate 2 un).toArray, []⟩) ky ?_
  refine wp_seq (wl_region (zv (iN .u64 (Wi.val (bs.take m))) (zv (.bool true) (zv (iN .u64 (Wi.val (bs.take m))) (zv (.bool true) (wl_nil ?_))))))
  refine then_at (F := ⟨(pt b :: iN .i64 m :: un :: un :: iN .u64 (Wi.val (bs.take m)) :: .bool true :: iN .u64 (Wi.val (bs.take m)) :: .bool true :: .tuple #[iN .u64 (Wi.val (bs.take m)), .bool true] :: pt b :: .func (Fn.func 110) #[pt b] #[] :: iN .i64 m :: .tuple #[iN .u64 (Wi.val (bs.take m)), .bool true] :: iN .u64 (Wi.val (bs.take m)) :: .bool true :: .bool true :: pt b :: iN .i64 m :: .tuple #[] :: iN .u64 (Wi.val (bs.take m)) :: .bool true :: List.replicate 0 un).toArray, []⟩) ky ?_
  refine wp_ret ?_
  repeat first|refine tr ?_|refine block_ret ?_
  exact bodyPost_ret (v := .tuple #[iN .u64 (Wi.val (bs.take m)), .bool true]) ky rfl ⟨rfl, _, RdS.drop k1 k2 k3 k4 hw, h6⟩
set_option linter.unusedVariables false in
set_option maxRecDepth 100000 in
set_option maxHeartbeats 2000000 in
theorem Number_no {z : Base} {L : BL} {w : World} {b d : Nat} {cur : List UInt8} {v : Value} {bs : List UInt8} (hS : RdS d cur v bs) (H0 : HA z ((b, 123, #[.bool true, v]) :: (d, 5, bc cur) :: L) w) (m : Nat) (h1 : 1 ≤ m) (h8 : m ≤ 8) (hw : bs.length < m) :
    Calls Try.prog 85 #[pt b, iN .i64 m] w fun e w' => e = .returned (.tuple #[iN .u64 0, .bool false]) ∧ HA z ((b, 123, #[.bool true, v]) :: (d, 5, bc cur) :: L) w' := by
  obtain ⟨o, cap, hv, k1, k2, k3, k4⟩ := hS
  subst hv
  have hrd : ∀ w', HA z ((b, 123, #[.bool true, .slice (some ⟨d, o, none⟩) bs.length cap]) :: (d, 5, bc cur) :: L) w' → Wi.Rd w' b d o cap bs := fun w' h => by
    obtain ⟨o2, cap2, e, hr⟩ := RdS.rd ⟨o, cap, rfl, k1, k2, k3, k4⟩ (h.get 0 rfl) (h.get 1 rfl)
    cases e
    exact hr
  go_enter Try.func85, Try.ntmps85
  refine wp_seq (wl_region (zv (iN .u64 0) (zv (.bool false) (wl_nil ?_))))
  refine then_at (F := ⟨(pt b :: iN .i64 m :: un :: un :: iN .u64 0 :: .bool false :: List.replicate 15 un).toArray, []⟩) ky ?_
  refine wp_seq (wl_region (zv (.pointer (some ⟨b, 0, none⟩)) (zl (.func (Fn.func 110) #[pt b] #[]) H0 enter101 _ (toBelow (Wi.look_any w (pt b))) (fun w1 h2 => (zv (iN .i64 m) (zl (.tuple #[iN .u64 0, .bool false]) h2 enter100 #[.func (Fn.func 110) #[pt b] #[], iN .i64 m] (toBelow (Wi.number_short w1 b d o cap m bs (hrd _ h2) h1 h8 hw)) (fun w3 h4 => (zv (.tuple #[iN .u64 0, .bool false]) (zv (iN .u64 0) (zv (.bool false) (zv (iN .u64 0) (zv (.bool false) (wl_nil ?_)))))))))))))
  refine then_at (F := ⟨(pt b :: iN .i64 m :: un :: un :: iN .u64 0 :: .bool false :: iN .u64 0 :: .bool false :: .tuple #[iN .u64 0, .bool false] :: pt b :: .func (Fn.func 110) #[pt b] #[] :: iN .i64 m :: .tuple #[iN .u64 0, .bool false] :: iN .u64 0 :: .bool false :: List.replicate 6 un).toArray, []⟩) ky ?_
  refine wp_seq (wp_seq (wl_region (zv (.bool false) (wl_nil ?_))))
  refine then_at (F := ⟨(pt b :: iN .i64 m :: un :: un :: iN .u64 0 :: .bool false :: iN .u64 0 :: .bool false :: .tuple #[iN .u64 0, .bool false] :: pt b :: .func (Fn.func 110) #[pt b] #[] :: iN .i64 m :: .tuple #[iN .u64 0, .bool false] :: iN .u64 0 :: .bool false :: .bool false :: List.replicate 5 un).toArray, []⟩) ky ?_
  refine wp_cond_false ky (wp_skip ?_)
  refine then_at (F := ⟨(pt b :: iN .i64 m :: un :: un :: iN .u64 0 :: .bool false :: iN .u64 0 :: .bool false :: .tuple #[iN .u64 0, .bool false] :: pt b :: .func (Fn.func 110) #[pt b] #[] :: iN .i64 m :: .tuple #[iN .u64 0, .bool false] :: iN .u64 0 :: .bool false :: .bool false :: List.replicate 5 un).toArray, []⟩) ky ?_
  refine wp_seq (wl_region (zv (iN .u64 0) (zv (.bool false) (zv (iN .u64 0) (zv (.bool false) (wl_nil ?_))))))
  refine then_at (F := ⟨(pt b :: iN .i64 m :: un :: un :: iN .u64 0 :: .bool false :: iN .u64 0 :: .bool false :: .tuple #[iN .u64 0, .bool false] :: pt b :: .func (Fn.func 110) #[pt b] #[] :: iN .i64 m :: .tuple #[iN .u64 0, .bool false] :: iN .u64 0 :: .bool false :: .bool false :: un :: un :: un :: iN .u64 0 :: .bool false :: List.replicate 0 un).toArray, []⟩) ky ?_
  refine wp_ret ?_
  repeat first|refine tr ?_|refine block_ret ?_
  exact bodyPost_ret (v := .tuple #[iN .u64 0, .bool false]) ky rfl ⟨rfl, h4⟩
theorem txt_size {bs : List UInt8} (hw : 4 + Wi.val (bs.take 4) ≤ bs.length) : (⟨(Wi.txt bs).toArray⟩ : ByteArray).size = Wi.val (bs.take 4) := by
  show (Wi.txt bs).toArray.size = _
  rw [List.size_toArray]
  unfold Wi.txt
  rw [List.length_take, List.length_drop]
  omega
set_option linter.unusedVariables false in
set_option maxRecDepth 100000 in
set_option maxHeartbeats 2000000 in
theorem Text_yes {z : Base} {L : BL} {w : World} {b d : Nat} {cur : List UInt8} {v : Value} {bs : List UInt8} (hS : RdS d cur v bs) (H0 : HA z ((b, 123, #[.bool true, v]) :: (d, 5, bc cur) :: L) w) (m : Nat) (hmm : m ≤ 9223372036854775807) (h4 : 4 ≤ bs.length) (hm : Wi.val (bs.take 4) ≤ m) (hw : 4 + Wi.val (bs.take 4) ≤ bs.length) :
    Calls Try.prog 88 #[pt b, iN .i64 m] w fun e w' => e = .returned (.tuple #[.string (⟨(Wi.txt bs).toArray⟩ : ByteArray), .bool true]) ∧ ∃ v', RdS d cur v' (bs.drop (4 + Wi.val (bs.take 4))) ∧ HA z ((b, 123, #[.bool true, v']) :: (d, 5, bc cur) :: L) w' := by
  obtain ⟨o, cap, hv, k1, k2, k3, k4⟩ := hS
  subst hv
  have hrd : ∀ w', HA z ((b, 123, #[.bool true, .slice (some ⟨d, o, none⟩) bs.length cap]) :: (d, 5, bc cur) :: L) w' → Wi.Rd w' b d o cap bs := fun w' h => by
    obtain ⟨o2, cap2, e, hr⟩ := RdS.rd ⟨o, cap, rfl, k1, k2, k3, k4⟩ (h.get 0 rfl) (h.get 1 rfl)
    cases e
    exact hr
  have hts := txt_size hw
  go_enter Try.func88, Try.ntmps88
  refine wp_seq (wl_region (zv (.string ({ data := #[] })) (zv (.bool false) (wl_nil ?_))))
  refine then_at (F := ⟨(pt b :: iN .i64 m :: un :: un :: .string ({ data := #[] }) :: .bool false :: List.replicate 17 un).toArray, []⟩) ky ?_
  refine wp_seq (wl_region (zv (.pointer (some ⟨b, 0, none⟩)) (zl (.func (Fn.func 110) #[pt b] #[]) H0 enter101 _ (toBelow (Wi.look_any w (pt b))) (fun w1 h2 => (zv (iN .i64 m) (zl (.tuple #[.string ((⟨(Wi.txt bs).toArray⟩ : ByteArray)), .bool true]) h2 enter103 #[.func (Fn.func 110) #[pt b] #[], iN .i64 m] (toBelow (Wi.text_yes w1 b d o cap m bs (hrd _ h2) h4 hm hw (by omega))) (fun w3 h4 => (zv (.tuple #[.string ((⟨(Wi.txt bs).toArray⟩ : ByteArray)), .bool true]) (zv (.string ((⟨(Wi.txt bs).toArray⟩ : ByteArray))) (zv (.bool true) (zv (.string ((⟨(Wi.txt bs).toArray⟩ : ByteArray))) (zv (.bool true) (wl_nil ?_)))))))))))))
  refine then_at (F := ⟨(pt b :: iN .i64 m :: un :: un :: .string ({ data := #[] }) :: .bool false :: .string ((⟨(Wi.txt bs).toArray⟩ : ByteArray)) :: .bool true :: .tuple #[.string ((⟨(Wi.txt bs).toArray⟩ : ByteArray)), .bool true] :: pt b :: .func (Fn.func 110) #[pt b] #[] :: iN .i64 m :: .tuple #[.string ((⟨(Wi.txt bs).toArray⟩ : ByteArray)), .bool true] :: .string ((⟨(Wi.txt bs).toArray⟩ : ByteArray)) :: .bool true :: List.replicate 8 un).toArray, []⟩) ky ?_
  refine wp_seq (wp_seq (wl_region (zv (.bool true) (wl_nil ?_))))
  refine then_at (F := ⟨(pt b :: iN .i64 m :: un :: un :: .string ({ data := #[] }) :: .bool false :: .string ((⟨(Wi.txt bs).toArray⟩ : ByteArray)) :: .bool true :: .tuple #[.string ((⟨(Wi.txt bs).toArray⟩ : ByteArray)), .bool true] :: pt b :: .func (Fn.func 110) #[pt b] #[] :: iN .i64 m :: .tuple #[.string ((⟨(Wi.txt bs).toArray⟩ : ByteArray)), .bool true] :: .string ((⟨(Wi.txt bs).toArray⟩ : ByteArray)) :: .bool true :: .bool true :: List.replicate 7 un).toArray, []⟩) ky ?_
  refine wp_cond_true ky (wl_region (zv (.pointer (some ⟨b, 0, none⟩)) (zv (.string ((⟨(Wi.txt bs).toArray⟩ : ByteArray))) (zu (iN .i64 (((⟨(Wi.txt bs).toArray⟩ : ByteArray)).size)) (run_len (s := (⟨(Wi.txt bs).toArray⟩ : ByteArray)) ky) (zu (iN .i64 (4 + (((⟨(Wi.txt bs).toArray⟩ : ByteArray)).size))) (run_add (k := .i64) (a := 4) (b := ((⟨(Wi.txt bs).toArray⟩ : ByteArray)).size) ky ky (by first | omega | (simp only [top]; omega))) ?_)))))
  refine wl_callx ky enter102 #[.pointer (some ⟨b, 0, none⟩), iN .i64 (4 + (((⟨(Wi.txt bs).toArray⟩ : ByteArray)).size))] ky (by have h9 := Wi.drop_ok w3 b d o bs.length cap ((4 + (((⟨(Wi.txt bs).toArray⟩ : ByteArray)).size))) ((hrd _ h4).left) ((hrd _ h4).free) (by rw [txt_size hw]; exact hw); exact h9) ?_
  rintro _ w5 ⟨rfl, rfl⟩
  refine ⟨_, rfl, ?_⟩
  have h6 := HA.put h4 0 rfl 1 (.slice (some (if cap = (4 + (((⟨(Wi.txt bs).toArray⟩ : ByteArray)).size)) then ⟨d, o, none⟩ else ⟨d, o + (4 + (((⟨(Wi.txt bs).toArray⟩ : ByteArray)).size)), none⟩)) (bs.length - (4 + (((⟨(Wi.txt bs).toArray⟩ : ByteArray)).size))) (cap - (4 + (((⟨(Wi.txt bs).toArray⟩ : ByteArray)).size))))
  refine wl_nil ?_
  refine then_at (F := ⟨(pt b :: iN .i64 m :: un :: un :: .string ({ data := #[] }) :: .bool false :: .string ((⟨(Wi.txt bs).toArray⟩ : ByteArray)) :: .bool true :: .tuple #[.string ((⟨(Wi.txt bs).toArray⟩ : ByteArray)), .bool true] :: pt b :: .func (Fn.func 110) #[pt b] #[] :: iN .i64 m :: .tuple #[.string ((⟨(Wi.txt bs).toArray⟩ : ByteArray)), .bool true] :: .string ((⟨(Wi.txt bs).toArray⟩ : ByteArray)) :: .bool true :: .bool true :: pt b :: .string ((⟨(Wi.txt bs).toArray⟩ : ByteArray)) :: iN .i64 (((⟨(Wi.txt bs).toArray⟩ : ByteArray)).size) :: iN .i64 (4 + (((⟨(Wi.txt bs).toArray⟩ : ByteArray)).size)) :: .tuple #[] :: List.replicate 2 un).toArray, []⟩) ky ?_
  refine wp_seq (wl_region (zv (.string ((⟨(Wi.txt bs).toArray⟩ : ByteArray))) (zv (.bool true) (zv (.string ((⟨(Wi.txt bs).toArray⟩ : ByteArray))) (zv (.bool true) (wl_nil ?_))))))
  refine then_at (F := ⟨(pt b :: iN .i64 m :: un :: un :: .string ((⟨(Wi.txt bs).toArray⟩ : ByteArray)) :: .bool true :: .string ((⟨(Wi.txt bs).toArray⟩ : ByteArray)) :: .bool true :: .tuple #[.string ((⟨(Wi.txt bs).toArray⟩ : ByteArray)), .bool true] :: pt b :: .func (Fn.func 110) #[pt b] #[] :: iN .i64 m :: .tuple #[.string ((⟨(Wi.txt bs).toArray⟩ : ByteArray)), .bool true] :: .string ((⟨(Wi.txt bs).toArray⟩ : ByteArray)) :: .bool true :: .bool true :: pt b :: .string ((⟨(Wi.txt bs).toArray⟩ : ByteArray)) :: iN .i64 (((⟨(Wi.txt bs).toArray⟩ : ByteArray)).size) :: iN .i64 (4 + (((⟨(Wi.txt bs).toArray⟩ : ByteArray)).size)) :: .tuple #[] :: .string ((⟨(Wi.txt bs).toArray⟩ : ByteArray)) :: .bool true :: List.replicate 0 un).toArray, []⟩) ky ?_
  refine wp_ret ?_
  repeat first|refine tr ?_|refine block_ret ?_
  exact bodyPost_ret (v := .tuple #[.string (⟨(Wi.txt bs).toArray⟩ : ByteArray), .bool true]) ky rfl ⟨rfl, .slice (some (if cap = (4 + (((⟨(Wi.txt bs).toArray⟩ : ByteArray)).size)) then ⟨d, o, none⟩ else ⟨d, o + (4 + (((⟨(Wi.txt bs).toArray⟩ : ByteArray)).size)), none⟩)) (bs.length - (4 + (((⟨(Wi.txt bs).toArray⟩ : ByteArray)).size))) (cap - (4 + (((⟨(Wi.txt bs).toArray⟩ : ByteArray)).size))), by rw [show bs.drop (4 + Wi.val (bs.take 4)) = bs.drop (4 + (⟨(Wi.txt bs).toArray⟩ : ByteArray).size) by rw [hts]]; exact RdS.drop k1 k2 k3 k4 (by rw [hts]; exact hw), h6⟩
set_option linter.unusedVariables false in
set_option maxRecDepth 100000 in
set_option maxHeartbeats 2000000 in
theorem Text_no {z : Base} {L : BL} {w : World} {b d : Nat} {cur : List UInt8} {v : Value} {bs : List UInt8} (hS : RdS d cur v bs) (H0 : HA z ((b, 123, #[.bool true, v]) :: (d, 5, bc cur) :: L) w) (m : Nat) (hmm : m ≤ 9223372036854775807) (hno : bs.length < 4 ∨ (m : Int) < 0 ∨ (m : Int) < Wi.val (bs.take 4) ∨ bs.length < 4 + Wi.val (bs.take 4)) :
    Calls Try.prog 88 #[pt b, iN .i64 m] w fun e w' => e = .returned (.tuple #[.string { data := #[] }, .bool false]) ∧ HA z ((b, 123, #[.bool true, v]) :: (d, 5, bc cur) :: L) w' := by
  obtain ⟨o, cap, hv, k1, k2, k3, k4⟩ := hS
  subst hv
  have hrd : ∀ w', HA z ((b, 123, #[.bool true, .slice (some ⟨d, o, none⟩) bs.length cap]) :: (d, 5, bc cur) :: L) w' → Wi.Rd w' b d o cap bs := fun w' h => by
    obtain ⟨o2, cap2, e, hr⟩ := RdS.rd ⟨o, cap, rfl, k1, k2, k3, k4⟩ (h.get 0 rfl) (h.get 1 rfl)
    cases e
    exact hr
  go_enter Try.func88, Try.ntmps88
  refine wp_seq (wl_region (zv (.string ({ data := #[] })) (zv (.bool false) (wl_nil ?_))))
  refine then_at (F := ⟨(pt b :: iN .i64 m :: un :: un :: .string ({ data := #[] }) :: .bool false :: List.replicate 17 un).toArray, []⟩) ky ?_
  refine wp_seq (wl_region (zv (.pointer (some ⟨b, 0, none⟩)) (zl (.func (Fn.func 110) #[pt b] #[]) H0 enter101 _ (toBelow (Wi.look_any w (pt b))) (fun w1 h2 => (zv (iN .i64 m) (zl (.tuple #[.string ({ data := #[] }), .bool false]) h2 enter103 #[.func (Fn.func 110) #[pt b] #[], iN .i64 m] (toBelow (Wi.text_no w1 b d o cap (m : Int) bs (hrd _ h2) (by omega) (by omega) hno)) (fun w3 h4 => (zv (.tuple #[.string ({ data := #[] }), .bool false]) (zv (.string ({ data := #[] })) (zv (.bool false) (zv (.string ({ data := #[] })) (zv (.bool false) (wl_nil ?_)))))))))))))
  refine then_at (F := ⟨(pt b :: iN .i64 m :: un :: un :: .string ({ data := #[] }) :: .bool false :: .string ({ data := #[] }) :: .bool false :: .tuple #[.string ({ data := #[] }), .bool false] :: pt b :: .func (Fn.func 110) #[pt b] #[] :: iN .i64 m :: .tuple #[.string ({ data := #[] }), .bool false] :: .string ({ data := #[] }) :: .bool false :: List.replicate 8 un).toArray, []⟩) ky ?_
  refine wp_seq (wp_seq (wl_region (zv (.bool false) (wl_nil ?_))))
  refine then_at (F := ⟨(pt b :: iN .i64 m :: un :: un :: .string ({ data := #[] }) :: .bool false :: .string ({ data := #[] }) :: .bool false :: .tuple #[.string ({ data := #[] }), .bool false] :: pt b :: .func (Fn.func 110) #[pt b] #[] :: iN .i64 m :: .tuple #[.string ({ data := #[] }), .bool false] :: .string ({ data := #[] }) :: .bool false :: .bool false :: List.replicate 7 un).toArray, []⟩) ky ?_
  refine wp_cond_false ky (wp_skip ?_)
  refine then_at (F := ⟨(pt b :: iN .i64 m :: un :: un :: .string ({ data := #[] }) :: .bool false :: .string ({ data := #[] }) :: .bool false :: .tuple #[.string ({ data := #[] }), .bool false] :: pt b :: .func (Fn.func 110) #[pt b] #[] :: iN .i64 m :: .tuple #[.string ({ data := #[] }), .bool false] :: .string ({ data := #[] }) :: .bool false :: .bool false :: List.replicate 7 un).toArray, []⟩) ky ?_
  refine wp_seq (wl_region (zv (.string ({ data := #[] })) (zv (.bool false) (zv (.string ({ data := #[] })) (zv (.bool false) (wl_nil ?_))))))
  refine then_at (F := ⟨(pt b :: iN .i64 m :: un :: un :: .string ({ data := #[] }) :: .bool false :: .string ({ data := #[] }) :: .bool false :: .tuple #[.string ({ data := #[] }), .bool false] :: pt b :: .func (Fn.func 110) #[pt b] #[] :: iN .i64 m :: .tuple #[.string ({ data := #[] }), .bool false] :: .string ({ data := #[] }) :: .bool false :: .bool false :: un :: un :: un :: un :: un :: .string ({ data := #[] }) :: .bool false :: List.replicate 0 un).toArray, []⟩) ky ?_
  refine wp_ret ?_
  repeat first|refine tr ?_|refine block_ret ?_
  exact bodyPost_ret (v := .tuple #[.string { data := #[] }, .bool false]) ky rfl ⟨rfl, h4⟩
section
variable {ops : Array Oper} {Q : Exit → Act → World → Prop} {a : Act} {rest : List Oper} {w : World} {z : Base} {L : BL} {dst : Option Tmp} {ty : TypeId} {pos : String} {aft : Array Edge} {gd : Option (Nat × Bool)} {x : Operand} {s : ByteArray}
set_option maxRecDepth 100000 in
theorem wl_bytes2 (H : HA z L w) (hw : Region.wanted ⟨dst, .convert 9 64 x, ty, pos, aft, gd⟩ (yielded ops a.tmps) = true) (hx : a.eval x = .string s)
    (h : ∀ q cp m w', s.size ≤ cp → HA z ((q, 5, bc (bl s ++ List.replicate m 0)) :: L) w' → WL Try.prog ops Q rest (a.put dst (.slice (some ⟨q, 0, none⟩) s.size cp)) w') : WL Try.prog ops Q (⟨dst, .convert 9 64 x, ty, pos, aft, gd⟩ :: rest) a w := by
  obtain ⟨m, hm⟩ := H.bytes s
  refine wl_any (v := .slice (some ⟨w.heap.size, 0, none⟩) s.size (grownCap w s.size 0 5)) hw ?_ (h _ _ _ _ (grownCap_ge w s.size 0 5) hm)
  simp only [execOp, hx, Sem.run_bind, Lib.run_convert_string_bytes w 9 64 5 s Try.underlying9 Try.underlying64 Try.underlying5, Result.andThen_ok, Sem.run_pure]
end
/-- the next text, the next number -/
def nxt (m : Nat) (bs : List UInt8) : ByteArray × Bool × List UInt8 := if 4 ≤ bs.length ∧ Wi.val (bs.take 4) ≤ m ∧ 4 + Wi.val (bs.take 4) ≤ bs.length then (⟨(Wi.txt bs).toArray⟩, true, bs.drop (4 + Wi.val (bs.take 4))) else ({ data := #[] }, false, bs)
def nxn (m : Nat) (bs : List UInt8) : Nat × Bool × List UInt8 := if m ≤ bs.length then (Wi.val (bs.take m), true, bs.drop m) else (0, false, bs)
set_option maxRecDepth 100000 in
theorem Text_any {z : Base} {L : BL} {w : World} {b d : Nat} {cur : List UInt8} {v : Value} {bs : List UInt8} (hS : RdS d cur v bs) (H : HA z ((b, 123, #[.bool true, v]) :: (d, 5, bc cur) :: L) w) (m : Nat) (hmm : m ≤ 9223372036854775807) :
    Calls Try.prog 88 #[pt b, iN .i64 m] w fun e w' => e = .returned (.tuple #[.string (nxt m bs).1, .bool (nxt m bs).2.1]) ∧ ∃ v', RdS d cur v' (nxt m bs).2.2 ∧ HA z ((b, 123, #[.bool true, v']) :: (d, 5, bc cur) :: L) w' := by
  by_cases h : 4 ≤ bs.length ∧ Wi.val (bs.take 4) ≤ m ∧ 4 + Wi.val (bs.take 4) ≤ bs.length
  · rw [nxt, if_pos h]
    exact Text_yes hS H m hmm h.1 h.2.1 h.2.2
  · rw [nxt, if_neg h]
    refine (Text_no hS H m hmm (by omega)).mono ?_
    rintro e w' ⟨rfl, h2⟩
    exact ⟨rfl, v, hS, h2⟩
set_option maxRecDepth 100000 in
theorem Number_any {z : Base} {L : BL} {w : World} {b d : Nat} {cur : List UInt8} {v : Value} {bs : List UInt8} (hS : RdS d cur v bs) (H : HA z ((b, 123, #[.bool true, v]) :: (d, 5, bc cur) :: L) w) (m : Nat) (h1 : 1 ≤ m) (h8 : m ≤ 8) :
    Calls Try.prog 85 #[pt b, iN .i64 m] w fun e w' => e = .returned (.tuple #[iN .u64 (nxn m bs).1, .bool (nxn m bs).2.1]) ∧ ∃ v', RdS d cur v' (nxn m bs).2.2 ∧ HA z ((b, 123, #[.bool true, v']) :: (d, 5, bc cur) :: L) w' := by
  by_cases h : m ≤ bs.length
  · rw [nxn, if_pos h]
    exact Number_yes hS H m h1 h8 h
  · rw [nxn, if_neg h]
    refine (Number_no hS H m h1 h8 (by omega)).mono ?_
    rintro e w' ⟨rfl, h2⟩
    exact ⟨rfl, v, hS, h2⟩
set_option linter.unusedVariables false in
set_option maxRecDepth 100000 in
set_option maxHeartbeats 2000000 in
theorem New_h {z : Base} {L : BL} {w : World} (H0 : HA z L w) (s : ByteArray) (hs : s.size ≤ 140737488351232) :
    Calls Try.prog 83 #[.string s] w fun e w' => ∃ b d cur v, e = .returned (pt b) ∧ RdS d cur v (bl s) ∧ HA z ((b, 123, #[.bool true, v]) :: (d, 5, bc cur) :: L) w' := by
  go_enter Try.func83, Try.ntmps83
  refine wp_seq (wl_region (zv (.pointer none) (wl_nil ?_)))
  refine then_at (F := ⟨(.string s :: un :: .pointer none :: List.replicate 4 un).toArray, []⟩) ky ?_
  refine wp_seq (wl_region (zv (.string s) ?_))
  refine wl_bytes2 (s := s) H0 ky ky ?_
  intro d cp m w1 hcp h2
  refine zv (.agg #[.bool true, .slice (some ⟨d, 0, none⟩) s.size cp]) (wl_make (c := #[.bool true, .slice (some ⟨d, 0, none⟩) s.size cp]) h2 123 ky ky ?_)
  intro q3 w4 (h5 : HA z ((q3, 123, #[.bool true, .slice (some ⟨d, 0, none⟩) s.size cp]) :: (d, 5, bc (bl s ++ List.replicate m 0)) :: L) w4)
  refine zv (.pointer (some ⟨q3, 0, none⟩)) (wl_nil ?_)
  refine then_at (F := ⟨(.string s :: un :: pt q3 :: .string s :: .slice (some ⟨d, 0, none⟩) s.size cp :: .agg #[.bool true, .slice (some ⟨d, 0, none⟩) s.size cp] :: pt q3 :: List.replicate 0 un).toArray, []⟩) ky ?_
  refine wp_ret ?_
  repeat first|refine tr ?_|refine block_ret ?_
  exact bodyPost_ret (v := pt q3) ky rfl ⟨q3, d, _, _, rfl, ⟨0, cp, by rw [bl_len], by rw [bl_len]; exact hcp, by rw [bl_len]; exact hs, by simp, by rw [List.drop_zero]; exact List.take_left⟩, h5⟩
set_option maxRecDepth 100000 in
theorem Left_h {z : Base} {L : BL} {w : World} {b d : Nat} {cur : List UInt8} {v : Value} {bs : List UInt8} (hS : RdS d cur v bs) (H : HA z ((b, 123, #[.bool true, v]) :: (d, 5, bc cur) :: L) w) : Calls Try.prog 106 #[pt b] w fun e w' => e = .returned (iN .i64 bs.length) ∧ Below w.heap.size w w' := by
  obtain ⟨o, cap, rfl, hr⟩ := hS.rd (H.get 0 rfl) (H.get 1 rfl)
  exact toBelow (Wi.Left_rd w b d o cap bs hr)
end Go.Proofs.Ytiogegoepgkjlaa.Rs
