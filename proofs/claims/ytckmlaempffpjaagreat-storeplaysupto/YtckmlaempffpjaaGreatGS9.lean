/-
 The reader, held.
-/
import Derived.Test.YtckmlaempffpjaaGreatGSB
namespace Go.Proofs.YtckmlaempffpjaaGreat
set_option linter.unusedVariables false
set_option maxRecDepth 100000
set_option maxHeartbeats 2000000
open Go.RowKit Go.Proofs.Tryz
def RdS (d : Nat) (cur : List UInt8) (v : Value) (bs : List UInt8) : Prop := ∃ o cap, v = .slice (some ⟨d, o, none⟩) bs.length cap ∧ bs.length ≤ cap ∧ bs.length ≤ 1000000000 ∧ o + bs.length ≤ cur.length ∧ (cur.drop o).take bs.length = bs
theorem RdS.rd {d b : Nat} {cur : List UInt8} {v : Value} {bs : List UInt8} {w : World} (h : RdS d cur v bs) (hb : Blk w b 171 #[.bool true, v]) (hd : Blk w d 5 (bc cur)) : ∃ o cap, v = .slice (some ⟨d, o, none⟩) bs.length cap ∧ Wi.Rd w b d o cap bs := by
 obtain ⟨o, cap, rfl, h1, h2, h3, h4⟩ := h;refine ⟨o, cap, rfl, ⟨hb.cell 0, hb.cell 1, hb.free 1 (by simp), h1, h2, fun i hi => ?_⟩⟩;rw [hd.cell (o + i)];have e : ((cur.drop o).take bs.length)[i]? = bs[i]? := by rw [h4]
 rw [List.getElem?_take_of_lt hi, List.getElem?_drop, List.getElem?_eq_getElem hi] at e
 simp only [bc, List.getElem?_toArray, List.getElem?_map, e]
 rfl
theorem RdS.drop {d : Nat} {cur : List UInt8} {o cap n : Nat} {bs : List UInt8} (h1 : bs.length ≤ cap) (h2 : bs.length ≤ 1000000000) (h3 : o + bs.length ≤ cur.length) (h4 : (cur.drop o).take bs.length = bs) (hn : n ≤ bs.length) :
  RdS d cur (.slice (some (if cap = n then ⟨d, o, none⟩ else ⟨d, o + n, none⟩)) (bs.length - n) (cap - n)) (bs.drop n) := by
 have hl : (bs.drop n).length = bs.length - n := List.length_drop ..
 by_cases hc : cap = n
 ·have e : bs.drop n = [] := List.eq_nil_of_length_eq_zero (by omega);rw [if_pos hc];exact ⟨o, cap - n, by rw [hl], by rw [e]; simp, by rw [e]; simp, by rw [e]; simp; omega, by rw [e]; simp⟩
 ·rw [if_neg hc];refine ⟨o + n, cap - n, by rw [hl], by omega, by omega, by omega, ?_⟩
  conv => rhs; rw [← h4]
  rw [hl, List.drop_take, List.drop_drop]
theorem toBelow {P : Program} {f : FuncId} {args : Array Value} {w : World} {E : Ending} (h : Calls P f args w fun e w' => e = E ∧ w' = w) : Calls P f args w fun e w' => e = E ∧ Below w.heap.size w w' := h.mono fun _ _ h => ⟨h.1, by rw [h.2]; exact Below.refl _ _⟩
theorem Number_yes {z : Base} {L : BL} {w : World} {b d : Nat} {cur : List UInt8} {v : Value} {bs : List UInt8} (hS : RdS d cur v bs) (H0 : HA z ((b, 171, #[.bool true, v]) :: (d, 5, bc cur) :: L) w) (m : Nat) (h1 : 1 ≤ m) (h8 : m ≤ 8) (hw : m ≤ bs.length) :
  Calls prog 128 #[pt b, i6 m] w fun e w' => e = .returned (.tuple #[iN .u64 (Wi.val (bs.take m)), .bool true]) ∧ ∃ v', RdS d cur v' (bs.drop m) ∧ HA z ((b, 171, #[.bool true, v']) :: (d, 5, bc cur) :: L) w' := by
 obtain ⟨o, cap, hv, k1, k2, k3, k4⟩ := hS;subst hv;have hrd : ∀ w', HA z ((b, 171, #[.bool true, .slice (some ⟨d, o, none⟩) bs.length cap]) :: (d, 5, bc cur) :: L) w' → Wi.Rd w' b d o cap bs := fun w' h => by
  obtain ⟨o2, cap2, e, hr⟩ := RdS.rd ⟨o, cap, rfl, k1, k2, k3, k4⟩ (h.get 0 rfl) (h.get 1 rfl)
  cases e
  exact hr
 go_enter Tryz.func128, Tryz.ntmps128
 refine zsr (zv (zv (znt (zsr (zv ?_)))));refine wl_call (v := .func (Fn.func 147) #[pt b] #[]) H0 enter124 #[pq b] (toBelow (Wi.look_any w (pt b))) ?_;intro w1 h2;refine zv ?_;refine wl_call (v := .tuple #[iN .u64 (Wi.val (bs.take m)), .bool true]) h2 enter146 #[.func (Fn.func 147) #[pt b] #[], i6 m] (toBelow (Wi.number_ok w1 b d o cap m bs (hrd _ h2) h1 h8 hw)) ?_;intro w3 h4;refine zv (zv (zv (zv (zv (znt (wp_seq (zsr (zv (znt (zct ?_))))))))));refine wl_region (zv (zv ?_));refine wl_callx enter125 #[pq b, i6 m] (by have h9 := Wi.drop_ok w3 b d o bs.length cap (m) ((hrd _ h4).left) ((hrd _ h4).free) (hw); exact h9) ?_;rintro _ w5 ⟨rfl, rfl⟩;refine ⟨_, rfl, ?_⟩;have h6 : HA z ((b, 171, #[.bool true, .slice (some (if cap = m then ⟨d, o, none⟩ else ⟨d, o + m, none⟩)) (bs.length - m) (cap - m)]) :: (d, 5, bc cur) :: L) _ := HA.put h4 0 rfl 1 (.slice (some (if cap = m then ⟨d, o, none⟩ else ⟨d, o + m, none⟩)) (bs.length - m) (cap - m));refine znt (zsr (zv (zv (zv (zv (znt ?_))))));refine wp_ret ?_
 repeat first|refine zrt ?_|refine block_ret ?_
 exact zb ⟨rfl, _, RdS.drop k1 k2 k3 k4 hw, h6⟩
theorem Number_no {z : Base} {L : BL} {w : World} {b d : Nat} {cur : List UInt8} {v : Value} {bs : List UInt8} (hS : RdS d cur v bs) (H0 : HA z ((b, 171, #[.bool true, v]) :: (d, 5, bc cur) :: L) w) (m : Nat) (h1 : 1 ≤ m) (h8 : m ≤ 8) (hw : bs.length < m) :
  Calls prog 128 #[pt b, i6 m] w fun e w' => e = .returned (.tuple #[iN .u64 0, .bool false]) ∧ HA z ((b, 171, #[.bool true, v]) :: (d, 5, bc cur) :: L) w' := by
 obtain ⟨o, cap, hv, k1, k2, k3, k4⟩ := hS;subst hv;have hrd : ∀ w', HA z ((b, 171, #[.bool true, .slice (some ⟨d, o, none⟩) bs.length cap]) :: (d, 5, bc cur) :: L) w' → Wi.Rd w' b d o cap bs := fun w' h => by
  obtain ⟨o2, cap2, e, hr⟩ := RdS.rd ⟨o, cap, rfl, k1, k2, k3, k4⟩ (h.get 0 rfl) (h.get 1 rfl)
  cases e
  exact hr
 go_enter Tryz.func128, Tryz.ntmps128
 refine zsr (zv (zv (znt (zsr (zv ?_)))));refine wl_call (v := .func (Fn.func 147) #[pt b] #[]) H0 enter124 #[pq b] (toBelow (Wi.look_any w (pt b))) ?_;intro w1 h2;refine zv ?_;refine wl_call (v := .tuple #[iN .u64 0, .bool false]) h2 enter146 #[.func (Fn.func 147) #[pt b] #[], i6 m] (toBelow (Wi.number_short w1 b d o cap m bs (hrd _ h2) h1 h8 hw)) ?_;intro w3 h4;refine zv (zv (zv (zv (zv (znt (wp_seq (zsr (zv (znt (zcf ?_))))))))));refine wp_skip (zt (zsr (zv (zv (zv (zv (znt ?_)))))));refine wp_ret ?_
 repeat first|refine zrt ?_|refine block_ret ?_
 exact zb ⟨rfl, h4⟩
theorem txt_size {bs : List UInt8} (hw : 4 + Wi.val (bs.take 4) ≤ bs.length) : (⟨(Wi.txt bs).toArray⟩ : ByteArray).size = Wi.val (bs.take 4) := by
 show (Wi.txt bs).toArray.size = _
 rw [List.size_toArray]
 unfold Wi.txt
 rw [List.length_take, List.length_drop]
 omega
theorem Text_yes {z : Base} {L : BL} {w : World} {b d : Nat} {cur : List UInt8} {v : Value} {bs : List UInt8} (hS : RdS d cur v bs) (H0 : HA z ((b, 171, #[.bool true, v]) :: (d, 5, bc cur) :: L) w) (m : Nat) (hmm : m ≤ 9223372036854775807) (h4 : 4 ≤ bs.length) (hm : Wi.val (bs.take 4) ≤ m) (hw : 4 + Wi.val (bs.take 4) ≤ bs.length) :
  Calls prog 91 #[pt b, i6 m] w fun e w' => e = .returned (.tuple #[.string (⟨(Wi.txt bs).toArray⟩ : ByteArray), .bool true]) ∧ ∃ v', RdS d cur v' (bs.drop (4 + Wi.val (bs.take 4))) ∧ HA z ((b, 171, #[.bool true, v']) :: (d, 5, bc cur) :: L) w' := by
 obtain ⟨o, cap, hv, k1, k2, k3, k4⟩ := hS;subst hv;have hrd : ∀ w', HA z ((b, 171, #[.bool true, .slice (some ⟨d, o, none⟩) bs.length cap]) :: (d, 5, bc cur) :: L) w' → Wi.Rd w' b d o cap bs := fun w' h => by
  obtain ⟨o2, cap2, e, hr⟩ := RdS.rd ⟨o, cap, rfl, k1, k2, k3, k4⟩ (h.get 0 rfl) (h.get 1 rfl)
  cases e
  exact hr
 have hts := txt_size hw
 go_enter Tryz.func91, Tryz.ntmps91
 refine zsr (zv (zv (znt (zsr (zv ?_)))));refine wl_call (v := .func (Fn.func 147) #[pt b] #[]) H0 enter124 #[pq b] (toBelow (Wi.look_any w (pt b))) ?_;intro w1 h2;refine zv ?_;refine wl_call (v := .tuple #[.string ((⟨(Wi.txt bs).toArray⟩ : ByteArray)), .bool true]) h2 enter123 #[.func (Fn.func 147) #[pt b] #[], i6 m] (toBelow (Wi.text_yes w1 b d o cap m bs (hrd _ h2) h4 hm hw (by omega))) ?_;intro w3 h4;refine zv (zv (zv (zv (zv (znt (wp_seq (zsr (zv (znt (zct ?_))))))))));refine wl_region (zv (zv ?_));refine zwu (run_len (s := (⟨(Wi.txt bs).toArray⟩ : ByteArray))) ?_;refine zwu (run_add (k := .i64) (a := 4) (b := ((⟨(Wi.txt bs).toArray⟩ : ByteArray)).size) (by first | omega | (simp only [top]; omega))) ?_;refine wl_callx enter125 #[pq b, i6 (4 + (((⟨(Wi.txt bs).toArray⟩ : ByteArray)).size))] (by have h9 := Wi.drop_ok w3 b d o bs.length cap ((4 + (((⟨(Wi.txt bs).toArray⟩ : ByteArray)).size))) ((hrd _ h4).left) ((hrd _ h4).free) (by rw [txt_size hw]; exact hw); exact h9) ?_;rintro _ w5 ⟨rfl, rfl⟩;refine ⟨_, rfl, ?_⟩;have h6 : HA z ((b, 171, #[.bool true, .slice (some (if cap = (4 + (((⟨(Wi.txt bs).toArray⟩ : ByteArray)).size)) then ⟨d, o, none⟩ else ⟨d, o + (4 + (((⟨(Wi.txt bs).toArray⟩ : ByteArray)).size)), none⟩)) (bs.length - (4 + (((⟨(Wi.txt bs).toArray⟩ : ByteArray)).size))) (cap - (4 + (((⟨(Wi.txt bs).toArray⟩ : ByteArray)).size)))]) :: (d, 5, bc cur) :: L) _ := HA.put h4 0 rfl 1 (.slice (some (if cap = (4 + (((⟨(Wi.txt bs).toArray⟩ : ByteArray)).size)) then ⟨d, o, none⟩ else ⟨d, o + (4 + (((⟨(Wi.txt bs).toArray⟩ : ByteArray)).size)), none⟩)) (bs.length - (4 + (((⟨(Wi.txt bs).toArray⟩ : ByteArray)).size))) (cap - (4 + (((⟨(Wi.txt bs).toArray⟩ : ByteArray)).size))));refine znt (zsr (zv (zv (zv (zv (znt ?_))))));refine wp_ret ?_
 repeat first|refine zrt ?_|refine block_ret ?_
 exact zb ⟨rfl, .slice (some (if cap = (4 + (((⟨(Wi.txt bs).toArray⟩ : ByteArray)).size)) then ⟨d, o, none⟩ else ⟨d, o + (4 + (((⟨(Wi.txt bs).toArray⟩ : ByteArray)).size)), none⟩)) (bs.length - (4 + (((⟨(Wi.txt bs).toArray⟩ : ByteArray)).size))) (cap - (4 + (((⟨(Wi.txt bs).toArray⟩ : ByteArray)).size))), by rw [show bs.drop (4 + Wi.val (bs.take 4)) = bs.drop (4 + (⟨(Wi.txt bs).toArray⟩ : ByteArray).size) by rw [hts]]; exact RdS.drop k1 k2 k3 k4 (by rw [hts]; exact hw), h6⟩
theorem Text_no {z : Base} {L : BL} {w : World} {b d : Nat} {cur : List UInt8} {v : Value} {bs : List UInt8} (hS : RdS d cur v bs) (H0 : HA z ((b, 171, #[.bool true, v]) :: (d, 5, bc cur) :: L) w) (m : Nat) (hmm : m ≤ 9223372036854775807) (hno : bs.length < 4 ∨ (m : Int) < 0 ∨ (m : Int) < Wi.val (bs.take 4) ∨ bs.length < 4 + Wi.val (bs.take 4)) :
  Calls prog 91 #[pt b, i6 m] w fun e w' => e = .returned (.tuple #[.string { data := #[] }, .bool false]) ∧ HA z ((b, 171, #[.bool true, v]) :: (d, 5, bc cur) :: L) w' := by
 obtain ⟨o, cap, hv, k1, k2, k3, k4⟩ := hS;subst hv;have hrd : ∀ w', HA z ((b, 171, #[.bool true, .slice (some ⟨d, o, none⟩) bs.length cap]) :: (d, 5, bc cur) :: L) w' → Wi.Rd w' b d o cap bs := fun w' h => by
  obtain ⟨o2, cap2, e, hr⟩ := RdS.rd ⟨o, cap, rfl, k1, k2, k3, k4⟩ (h.get 0 rfl) (h.get 1 rfl)
  cases e
  exact hr
 go_enter Tryz.func91, Tryz.ntmps91
 refine zsr (zv (zv (znt (zsr (zv ?_)))));refine wl_call (v := .func (Fn.func 147) #[pt b] #[]) H0 enter124 #[pq b] (toBelow (Wi.look_any w (pt b))) ?_;intro w1 h2;refine zv ?_;refine wl_call (v := .tuple #[.string ({ data := #[] }), .bool false]) h2 enter123 #[.func (Fn.func 147) #[pt b] #[], i6 m] (toBelow (Wi.text_no w1 b d o cap (m : Int) bs (hrd _ h2) (by omega) (by omega) hno)) ?_;intro w3 h4;refine zv (zv (zv (zv (zv (znt (wp_seq (zsr (zv (znt (zcf ?_))))))))));refine wp_skip (zt (zsr (zv (zv (zv (zv (znt ?_)))))));refine wp_ret ?_
 repeat first|refine zrt ?_|refine block_ret ?_
 exact zb ⟨rfl, h4⟩
section
variable {ops : Array Oper} {Q : Exit → Act → World → Prop} {a : Act} {rest : List Oper} {w : World} {z : Base} {L : BL} {dst : Option Tmp} {ty : TypeId} {pos : String} {aft : Array Edge} {gd : Option (Nat × Bool)} {x : Operand} {s : ByteArray}
theorem wl_bytes2 (H : HA z L w) (hw : Region.wanted ⟨dst, .convert 9 62 x, ty, pos, aft, gd⟩ (yielded ops a.tmps) = true) (hx : a.eval x = .string s)
  (h : ∀ q cp m w', s.size ≤ cp → HA z ((q, 5, bc (bl s ++ List.replicate m 0)) :: L) w' → WL prog ops Q rest (a.put dst (.slice (some ⟨q, 0, none⟩) s.size cp)) w') : WL prog ops Q (⟨dst, .convert 9 62 x, ty, pos, aft, gd⟩ :: rest) a w := by
 obtain ⟨m, hm⟩ := H.bytes s;refine wl_any (v := .slice (some ⟨w.heap.size, 0, none⟩) s.size (grownCap w s.size 0 5)) hw ?_ (h _ _ _ _ (grownCap_ge w s.size 0 5) hm)
 simp only [execOp, hx, Sem.run_bind, Lib.run_convert_string_bytes w 9 62 5 s underlying9 underlying62 underlying5, Result.andThen_ok, Sem.run_pure]
end
def nxt (m : Nat) (bs : List UInt8) : ByteArray × Bool × List UInt8 := if 4 ≤ bs.length ∧ Wi.val (bs.take 4) ≤ m ∧ 4 + Wi.val (bs.take 4) ≤ bs.length then (⟨(Wi.txt bs).toArray⟩, true, bs.drop (4 + Wi.val (bs.take 4))) else ({ data := #[] }, false, bs)
def nxn (m : Nat) (bs : List UInt8) : Nat × Bool × List UInt8 := if m ≤ bs.length then (Wi.val (bs.take m), true, bs.drop m) else (0, false, bs)
theorem Text_any {z : Base} {L : BL} {w : World} {b d : Nat} {cur : List UInt8} {v : Value} {bs : List UInt8} (hS : RdS d cur v bs) (H : HA z ((b, 171, #[.bool true, v]) :: (d, 5, bc cur) :: L) w) (m : Nat) (hmm : m ≤ 9223372036854775807) :
  Calls prog 91 #[pt b, i6 m] w fun e w' => e = .returned (.tuple #[.string (nxt m bs).1, .bool (nxt m bs).2.1]) ∧ ∃ v', RdS d cur v' (nxt m bs).2.2 ∧ HA z ((b, 171, #[.bool true, v']) :: (d, 5, bc cur) :: L) w' := by
 by_cases h : 4 ≤ bs.length ∧ Wi.val (bs.take 4) ≤ m ∧ 4 + Wi.val (bs.take 4) ≤ bs.length
 ·rw [nxt, if_pos h];exact Text_yes hS H m hmm h.1 h.2.1 h.2.2
 ·rw [nxt, if_neg h];refine (Text_no hS H m hmm (by omega)).mono ?_;rintro e w' ⟨rfl, h2⟩;exact ⟨rfl, v, hS, h2⟩
theorem Number_any {z : Base} {L : BL} {w : World} {b d : Nat} {cur : List UInt8} {v : Value} {bs : List UInt8} (hS : RdS d cur v bs) (H : HA z ((b, 171, #[.bool true, v]) :: (d, 5, bc cur) :: L) w) (m : Nat) (h1 : 1 ≤ m) (h8 : m ≤ 8) :
  Calls prog 128 #[pt b, i6 m] w fun e w' => e = .returned (.tuple #[iN .u64 (nxn m bs).1, .bool (nxn m bs).2.1]) ∧ ∃ v', RdS d cur v' (nxn m bs).2.2 ∧ HA z ((b, 171, #[.bool true, v']) :: (d, 5, bc cur) :: L) w' := by
 by_cases h : m ≤ bs.length
 ·rw [nxn, if_pos h];exact Number_yes hS H m h1 h8 h
 ·rw [nxn, if_neg h];refine (Number_no hS H m h1 h8 (by omega)).mono ?_;rintro e w' ⟨rfl, h2⟩;exact ⟨rfl, v, hS, h2⟩
theorem New_h {z : Base} {L : BL} {w : World} (H0 : HA z L w) (s : ByteArray) (hs : s.size ≤ 1000000000) :
  Calls prog 90 #[.string s] w fun e w' => ∃ b d cur v, e = .returned (pt b) ∧ RdS d cur v (bl s) ∧ HA z ((b, 171, #[.bool true, v]) :: (d, 5, bc cur) :: L) w' := by
 go_enter Tryz.func90, Tryz.ntmps90
 refine zsr (zv (znt (zsr (zv ?_))));refine wl_bytes2 (s := s) H0 (by kernel_rfl) (by kernel_rfl) ?_;intro d cp m w1 hcp h2;refine zv ?_;refine wl_make (c := #[.bool true, .slice (some ⟨d, 0, none⟩) s.size cp]) h2 171 ?_;intro q3 w4 h5;refine zv (znt ?_);refine wp_ret ?_
 repeat first|refine zrt ?_|refine block_ret ?_
 exact zb (v := pt q3) ⟨q3, d, _, _, rfl, ⟨0, cp, by rw [bl_len], by rw [bl_len]; exact hcp, by rw [bl_len]; exact hs, by simp, by rw [List.drop_zero]; exact List.take_left⟩, h5⟩
theorem Left_h {z : Base} {L : BL} {w : World} {b d : Nat} {cur : List UInt8} {v : Value} {bs : List UInt8} (hS : RdS d cur v bs) (H : HA z ((b, 171, #[.bool true, v]) :: (d, 5, bc cur) :: L) w) : Calls prog 93 #[pt b] w fun e w' => e = .returned (i6 bs.length) ∧ Below w.heap.size w w' := by
 obtain ⟨o, cap, rfl, hr⟩ := hS.rd (H.get 0 rfl) (H.get 1 rfl);exact toBelow (Wi.Left_rd w b d o cap bs hr)
theorem textC_true {z : Base} {L : BL} {w : World} {b d qr qw : Nat} {cur : List UInt8} {v : Value} {bs : List UInt8} (hS : RdS d cur v bs) (H0 : HA z ((b, 171, #[.bool true, v]) :: (d, 5, bc cur) :: (qr, 141, #[pt b]) :: (qw, 4, #[.bool true]) :: L) w) :
  Calls prog 126 #[pt qr, pt qw] w fun e w' => e = .returned (.string (nxt 262144 bs).1) ∧ ∃ v', RdS d cur v' (nxt 262144 bs).2.2 ∧ HA z ((b, 171, #[.bool true, v']) :: (d, 5, bc cur) :: (qr, 141, #[pt b]) :: (qw, 4, #[.bool (nxt 262144 bs).2.1]) :: L) w' := by
 go_enter Tryz.func126, Tryz.ntmps126
 refine zsr (zv (znt (zsr ?_)));refine zwu (v := pq b) (run_load1 isAgg141 (((H0.get 2 rfl).cell 0).trans rfl)) ?_;refine wl_callx enter91 #[pq b, i6 262144] (Text_any hS H0 262144 (by decide)) ?_;rintro _ w1 ⟨rfl, v2, hS2, hr2⟩;refine ⟨_, rfl, ?_⟩;have h2 : HA z ((b, 171, #[.bool true, v2]) :: (d, 5, bc cur) :: (qr, 141, #[pt b]) :: (qw, 4, #[.bool true]) :: L) w1 := hr2;refine zv (zv (zv (zv (zv (znt (zsr ?_))))));refine zwu (v := .bool true) (run_load1 isAgg4 (((h2.get 3 rfl).cell 0).trans rfl)) ?_;refine zv (zv (zv ?_));refine wl_putv (v := .bool ((nxt 262144 bs).2.1)) h2 3 rfl 0 (by show 0 < 1; decide) sizeOf4 ?_;intro w3 h4;refine znt (zsr (zv (zv (znt ?_))));refine wp_ret ?_
 repeat first|refine zrt ?_|refine block_ret ?_
 exact zb ⟨rfl, v2, hS2, h4⟩
theorem textC_false {z : Base} {L : BL} {w : World} {b d qr qw : Nat} {cur : List UInt8} {v : Value} {bs : List UInt8} (hS : RdS d cur v bs) (H0 : HA z ((b, 171, #[.bool true, v]) :: (d, 5, bc cur) :: (qr, 141, #[pt b]) :: (qw, 4, #[.bool false]) :: L) w) :
  Calls prog 126 #[pt qr, pt qw] w fun e w' => e = .returned (.string (nxt 262144 bs).1) ∧ ∃ v', RdS d cur v' (nxt 262144 bs).2.2 ∧ HA z ((b, 171, #[.bool true, v']) :: (d, 5, bc cur) :: (qr, 141, #[pt b]) :: (qw, 4, #[.bool false]) :: L) w' := by
 go_enter Tryz.func126, Tryz.ntmps126
 refine zsr (zv (znt (zsr ?_)));refine zwu (v := pq b) (run_load1 isAgg141 (((H0.get 2 rfl).cell 0).trans rfl)) ?_;refine wl_callx enter91 #[pq b, i6 262144] (Text_any hS H0 262144 (by decide)) ?_;rintro _ w1 ⟨rfl, v2, hS2, hr2⟩;refine ⟨_, rfl, ?_⟩;have h2 : HA z ((b, 171, #[.bool true, v2]) :: (d, 5, bc cur) :: (qr, 141, #[pt b]) :: (qw, 4, #[.bool false]) :: L) w1 := hr2;refine zv (zv (zv (zv (zv (znt (zsr ?_))))));refine zwu (v := .bool false) (run_load1 isAgg4 (((h2.get 3 rfl).cell 0).trans rfl)) ?_;refine zv ?_;refine wl_skip ?_;refine zv ?_;refine wl_putv (v := .bool false) h2 3 rfl 0 (by show 0 < 1; decide) sizeOf4 ?_;intro w3 h4;refine znt (zsr (zv (zv (znt ?_))));refine wp_ret ?_
 repeat first|refine zrt ?_|refine block_ret ?_
 exact zb ⟨rfl, v2, hS2, h4⟩
theorem textC {z : Base} {L : BL} {w : World} {b d qr qw : Nat} {cur : List UInt8} {v : Value} {bs : List UInt8} (hS : RdS d cur v bs) {wh : Bool} (H : HA z ((b, 171, #[.bool true, v]) :: (d, 5, bc cur) :: (qr, 141, #[pt b]) :: (qw, 4, #[.bool wh]) :: L) w) :
  Calls prog 126 #[pt qr, pt qw] w fun e w' => e = .returned (.string (nxt 262144 bs).1) ∧ ∃ v', RdS d cur v' (nxt 262144 bs).2.2 ∧ HA z ((b, 171, #[.bool true, v']) :: (d, 5, bc cur) :: (qr, 141, #[pt b]) :: (qw, 4, #[.bool (wh && (nxt 262144 bs).2.1)]) :: L) w' := by
 cases wh with
 | true => rw [Bool.true_and]; exact textC_true hS H
 | false => rw [Bool.false_and]; exact textC_false hS H
theorem cntC_true {z : Base} {L : BL} {w : World} {b d qr qw : Nat} {cur : List UInt8} {v : Value} {bs : List UInt8} (hS : RdS d cur v bs) (H0 : HA z ((b, 171, #[.bool true, v]) :: (d, 5, bc cur) :: (qr, 141, #[pt b]) :: (qw, 4, #[.bool true]) :: L) w) :
  Calls prog 127 #[pt qr, pt qw] w fun e w' => e = .returned (iN .u64 (nxn 2 bs).1) ∧ ∃ v', RdS d cur v' (nxn 2 bs).2.2 ∧ HA z ((b, 171, #[.bool true, v']) :: (d, 5, bc cur) :: (qr, 141, #[pt b]) :: (qw, 4, #[.bool (nxn 2 bs).2.1]) :: L) w' := by
 go_enter Tryz.func127, Tryz.ntmps127
 refine zsr (zv (znt (zsr ?_)));refine zwu (v := pq b) (run_load1 isAgg141 (((H0.get 2 rfl).cell 0).trans rfl)) ?_;refine wl_callx enter128 #[pq b, i6 2] (Number_any hS H0 2 (by decide) (by decide)) ?_;rintro _ w1 ⟨rfl, v2, hS2, hr2⟩;refine ⟨_, rfl, ?_⟩;have h2 : HA z ((b, 171, #[.bool true, v2]) :: (d, 5, bc cur) :: (qr, 141, #[pt b]) :: (qw, 4, #[.bool true]) :: L) w1 := hr2;refine zv (zv (zv (zv (zv (znt (zsr ?_))))));refine zwu (v := .bool true) (run_load1 isAgg4 (((h2.get 3 rfl).cell 0).trans rfl)) ?_;refine zv (zv (zv ?_));refine wl_putv (v := .bool ((nxn 2 bs).2.1)) h2 3 rfl 0 (by show 0 < 1; decide) sizeOf4 ?_;intro w3 h4;refine znt (zsr (zv (zv (znt ?_))));refine wp_ret ?_
 repeat first|refine zrt ?_|refine block_ret ?_
 exact zb ⟨rfl, v2, hS2, h4⟩
theorem cntC_false {z : Base} {L : BL} {w : World} {b d qr qw : Nat} {cur : List UInt8} {v : Value} {bs : List UInt8} (hS : RdS d cur v bs) (H0 : HA z ((b, 171, #[.bool true, v]) :: (d, 5, bc cur) :: (qr, 141, #[pt b]) :: (qw, 4, #[.bool false]) :: L) w) :
  Calls prog 127 #[pt qr, pt qw] w fun e w' => e = .returned (iN .u64 (nxn 2 bs).1) ∧ ∃ v', RdS d cur v' (nxn 2 bs).2.2 ∧ HA z ((b, 171, #[.bool true, v']) :: (d, 5, bc cur) :: (qr, 141, #[pt b]) :: (qw, 4, #[.bool false]) :: L) w' := by
 go_enter Tryz.func127, Tryz.ntmps127
 refine zsr (zv (znt (zsr ?_)));refine zwu (v := pq b) (run_load1 isAgg141 (((H0.get 2 rfl).cell 0).trans rfl)) ?_;refine wl_callx enter128 #[pq b, i6 2] (Number_any hS H0 2 (by decide) (by decide)) ?_;rintro _ w1 ⟨rfl, v2, hS2, hr2⟩;refine ⟨_, rfl, ?_⟩;have h2 : HA z ((b, 171, #[.bool true, v2]) :: (d, 5, bc cur) :: (qr, 141, #[pt b]) :: (qw, 4, #[.bool false]) :: L) w1 := hr2;refine zv (zv (zv (zv (zv (znt (zsr ?_))))));refine zwu (v := .bool false) (run_load1 isAgg4 (((h2.get 3 rfl).cell 0).trans rfl)) ?_;refine zv ?_;refine wl_skip ?_;refine zv ?_;refine wl_putv (v := .bool false) h2 3 rfl 0 (by show 0 < 1; decide) sizeOf4 ?_;intro w3 h4;refine znt (zsr (zv (zv (znt ?_))));refine wp_ret ?_
 repeat first|refine zrt ?_|refine block_ret ?_
 exact zb ⟨rfl, v2, hS2, h4⟩
theorem cntC {z : Base} {L : BL} {w : World} {b d qr qw : Nat} {cur : List UInt8} {v : Value} {bs : List UInt8} (hS : RdS d cur v bs) {wh : Bool} (H : HA z ((b, 171, #[.bool true, v]) :: (d, 5, bc cur) :: (qr, 141, #[pt b]) :: (qw, 4, #[.bool wh]) :: L) w) :
  Calls prog 127 #[pt qr, pt qw] w fun e w' => e = .returned (iN .u64 (nxn 2 bs).1) ∧ ∃ v', RdS d cur v' (nxn 2 bs).2.2 ∧ HA z ((b, 171, #[.bool true, v']) :: (d, 5, bc cur) :: (qr, 141, #[pt b]) :: (qw, 4, #[.bool (wh && (nxn 2 bs).2.1)]) :: L) w' := by
 cases wh with
 | true => rw [Bool.true_and]; exact cntC_true hS H
 | false => rw [Bool.false_and]; exact cntC_false hS H
end Go.Proofs.YtckmlaempffpjaaGreat
namespace Go.Proofs.YtckmlaempffpjaaGreat
open Go.RowKit Go.Proofs.Tryz
section
variable {ops : Array Oper} {S : World → Prop} {J : Act → World → Prop} {n : Nat} {l lp : List Nat} {a : Act} {w : World} {z : Base} {L : BL} {i : Nat}
theorem ex_callvx {dst : Option Tmp} {f : FuncId} {x : Operand} {xs : Array Operand} {ats : Array TypeId} {ty : TypeId} {pos : String} {aft : Array Edge} {gd : Option (Nat × Bool)} {cap args : Array Value} {R : World → Ending → World → Prop} (ho : ops.toList[i]? = some ⟨dst, .call { callee := .value x, args := xs, argTypes := ats }, ty, pos, aft, gd⟩)  (H : HA z L w)
  (hr : ∀ args w, (callFunc f args).run prog w = .ok (.enter f args) w)   (hc : ∀ w1, HA z L w1 → Calls prog f args w1 (R w1))
  (h : ∀ w1, HA z L w1 → ∀ e w', R w1 e w' → ∃ v, e = .returned v ∧ S w' ∧ WXS prog ops J n S (i :: l) lp (a.put dst v) w') (hw : Region.wanted ⟨dst, .call { callee := .value x, args := xs, argTypes := ats }, ty, pos, aft, gd⟩ (yielded ops a.tmps) = true := by kernel_rfl) (hx : a.eval x = .func (.func f) #[] cap := by kernel_rfl) (ha : #[] ++ xs.map a.eval ++ cap = args := by kernel_rfl) : EX prog ops J n S l lp i a w := ⟨fun y hy => by
 rw [lget ho] at hy
 cases hy
 refine ⟨hw, fun w1 hb _ => ?_⟩;have H0 := HA.keep _ _ H hb
 unfold Oper.wp
 rw [run_callv hr hx ha];refine (hc w1 H0).mono ?_;intro e w' hR;obtain ⟨v, rfl, h2, hK⟩ := h w1 H0 e w' hR;exact ⟨⟨v, rfl⟩, S, .inr rfl, h2, hK.go⟩⟩
theorem ex_doS {o : Oper} (ho : ops.toList[i]? = some o) (hw : Region.wanted o (yielded ops a.tmps) = true) (H : HA z L w)
  (h : ∀ w1, HA z L w1 → ∃ v w', (execOp a.eval o).run prog w1 = .ok (.value v) w' ∧ S w' ∧ WXS prog ops J n S (i :: l) lp (a.put o.dst v) w') : EX prog ops J n S l lp i a w := ⟨fun y hy => by
 rw [lget ho] at hy
 cases hy
 refine ⟨hw, fun w1 hb1 _ => ?_⟩;obtain ⟨v, w', hr, hS', hK⟩ := h w1 (HA.keep _ _ H hb1)
 unfold Oper.wp
 rw [hr];exact ⟨⟨_, rfl⟩, S, .inr rfl, hS', hK.go⟩⟩
theorem ex_mksS {o : Oper} {c : Array Value} (ho : ops.toList[i]? = some o) (hw : Region.wanted o (yielded ops a.tmps) = true) (H : HA z L w) (t : TypeId) (m cp : Nat)
  (hr : ∀ w, (execOp a.eval o).run prog w = .ok (.value (.slice (some ⟨w.heap.size, 0, none⟩) m cp)) (w.alloc (.cells c t)))
  (h : ∀ q w', HA z ((q, t, c) :: L) w' → S w' ∧ WXS prog ops J n S (i :: l) lp (a.put o.dst (.slice (some ⟨q, 0, none⟩) m cp)) w') : EX prog ops J n S l lp i a w :=
 ex_doS ho hw H fun w1 h1 => ⟨_, _, hr w1, (h _ _ (h1.make t c)).1, (h _ _ (h1.make t c)).2⟩
end
theorem row_more {e t : TypeId} {sz n p : Nat} {v : Value} {xs : List Value} {news : Array Value} {z : Base} {L Lr : BL} {w : World} (hR : Row e sz v n xs Lr) (H : HA z ((p, e, news) :: (Lr ++ L)) w) (he : e ≠ 5) (zv : Value) (bytes : Nat) (ty : TypeId)
  (ht : prog.underlying t = some (.slice e)) (hi : (prog.info? e).map (fun i => (i.zero, i.size, i.bytes)) = some (some zv, sz, bytes)) (hzs : zv.cells.size = sz) (hsz : 0 < sz) (hl : news.size = 1 * sz) (h1 : news.all (·.oneCell') = true) (h63 : n + 1 ≤ maxLen) (hbytes : (n + 1) * bytes ≤ 140737488355328) :
  ∃ v' w' Lr', (Builtin.append_ #[t, t] ty #[v, .slice (some ⟨p, 0, none⟩) 1 1]).run prog w = .ok v' w' ∧ Row e sz v' (n + 1) (xs ++ news.toList) Lr' ∧ HA z (Lr' ++ L) w' := by
 obtain ⟨i, hi, hh⟩ := Option.map_eq_some_iff.1 hi
 simp only [Prod.mk.injEq] at hh
 have hp := H.get 0 rfl;exact hR.append H.tl he t ty i zv bytes ht hi hh.1 hh.2.1 hh.2.2 hzs hsz ⟨p, 0, none⟩ 1 1 news.toList (by simpa using hl) (fun j u hu => by
  have hadd : (⟨p, 0, none⟩ : Addr).add j = ⟨p, j, none⟩ := by unfold Addr.add; split <;> simp_all
  rw [hadd, hp.cell j]
  simpa using hu) (fun u hu => by
  obtain ⟨j, hj, rfl⟩ := List.mem_iff_getElem.1 hu;have := Array.all_eq_true.1 h1 j (by simpa using hj)
  simpa using this) h63 hbytes (by decide)
theorem run_app_ops {ρ : Operand → Value} {x y : Operand} {w w' : World} {dst : Option Tmp} {t ty : TypeId} {pos : String} {aft : Array Edge} {gd : Option (Nat × Bool)} {u v v' : Value} (hx : ρ x = v) (hy : ρ y = u) (hrun : (Builtin.append_ #[t, t] ty #[v, u]).run prog w = .ok v' w') :
  (execOp ρ ⟨dst, .call { callee := .builtin .append, args := #[x, y], argTypes := #[t, t] }, ty, pos, aft, gd⟩).run prog w = .ok (.value v') w' := by
 unfold execOp
 simp only [resolve, invoke, builtin, Sem.run_bind, Sem.run_pure, Result.andThen_ok, List.map_toArray, List.map_cons, List.map_nil, hx, hy, hrun]
def rcl (l : List Rw) : List Value := l.flatMap fun x => [.string x.k, .string x.v]
def scl (l : List ByteArray) : List Value := l.map Value.string
theorem rcl_snoc (l : List Rw) (x : Rw) : rcl (l ++ [x]) = rcl l ++ [.string x.k, .string x.v] := by simp [rcl]
theorem scl_snoc (l : List ByteArray) (x : ByteArray) : scl (l ++ [x]) = scl l ++ [.string x] := by simp [scl]
theorem rcl_get : ∀ (l : List Rw) (i : Nat) (x : Rw), l[i]? = some x → (rcl l)[i * 2]? = some (.string x.k) ∧ (rcl l)[i * 2 + 1]? = some (.string x.v)
 | [], _, _, h => by simp at h
 | y :: l, 0, x, h => by
  have : y = x := by simpa using h
  subst this;exact ⟨rfl, rfl⟩
 | y :: l, i + 1, x, h => by
  obtain ⟨h1, h2⟩ := rcl_get l i x (by simpa using h);have e : rcl (y :: l) = [.string y.k, .string y.v] ++ rcl l := rfl;refine ⟨?_, ?_⟩
  ·rw [e, List.getElem?_append_right (by simp; omega), show (i + 1) * 2 - [Value.string y.k, Value.string y.v].length = i * 2 by simp; omega]; exact h1
  ·rw [e, List.getElem?_append_right (by simp; omega), show (i + 1) * 2 + 1 - [Value.string y.k, Value.string y.v].length = i * 2 + 1 by simp; omega]; exact h2
theorem info64 : (prog.info? 64).map (fun i => (i.zero, i.size, i.bytes)) = some (some (.agg #[.string { data := #[] }, .string { data := #[] }]), 2, 32) := by kernel_rfl
theorem info9s : (prog.info? 9).map (fun i => (i.zero, i.size, i.bytes)) = some (some (.string { data := #[] }), 1, 16) := by kernel_rfl
theorem Row.rows {w : World} {o : Option Addr} {c : Nat} {ps : List Rw} {Lp : BL} (h : Row 64 2 (.slice o ps.length c) ps.length (rcl ps) Lp) (hB : ∀ y ∈ Lp, Blk w y.1 y.2.1 y.2.2) : RowsAt w o ps := fun i x hi => by
 have hl := (List.getElem?_eq_some_iff.1 hi).1;obtain ⟨h1, h2⟩ := rcl_get ps i x hi
 rcases h.2 with ⟨_, h0, _⟩ | ⟨g, cap, cur, he, rfl, k1, k2, k3, k4⟩
 ·omega
 ·cases he
  have hb := hB (g, 64, cur) (by simp);have hc : ∀ j, j < ps.length * 2 → cur[j]? = (rcl ps)[j]? := fun j hj => by
   rw [← k4, List.getElem?_take, if_pos hj]; simp
  refine ⟨⟨g, 0, none⟩, rfl, ?_, ?_⟩
  ·rw [add_lit, hb.cell, hc _ (by omega)]; exact h1
  ·rw [add_lit, hb.cell, hc _ (by omega)]; exact h2
theorem Row.keys {w : World} {o : Option Addr} {c : Nat} {ds : List ByteArray} {Lp : BL} (h : Row 9 1 (.slice o ds.length c) ds.length (scl ds) Lp) (hB : ∀ y ∈ Lp, Blk w y.1 y.2.1 y.2.2) : KeysAt w o ds := fun i x hi => by
 have hl := (List.getElem?_eq_some_iff.1 hi).1
 rcases h.2 with ⟨_, h0, _⟩ | ⟨g, cap, cur, he, rfl, k1, k2, k3, k4⟩
 ·omega
 ·cases he
  have hb := hB (g, 9, cur) (by simp);refine ⟨⟨g, 0, none⟩, rfl, ?_⟩;rw [Nat.mul_one] at k4;have hc : cur[i]? = (scl ds)[i]? := by rw [← k4, List.getElem?_take, if_pos hl]; simp
  rw [add_lit, hb.cell, hc, scl, List.getElem?_map, hi]
  rfl
/-! what a body tells -/
def ppR : Nat → Bool → List UInt8 → List Rw → Bool × List UInt8 × List Rw
 | 0, wh, bs, acc => (wh, bs, acc)
 | _ + 1, false, bs, acc => (false, bs, acc)
 | n + 1, true, bs, acc => ppR n ((nxt 262144 bs).2.1 && (nxt 262144 (nxt 262144 bs).2.2).2.1) (nxt 262144 (nxt 262144 bs).2.2).2.2 (acc ++ [⟨(nxt 262144 bs).1, (nxt 262144 (nxt 262144 bs).2.2).1⟩])
def pdR : Nat → Bool → List UInt8 → List ByteArray → Bool × List UInt8 × List ByteArray
 | 0, wh, bs, acc => (wh, bs, acc)
 | _ + 1, false, bs, acc => (false, bs, acc)
 | n + 1, true, bs, acc => pdR n (nxt 262144 bs).2.1 (nxt 262144 bs).2.2 (acc ++ [(nxt 262144 bs).1])
theorem nxt_size (m : Nat) (bs : List UInt8) : (nxt m bs).1.size ≤ m := by
 unfold nxt
 split
 ·rename_i h
  rw [txt_size h.2.2];exact h.2.1
 ·exact Nat.zero_le _
theorem nxn_lt (bs : List UInt8) : (nxn 2 bs).1 < 65536 := by
 unfold nxn
 split
 ·have := Wi.val_lt (bs.take 2);have h2 : (bs.take 2).length = 2 := by rw [List.length_take]; omega
  rw [h2] at this;exact this
 ·exact (by decide : 0 < 65536)
structure Pd where
 wh : Bool
 ps : List Rw
 ds : List ByteArray
 left : List UInt8
def pdB (bs : List UInt8) : Pd :=
 let a := nxn 2 bs
 let b := ppR a.1 a.2.1 a.2.2 []
 let c := nxn 2 b.2.1
 let d := pdR c.1 (b.1 && c.2.1) c.2.2 []
 ⟨d.1, b.2.2, d.2.2, d.2.1⟩
def okB (p : Pd) : Bool := p.wh && decide (p.left.length = 0) && decide (p.ps.length + p.ds.length ≠ 0) && decide (refR p.ps p.ds = 0)
end Go.Proofs.YtckmlaempffpjaaGreat
