/-
  pad: Pad and Unpad of the program.
-/
import Derived.Test.YthelhalfmdbdlaaWB
import Derived.Test.YthelhalfmdbdlaaSh
namespace Go.Proofs.Ythelhalfmdbdlaa
open Go.RowKit Go.Shelf Go.Proofs.Ythelhalfmdbdlaa.Wi

theorem bstep {w a b : World} (h : Below w.heap.size w a) (k : Below a.heap.size a b) : Below w.heap.size w b := h.trans (k.mono h.size)

/-- bytes 0 -/
def zs (n : Nat) : List UInt8 := List.replicate n 0
theorem zs_len (n : Nat) : (zs n).length = n := List.length_replicate
theorem rep_zs : ∀ n, Lib.repeatL [0] n = zs n
  | 0 => rfl
  | n + 1 => by rw [Lib.repeatL, rep_zs n]; rfl
/-- the padded text -/
def padL (l : List UInt8) : List UInt8 := be l.length 2 ++ l ++ zs (szN (2 + l.length) - (2 + l.length))
def padV (l : List UInt8) : Value := if l.length ≤ 8190 then .tuple #[.string ⟨(padL l).toArray⟩, .int .i64 0] else .tuple #[.string ⟨#[]⟩, .int .i64 3]

theorem sz_ge (n : Nat) : n ≤ szN n := by
  unfold szN
  split
  · omega
  split
  · omega
  split <;> omega
theorem sz_le (n : Nat) (h : n ≤ 8192) : szN n ≤ 8192 := (isLen_sz n h).2.2.1
theorem padL_len (l : List UInt8) : (padL l).length = szN (2 + l.length) := by
  have := sz_ge (2 + l.length)
  unfold padL
  rw [List.length_append, List.length_append, be_length, zs_len]
  omega
theorem sizeV_ok (n : Nat) (h : n ≤ 8192) : sizeV (n : Int) = .tuple #[.int .i64 (szN n), .int .i64 0] := by
  unfold sizeV
  rw [if_neg (by omega), if_pos (by omega), Int.toNat_natCast]
theorem sizeV_long (n : Nat) (h : 8192 < n) : sizeV (n : Int) = .tuple #[.int .i64 0, .int .i64 3] := by
  unfold sizeV
  rw [if_neg (by omega), if_neg (by omega)]

set_option maxRecDepth 100000 in
theorem Pad_yes (w : World) (s : ByteArray) (h : s.size ≤ 8190) :
    Calls Try.prog 7 #[.string s] w fun e w' => e = .returned (.tuple #[.string ⟨(padL s.data.toList).toArray⟩, .int .i64 0]) ∧ Below w.heap.size w w' := by
  have S := hide (Size_any ((2 : Int) + (s.size : Int)) w)
  rw [show (2 : Int) + (s.size : Int) = ((2 + s.size : Nat) : Int) by omega, sizeV_ok _ (by omega), show ((2 + s.size : Nat) : Int) = (2 : Int) + (s.size : Int) by omega] at S
  have h1 := sz_ge (2 + s.size)
  have h2 := sz_le (2 + s.size) (by omega)
  have HP : Hid (padL s.data.toList = be s.size 2 ++ s.data.toList ++ zs (szN (2 + s.size) - (2 + s.size))) := by
    show _ = _
    unfold padL
    rw [str_length]
  generalize szN (2 + s.size) = z at *
  obtain ⟨c, hc⟩ : ∃ c, z = 2 + s.size + c := ⟨z - (2 + s.size), by omega⟩
  have HC := hide hc
  clear hc
  have hbl := be_length s.size 2
  have hbs := str_size (be s.size 2)
  have hzl := zs_len c
  go_enter Try.func7, Try.ntmps7
  go_wp2_with fail
  refine S.out.mono ?_
  rintro e w1 ⟨rfl, b1⟩
  clear S
  have N := hide (put_mid w1 ⟨#[]⟩ 2 s.size (by decide) (by decide) (by decide))
  rw [show (⟨#[]⟩ : ByteArray).data.toList ++ be s.size 2 = be s.size 2 from rfl] at N
  go_wp2_with fail
  refine N.out.mono ?_
  rintro e w2 ⟨rfl, b2⟩
  clear N
  have R : Hid (Calls Try.prog 15 #[.string ⟨#[0]⟩, .int .i64 ((z : Int) - (2 + (s.size : Int)))] w2 fun e w' => e = .returned (.string ⟨(zs c).toArray⟩) ∧ Below w2.heap.size w2 w') := by
    have := Try.strings_Repeat ⟨#[0]⟩ c w2 (by have hc := HC.out; omega) (by have hc := HC.out; have e : (⟨#[0]⟩ : ByteArray).size = 1 := rfl; rw [e]; omega)
    rw [show (⟨#[0]⟩ : ByteArray).data.toList = [0] from rfl, rep_zs] at this
    have hc := HC.out
    rw [show (z : Int) - (2 + (s.size : Int)) = (c : Int) by omega]
    exact this
  have hzs := str_size (zs c)
  have hcs : c ≤ 8192 := by have hc := HC.out; omega
  go_wp2_with fail
  refine R.out.mono ?_
  rintro e w3 ⟨rfl, b3⟩
  clear R
  have Bf := bstep (bstep b1 b2) b3
  clear b1 b2 b3
  go_wp2
  go_ret2
  refine ⟨?_, Bf⟩
  have hc := HC.out
  rw [HP.out, show z - (2 + s.size) = c by omega, str_append, str_append]
  rfl

set_option maxRecDepth 100000 in
theorem Pad_no (w : World) (s : ByteArray) (h : 8190 < s.size) (h2 : s.size ≤ 9223372036854775800) :
    Calls Try.prog 7 #[.string s] w fun e w' => e = .returned (.tuple #[.string ⟨#[]⟩, .int .i64 3]) ∧ Below w.heap.size w w' := by
  have S := hide (Size_any ((2 : Int) + (s.size : Int)) w)
  rw [show (2 : Int) + (s.size : Int) = ((2 + s.size : Nat) : Int) by omega, sizeV_long _ (by omega), show ((2 + s.size : Nat) : Int) = (2 : Int) + (s.size : Int) by omega] at S
  go_enter Try.func7, Try.ntmps7
  go_wp2_with fail
  refine S.out.mono ?_
  rintro e w1 ⟨rfl, b1⟩
  clear S
  go_wp2
  go_ret2
  exact ⟨rfl, b1⟩

theorem Pad_any (w : World) (s : ByteArray) (h2 : s.size ≤ 9223372036854775800) :
    Calls Try.prog 7 #[.string s] w fun e w' => e = .returned (padV s.data.toList) ∧ Below w.heap.size w w' := by
  unfold padV
  rw [str_length]
  by_cases h : s.size ≤ 8190
  · rw [if_pos h]; exact Pad_yes w s h
  · rw [if_neg h]; exact Pad_no w s (by omega) h2

/-- the text whose padded one l is -/
def unpadL (l : List UInt8) : Option (List UInt8) :=
  if 2 ≤ l.length ∧ 2 + val (l.take 2) ≤ l.length ∧ val (l.take 2) ≤ 8190 ∧ padL ((l.drop 2).take (val (l.take 2))) = l then some ((l.drop 2).take (val (l.take 2))) else none
def unV : Option (List UInt8) → Value
  | some t => .tuple #[.string ⟨t.toArray⟩, .int .i64 0]
  | none => .tuple #[.string ⟨#[]⟩, .int .i64 4]

theorem be_val2 (l : List UInt8) (h : l.length = 2) : be (val l) 2 = l := by
  match l, h with
  | [a, b], _ =>
    have ha := a.toNat_lt
    have hb := b.toNat_lt
    show [UInt8.ofNat ((((0 * 256 + a.toNat) * 256 + b.toNat)) / 256 ^ 1), UInt8.ofNat ((((0 * 256 + a.toNat) * 256 + b.toNat)) / 256 ^ 0)] = [a, b]
    congr 1
    · apply UInt8.toNat.inj
      rw [UInt8.toNat_ofNat']
      omega
    · congr 1
      apply UInt8.toNat.inj
      rw [UInt8.toNat_ofNat']
      omega
theorem blank_zs (l : List UInt8) : blankL l = true ↔ l = zs l.length := by
  unfold blankL zs
  rw [List.all_eq_true, List.eq_replicate_iff]
  simp
theorem val2_lt (l : List UInt8) : val (l.take 2) < 65536 := by
  have := val_lt (l.take 2)
  have h : (l.take 2).length ≤ 2 := by rw [List.length_take]; omega
  have : 256 ^ (l.take 2).length ≤ 256 ^ 2 := Nat.pow_le_pow_right (by decide) h
  omega
/-- a text is padded just if its size is right, and what stands behind is blank -/
theorem pad_iff (l : List UInt8) (n : Nat) (h2 : 2 ≤ l.length) (hn : val (l.take 2) = n) (hl : 2 + n ≤ l.length) :
    padL ((l.drop 2).take n) = l ↔ (szN (2 + n) = l.length ∧ blankL ((l.drop 2).drop n) = true) := by
  have hlen : ((l.drop 2).take n).length = n := by rw [List.length_take, List.length_drop]; omega
  have hsplit : l = l.take 2 ++ (l.drop 2).take n ++ (l.drop 2).drop n := by
    rw [List.append_assoc, List.take_append_drop, List.take_append_drop]
  have hbe : be n 2 = l.take 2 := by rw [← hn]; exact be_val2 _ (by rw [List.length_take]; omega)
  have hge := sz_ge (2 + n)
  have hdl : ((l.drop 2).drop n).length = l.length - (2 + n) := by rw [List.length_drop, List.length_drop]; omega
  constructor
  · intro e
    have e1 := congrArg List.length e
    rw [padL_len, hlen] at e1
    refine ⟨e1, ?_⟩
    unfold padL at e
    rw [hlen, hbe] at e
    rw [blank_zs, hdl]
    have e2 := e.trans hsplit
    have := List.append_cancel_left e2
    rw [← this, e1]
  · rintro ⟨e1, e2⟩
    rw [blank_zs, hdl] at e2
    unfold padL
    rw [hlen, hbe, e1, ← e2, ← hsplit]

theorem unpad_none (l : List UInt8) (h : l.length < 2 ∨ l.length < 2 + val (l.take 2) ∨ 8192 < l.length) : unpadL l = none := by
  unfold unpadL
  rw [if_neg]
  rintro ⟨h1, h2, h3, h4⟩
  have h5 := congrArg List.length h4
  rw [padL_len, List.length_take, List.length_drop] at h5
  have := sz_le (2 + min (val (l.take 2)) (l.length - 2)) (by omega)
  omega
theorem unpad_some (l : List UInt8) (n : Nat) (h2 : 2 ≤ l.length) (hn : val (l.take 2) = n) (hl : 2 + n ≤ l.length) (hm : l.length ≤ 8192) :
    unpadL l = if szN (2 + n) = l.length ∧ blankL ((l.drop 2).drop n) = true then some ((l.drop 2).take n) else none := by
  unfold unpadL
  rw [hn]
  by_cases h : szN (2 + n) = l.length ∧ blankL ((l.drop 2).drop n) = true
  · rw [if_pos h, if_pos ⟨h2, hl, by omega, (pad_iff l n h2 hn hl).2 h⟩]
  · rw [if_neg h, if_neg]
    rintro ⟨_, _, _, h4⟩
    exact h ((pad_iff l n h2 hn hl).1 h4)

set_option maxRecDepth 100000 in
theorem Unpad_long (w : World) (s : ByteArray) (h : 8192 < s.size) :
    Calls Try.prog 9 #[.string s] w fun e w' => e = .returned (.tuple #[.string ⟨#[]⟩, .int .i64 4]) ∧ Below w.heap.size w w' := by
  have hb := Below.refl w.heap.size w
  go_enter Try.func9, Try.ntmps9
  go_wp2
  go_ret2
  exact ⟨rfl, hb⟩

set_option maxRecDepth 100000 in
theorem Unpad_short (w : World) (s : ByteArray) (h : s.size < 2) :
    Calls Try.prog 9 #[.string s] w fun e w' => e = .returned (.tuple #[.string ⟨#[]⟩, .int .i64 4]) ∧ Below w.heap.size w w' := by
  have C1 := hide (New_any w s (by omega))
  have hl := str_length s
  have h8 : ¬ (8192 : Int) < (s.size : Int) := by omega
  have HL := hide hl
  clear hl
  go_enter Try.func9, Try.ntmps9
  go_wp2_with fail
  refine C1.out.mono ?_
  rintro e w1 ⟨rfl, ⟨cap, hr⟩, hb1, hz1⟩
  have C2 := hide (Number_no w1 _ _ _ _ 2 _ hr (by have := HL.out; omega))
  clear C1 hr hz1
  go_wp2_with fail
  refine C2.out.mono ?_
  rintro e w2 ⟨rfl, rfl⟩
  clear C2
  go_wp2
  go_ret2
  exact ⟨rfl, hb1⟩

set_option maxRecDepth 100000 in
theorem Unpad_over (w : World) (s : ByteArray) (l : List UInt8) (n : Nat) (hs : s.data.toList = l) (h2 : 2 ≤ l.length) (hm : l.length ≤ 8192) (hn : val (l.take 2) = n) (h : l.length < 2 + n) (hv : n < 65536) :
    Calls Try.prog 9 #[.string s] w fun e w' => e = .returned (.tuple #[.string ⟨#[]⟩, .int .i64 4]) ∧ Below w.heap.size w w' := by
  have hl := str_length s
  rw [hs] at hl
  have C1 := hide (New_any w s (by omega))
  rw [hs] at C1
  have h8 : ¬ (8192 : Int) < (s.size : Int) := by omega
  go_enter Try.func9, Try.ntmps9
  go_wp2_with fail
  refine C1.out.mono ?_
  rintro e w1 ⟨rfl, ⟨cap, hr⟩, hb1, hz1⟩
  have C2 := hide (Number_yes w1 _ _ _ _ 2 _ hr (by omega) (by decide) (by decide) h2)
  rw [hn] at C2
  have hld : (l.drop 2).length < n := by rw [List.length_drop]; omega
  clear C1 hr hz1 hl hs hn h hm h2
  go_wp2_with fail
  refine C2.out.mono ?_
  rintro e w2 ⟨rfl, ⟨o2, cap2, hr2⟩, hon⟩
  have hb2 := hb1.trans (hon.below (by omega))
  have C3 := hide (Take_no w2 _ _ _ _ (n : Int) _ hr2 (by omega))
  clear C2 hr2 hon hb1
  go_wp2_with fail
  refine C3.out.mono ?_
  rintro e w3 ⟨rfl, rfl⟩
  clear C3
  go_wp2
  go_ret2
  exact ⟨rfl, hb2⟩

set_option maxHeartbeats 1000000 in
set_option maxRecDepth 100000 in
theorem Unpad_in (w : World) (s : ByteArray) (l : List UInt8) (n : Nat) (hs : s.data.toList = l) (h2 : 2 ≤ l.length) (hm : l.length ≤ 8192) (hn : val (l.take 2) = n) (h : 2 + n ≤ l.length) :
    Calls Try.prog 9 #[.string s] w fun e w' => e = .returned (unV (if szN (2 + n) = l.length ∧ blankL ((l.drop 2).drop n) = true then some ((l.drop 2).take n) else none)) ∧ Below w.heap.size w w' := by
  have hl := str_length s
  rw [hs] at hl
  have C1 := hide (New_any w s (by omega))
  rw [hs] at C1
  have h8 : ¬ (8192 : Int) < (s.size : Int) := by omega
  have hv : n < 65536 := by omega
  have hld : n ≤ (l.drop 2).length := by rw [List.length_drop]; omega
  have htl : ((l.drop 2).take n).length = n := by rw [List.length_take]; omega
  have hdl : ((l.drop 2).drop n).length = l.length - (2 + n) := by rw [List.length_drop, List.length_drop]; omega
  obtain ⟨t, ht⟩ : ∃ t, (l.drop 2).take n = t := ⟨_, rfl⟩
  obtain ⟨bh, hbh⟩ : ∃ t, (l.drop 2).drop n = t := ⟨_, rfl⟩
  rw [ht] at htl ⊢
  rw [hbh] at hdl ⊢
  have hts : (⟨t.toArray⟩ : ByteArray).size = n := (str_size t).trans htl
  have HT := hide ht
  have HB := hide hbh
  have HD := hide hld
  obtain ⟨V, hV⟩ : ∃ V, unV (if szN (2 + n) = l.length ∧ blankL bh = true then some t else none) = V := ⟨_, rfl⟩
  rw [hV]
  have HV := hide hV
  clear ht hbh hld hV
  have S6 : Hid (∀ w5, Calls Try.prog 11 #[.int .i64 ((2 : Int) + (n : Int))] w5 fun e w' => e = .returned (.tuple #[.int .i64 (szN (2 + n)), .int .i64 0]) ∧ Below w5.heap.size w5 w') := by
    intro w5
    have := Size_any ((2 : Int) + (n : Int)) w5
    rw [show (2 : Int) + (n : Int) = ((2 + n : Nat) : Int) by omega, sizeV_ok _ (by omega), show ((2 + n : Nat) : Int) = (2 : Int) + (n : Int) by omega] at this
    exact this
  generalize szN (2 + n) = z at *
  go_enter Try.func9, Try.ntmps9
  go_wp2_with fail
  refine C1.out.mono ?_
  rintro e w1 ⟨rfl, ⟨cap, hr⟩, hb1, hz1⟩
  have C2 := hide (Number_yes w1 _ _ _ _ 2 _ hr (by omega) (by decide) (by decide) h2)
  rw [hn] at C2
  clear C1 hr hz1 hs hn
  go_wp2_with fail
  refine C2.out.mono ?_
  rintro e w2 ⟨rfl, ⟨o2, cap2, hr2⟩, hon⟩
  have hb2 := hb1.trans (hon.below (by omega))
  have C3 := hide (Take_yes w2 _ _ _ _ n _ hr2 (by omega) HD.out)
  rw [HT.out, HB.out] at C3
  clear C2 hr2 hon hb1 HT HB HD
  go_wp2_with fail
  refine C3.out.mono ?_
  rintro e w3 ⟨rfl, ⟨o3, cap3, hr3⟩, hon3⟩
  have hb3 := hb2.trans (hon3.below (by omega))
  have C4 := hide (Left_rd w3 _ _ _ _ _ hr3)
  have C5 := hide (Take_yes w3 _ _ _ _ bh.length _ hr3 (by omega) (Nat.le_refl _))
  rw [List.take_length] at C5
  clear C3 hr3 hon3 hb2 hdl
  go_wp2_with fail
  refine C4.out.mono ?_
  rintro e w4 ⟨rfl, rfl⟩
  clear C4
  go_wp2_with fail
  refine C5.out.mono ?_
  rintro e w5 ⟨rfl, hx5, hon5⟩
  have hb5 := hb3.trans (hon5.below (by omega))
  clear C5 hx5 hon5 hb3
  go_wp2_with fail
  refine (S6.out w5).mono ?_
  rintro e w6 ⟨rfl, hb6⟩
  clear S6
  have hb7 := bstep hb5 hb6
  clear hb5 hb6
  have C7 := hide (blank_any ⟨bh.toArray⟩ w6)
  rw [show (⟨bh.toArray⟩ : ByteArray).data.toList = bh from rfl] at C7
  by_cases hz : z = l.length
  · have hz2 : ((z : Int) != (s.size : Int)) = false := by rw [hz, hl]; simp
    cases hbb : blankL bh
    · rw [hbb, if_neg (by simp)] at HV
      rw [hbb] at C7
      clear hbb hz hl
      go_wp2_with fail
      refine C7.out.mono ?_
      rintro e w8 ⟨rfl, hb8⟩
      clear C7
      have hb9 := bstep hb7 hb8
      clear hb7 hb8
      go_wp2
      go_ret2
      exact ⟨by rw [← HV.out]; rfl, hb9⟩
    · rw [hbb, if_pos ⟨hz, rfl⟩] at HV
      rw [hbb] at C7
      clear hbb hz hl
      go_wp2_with fail
      refine C7.out.mono ?_
      rintro e w8 ⟨rfl, hb8⟩
      clear C7
      have hb9 := bstep hb7 hb8
      clear hb7 hb8
      go_wp2
      go_ret2
      exact ⟨by rw [← HV.out]; rfl, hb9⟩
  · rw [if_neg (fun h => hz h.1)] at HV
    have hz2 : ((z : Int) != (s.size : Int)) = true := by
      rw [bne_iff_ne]
      omega
    clear hz C7 hl
    go_wp2
    go_ret2
    exact ⟨by rw [← HV.out]; rfl, hb7⟩

theorem Unpad_any (w : World) (s : ByteArray) :
    Calls Try.prog 9 #[.string s] w fun e w' => e = .returned (unV (unpadL s.data.toList)) ∧ Below w.heap.size w w' := by
  have hl := str_length s
  by_cases h8 : 8192 < s.size
  · rw [unpad_none _ (by omega)]; exact Unpad_long w s h8
  by_cases h2 : s.size < 2
  · rw [unpad_none _ (by omega)]; exact Unpad_short w s h2
  by_cases hn : s.data.toList.length < 2 + val (s.data.toList.take 2)
  · rw [unpad_none _ (by omega)]; exact Unpad_over w s _ _ rfl (by omega) (by omega) rfl hn (val2_lt _)
  · rw [unpad_some _ _ (by omega) rfl (by omega) (by omega)]
    exact Unpad_in w s _ _ rfl (by omega) (by omega) rfl (by omega)
end Go.Proofs.Ythelhalfmdbdlaa
