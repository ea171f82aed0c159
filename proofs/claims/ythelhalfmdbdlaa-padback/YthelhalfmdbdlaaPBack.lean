/-
  PadBack answers true: the walk.
-/
import Derived.Test.YthelhalfmdbdlaaPG
import Derived.Laws.BitsAllLaws
namespace Go.Proofs.Ythelhalfmdbdlaa
open Go.RowKit Go.Shelf Go.Proofs.Ythelhalfmdbdlaa.Wi

theorem bytes_of (w : World) (l : List UInt8) : ∃ W cap, (convert 9 29 (.string ⟨l.toArray⟩)).run Try.prog w = .ok (.slice (some ⟨w.heap.size, 0, none⟩) l.length cap) W ∧ Below w.heap.size w W ∧
    (∀ j (h : j < l.length), W.cell? ⟨w.heap.size, j, none⟩ = some (.int .u8 (l[j].toNat : Int))) ∧ (∀ j, j < l.length → W.frozen? ⟨w.heap.size, j, none⟩ = false) ∧ W.heap.size = w.heap.size + 1 := by
  have hv := run_bytes_of_string (P := Try.prog) w 9 29 5 ⟨l.toArray⟩ Try.underlying9 Try.underlying29 Try.underlying5
  rw [str_size] at hv
  refine ⟨_, _, hv, ?_, ?_, ?_, by simp⟩
  · exact (show Below w.heap.size w w.drew from drewN_below w 1).trans ((Below.refl w.heap.size w.drew).alloc (Nat.le_refl _) _)
  · intro j hj
    have h := World.cell?_alloc_mark w.drew (bytesRow ⟨l.toArray⟩ (grownCap w l.length 0 5)) 5 ((bytesRow ⟨l.toArray⟩ (grownCap w l.length 0 5)).size, (bytesRow ⟨l.toArray⟩ (grownCap w l.length 0 5)).size + 1) j
    have h2 := bytesRow_at ⟨l.toArray⟩ (grownCap w l.length 0 5) j (by simpa using hj)
    exact h.trans (h2.trans (by simp))
  · intro j hj
    have h := World.frozen?_alloc_mark w.drew (bytesRow ⟨l.toArray⟩ (grownCap w l.length 0 5)) 5 (bytesRow ⟨l.toArray⟩ (grownCap w l.length 0 5)).size ((bytesRow ⟨l.toArray⟩ (grownCap w l.length 0 5)).size + 1) j
    refine h.trans ?_
    have : j < (bytesRow ⟨l.toArray⟩ (grownCap w l.length 0 5)).size := by
      unfold bytesRow
      rw [Array.size_append, Array.size_map]
      have : l.toArray.size = l.length := by simp
      show j < l.toArray.size + _
      omega
    rw [decide_eq_false (by omega)]
    rfl

set_option maxHeartbeats 4000000 in
set_option maxRecDepth 100000 in
theorem back_true (s : ByteArray) (at' : Int) (by' : Nat) (hby : by' ≤ 255) (w : World) (hs : s.size ≤ 9223372036854775800) :
    Calls Try.prog 4 #[.string s, .int .i64 at', .int .u8 by'] w fun e w' => e = .returned (.bool true) ∧ Below w.heap.size w w' := by
  obtain ⟨a, ha⟩ : ∃ a, min s.size 8190 = a := ⟨_, rfl⟩
  have ma : min (s.size : Int) 8190 = (a : Int) := by omega
  have la : a ≤ s.size := by omega
  have l8 : a ≤ 8190 := by omega
  clear ha
  go_enter Try.func4, Try.ntmps4
  go_wp2_with fail
  have hxa : (s.extract 0 a).size = a := by rw [ByteArray.size_extract]; omega
  clear ma la hs
  generalize s.extract 0 a = x at *
  have A := hide (Pad_yes w x (by omega))
  have U := hide (fun w => Unpad_any w ⟨(padL x.data.toList).toArray⟩)
  rw [show (⟨(padL x.data.toList).toArray⟩ : ByteArray).data.toList = padL x.data.toList from rfl, unpad_pad _ (by rw [str_length]; omega)] at U
  have hpa : (padL x.data.toList).length = szN (2 + a) := by rw [padL_len, str_length, hxa]
  have hpa2 : (⟨(padL x.data.toList).toArray⟩ : ByteArray).size = szN (2 + a) := (str_size _).trans hpa
  have SA : Hid (∀ w, Calls Try.prog 11 #[.int .i64 ((a : Int) + 2)] w fun e w' => e = .returned (.tuple #[.int .i64 (szN (2 + a)), .int .i64 0]) ∧ Below w.heap.size w w') := by
    intro w
    have := Size_any ((a : Int) + 2) w
    rw [show (a : Int) + 2 = ((2 + a : Nat) : Int) by omega, sizeV_ok _ (by omega), show ((2 + a : Nat) : Int) = (a : Int) + 2 by omega] at this
    exact this
  have hz8 := sz_le (2 + a) (by omega)
  have hz9 := sz_ge (2 + a)
  have G := hide (fun w => works_true w)
  generalize szN (2 + a) = z at *
  obtain ⟨xs, hxs⟩ : ∃ xs, x.data.toList = xs := ⟨_, rfl⟩
  obtain ⟨pl, hpl⟩ : ∃ p, padL xs = p := ⟨_, rfl⟩
  rw [hxs] at A U hpa hpa2
  rw [hpl] at A U hpa hpa2
  have hxx : ({ data := xs.toArray } : ByteArray) = x := by apply ByteArray.ext; rw [← hxs]
  rw [show unV (some xs) = .tuple #[.string x, .int .i64 0] by rw [← hxx]; rfl] at U
  have HPL := hide hpl
  clear hpl hxs hxx
  refine A.out.mono ?_
  rintro e w1 ⟨rfl, b1⟩
  clear A
  go_wp2_with fail
  refine (U.out w1).mono ?_
  rintro e w2 ⟨rfl, b2⟩
  have B2 := bstep b1 b2
  clear b1 b2 U
  go_wp2_with fail
  refine (SA.out w2).mono ?_
  rintro e w3 ⟨rfl, b3⟩
  have B3 := bstep B2 b3
  clear B2 b3 SA
  have hcz : ¬ (z : Int) < (a : Int) + 2 := by omega
  have hzz : ¬ (z : Int) = 0 := by omega
  have t1 : -8192 < at'.tmod z := by
    have := Int.lt_tmod_of_pos at' (show (0 : Int) < z by omega)
    omega
  have t2 : at'.tmod z < 8192 := by
    have := Int.tmod_lt_of_pos at' (show (0 : Int) < z by omega)
    omega
  obtain ⟨k, hk⟩ : ∃ k : Nat, (at'.tmod z + z).tmod z = (k : Int) := by
    have h0 : 0 ≤ at'.tmod z + z := by
      have := Int.lt_tmod_of_pos at' (show (0 : Int) < z by omega)
      omega
    have h1 := Int.tmod_nonneg z h0
    exact ⟨((at'.tmod z + z).tmod z).toNat, by omega⟩
  have k1 : (k : Int) < (z : Int) := by
    have := Int.tmod_lt_of_pos (at'.tmod z + z) (show (0 : Int) < z by omega)
    omega
  obtain ⟨W, cap, hv, bW, hcells, hfree, hWs⟩ := bytes_of w3 pl
  rw [hpa] at hv
  have kl : k < pl.length := by omega
  have hc := hcells k kl
  have hf := hfree k kl
  have HC := hide hcells
  have HF := hide hfree
  clear hcells hfree
  generalize hcc : pl[k] = c at hc
  have HCC := hide hcc
  clear hcc
  have k0 : (0 : Int) ≤ (k : Int) := by omega
  have hcl := c.toNat_lt
  obtain ⟨y, hy⟩ : ∃ y : UInt8, y.toNat = by' := ⟨UInt8.ofNat by', by rw [UInt8.toNat_ofNat']; omega⟩
  subst hy
  obtain ⟨d, hd⟩ : ∃ d, d = c ^^^ y := ⟨_, rfl⟩
  have hx : bits .xor .u8 (c.toNat : Int) (y.toNat : Int) = (d.toNat : Int) := by
    rw [u8_xor_nat _ _ hcl (by omega), hd, UInt8.toNat_xor]
  obtain ⟨ql, hql⟩ : ∃ ql, ql = pl.set k d := ⟨_, rfl⟩
  have hqz : ql.length = z := by rw [hql, List.length_set, hpa]
  have hqs : (⟨ql.toArray⟩ : ByteArray).size = z := (str_size _).trans hqz
  have HQ : Hid (∀ j (h : j < ql.length), (W.setCell ⟨w3.heap.size, k, none⟩ (.int .u8 (d.toNat : Int))).cell? ⟨w3.heap.size, j, none⟩ = some (.int .u8 (ql[j].toNat : Int))) := by
    intro j h
    subst hql
    by_cases hjk : k = j
    · subst hjk
      rw [World.cell?_setCell_same' _ _ _ (by rw [hc]; rfl), List.getElem_set_self]
    · rw [World.cell?_setCell_other _ _ _ _ (fun e => hjk (congrArg Addr.off e)), List.getElem_set_ne hjk]
      exact HC.out j (by rw [List.length_set] at h; exact h)
  have BQ : Below w.heap.size w (W.setCell ⟨w3.heap.size, k, none⟩ (.int .u8 (d.toNat : Int))) := (bstep B3 bW).setCell (p := ⟨w3.heap.size, k, none⟩) B3.size _
  have sQ : w3.heap.size < (W.setCell ⟨w3.heap.size, k, none⟩ (.int .u8 (d.toNat : Int))).heap.size := by rw [show (W.setCell ⟨w3.heap.size, k, none⟩ (.int .u8 (d.toNat : Int))).heap.size = W.heap.size by simp, hWs]; omega
  have cvb : ∀ W' : World, (∀ j (h : j < ql.length), W'.cell? ⟨w3.heap.size, j, none⟩ = some (.int .u8 (ql[j].toNat : Int))) → (convert 29 9 (.slice (some ⟨w3.heap.size, 0, none⟩) z cap)).run Try.prog W' = .ok (.string ⟨ql.toArray⟩) W' := by
    intro W' h
    have := run_convert_bytes_back (P := Try.prog) W' 29 9 5 ⟨w3.heap.size, 0, none⟩ cap ql Try.underlying29 Try.underlying5 Try.underlying9 (fun j hj => by
      rw [Addr.add_lit, Nat.zero_add]
      exact h j hj)
    rw [hqz] at this
    exact this
  have cv1 := cvb _ HQ.out
  have CV := hide cvb
  clear cvb
  have HD := hide hd
  have HQL := hide hql
  clear hd hql HC HF B3 bW
  have U2 := hide (fun w => Unpad_any w ⟨ql.toArray⟩)
  rw [show (⟨ql.toArray⟩ : ByteArray).data.toList = ql from rfl] at U2
  cases hu : unpadL ql with
  | none =>
    rw [hu, show unV none = .tuple #[.string ⟨#[]⟩, .int .i64 4] from rfl] at U2
    have hy0 : (y != 0) = true := by
      rw [bne_iff_ne]
      intro e
      have : ql = pl := by
        rw [HQL.out, HD.out, e, UInt8.xor_zero, ← HCC.out]
        exact List.set_getElem_self kl
      rw [this, ← HPL.out, unpad_pad _ (by have := hpa; rw [← HPL.out, padL_len] at this; have := sz_ge (2 + xs.length); omega)] at hu
      cases hu
    have hyi : ((y.toNat : Int) != 0) = true := by
      rw [bne_iff_ne] at hy0 ⊢
      intro e
      exact hy0 (UInt8.toNat.inj (by rw [show (0 : UInt8).toNat = 0 from rfl]; omega))
    clear hu hy0 HPL HQL HD HCC CV
    go_wp2_with fail
    refine (U2.out _).mono ?_
    rintro e w5 ⟨rfl, b5⟩
    have B5 := bstep BQ b5
    clear U2 BQ b5 HQ sQ cv1 hv hc hf
    go_wp2_with fail
    refine (G.out w5).mono ?_
    rintro e w6 ⟨rfl, b6⟩
    have B6 := bstep B5 b6
    clear G B5 b6
    go_wp2
    go_ret
    exact ⟨rfl, B6⟩
  | some u =>
    rw [hu, show unV (some u) = .tuple #[.string ⟨u.toArray⟩, .int .i64 0] from rfl] at U2
    obtain ⟨hpu, hul⟩ := pad_unpad hu
    have P2 := hide (fun w => Pad_yes w ⟨u.toArray⟩ (by rw [str_size]; exact hul))
    rw [show (⟨u.toArray⟩ : ByteArray).data.toList = u from rfl, hpu] at P2
    clear hu hpu HPL HQL HD HCC
    go_wp2_with fail
    refine (U2.out _).mono ?_
    rintro e w5 ⟨rfl, b5⟩
    have B5 := bstep BQ b5
    have Q5 : Hid (∀ j (h : j < ql.length), w5.cell? ⟨w3.heap.size, j, none⟩ = some (.int .u8 (ql[j].toNat : Int))) := fun j h => (b5.cell (p := ⟨w3.heap.size, j, none⟩) sQ).trans (HQ.out j h)
    have s5 := Nat.lt_of_lt_of_le sQ b5.size
    clear U2 BQ b5 HQ sQ cv1 hv hc hf
    go_wp2_with fail
    refine (P2.out w5).mono ?_
    rintro e w6 ⟨rfl, b6⟩
    have B6 := bstep B5 b6
    have Q6 : Hid (∀ j (h : j < ql.length), w6.cell? ⟨w3.heap.size, j, none⟩ = some (.int .u8 (ql[j].toNat : Int))) := fun j h => (b6.cell (p := ⟨w3.heap.size, j, none⟩) s5).trans (Q5.out j h)
    clear P2 B5 b6 Q5 s5
    have cv2 := CV.out w6 Q6.out
    go_wp2_with fail
    refine (G.out w6).mono ?_
    rintro e w7 ⟨rfl, b7⟩
    have B7 := bstep B6 b7
    clear G B6 b7 Q6 cv2 CV
    go_wp2
    go_ret
    exact ⟨rfl, B7⟩

theorem back_row (s : ByteArray) (hs : s.size ≤ 140737488351232) (at' : Int) (_ : -9223372036854775808 ≤ at' ∧ at' ≤ 9223372036854775807) (by' : Nat) (hby : by' ≤ 255) (w : World) :
    Calls Try.prog 4 #[.string s, .int .i64 at', .int .u8 by'] w fun e w' => e = .returned (.bool true) ∧ Below w.heap.size w w' := back_true s at' by' hby w (by omega)
end Go.Proofs.Ythelhalfmdbdlaa
