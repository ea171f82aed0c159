/-
  The reference's Unpad.
-/
import Derived.Test.YthelhalfmdbdlaaPE
import Derived.WalkSpells
namespace Go.Proofs.Ythelhalfmdbdlaa
open Go.RowKit Go.Shelf Go.Proofs.Ythelhalfmdbdlaa.Wi

theorem drewN_below (w : World) (n : Nat) : Below w.heap.size w (w.drewN n) := ⟨rfl, rfl, rfl, Nat.le_refl _, fun _ _ => rfl⟩

set_option maxRecDepth 100000 in
theorem RUnpad_short (w : World) (s : ByteArray) (h : s.size < 2) :
    Calls Try.prog 10 #[.string s] w fun e w' => e = .returned (.tuple #[.string ⟨#[]⟩, .int .i64 4]) ∧ Below w.heap.size w w' := by
  have hb := Below.refl w.heap.size w
  go_enter Try.func10, Try.ntmps10
  go_wp2
  go_ret2
  exact ⟨rfl, hb⟩

set_option maxHeartbeats 1000000 in
set_option maxRecDepth 100000 in
theorem RUnpad_in (w : World) (s : ByteArray) (a b : UInt8) (n m : Nat) (V : Value) (hm : s.size = m) (h2 : 2 ≤ m) (hbig : m ≤ 9223372036854775800) (h0 : ∀ h, s[0]'h = a) (h1 : ∀ h, s[1]'h = b) (hn : (a.toNat : Int) * 256 + (b.toNat : Int) = (n : Int))
    (tl : List UInt8) (htl : n ≤ m - 2 → (s.extract 2 (2 + n)).data.toList = tl ∧ tl.length = n)
    (hno : m < 2 + n ∨ 8190 < n ∨ padL tl ≠ s.data.toList → V = unV none) (hyes : 2 + n ≤ m → n ≤ 8190 → padL tl = s.data.toList → V = unV (some tl)) :
    Calls Try.prog 10 #[.string s] w fun e w' => e = .returned V ∧ Below w.heap.size w w' := by
  have ha := a.toNat_lt
  have hb := b.toNat_lt
  have hn2 : n < 65536 := by omega
  have HT := hide htl
  have HN := hide hno
  have HY := hide hyes
  clear htl hno hyes
  go_enter Try.func10, Try.ntmps10
  go_wp2_with fail
  go_quiet (fail)
  clear hn h0 h1
  have hb0 := drewN_below w nq
  generalize w.drewN nq = w1 at *
  by_cases hov : m < 2 + n
  · have hV := HN.out (.inl hov)
    subst hV
    have ho : (n : Int) > (m : Int) - 2 := by omega
    clear HN HY HT
    go_wp2
    go_ret2
    exact ⟨rfl, hb0⟩
  have ho : ¬ (n : Int) > (m : Int) - 2 := by omega
  obtain ⟨ht, htl⟩ := HT.out (by omega)
  have hes : (s.extract 2 (2 + n)).size = n := by rw [← str_length, ht, htl]
  have R := hide (RPad_any w1 (s.extract 2 (2 + n)) (by omega))
  rw [ht] at R
  unfold padV at R
  rw [htl] at R
  by_cases h8 : n ≤ 8190
  · rw [if_pos h8] at R
    have hes2 : s.extract 2 (2 + n) = ⟨tl.toArray⟩ := by
      apply ByteArray.ext
      rw [← ht]
    clear ht hes
    generalize hpl : padL tl = pl at *
    clear hpl
    by_cases hq : pl = s.data.toList
    · have hV := HY.out (by omega) h8 hq
      subst hV
      have hs : s = ⟨pl.toArray⟩ := by
        apply ByteArray.ext
        rw [hq]
      clear HN HY HT
      have HE := hide hes2
      have HS := hide hs
      clear hes2 hs hq
      go_wp2_with fail
      refine R.out.mono ?_
      rintro e w2 ⟨rfl, hb2⟩
      clear R
      have hq2 : ({ data := pl.toArray } : ByteArray).toList = s.toList := by rw [HS.out]
      have hq3 : pl = s.toList := by rw [← hq2, ByteArray.toList_eq]
      have hb3 := bstep hb0 hb2
      clear hb0 hb2
      go_wp2
      go_ret2
      refine ⟨?_, hb3⟩
      rw [HE.out]
      rfl
    · have hV := HN.out (.inr (.inr hq))
      subst hV
      clear HN HY HT hes2
      have hq3 : (pl == s.toList) = false := by rw [ByteArray.toList_eq, beq_eq_false_iff_ne]; exact hq
      clear hq
      go_wp2_with fail
      refine R.out.mono ?_
      rintro e w2 ⟨rfl, hb2⟩
      clear R
      have hb3 := bstep hb0 hb2
      clear hb0 hb2
      go_wp2
      go_ret2
      exact ⟨rfl, hb3⟩
  · rw [if_neg h8] at R
    have hV := HN.out (.inr (.inl (by omega)))
    subst hV
    clear HN HY HT
    go_wp2_with fail
    refine R.out.mono ?_
    rintro e w2 ⟨rfl, hb2⟩
    clear R
    have hb3 := bstep hb0 hb2
    clear hb0 hb2
    go_wp2
    go_ret2
    exact ⟨rfl, hb3⟩

theorem RUnpad_any (w : World) (s : ByteArray) (hbig : s.size ≤ 9223372036854775800) :
    Calls Try.prog 10 #[.string s] w fun e w' => e = .returned (unV (unpadL s.data.toList)) ∧ Below w.heap.size w w' := by
  have hl := str_length s
  by_cases h2 : s.size < 2
  · rw [unpad_none _ (by omega)]; exact RUnpad_short w s h2
  obtain ⟨l, hs⟩ : ∃ l, s.data.toList = l := ⟨_, rfl⟩
  rw [hs] at hl ⊢
  match l, hl, hs with
  | [], hl, _ => exact absurd hl (by simp; omega)
  | [_], hl, _ => exact absurd hl (by simp; omega)
  | a :: b :: r, hl, hs =>
    have hsb : s = ⟨(a :: b :: r).toArray⟩ := by apply ByteArray.ext; rw [← hs]
    have hv : val ((a :: b :: r).take 2) = a.toNat * 256 + b.toNat := by
      show val [a, b] = _
      simp [val]
    have hx : (a :: b :: r).drop 2 = r := rfl
    have hlen : (a :: b :: r).length = r.length + 2 := rfl
    refine RUnpad_in w s a b (a.toNat * 256 + b.toNat) s.size _ rfl (by omega) hbig (fun h => by subst hsb; rfl) (fun h => by subst hsb; rfl) (by omega) (r.take (a.toNat * 256 + b.toNat)) ?_ ?_ ?_
    · intro h
      refine ⟨?_, by rw [List.length_take]; omega⟩
      rw [ByteArray.data_extract, Array.toList_extract, hs]
      show ((a :: b :: r).drop 2).take (2 + (a.toNat * 256 + b.toNat) - 2) = _
      rw [hx, Nat.add_sub_cancel_left]
    · intro h
      unfold unpadL
      rw [hv, hx, if_neg]
      rintro ⟨_, c2, c3, c4⟩
      rw [hs] at h
      rcases h with h | h | h
      · omega
      · omega
      · exact h c4
    · intro h1 h2 h3
      unfold unpadL
      rw [hv, hx, if_pos ⟨by omega, by omega, h2, by rw [h3, hs]⟩]
end Go.Proofs.Ythelhalfmdbdlaa
