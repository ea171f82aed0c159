/-
  pad: what is blank; the reference's lengths and Size.
-/
import Derived.Test.YthelhalfmdbdlaaWA
import Derived.Laws.RangeAny
import Derived.LoopTactic
namespace Go.Proofs.Ythelhalfmdbdlaa
open Go.RowKit Go.Proofs.Ythelhalfmdbdlaa.Wi

theorem width_pos (s : ByteArray) (pos : Nat) (h : pos < s.size) : 1 ≤ (Utf8.decode s pos).2 := by
  by_cases ha : (s[pos]'h).toNat < 128
  · rw [decode_ascii s pos h ha]
    exact Nat.le_refl _
  · exact (decode_high s pos h (by omega)).2

/-- are all bytes 0? -/
def blankL (l : List UInt8) : Bool := l.all (· == 0)

theorem blank_yes (s : ByteArray) (pos : Nat) (h : pos < s.size) (h0 : (Utf8.decode s pos).1 = 0) : s.data.toList.drop pos = 0 :: s.data.toList.drop (pos + 1) ∧ (Utf8.decode s pos).2 = 1 := by
  by_cases ha : (s[pos]'h).toNat < 128
  · rw [decode_ascii s pos h ha] at h0 ⊢
    refine ⟨?_, rfl⟩
    have hl : pos < s.data.toList.length := by rw [str_length]; exact h
    rw [List.drop_eq_getElem_cons hl]
    congr 1
    have e : s.data.toList[pos] = s[pos]'h := by rw [Array.getElem_toList]; rfl
    rw [e]
    have h0' : (s[pos]'h).toNat = 0 := h0
    exact UInt8.toNat.inj h0'
  · have := (decode_high s pos h (by omega)).1
    omega

theorem blank_no (s : ByteArray) (pos : Nat) (h : pos < s.size) (h0 : (Utf8.decode s pos).1 ≠ 0) : blankL (s.data.toList.drop pos) = false := by
  have hl : pos < s.data.toList.length := by rw [str_length]; exact h
  rw [List.drop_eq_getElem_cons hl]
  have e : s.data.toList[pos] = s[pos]'h := by rw [Array.getElem_toList]; rfl
  rw [e]
  have : (s[pos]'h) ≠ 0 := by
    intro e0
    apply h0
    rw [decode_ascii s pos h (by rw [e0]; decide), e0]
    rfl
  unfold blankL
  rw [List.all_cons, beq_eq_false_iff_ne.2 this]
  rfl

theorem iter_below (w : World) (s : ByteArray) (pos : Nat) : Below w.heap.size w (w.iter s pos) := (Below.refl _ w).alloc (Nat.le_refl _) _

set_option maxRecDepth 100000 in
theorem blank_any (s : ByteArray) (w : World) :
    Calls Try.prog 21 #[.string s] w fun e w' => e = .returned (.bool (blankL s.data.toList)) ∧ Below w.heap.size w w' := by
  go_enter Try.func21, Try.ntmps21
  go_wp2
  go_loopw [2] (fun r w' => ∃ (pos : Nat), r = .bool false ∧ w' = w.iter s pos ∧ Hid (blankL (s.data.toList.drop pos) = blankL s.data.toList)) (fun _ w' => s.size - w'.iterPos w.heap.size)
  case atStart => exact ⟨0, rfl, rfl, rfl⟩
  case round =>
    obtain ⟨pos, rfl, rfl, hc⟩ := hrel
    by_cases hp : pos < s.size
    · have hnx : ∀ ty, (Instr.next (.pointer (some ⟨w.heap.size, 0, none⟩)) true ty).run Try.prog (w.iter s pos) = _ := fun ty => run_next_any w s pos ty hp
      by_cases h0 : (Utf8.decode s pos).1 = 0
      · obtain ⟨hb, hw⟩ := blank_yes s pos hp h0
        have HB : Hid (blankL (s.data.toList.drop (pos + 1)) = blankL s.data.toList) := by
          rw [← hc.out, hb]
          rfl
        clear hb hc
        rw [h0, hw] at hnx
        clear h0 hw
        go_wp2
        go_roundw
        case rel => exact ⟨pos + 1, rfl, rfl, HB⟩
        case measure => simp; omega
      · have HB : Hid (blankL s.data.toList = false) := by rw [← hc.out]; exact blank_no s pos hp h0
        clear hc
        generalize (Utf8.decode s pos).2 = wd at hnx
        generalize (Utf8.decode s pos).1 = rr at hnx h0
        have hz : ((rr : Int) != 0) = true := by simpa using h0
        clear h0
        go_wp2
        go_ret
        exact ⟨by rw [HB.out]; rfl, iter_below _ _ _⟩
    · have hnx : ∀ ty, (Instr.next (.pointer (some ⟨w.heap.size, 0, none⟩)) true ty).run Try.prog (w.iter s pos) = _ := fun ty => run_next_end w s pos ty hp
      have HB : Hid (blankL s.data.toList = true) := by
        rw [← hc.out, List.drop_of_length_le (by rw [str_length]; omega)]
        exact rfl
      clear hc
      go_wp2
      go_ret
      exact ⟨by rw [HB.out]; rfl, iter_below _ _ _⟩

/-- the least of the lengths that is not less than n -/
def szN (n : Nat) : Nat := if n ≤ 32 then 32 else if n ≤ 64 then 64 else if n ≤ 128 then 128 else (n + 255) / 256 * 256
/-- what Size answers -/
def sizeV (n : Int) : Value := if n < 0 then .tuple #[.int .i64 0, .int .i64 2] else if n ≤ 8192 then .tuple #[.int .i64 (szN n.toNat), .int .i64 0] else .tuple #[.int .i64 0, .int .i64 3]

/-- is it one of the lengths? -/
def isLen (k : Nat) : Bool := k = 32 || k = 64 || k = 128 || (256 ≤ k && k ≤ 8192 && k % 256 = 0)

theorem length_any (k : Nat) (hk : k ≤ 8192) (w : World) :
    Calls Try.prog 23 #[.int .i64 k] w fun e w' => e = .returned (.bool (isLen k)) ∧ w' = w := by
  have HB : Hid (isLen k = decide (k = 32 ∨ k = 64 ∨ k = 128 ∨ 256 ≤ k ∧ k % 256 = 0)) := by
    show isLen k = _
    unfold isLen
    rw [Bool.eq_iff_iff]
    simp only [Bool.or_eq_true, Bool.and_eq_true, decide_eq_true_eq]
    omega
  rw [HB.out]
  by_cases h1 : k = 32
  · subst h1
    go_enter Try.func23, Try.ntmps23
    go_wp2
    go_ret
    exact ⟨rfl, rfl⟩
  by_cases h2 : k = 64
  · subst h2
    go_enter Try.func23, Try.ntmps23
    go_wp2
    go_ret
    exact ⟨rfl, rfl⟩
  by_cases h3 : k = 128
  · subst h3
    go_enter Try.func23, Try.ntmps23
    go_wp2
    go_ret
    exact ⟨rfl, rfl⟩
  have e1 : ((k : Int) == 32) = false := by simp; omega
  have e2 : ((k : Int) == 64) = false := by simp; omega
  have e3 : ((k : Int) == 128) = false := by simp; omega
  by_cases h4 : 256 ≤ k
  · have e4 : (256 : Int) ≤ (k : Int) := by omega
    have e5 : (k : Int) ≤ 8192 := by omega
    have HE : Hid (decide (k = 32 ∨ k = 64 ∨ k = 128 ∨ 256 ≤ k ∧ k % 256 = 0) = ((k : Int).tmod 256 == 0)) := by
      show _ = _
      rw [Int.tmod_eq_emod_of_nonneg (by omega), Bool.eq_iff_iff, decide_eq_true_eq, beq_iff_eq]
      omega
    rw [HE.out]
    clear HE HB h1 h2 h3 h4
    go_enter Try.func23, Try.ntmps23
    go_wp2
    go_ret
    exact ⟨rfl, rfl⟩
  · have e4 : ¬ (256 : Int) ≤ (k : Int) := by omega
    have HE : Hid (decide (k = 32 ∨ k = 64 ∨ k = 128 ∨ 256 ≤ k ∧ k % 256 = 0) = false) := by
      show _ = _
      rw [decide_eq_false_iff_not]
      omega
    rw [HE.out]
    clear HE HB h1 h2 h3 h4
    go_enter Try.func23, Try.ntmps23
    go_wp2
    go_ret
    exact ⟨rfl, rfl⟩
end Go.Proofs.Ythelhalfmdbdlaa
