/-
  What a log says.
-/
import Derived.Test.YtckmlaempffpjaaGreatS19
import Derived.Test.YtckmlaempffpjaaGreatS11
namespace Go.Proofs.YtckmlaempffpjaaGreat
open Go.RowKit Go.Shelf

def MX : Nat := 9223372036854775807
/-- what the frames of a log make of rows: the rows, the bytes that are left, whether all frames are of changes -/
def rplF : Nat → List Rw → List UInt8 → List Rw × List UInt8 × Bool
  | 0, rows, us => (rows, us, true)
  | n + 1, rows, us =>
    if (nxt MX us).2.1 = false then (rows, us, true)
    else if okB (pdB (bl (nxt MX us).1)) = false then (rows, us, false)
    else rplF n (applyR rows (pdB (bl (nxt MX us).1)).ps (pdB (bl (nxt MX us).1)).ds) (nxt MX us).2.2
def rplB (log : ByteArray) : List Rw × List UInt8 × Bool := rplF (log.size + 1) [] (bl log)
theorem nxt_len {m : Nat} {us : List UInt8} (h : (nxt m us).2.1 = true) : us.length = 4 + (nxt m us).1.size + (nxt m us).2.2.length := by
  unfold nxt at h ⊢
  split
  · rename_i hc
    rw [if_pos hc] at h
    rw [txt_size hc.2.2, List.length_drop]
    omega
  · rename_i hc
    rw [if_neg hc] at h
    cases h
theorem nxt_no {m : Nat} {us : List UInt8} (h : (nxt m us).2.1 = false) : (nxt m us).2.2 = us := by
  unfold nxt at h ⊢
  split
  · rename_i hc
    rw [if_pos hc] at h
    cases h
  · rfl
theorem ppR_false {n : Nat} {us : List UInt8} {acc : List Rw} : (ppR n false us acc).1 = false := by cases n <;> rfl
theorem pdR_false {n : Nat} {us : List UInt8} {acc : List ByteArray} : (pdR n false us acc).1 = false := by cases n <;> rfl
theorem ppR_laid : ∀ (n : Nat) (wh : Bool) (us : List UInt8) (acc : List Rw), (ppR n wh us acc).1 = true → laidR (ppR n wh us acc).2.2 + (ppR n wh us acc).2.1.length ≤ laidR acc + us.length
  | 0, wh, us, acc, h => by unfold ppR; exact Nat.le_refl _
  | n + 1, false, us, acc, h => by cases h
  | n + 1, true, us, acc, h => by
    unfold ppR at h ⊢
    cases h1 : (nxt 262144 us).2.1 with
    | false =>
      rw [h1, Bool.false_and, ppR_false] at h
      cases h
    | true =>
      cases h2 : (nxt 262144 (nxt 262144 us).2.2).2.1 with
      | false =>
        rw [h2, Bool.and_false, ppR_false] at h
        cases h
      | true =>
        rw [h1, h2] at h
        have h3 := nxt_len h1
        have h4 := nxt_len h2
        have h5 := ppR_laid n _ _ _ h
        have e : laidR (acc ++ [⟨(nxt 262144 us).1, (nxt 262144 (nxt 262144 us).2.2).1⟩]) = laidR acc + (8 + (nxt 262144 us).1.size + (nxt 262144 (nxt 262144 us).2.2).1.size) := by rw [laid_app]; simp [laidR, rsz]
        rw [e] at h5
        omega
theorem pdR_wh {n : Nat} {wh : Bool} {us : List UInt8} {acc : List ByteArray} (h : (pdR n wh us acc).1 = true) : wh = true := by
  cases wh with
  | true => rfl
  | false => rw [pdR_false] at h; cases h
theorem nxn_len (m : Nat) (us : List UInt8) : (nxn m us).2.2.length ≤ us.length := by
  unfold nxn
  split
  · rw [List.length_drop]; omega
  · exact Nat.le_refl _
theorem pd_laid {us : List UInt8} (h : (pdB us).wh = true) : laidR (pdB us).ps ≤ us.length := by
  have h1 : (ppR (nxn 2 us).1 (nxn 2 us).2.1 (nxn 2 us).2.2 []).1 = true := by
    have := pdR_wh h
    rw [Bool.and_eq_true] at this
    exact this.1
  have h2 := ppR_laid _ _ _ _ h1
  have h3 := nxn_len 2 us
  have h0 : laidR [] = 0 := rfl
  show laidR (ppR (nxn 2 us).1 (nxn 2 us).2.1 (nxn 2 us).2.2 []).2.2 ≤ _
  omega
theorem okB_wh {p : Pd} (h : okB p = true) : p.wh = true ∧ p.left = [] ∧ p.ps.length + p.ds.length ≠ 0 ∧ refR p.ps p.ds = 0 := by
  unfold okB at h
  simp only [Bool.and_eq_true, decide_eq_true_eq] at h
  exact ⟨h.1.1.1, List.eq_nil_of_length_eq_zero h.1.1.2, h.1.2, h.2⟩
theorem laid_apply (l ps : List Rw) (ds : List ByteArray) : laidR (applyR l ps ds) ≤ laidR l + laidR ps := Nat.le_trans (laid_dels _ ds) (laid_puts l ps)
theorem changeOf_yes (s : ByteArray) (hs : s.size ≤ 1000000000) (w : World) (h : okB (pdB (bl s)) = true) : Calls Tryz.prog 92 #[.string s] w fun e w' => ∃ po pc do_ dc Lp Ld, e = .returned (.tuple #[.agg #[.slice po (pdB (bl s)).ps.length pc, .slice do_ (pdB (bl s)).ds.length dc], .bool true]) ∧ Row 64 2 (.slice po (pdB (bl s)).ps.length pc) (pdB (bl s)).ps.length (rcl (pdB (bl s)).ps) Lp ∧ Row 9 1 (.slice do_ (pdB (bl s)).ds.length dc) (pdB (bl s)).ds.length (scl (pdB (bl s)).ds) Ld ∧ HA (bs w) (Lp ++ Ld) w' :=
  (changeOf_any s hs w).mono fun e w' hr => by
    rcases hr with ⟨_, hr⟩ | ⟨h2, _⟩
    · exact hr
    · rw [h] at h2; cases h2
theorem changeOf_no (s : ByteArray) (hs : s.size ≤ 1000000000) (w : World) (h : okB (pdB (bl s)) = false) : Calls Tryz.prog 92 #[.string s] w fun e w' => e = .returned (.tuple #[.agg #[.slice none 0 0, .slice none 0 0], .bool false]) ∧ Below w.heap.size w w' :=
  (changeOf_any s hs w).mono fun e w' hr => by
    rcases hr with ⟨h2, _⟩ | ⟨_, hr⟩
    · rw [h] at h2; cases h2
    · exact hr
end Go.Proofs.YtckmlaempffpjaaGreat
