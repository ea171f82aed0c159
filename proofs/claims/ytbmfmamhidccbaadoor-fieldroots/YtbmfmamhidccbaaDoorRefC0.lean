/-
  Differences and passes of carries over cells.
-/
import Derived.Test.YtbmfmamhidccbaaDoorRefB
namespace Go.Proofs.YtbmfmamhidccbaaDoor
open Go.RowKit Num

def bsub (a b k : Nat) : Nat := a % 65536 ^ k + 65536 ^ k - b % 65536 ^ k
/-- k digits of the difference are laid -/
def mc (a b k : Nat) : Array Value := cl .u32 (mix 65536 k (bsub a b k) (digs 65536 16 a))
theorem mc_zero (a b : Nat) : mc a b 0 = rl a := rfl
theorem mc_size (a b k : Nat) (hk : k ≤ 16) : (mc a b k).size = 16 := by
  unfold mc
  rw [cl_size, mix_length _ _ _ _ (by rw [digs_length]; exact hk), digs_length]
theorem mc_get (a b k : Nat) (hk : k < 16) : (mc a b k)[k]? = some (iN .u32 (a / 65536 ^ k % 65536)) := by
  unfold mc
  rw [cl_get .u32 _ k (by rw [mix_length _ _ _ _ (by rw [digs_length]; omega), digs_length]; exact hk), mix_get _ _ _ _ (by rw [digs_length]; exact hk), digs_get]
  rfl
/-- what is lent, nought at first -/
def brr (a b : Nat) : Nat → Nat
  | 0 => 0
  | k + 1 => bor 65536 a b (k + 1)
theorem brr_eq (a b k : Nat) : brr a b k = bor 65536 a b k := by
  cases k with
  | zero => unfold bor; rw [Nat.pow_zero, Nat.mod_one, Nat.mod_one]; rfl
  | succ k => rfl
/-- a digit with what is lent -/
def dsub (a b k : Nat) : Nat := a / 65536 ^ k % 65536 + 65536 - b / 65536 ^ k % 65536 - brr a b k
theorem bor16_le (a b k : Nat) : brr a b k ≤ 1 := by
  rw [brr_eq]
  unfold bor
  split <;> omega
theorem mc_put (a b k : Nat) (hk : k < 16) : (mc a b k).setIfInBounds k (.int .u32 ((dsub a b k &&& 65535 : Nat) : Int)) = mc a b (k + 1) := by
  have h := (sub_step 65536 a b k (by decide)).1
  have h2 := mix_set 65536 k (bsub a b k) (bsub a b (k + 1)) (dsub a b k % 65536) (digs 65536 16 a) (by decide) (by rw [digs_length]; exact hk) (by unfold dsub; rw [brr_eq]; exact h)
  unfold mc
  rw [← h2, and16]
  simp [cl, List.map_set]
theorem mc_end (a b : Nat) (ha : a < 65536 ^ 16) (hb : b ≤ a) : mc a b 16 = rl (a - b) := by
  unfold mc mix rl
  rw [List.drop_eq_nil_of_le (by rw [digs_length]; exact Nat.le_refl _), List.append_nil]
  congr 1
  refine digs_mod 65536 16 _ _ (by decide) ?_
  unfold bsub
  rw [Nat.mod_eq_of_lt ha, Nat.mod_eq_of_lt (Nat.lt_of_le_of_lt hb ha), show a + 65536 ^ 16 - b = (a - b) + 65536 ^ 16 by omega, Nat.add_mod_right]
theorem dsub_bor (a b k : Nat) : 1 - dsub a b k / 2 ^ 16 = brr a b (k + 1) := by
  have h := (sub_step 65536 a b k (by decide)).2
  have h1 := bor16_le a b k
  have h2 : a / 65536 ^ k % 65536 < 65536 := Nat.mod_lt _ (by decide)
  have h3 : b / 65536 ^ k % 65536 < 65536 := Nat.mod_lt _ (by decide)
  rw [← brr_eq a b k] at h
  rw [brr_eq a b (k + 1), h]
  unfold dsub
  split <;> omega
theorem dsub_lt (a b k : Nat) : dsub a b k < 131072 := by
  have h2 : a / 65536 ^ k % 65536 < 65536 := Nat.mod_lt _ (by decide)
  unfold dsub
  omega

/-- a loop whose measure gets less -/
theorem rounds_more {P : Program} {Q : Exit → Act → World → Prop} {c : Code} : ∀ (n : Nat) (a : Act) (w : World), Code.rounds P c Q n a w → Code.rounds P c Q (n + 1) a w
  | 0, _, _, h => h.elim
  | n + 1, a, w, h => by
    rw [rounds_succ] at h ⊢
    exact Code.wp_mono (fun e a w he => by cases e <;> first | exact rounds_more n a w he | exact he) h
theorem rounds_le {P : Program} {Q : Exit → Act → World → Prop} {c : Code} {n m : Nat} (h : n ≤ m) {a : Act} {w : World} (hr : Code.rounds P c Q n a w) : Code.rounds P c Q m a w := by
  induction h with
  | refl => exact hr
  | step _ ih => exact rounds_more _ _ _ ih
theorem wp_while {P : Program} {Q : Exit → Act → World → Prop} {c : Code} (I : Nat → Act → World → Prop) (m : Nat) {a : Act} {w : World} (h0 : I m a w)
    (round : ∀ m a w, I m a w → c.wp P (Exit.then (fun a' w' => ∃ m', m' < m ∧ I m' a' w') Q) a w) : (Code.loop c).wp P Q a w := by
  have key : ∀ m a w, I m a w → Code.rounds P c Q (m + 1) a w := by
    intro m
    induction m using Nat.strongRecOn with
    | ind m ih =>
      intro a w hI
      rw [rounds_succ]
      refine Code.wp_mono (fun e a w he => ?_) (round m a w hI)
      cases e with
      | normal =>
        obtain ⟨m', hm, h'⟩ := he
        exact rounds_le hm (ih m' hm a w h')
      | _ => exact he
  exact wp_loop_rounds (m + 1) (key m a w h0)
end Go.Proofs.YtbmfmamhidccbaaDoor
