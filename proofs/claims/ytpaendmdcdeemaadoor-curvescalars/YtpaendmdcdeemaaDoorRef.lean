/-
  Digits that are laid anew one by one, and bytes in words.
-/
import Derived.Test.YtpaendmdcdeemaaDoorFld2
namespace Go.Proofs.YtpaendmdcdeemaaDoor.Num

theorem digs_snoc (B : Nat) : ∀ k n, digs B (k + 1) n = digs B k n ++ [n / B ^ k % B]
  | 0, n => by simp [digs]
  | k + 1, n => by
    have e : n / B ^ (k + 1) % B = n / B / B ^ k % B := by rw [Nat.div_div_eq_div_mul, pow_split]
    rw [e]
    show n % B :: digs B (k + 1) (n / B) = n % B :: (digs B k (n / B) ++ [n / B / B ^ k % B])
    rw [digs_snoc B k (n / B)]

theorem digs_mod (B k n m : Nat) (hB : 0 < B) (h : n % B ^ k = m % B ^ k) : digs B k n = digs B k m := by
  refine num_inj B _ _ (by rw [digs_length, digs_length]) (digs_lt B hB _ _) (digs_lt B hB _ _) ?_
  rw [num_digs, num_digs, h]

theorem digs_add (B k n x : Nat) (hB : 0 < B) : digs B k (n + x * B ^ k) = digs B k n :=
  digs_mod B k _ _ hB (by rw [Nat.add_mul_mod_self_right])

/-- the first i are laid anew, the rest stands -/
def mix (B : Nat) (i n : Nat) (l : List Nat) : List Nat := digs B i n ++ l.drop i

theorem mix_length (B i n : Nat) (l : List Nat) (h : i ≤ l.length) : (mix B i n l).length = l.length := by
  unfold mix
  rw [List.length_append, digs_length, List.length_drop]; omega
theorem mix_zero (B n : Nat) (l : List Nat) : mix B 0 n l = l := rfl
theorem mix_get (B i n : Nat) (l : List Nat) (h : i < l.length) : (mix B i n l)[i]'(by rw [mix_length B i n l (by omega)]; exact h) = l[i] := by
  unfold mix
  rw [List.getElem_append_right (by rw [digs_length]; exact Nat.le_refl _)]
  simp [digs_length]
theorem mix_set (B i n n' x : Nat) (l : List Nat) (hB : 0 < B) (h : i < l.length) (e : n' % B ^ (i + 1) = n % B ^ i + x * B ^ i) : (mix B i n l).set i x = mix B (i + 1) n' l := by
  unfold mix
  rw [List.set_append_right _ _ (by rw [digs_length]; exact Nat.le_refl _), digs_length, Nat.sub_self, List.drop_eq_getElem_cons h, List.set_cons_zero, digs_snoc, List.append_assoc]
  have hp : 0 < B ^ i := Nat.pow_pos hB
  have e1 : n' % B ^ i = n % B ^ i := by
    have := congrArg (· % B ^ i) e
    simp only [Nat.add_mul_mod_self_right, Nat.mod_mod] at this
    rwa [Nat.mod_mod_of_dvd _ (Nat.pow_dvd_pow B (Nat.le_succ i))] at this
  have e2 : n' / B ^ i % B = x := by
    rw [mod_step] at e
    rw [e1] at e
    have := Nat.add_left_cancel e
    exact Nat.eq_of_mul_eq_mul_right hp this
  rw [digs_mod B i n' n hB e1, e2]
  rfl

/-- the carries' pass -/
theorem pass_step (B i : Nat) (l : List Nat) (hB : 0 < B) (h : i < l.length) :
    (mix B i (num B (l.take i)) l).set i ((l[i] + num B (l.take i) / B ^ i) % B) = mix B (i + 1) (num B (l.take (i + 1))) l ∧
    num B (l.take (i + 1)) / B ^ (i + 1) = (l[i] + num B (l.take i) / B ^ i) / B := by
  have := carry_step B (num B (l.take i)) (num B (l.take (i + 1))) i l[i] hB (num_take B l i h)
  exact ⟨mix_set B i _ _ _ l hB h this.1, this.2⟩

theorem num_le (B X : Nat) (hB : 0 < B) : ∀ l : List Nat, (∀ x ∈ l, x ≤ X * (B - 1)) → num B l + X ≤ X * B ^ l.length
  | [], _ => by simp [num]
  | x :: r, h => by
    have ih := num_le B X hB r fun y hy => h y (List.mem_cons_of_mem _ hy)
    have hx := h x (List.mem_cons_self ..)
    rw [num, List.length_cons, pow_split, Nat.mul_left_comm]
    have h1 := Nat.mul_le_mul_left B ih
    rw [Nat.mul_add] at h1
    have h2 : X * (B - 1) + X = B * X := by
      rw [Nat.mul_comm B X]
      conv => rhs; rw [show B = B - 1 + 1 by omega]
      rw [Nat.mul_succ]
    omega

theorem num_take_le (B X i : Nat) (hB : 0 < B) (l : List Nat) (h : ∀ x ∈ l, x ≤ X * (B - 1)) : num B (l.take i) / B ^ i ≤ X := by
  have h1 := num_le B X hB (l.take i) fun x hx => h x (List.mem_of_mem_take hx)
  have h2 : (l.take i).length ≤ i := by rw [List.length_take]; omega
  have h3 : B ^ (l.take i).length ≤ B ^ i := Nat.pow_le_pow_right hB h2
  have h4 := Nat.mul_le_mul_left X h3
  rcases Nat.eq_zero_or_pos X with h0 | h0
  · subst h0
    have : num B (l.take i) = 0 := by omega
    rw [this, Nat.zero_div]; omega
  · have : num B (l.take i) < (X + 1) * B ^ i := by rw [Nat.succ_mul]; omega
    have := (Nat.div_lt_iff_lt_mul (Nat.pow_pos hB)).2 this
    omega

/-- which of two is less, by the highest digit that differs -/
theorem less_step (B a b i : Nat) (e : a / B ^ (i + 1) = b / B ^ (i + 1)) :
    (a / B ^ i % B = b / B ^ i % B → a / B ^ i = b / B ^ i) ∧ (a / B ^ i % B ≠ b / B ^ i % B → (a < b ↔ a / B ^ i % B < b / B ^ i % B)) := by
  have e1 : a / B ^ i / B = b / B ^ i / B := by rw [Nat.div_div_eq_div_mul, Nat.div_div_eq_div_mul, ← Nat.pow_succ]; exact e
  have h1 := Nat.mod_add_div (a / B ^ i) B
  have h2 := Nat.mod_add_div (b / B ^ i) B
  rw [e1] at h1
  refine ⟨fun h => by omega, fun h => ⟨fun h3 => ?_, fun h3 => ?_⟩⟩
  · have : a / B ^ i ≤ b / B ^ i := Nat.div_le_div_right (Nat.le_of_lt h3)
    omega
  · have h4 : a / B ^ i < b / B ^ i := by omega
    rcases Nat.lt_or_ge a b with h5 | h5
    · exact h5
    · have := Nat.div_le_div_right (c := B ^ i) h5
      omega

/-- one digit grows -/
theorem num_more (B : Nat) (l : List Nat) (k x : Nat) (h : k < l.length) : num B (l.set k (l[k] + x)) = num B l + x * B ^ k := by
  have := num_set B l k (l[k] + x) h
  rw [Nat.add_mul] at this
  omega

/-- a byte's place in a word -/
theorem byte_pow (i : Nat) : 256 ^ i = K ^ (i / 8) * 2 ^ (8 * (i % 8)) := by
  have e1 : (256 : Nat) = 2 ^ 8 := rfl
  have e2 : K = 2 ^ 64 := by decide
  rw [e1, e2, ← Nat.pow_mul, ← Nat.pow_mul, ← Nat.pow_add]
  congr 1
  omega

theorem byte_of (n i : Nat) : n / 256 ^ i % 256 = n / K ^ (i / 8) % K / 2 ^ (8 * (i % 8)) % 256 := by
  rw [byte_pow, ← Nat.div_div_eq_div_mul]
  generalize n / K ^ (i / 8) = m
  have e : K = 2 ^ (8 * (i % 8)) * 2 ^ (64 - 8 * (i % 8)) := by
    have e2 : K = 2 ^ 64 := by decide
    rw [e2, ← Nat.pow_add]; congr 1; omega
  rw [e, Nat.mod_mul_right_div_self]
  have : (256 : Nat) ∣ 2 ^ (64 - 8 * (i % 8)) := by
    have e1 : (256 : Nat) = 2 ^ 8 := rfl
    rw [e1]
    exact Nat.pow_dvd_pow 2 (by omega)
  rw [Nat.mod_mod_of_dvd _ this]

/-- a byte is laid into its word -/
theorem byte_put (n i x : Nat) (hn : n < 256 ^ i) (hi : i < 32) (hx : x < 256) :
    (digs K 4 n).set (i / 8) (n / K ^ (i / 8) % K + x * 2 ^ (8 * (i % 8))) = digs K 4 (n + x * 256 ^ i) ∧ n / K ^ (i / 8) % K < 2 ^ (8 * (i % 8)) := by
  have hw : n / K ^ (i / 8) < 2 ^ (8 * (i % 8)) := by
    rw [Nat.div_lt_iff_lt_mul (Nat.pow_pos (by decide)), Nat.mul_comm, ← byte_pow]
    exact hn
  have h56 : 2 ^ (8 * (i % 8)) ≤ 2 ^ 56 := Nat.pow_le_pow_right (by decide) (by omega)
  have hK : (2 : Nat) ^ 56 = 72057594037927936 := by decide
  have hm : n / K ^ (i / 8) % K = n / K ^ (i / 8) := Nat.mod_eq_of_lt (show _ < 18446744073709551616 by rw [hK] at h56; omega)
  rw [hm]
  have hx2 : x * 2 ^ (8 * (i % 8)) ≤ 255 * 2 ^ (8 * (i % 8)) := Nat.mul_le_mul_right _ (by omega)
  refine ⟨digs_set K 4 n _ _ _ ?_ (by omega) (show _ < 18446744073709551616 by rw [hK] at h56; omega) ?_, hw⟩
  · refine Nat.lt_of_lt_of_le hn ?_
    rw [show K ^ 4 = 256 ^ 32 by decide]
    exact Nat.pow_le_pow_right (by decide) (by omega)
  · rw [hm, Nat.add_mul, byte_pow, Nat.mul_comm (K ^ _) (2 ^ _), ← Nat.mul_assoc]
    omega
end Go.Proofs.YtpaendmdcdeemaaDoor.Num
