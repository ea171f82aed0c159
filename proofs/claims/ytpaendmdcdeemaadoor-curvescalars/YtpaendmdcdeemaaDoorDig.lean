/-
  Digits of a number in any base.
-/
namespace Go.Proofs.YtpaendmdcdeemaaDoor.Num

/-- the number of digits, the lowest first -/
def num (B : Nat) : List Nat → Nat
  | [] => 0
  | x :: r => x + B * num B r

theorem num_nil (B : Nat) : num B [] = 0 := rfl
theorem num_cons (B x : Nat) (r : List Nat) : num B (x :: r) = x + B * num B r := rfl

theorem num_append (B : Nat) : ∀ l m : List Nat, num B (l ++ m) = num B l + B ^ l.length * num B m
  | [], m => by simp [num]
  | x :: r, m => by
    rw [List.cons_append, num, num, num_append B r m, List.length_cons, Nat.pow_succ, Nat.mul_add, ← Nat.mul_assoc, Nat.mul_comm B (B ^ _)]
    omega

theorem num_lt (B : Nat) : ∀ l : List Nat, (∀ x ∈ l, x < B) → num B l < B ^ l.length
  | [], _ => by simp [num]
  | x :: r, h => by
    have ih := num_lt B r fun y hy => h y (List.mem_cons_of_mem _ hy)
    have hx := h x (List.mem_cons_self ..)
    have h1 : B * num B r + B ≤ B * B ^ r.length := by
      have := Nat.mul_le_mul_left B ih
      rwa [Nat.mul_succ] at this
    rw [num, List.length_cons, Nat.pow_succ, Nat.mul_comm (B ^ _)]
    omega

theorem num_set (B : Nat) : ∀ (l : List Nat) (k x : Nat) (h : k < l.length), num B (l.set k x) + l[k] * B ^ k = num B l + x * B ^ k
  | [], k, x, h => by simp at h
  | y :: r, 0, x, h => by simp [num]; omega
  | y :: r, k + 1, x, h => by
    have h' : k < r.length := by simpa using h
    have ih := num_set B r k x h'
    have e : B * (num B (r.set k x) + r[k] * B ^ k) = B * (num B r + x * B ^ k) := by rw [ih]
    rw [Nat.mul_add, Nat.mul_add] at e
    rw [List.set_cons_succ, num, num, List.getElem_cons_succ, Nat.pow_succ, Nat.mul_comm (B ^ k) B, Nat.mul_left_comm, Nat.mul_left_comm x]
    omega

theorem num_take (B : Nat) (l : List Nat) (k : Nat) (h : k < l.length) : num B (l.take (k + 1)) = num B (l.take k) + l[k] * B ^ k := by
  rw [List.take_succ_eq_append_getElem h, num_append, List.length_take, Nat.min_eq_left (by omega), num, num, Nat.mul_zero, Nat.add_zero, Nat.mul_comm]

theorem num_cut (B : Nat) (l : List Nat) (k : Nat) (h : k ≤ l.length) : num B l = num B (l.take k) + B ^ k * num B (l.drop k) := by
  conv => lhs; rw [← List.take_append_drop k l]
  rw [num_append, List.length_take, Nat.min_eq_left h]

theorem num_inj (B : Nat) : ∀ l m : List Nat, l.length = m.length → (∀ x ∈ l, x < B) → (∀ x ∈ m, x < B) → num B l = num B m → l = m
  | [], [], _, _, _, _ => rfl
  | [], y :: s, h, _, _, _ => by simp at h
  | x :: r, [], h, _, _, _ => by simp at h
  | x :: r, y :: s, h, hl, hm, e => by
    have hx := hl x (List.mem_cons_self ..)
    have hy := hm y (List.mem_cons_self ..)
    rw [num, num] at e
    have e1 : x = y := by
      have := congrArg (· % B) e
      simpa [Nat.add_mul_mod_self_left, Nat.mod_eq_of_lt hx, Nat.mod_eq_of_lt hy] using this
    subst e1
    have e2 : num B r = num B s := Nat.eq_of_mul_eq_mul_left (by omega) (Nat.add_left_cancel e)
    rw [num_inj B r s (by simpa using h) (fun z hz => hl z (List.mem_cons_of_mem _ hz)) (fun z hz => hm z (List.mem_cons_of_mem _ hz)) e2]

/-- so many digits of a number -/
def digs (B : Nat) : Nat → Nat → List Nat
  | 0, _ => []
  | k + 1, n => n % B :: digs B k (n / B)

theorem digs_length (B : Nat) : ∀ k n, (digs B k n).length = k
  | 0, _ => rfl
  | k + 1, n => by rw [digs, List.length_cons, digs_length B k]

theorem digs_lt (B : Nat) (hB : 0 < B) : ∀ k n, ∀ x ∈ digs B k n, x < B
  | 0, _, x, h => by simp [digs] at h
  | k + 1, n, x, h => by
    rw [digs, List.mem_cons] at h
    rcases h with rfl | h
    · exact Nat.mod_lt _ hB
    · exact digs_lt B hB k _ x h

theorem num_digs (B : Nat) : ∀ k n, num B (digs B k n) = n % B ^ k
  | 0, n => by simp [digs, num, Nat.mod_one]
  | k + 1, n => by
    rw [digs, num, num_digs B k, Nat.pow_succ, Nat.mul_comm (B ^ k) B, Nat.mod_mul]

theorem digs_num (B : Nat) (l : List Nat) (h : ∀ x ∈ l, x < B) (k : Nat) (hk : l.length = k) : digs B k (num B l) = l := by
  subst hk
  by_cases hB : 0 < B
  · refine num_inj B _ _ (digs_length _ _ _) (digs_lt B hB _ _) h ?_
    rw [num_digs, Nat.mod_eq_of_lt (num_lt B l h)]
  · cases l with
    | nil => rfl
    | cons x r => exact absurd (h x (List.mem_cons_self ..)) (by omega)

theorem num_zeros (B k : Nat) : num B (List.replicate k 0) = 0 := by
  induction k with
  | zero => rfl
  | succ k ih => rw [List.replicate_succ, num, ih, Nat.mul_zero]

theorem digs_get (B : Nat) : ∀ k n j (h : j < (digs B k n).length), (digs B k n)[j] = n / B ^ j % B
  | 0, n, j, h => by simp [digs] at h
  | k + 1, n, 0, h => by simp [digs]
  | k + 1, n, j + 1, h => by
    have := digs_get B k (n / B) j (by simpa [digs] using h)
    simp only [digs, List.getElem_cons_succ]
    rw [this, Nat.div_div_eq_div_mul, Nat.pow_succ, Nat.mul_comm B]

theorem num_take_digs (B : Nat) : ∀ k n j, j ≤ k → num B ((digs B k n).take j) = n % B ^ j
  | _, n, 0, _ => by simp [num, Nat.mod_one]
  | 0, n, j + 1, h => by omega
  | k + 1, n, j + 1, h => by
    rw [digs, List.take_succ_cons, num, num_take_digs B k _ j (by omega), Nat.pow_succ, Nat.mul_comm (B ^ j) B, Nat.mod_mul]

/-- a number's first digits, one more -/
theorem mod_step (B n k : Nat) : n % B ^ (k + 1) = n % B ^ k + n / B ^ k % B * B ^ k := by
  rw [Nat.pow_succ, Nat.mod_mul, Nat.mul_comm (B ^ k)]
end Go.Proofs.YtpaendmdcdeemaaDoor.Num
