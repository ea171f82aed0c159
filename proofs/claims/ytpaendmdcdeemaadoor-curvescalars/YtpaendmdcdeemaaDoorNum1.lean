/-
  Plain number theory, of no program: a certificate by which a number is a prime, and every number that it does not divide a power of one.
-/
namespace Go.Proofs.YtpaendmdcdeemaaDoor.Num

/-- what is left of a number -/
theorem mod_mul (a b r : Nat) : a * b % r = (a % r) * (b % r) % r := Nat.mul_mod a b r

theorem pow_mod_eq {a b r : Nat} (h : a % r = b % r) : ∀ k, a ^ k % r = b ^ k % r
  | 0 => by simp
  | k + 1 => by rw [Nat.pow_succ, Nat.pow_succ, Nat.mul_mod, pow_mod_eq h k, h, ← Nat.mul_mod]

theorem one_of_one {g r a : Nat} (h : g ^ a % r = 1 % r) (t : Nat) : g ^ (a * t) % r = 1 % r := by
  rw [Nat.pow_mul]
  have := pow_mod_eq (a := g ^ a) (b := 1) (r := r) h t
  rw [this, Nat.one_pow]

theorem step_one {g r a b : Nat} (h : g ^ a % r = 1 % r) : g ^ (a + b) % r = g ^ b % r := by
  rw [Nat.pow_add, Nat.mul_mod, h, ← Nat.mul_mod, Nat.one_mul]

theorem one_gcd {g r : Nat} : ∀ a b, g ^ a % r = 1 % r → g ^ b % r = 1 % r → g ^ (Nat.gcd a b) % r = 1 % r := by
  intro a b
  induction a, b using Nat.gcd.induction with
  | H0 n => intro _ h; rw [Nat.gcd_zero_left]; exact h
  | H1 m n hm ih =>
    intro h1 h2
    rw [Nat.gcd_rec]
    refine ih ?_ h1
    have e : m * (n / m) + n % m = n := Nat.div_add_mod n m
    rw [← step_one (one_of_one h1 (n / m)), e]
    exact h2

/-- no two of the first m values are the same, and all lie below r: so m is at most r -/
theorem pigeon : ∀ (r m : Nat) (f : Nat → Nat), (∀ i, i < m → f i < r) → (∀ i j, i < m → j < m → f i = f j → i = j) → m ≤ r
  | 0, m, f, hf, _ => by
    cases m with
    | zero => exact Nat.le_refl _
    | succ m => exact absurd (hf 0 (Nat.succ_pos _)) (Nat.not_lt_zero _)
  | r + 1, m, f, hf, hi => by
    cases m with
    | zero => exact Nat.zero_le _
    | succ m =>
      refine Nat.succ_le_succ ?_
      by_cases hex : ∃ i, i < m + 1 ∧ f i = r
      · obtain ⟨i0, hi0, he⟩ := hex
        refine pigeon r m (fun i => if i = i0 then f m else f i) (fun i hlt => ?_) (fun i j h1 h2 h3 => ?_)
        · by_cases hc : i = i0
          · simp only [hc, if_true]
            have h1 := hf m (Nat.lt_succ_self _)
            have h2 : f m ≠ r := fun e => by
              have := hi m i0 (Nat.lt_succ_self _) hi0 (e.trans he.symm)
              omega
            omega
          · simp only [hc, if_false]
            have h1 := hf i (by omega)
            have h2 : f i ≠ r := fun e => hc (hi i i0 (by omega) hi0 (e.trans he.symm))
            omega
        · by_cases c1 : i = i0 <;> by_cases c2 : j = i0
          · rw [c1, c2]
          · simp only [c1, c2, if_true, if_false] at h3
            have := hi m j (by omega) (by omega) h3
            omega
          · simp only [c1, c2, if_true, if_false] at h3
            have := hi i m (by omega) (by omega) h3
            omega
          · simp only [c1, c2, if_false] at h3
            exact hi i j (by omega) (by omega) h3
      · refine Nat.le_of_lt_succ (Nat.lt_succ_of_le ?_)
        refine pigeon r m f (fun i hlt => ?_) (fun i j h1 h2 h3 => hi i j (by omega) (by omega) h3)
        have h1 := hf i (by omega)
        have h2 : f i ≠ r := fun e => hex ⟨i, by omega, e⟩
        omega

/-- r of them fill all -/
theorem pigeon_all (r : Nat) (f : Nat → Nat) (hf : ∀ i, i < r → f i < r) (hi : ∀ i j, i < r → j < r → f i = f j → i = j) : ∀ y, y < r → ∃ i, i < r ∧ f i = y := by
  intro y hy
  by_cases hex : ∃ i, i < r ∧ f i = y
  · exact hex
  · exfalso
    have hno : ∀ i, i < r → f i ≠ y := fun i h1 h2 => hex ⟨i, h1, h2⟩
    have := pigeon (r - 1) r (fun i => if f i = r - 1 then y else f i) (fun i hlt => by
        have h1 := hf i hlt
        have h2 := hno i hlt
        by_cases hc : f i = r - 1
        · simp only [hc, if_true]
          have : y ≠ r - 1 := fun e => h2 (hc.trans e.symm)
          omega
        · simp only [hc, if_false]
          omega)
      (fun i j h1 h2 h3 => by
        have n1 := hno i h1
        have n2 := hno j h2
        by_cases c1 : f i = r - 1 <;> by_cases c2 : f j = r - 1
        · exact hi i j h1 h2 (c1.trans c2.symm)
        · simp only [c1, c2, if_true, if_false] at h3
          exact absurd h3.symm n2
        · simp only [c1, c2, if_true, if_false] at h3
          exact absurd h3 n1
        · simp only [c1, c2, if_false] at h3
          exact hi i j h1 h2 h3)
    omega

/-- it has no parts but 1 and itself -/
def Irr (n : Nat) : Prop := 1 < n ∧ ∀ m, m ∣ n → m = 1 ∨ m = n

theorem Irr.coprime {q m : Nat} (h : Irr q) (hn : ¬ q ∣ m) : Nat.Coprime m q := by
  unfold Nat.Coprime
  rcases h.2 _ (Nat.gcd_dvd_right m q) with e | e
  · exact e
  · exact absurd (e ▸ Nat.gcd_dvd_left m q) hn

/-- the product of powers -/
def prodOf : List (Nat × Nat) → Nat
  | [] => 1
  | (q, e) :: l => q ^ e * prodOf l

theorem cover : ∀ (l : List (Nat × Nat)), (∀ x, x ∈ l → Irr x.1) → ∀ m, 1 < m → m ∣ prodOf l → ∃ x, x ∈ l ∧ x.1 ∣ m
  | [], _, m, h1, hd => by
    have : m = 1 := Nat.dvd_one.1 hd
    omega
  | (q, e) :: l, hp, m, h1, hd => by
    by_cases hq : q ∣ m
    · exact ⟨(q, e), by simp, hq⟩
    · have hc : Nat.Coprime m (q ^ e) := Nat.Coprime.pow_right e ((hp (q, e) (by simp)).coprime hq)
      obtain ⟨x, hx, hxm⟩ := cover l (fun x hx => hp x (by simp [hx])) m h1 (Nat.Coprime.dvd_of_dvd_mul_left hc hd)
      exact ⟨x, by simp [hx], hxm⟩

/-- THE CERTIFICATE: n - 1 is the product, g to n - 1 is 1, and g to (n - 1) / q less 1 shares nothing with n. -/
structure Cert (n g : Nat) (l : List (Nat × Nat)) : Prop where
  big : 1 < n
  parts : ∀ x, x ∈ l → Irr x.1
  prod : prodOf l = n - 1
  full : g ^ (n - 1) % n = 1 % n
  less : ∀ x, x ∈ l → Nat.gcd (g ^ ((n - 1) / x.1) % n + (n - 1)) n = 1

theorem Cert.full' {n g : Nat} {l : List (Nat × Nat)} (c : Cert n g l) {r : Nat} (hr : r ∣ n) : g ^ (n - 1) % r = 1 % r := by
  have := congrArg (· % r) c.full
  simpa [Nat.mod_mod_of_dvd _ hr] using this

theorem Cert.noless {n g : Nat} {l : List (Nat × Nat)} (c : Cert n g l) {r : Nat} (hr : r ∣ n) (h1 : 1 < r) (d : Nat) (hd0 : 0 < d) (hd : d < n - 1) : g ^ d % r ≠ 1 % r := by
  intro h
  have hg := one_gcd d (n - 1) h (c.full' hr)
  have hdv := Nat.gcd_dvd_right d (n - 1)
  have hle : Nat.gcd d (n - 1) ≤ d := Nat.gcd_le_left _ hd0
  have hpos : 0 < Nat.gcd d (n - 1) := Nat.gcd_pos_of_pos_left _ hd0
  obtain ⟨m, hm⟩ := hdv
  generalize Nat.gcd d (n - 1) = k at *
  have hm1 : 1 < m := by
    rcases m with _ | _ | m
    · simp at hm; omega
    · simp at hm; omega
    · omega
  obtain ⟨x, hx, t, ht⟩ := cover l c.parts m hm1 (by rw [c.prod, hm]; exact Nat.dvd_mul_left _ _)
  have hq : 0 < x.1 := by have := (c.parts x hx).1; omega
  have e : (n - 1) / x.1 = k * t := by
    rw [hm, ht, ← Nat.mul_assoc, Nat.mul_comm k, Nat.mul_assoc, Nat.mul_div_cancel_left _ hq]
  have h2 := one_of_one hg t
  rw [← e] at h2
  have h3 : r ∣ g ^ ((n - 1) / x.1) % n + (n - 1) := by
    have h4 : (g ^ ((n - 1) / x.1) % n) % r = 1 % r := by rw [Nat.mod_mod_of_dvd _ hr]; exact h2
    refine Nat.dvd_of_mod_eq_zero ?_
    rw [Nat.add_mod, h4, ← Nat.add_mod, show 1 + (n - 1) = n by have := c.big; omega]
    exact Nat.mod_eq_zero_of_dvd hr
  have h5 := Nat.dvd_gcd h3 hr
  rw [c.less x hx] at h5
  have := Nat.dvd_one.1 h5
  omega

theorem Cert.unit {n g : Nat} {l : List (Nat × Nat)} (c : Cert n g l) {r : Nat} (hr : r ∣ n) (h1 : 1 < r) (i : Nat) (hi : i < n - 1) : 0 < g ^ i % r := by
  refine Nat.pos_of_ne_zero (fun h => ?_)
  have h2 := c.full' hr
  have e : n - 1 = i + (n - 1 - i) := by omega
  rw [e, Nat.pow_add, Nat.mul_mod, h, Nat.zero_mul, Nat.zero_mod, Nat.mod_eq_of_lt h1] at h2
  omega

theorem Cert.inj {n g : Nat} {l : List (Nat × Nat)} (c : Cert n g l) {r : Nat} (hr : r ∣ n) (h1 : 1 < r) (i j : Nat) (hi : i < n - 1) (hj : j < n - 1) (hij : i ≤ j) (h : g ^ i % r = g ^ j % r) : i = j := by
  by_cases hlt : i < j
  · exfalso
    refine c.noless hr h1 (j - i) (by omega) (by omega) ?_
    have h2 := c.full' hr
    have e1 : g ^ (n - 1 - i) * g ^ j % r = g ^ (j - i) % r := by
      rw [← Nat.pow_add, show n - 1 - i + j = (n - 1) + (j - i) by omega]
      exact step_one h2
    have e2 : g ^ (n - 1 - i) * g ^ i % r = 1 % r := by
      rw [← Nat.pow_add, show n - 1 - i + i = n - 1 by omega]
      exact h2
    rw [← e1, ← e2, Nat.mul_mod, ← h, ← Nat.mul_mod]
  · omega

theorem Cert.inj' {n g : Nat} {l : List (Nat × Nat)} (c : Cert n g l) {r : Nat} (hr : r ∣ n) (h1 : 1 < r) (i j : Nat) (hi : i < n - 1) (hj : j < n - 1) (h : g ^ i % r = g ^ j % r) : i = j := by
  rcases Nat.le_total i j with hij | hij
  · exact c.inj hr h1 i j hi hj hij h
  · exact (c.inj hr h1 j i hj hi hij h.symm).symm

theorem Cert.irr {n g : Nat} {l : List (Nat × Nat)} (c : Cert n g l) : Irr n := by
  refine ⟨c.big, fun r hr => ?_⟩
  by_cases h1 : 1 < r
  · right
    have := pigeon (r - 1) (n - 1) (fun i => g ^ i % r - 1) (fun i hi => by
        have h2 := c.unit hr h1 i hi
        have h3 := Nat.mod_lt (g ^ i) (by omega : r > 0)
        omega)
      (fun i j hi hj h => by
        have h2 := c.unit hr h1 i hi
        have h3 := c.unit hr h1 j hj
        exact c.inj' hr h1 i j hi hj (by omega))
    have h4 := Nat.le_of_dvd (by have := c.big; omega) hr
    have := c.big
    omega
  · left
    have : r ≠ 0 := fun e => by
      subst e
      have := Nat.eq_zero_of_zero_dvd hr
      have := c.big
      omega
    omega

/-- every number that n does not divide is a power of g -/
theorem Cert.gen {n g : Nat} {l : List (Nat × Nat)} (c : Cert n g l) (a : Nat) (ha : a % n ≠ 0) : ∃ k, a % n = g ^ k % n := by
  have hb := c.big
  have hr := Nat.dvd_refl n
  have hlt := Nat.mod_lt a (by omega : n > 0)
  obtain ⟨k, _, hk⟩ := pigeon_all (n - 1) (fun i => g ^ i % n - 1) (fun i hi => by
      have h2 := c.unit hr hb i hi
      have h3 := Nat.mod_lt (g ^ i) (by omega : n > 0)
      omega)
    (fun i j hi hj h => by
      have h2 := c.unit hr hb i hi
      have h3 := c.unit hr hb j hj
      exact c.inj' hr hb i j hi hj (by omega)) (a % n - 1) (by omega)
  refine ⟨k, ?_⟩

  have : 0 < g ^ k % n := by
    refine Nat.pos_of_ne_zero (fun h => ?_)
    have h2 := c.unit hr hb (k % (n - 1)) (Nat.mod_lt _ (by omega))
    have e : k = (n - 1) * (k / (n - 1)) + k % (n - 1) := (Nat.div_add_mod k (n - 1)).symm
    rw [e, step_one (one_of_one c.full (k / (n - 1)))] at h
    omega
  omega

theorem Cert.fermat {n g : Nat} {l : List (Nat × Nat)} (c : Cert n g l) (a : Nat) (ha : a % n ≠ 0) : a ^ (n - 1) % n = 1 := by
  obtain ⟨k, hk⟩ := c.gen a ha
  rw [pow_mod_eq hk (n - 1), ← Nat.pow_mul, Nat.mul_comm, one_of_one c.full k, Nat.mod_eq_of_lt c.big]

theorem Irr.mul {n a b : Nat} (h : Irr n) (hab : a * b % n = 0) : a % n = 0 ∨ b % n = 0 := by
  by_cases ha : n ∣ a
  · exact .inl (Nat.mod_eq_zero_of_dvd ha)
  · right
    have hc := (h.coprime ha).symm
    exact Nat.mod_eq_zero_of_dvd (Nat.Coprime.dvd_of_dvd_mul_left hc (Nat.dvd_of_mod_eq_zero hab))
end Go.Proofs.YtpaendmdcdeemaaDoor.Num
