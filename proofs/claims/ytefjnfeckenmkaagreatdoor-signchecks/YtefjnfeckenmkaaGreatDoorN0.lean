/-
 Plain number theory, of no program: a certificate by which a number is a prime, and every number that it does not divide a power of one.
-/

namespace Go.Proofs.YtefjnfeckenmkaaGreatDoor.Num
theorem pow_mod_eq {a b r : Nat} (h : a % r = b % r) : ∀ k, a ^ k % r = b ^ k % r
 | 0 => by simp
 | k + 1 => by rw [Nat.pow_succ, Nat.pow_succ, Nat.mul_mod, pow_mod_eq h k, h, ← Nat.mul_mod]
theorem one_of_one {g r a : Nat} (h : g ^ a % r = 1 % r) (t : Nat) : g ^ (a * t) % r = 1 % r := by
 rw [Nat.pow_mul]
 have := pow_mod_eq (a := g ^ a) (b := 1) (r := r) h t
 rw [this, Nat.one_pow]
theorem step_one {g r a b : Nat} (h : g ^ a % r = 1 % r) : g ^ (a + b) % r = g ^ b % r := by
 rw [Nat.pow_add, Nat.mul_mod, h, ← Nat.mul_mod, Nat.one_mul]
theorem one_gcd {g r : Nat} : ∀ a b, g ^ a % r = 1 % r → g ^ b % r = 1 % r → g ^ (Nat.gcd a b) % r = 1 % r := by
 intro a b
 induction a, b using Nat.gcd.induction with
 | H0 n => intro _ h; rw [Nat.gcd_zero_left]; exact h
 | H1 m n hm ih =>
  intro h1 h2
  rw [Nat.gcd_rec]
  refine ih ?_ h1
  have e : m * (n / m) + n % m = n := Nat.div_add_mod n m
  rw [← step_one (one_of_one h1 (n / m)), e]
  exact h2
theorem pigeon : ∀ (r m : Nat) (f : Nat → Nat), (∀ i, i < m → f i < r) → (∀ i j, i < m → j < m → f i = f j → i = j) → m ≤ r
 | 0, m, f, hf, _ => by
  cases m with
  | zero => exact Nat.le_refl _
  | succ m => exact absurd (hf 0 (Nat.succ_pos _)) (Nat.not_lt_zero _)
 | r + 1, m, f, hf, hi => by
  cases m with
  | zero => exact Nat.zero_le _
  | succ m =>
   refine Nat.succ_le_succ ?_
   by_cases hex : ∃ i, i < m + 1 ∧ f i = r
   ·obtain ⟨i0, hi0, he⟩ := hex
    refine pigeon r m (fun i => if i = i0 then f m else f i) (fun i hlt => ?_) (fun i j h1 h2 h3 => ?_)
    ·by_cases hc : i = i0
     ·simp only [hc, if_true]
      have h1 := hf m (Nat.lt_succ_self _)
      have h2 : f m ≠ r := fun e => by
       have := hi m i0 (Nat.lt_succ_self _) hi0 (e.trans he.symm)
       omega
      omega
     ·simp only [hc, if_false]
      have h1 := hf i (by omega)
      have h2 : f i ≠ r := fun e => hc (hi i i0 (by omega) hi0 (e.trans he.symm))
      omega
    ·by_cases c1 : i = i0 <;> by_cases c2 : j = i0
     ·rw [c1, c2]
     ·simp only [c1, c2, if_true, if_false] at h3
      have := hi m j (by omega) (by omega) h3
      omega
     ·simp only [c1, c2, if_true, if_false] at h3
      have := hi i m (by omega) (by omega) h3
      omega
     ·simp only [c1, c2, if_false] at h3
      exact hi i j (by omega) (by omega) h3
   ·refine Nat.le_of_lt_succ (Nat.lt_succ_of_le ?_)
    refine pigeon r m f (fun i hlt => ?_) (fun i j h1 h2 h3 => hi i j (by omega) (by omega) h3)
    have h1 := hf i (by omega)
    have h2 : f i ≠ r := fun e => hex ⟨i, by omega, e⟩
    omega
theorem pigeon_all (r : Nat) (f : Nat → Nat) (hf : ∀ i, i < r → f i < r) (hi : ∀ i j, i < r → j < r → f i = f j → i = j) : ∀ y, y < r → ∃ i, i < r ∧ f i = y := by
 intro y hy
 by_cases hex : ∃ i, i < r ∧ f i = y
 ·exact hex
 ·exfalso
  have hno : ∀ i, i < r → f i ≠ y := fun i h1 h2 => hex ⟨i, h1, h2⟩
  have := pigeon (r - 1) r (fun i => if f i = r - 1 then y else f i) (fun i hlt => by
    have h1 := hf i hlt
    have h2 := hno i hlt
    by_cases hc : f i = r - 1
    ·simp only [hc, if_true]
     have : y ≠ r - 1 := fun e => h2 (hc.trans e.symm)
     omega
    ·simp only [hc, if_false]
     omega)
   (fun i j h1 h2 h3 => by
    have n1 := hno i h1
    have n2 := hno j h2
    by_cases c1 : f i = r - 1 <;> by_cases c2 : f j = r - 1
    ·exact hi i j h1 h2 (c1.trans c2.symm)
    ·simp only [c1, c2, if_true, if_false] at h3
     exact absurd h3.symm n2
    ·simp only [c1, c2, if_true, if_false] at h3
     exact absurd h3 n1
    ·simp only [c1, c2, if_false] at h3
     exact hi i j h1 h2 h3)
  omega
def Irr (n : Nat) : Prop := 1 < n ∧ ∀ m, m ∣ n → m = 1 ∨ m = n
theorem Irr.coprime {q m : Nat} (h : Irr q) (hn : ¬ q ∣ m) : Nat.Coprime m q := by
 unfold Nat.Coprime
 rcases h.2 _ (Nat.gcd_dvd_right m q) with e | e
 ·exact e
 ·exact absurd (e ▸ Nat.gcd_dvd_left m q) hn
def prodOf : List (Nat × Nat) → Nat
 | [] => 1
 | (q, e) :: l => q ^ e * prodOf l
theorem cover : ∀ (l : List (Nat × Nat)), (∀ x, x ∈ l → Irr x.1) → ∀ m, 1 < m → m ∣ prodOf l → ∃ x, x ∈ l ∧ x.1 ∣ m
 | [], _, m, h1, hd => by
  have : m = 1 := Nat.dvd_one.1 hd
  omega
 | (q, e) :: l, hp, m, h1, hd => by
  by_cases hq : q ∣ m
  ·exact ⟨(q, e), by simp, hq⟩
  ·have hc : Nat.Coprime m (q ^ e) := Nat.Coprime.pow_right e ((hp (q, e) (by simp)).coprime hq)
   obtain ⟨x, hx, hxm⟩ := cover l (fun x hx => hp x (by simp [hx])) m h1 (Nat.Coprime.dvd_of_dvd_mul_left hc hd)
   exact ⟨x, by simp [hx], hxm⟩
structure Cert (n g : Nat) (l : List (Nat × Nat)) : Prop where
 big : 1 < n
 parts : ∀ x, x ∈ l → Irr x.1
 prod : prodOf l = n - 1
 full : g ^ (n - 1) % n = 1 % n
 less : ∀ x, x ∈ l → Nat.gcd (g ^ ((n - 1) / x.1) % n + (n - 1)) n = 1
theorem Cert.full' {n g : Nat} {l : List (Nat × Nat)} (c : Cert n g l) {r : Nat} (hr : r ∣ n) : g ^ (n - 1) % r = 1 % r := by
 have := congrArg (· % r) c.full
 simpa [Nat.mod_mod_of_dvd _ hr] using this
theorem Cert.noless {n g : Nat} {l : List (Nat × Nat)} (c : Cert n g l) {r : Nat} (hr : r ∣ n) (h1 : 1 < r) (d : Nat) (hd0 : 0 < d) (hd : d < n - 1) : g ^ d % r ≠ 1 % r := by
 intro h
 have hg := one_gcd d (n - 1) h (c.full' hr)
 have hdv := Nat.gcd_dvd_right d (n - 1)
 have hle : Nat.gcd d (n - 1) ≤ d := Nat.gcd_le_left _ hd0
 have hpos : 0 < Nat.gcd d (n - 1) := Nat.gcd_pos_of_pos_left _ hd0
 obtain ⟨m, hm⟩ := hdv
 generalize Nat.gcd d (n - 1) = k at *
 have hm1 : 1 < m := by
  rcases m with _ | _ | m
  ·simp at hm; omega
  ·simp at hm; omega
  ·omega
 obtain ⟨x, hx, t, ht⟩ := cover l c.parts m hm1 (by rw [c.prod, hm]; exact Nat.dvd_mul_left _ _)
 have hq : 0 < x.1 := by have := (c.parts x hx).1; omega
 have e : (n - 1) / x.1 = k * t := by
  rw [hm, ht, ← Nat.mul_assoc, Nat.mul_comm k, Nat.mul_assoc, Nat.mul_div_cancel_left _ hq]
 have h2 := one_of_one hg t
 rw [← e] at h2
 have h3 : r ∣ g ^ ((n - 1) / x.1) % n + (n - 1) := by
  have h4 : (g ^ ((n - 1) / x.1) % n) % r = 1 % r := by rw [Nat.mod_mod_of_dvd _ hr]; exact h2
  refine Nat.dvd_of_mod_eq_zero ?_
  rw [Nat.add_mod, h4, ← Nat.add_mod, show 1 + (n - 1) = n by have := c.big; omega]
  exact Nat.mod_eq_zero_of_dvd hr
 have h5 := Nat.dvd_gcd h3 hr
 rw [c.less x hx] at h5
 have := Nat.dvd_one.1 h5
 omega
theorem Cert.unit {n g : Nat} {l : List (Nat × Nat)} (c : Cert n g l) {r : Nat} (hr : r ∣ n) (h1 : 1 < r) (i : Nat) (hi : i < n - 1) : 0 < g ^ i % r := by
 refine Nat.pos_of_ne_zero (fun h => ?_)
 have h2 := c.full' hr
 have e : n - 1 = i + (n - 1 - i) := by omega
 rw [e, Nat.pow_add, Nat.mul_mod, h, Nat.zero_mul, Nat.zero_mod, Nat.mod_eq_of_lt h1] at h2
 omega
theorem Cert.inj {n g : Nat} {l : List (Nat × Nat)} (c : Cert n g l) {r : Nat} (hr : r ∣ n) (h1 : 1 < r) (i j : Nat) (hi : i < n - 1) (hj : j < n - 1) (hij : i ≤ j) (h : g ^ i % r = g ^ j % r) : i = j := by
 by_cases hlt : i < j
 ·exfalso
  refine c.noless hr h1 (j - i) (by omega) (by omega) ?_
  have h2 := c.full' hr
  have e1 : g ^ (n - 1 - i) * g ^ j % r = g ^ (j - i) % r := by
   rw [← Nat.pow_add, show n - 1 - i + j = (n - 1) + (j - i) by omega]
   exact step_one h2
  have e2 : g ^ (n - 1 - i) * g ^ i % r = 1 % r := by
   rw [← Nat.pow_add, show n - 1 - i + i = n - 1 by omega]
   exact h2
  rw [← e1, ← e2, Nat.mul_mod, ← h, ← Nat.mul_mod]
 ·omega
theorem Cert.inj' {n g : Nat} {l : List (Nat × Nat)} (c : Cert n g l) {r : Nat} (hr : r ∣ n) (h1 : 1 < r) (i j : Nat) (hi : i < n - 1) (hj : j < n - 1) (h : g ^ i % r = g ^ j % r) : i = j := by
 rcases Nat.le_total i j with hij | hij
 ·exact c.inj hr h1 i j hi hj hij h
 ·exact (c.inj hr h1 j i hj hi hij h.symm).symm
theorem Cert.irr {n g : Nat} {l : List (Nat × Nat)} (c : Cert n g l) : Irr n := by
 refine ⟨c.big, fun r hr => ?_⟩
 by_cases h1 : 1 < r
 ·right
  have := pigeon (r - 1) (n - 1) (fun i => g ^ i % r - 1) (fun i hi => by
    have h2 := c.unit hr h1 i hi
    have h3 := Nat.mod_lt (g ^ i) (by omega : r > 0)
    omega)
   (fun i j hi hj h => by
    have h2 := c.unit hr h1 i hi
    have h3 := c.unit hr h1 j hj
    exact c.inj' hr h1 i j hi hj (by omega))
  have h4 := Nat.le_of_dvd (by have := c.big; omega) hr
  have := c.big
  omega
 ·left
  have : r ≠ 0 := fun e => by
   subst e
   have := Nat.eq_zero_of_zero_dvd hr
   have := c.big
   omega
  omega
theorem Cert.gen {n g : Nat} {l : List (Nat × Nat)} (c : Cert n g l) (a : Nat) (ha : a % n ≠ 0) : ∃ k, a % n = g ^ k % n := by
 have hb := c.big
 have hr := Nat.dvd_refl n
 have hlt := Nat.mod_lt a (by omega : n > 0)
 obtain ⟨k, _, hk⟩ := pigeon_all (n - 1) (fun i => g ^ i % n - 1) (fun i hi => by
   have h2 := c.unit hr hb i hi
   have h3 := Nat.mod_lt (g ^ i) (by omega : n > 0)
   omega)
  (fun i j hi hj h => by
   have h2 := c.unit hr hb i hi
   have h3 := c.unit hr hb j hj
   exact c.inj' hr hb i j hi hj (by omega)) (a % n - 1) (by omega)
 refine ⟨k, ?_⟩
 have : 0 < g ^ k % n := by
  refine Nat.pos_of_ne_zero (fun h => ?_)
  have h2 := c.unit hr hb (k % (n - 1)) (Nat.mod_lt _ (by omega))
  have e : k = (n - 1) * (k / (n - 1)) + k % (n - 1) := (Nat.div_add_mod k (n - 1)).symm
  rw [e, step_one (one_of_one c.full (k / (n - 1)))] at h
  omega
 omega
theorem Cert.fermat {n g : Nat} {l : List (Nat × Nat)} (c : Cert n g l) (a : Nat) (ha : a % n ≠ 0) : a ^ (n - 1) % n = 1 := by
 obtain ⟨k, hk⟩ := c.gen a ha
 rw [pow_mod_eq hk (n - 1), ← Nat.pow_mul, Nat.mul_comm, one_of_one c.full k, Nat.mod_eq_of_lt c.big]
theorem Irr.mul {n a b : Nat} (h : Irr n) (hab : a * b % n = 0) : a % n = 0 ∨ b % n = 0 := by
 by_cases ha : n ∣ a
 ·exact .inl (Nat.mod_eq_zero_of_dvd ha)
 ·right
  have hc := (h.coprime ha).symm
  exact Nat.mod_eq_zero_of_dvd (Nat.Coprime.dvd_of_dvd_mul_left hc (Nat.dvd_of_mod_eq_zero hab))
end Go.Proofs.YtefjnfeckenmkaaGreatDoor.Num

namespace Go.Proofs.YtefjnfeckenmkaaGreatDoor.Num
def pm (n : Nat) : Nat → Nat → Nat → Nat
 | 0, _, _ => 1 % n
 | f + 1, a, e => cond (Nat.beq (e % 2) 1) (a * pm n f (a * a % n) (e / 2) % n) (pm n f (a * a % n) (e / 2))
theorem pm_eq (n : Nat) : ∀ f a e, e < 2 ^ f → pm n f a e = a ^ e % n
 | 0, a, e, h => by
  have : e = 0 := by simpa using h
  subst this
  simp [pm]
 | f + 1, a, e, h => by
  have h2 : e / 2 < 2 ^ f := by rw [Nat.pow_succ] at h; omega
  have ih := pm_eq n f (a * a % n) (e / 2) h2
  have e1 : (a * a % n) ^ (e / 2) % n = (a * a) ^ (e / 2) % n := pow_mod_eq (Nat.mod_mod _ _) _
  have e2 : (a * a) ^ (e / 2) = a ^ (2 * (e / 2)) := by rw [Nat.pow_mul, Nat.pow_two]
  rw [pm, ih, e1, e2]
  have hm := Nat.mod_two_eq_zero_or_one e
  rcases hm with hm | hm
  ·have e3 : Nat.beq (e % 2) 1 = false := by rw [hm]; rfl
   rw [e3, cond_false, show 2 * (e / 2) = e by omega]
  ·have e3 : Nat.beq (e % 2) 1 = true := by rw [hm]; rfl
   have e4 : a ^ e = a * a ^ (2 * (e / 2)) := by
    conv => lhs; rw [show e = 2 * (e / 2) + 1 by omega, Nat.pow_succ, Nat.mul_comm]
   rw [e3, cond_true, e4, Nat.mul_mod a (a ^ _ % n), Nat.mod_mod, ← Nat.mul_mod]
def trial (n : Nat) : Nat → Nat → Bool
 | 0, _ => false
 | f + 1, d => cond (Nat.ble (d * d) n) (cond (Nat.beq (n % d) 0) false (trial n f (d + 1))) true
theorem trial_no (n : Nat) (hn : 0 < n) : ∀ f d, 2 ≤ d → trial n f d = true → (∀ m, 2 ≤ m → m < d → ¬ m ∣ n) → ∀ m, 2 ≤ m → m < n → ¬ m ∣ n
 | 0, _, _, h, _ => by simp [trial] at h
 | f + 1, d, hd, h, hlow => by
  rw [trial] at h
  by_cases hb : d * d ≤ n
  ·have e1 : Nat.ble (d * d) n = true := Nat.ble_eq_true_of_le hb
   rw [e1, cond_true] at h
   by_cases hz : n % d = 0
   ·have e2 : Nat.beq (n % d) 0 = true := by rw [hz]; rfl
    rw [e2, cond_true] at h
    cases h
   ·have e2 : Nat.beq (n % d) 0 = false := by
     cases hq : Nat.beq (n % d) 0
     ·rfl
     ·exact absurd (Nat.eq_of_beq_eq_true hq) hz
    rw [e2, cond_false] at h
    refine trial_no n hn f (d + 1) (by omega) h (fun m h1 h2 => ?_)
    by_cases hm : m < d
    ·exact hlow m h1 hm
    ·have : m = d := by omega
     subst this
     exact fun hdv => hz (Nat.mod_eq_zero_of_dvd hdv)
  ·intro m h1 h2 hdv
   obtain ⟨k, hk⟩ := hdv
   have hk2 : 2 ≤ k := by
    rcases k with _ | _ | k
    ·simp at hk; omega
    ·simp at hk; omega
    ·omega
   by_cases hm : m < d
   ·exact hlow m h1 hm ⟨k, hk⟩
   ·have hkd : k < d := by
     refine Nat.lt_of_not_le (fun hle => hb ?_)
     rw [hk]
     exact Nat.mul_le_mul (by omega) hle
    exact hlow k hk2 hkd ⟨m, by rw [hk, Nat.mul_comm]⟩
theorem irr_of {n : Nat} (f : Nat) (hn : 1 < n) (h : trial n f 2 = true) : Irr n := by
 refine ⟨hn, fun m hm => ?_⟩
 have hle := Nat.le_of_dvd (by omega) hm
 by_cases h1 : m = 1
 ·exact .inl h1
 ·right
  have h0 : m ≠ 0 := fun e => by
   subst e
   have := Nat.eq_zero_of_zero_dvd hm
   omega
  by_cases h2 : m = n
  ·exact h2
  ·exact absurd hm (trial_no n (by omega) f 2 (Nat.le_refl _) h (fun m a b => by omega) m (by omega) (by omega))
def chk (n g : Nat) (l : List (Nat × Nat)) : Bool :=
 Nat.beq (prodOf l) (n - 1) && Nat.beq (pm n 256 g (n - 1)) 1 && l.all fun x => Nat.beq (Nat.gcd (pm n 256 g ((n - 1) / x.1) + (n - 1)) n) 1
theorem cert_of {n g : Nat} {l : List (Nat × Nat)} (h1 : 1 < n) (h2 : n < 2 ^ 256) (hp : ∀ x, x ∈ l → Irr x.1) (h : chk n g l = true) : Cert n g l := by
 unfold chk at h
 rw [Bool.and_eq_true, Bool.and_eq_true] at h
 obtain ⟨⟨a, b⟩, c⟩ := h
 refine ⟨h1, hp, Nat.eq_of_beq_eq_true a, ?_, fun x hx => ?_⟩
 ·have := Nat.eq_of_beq_eq_true b
  rw [pm_eq n 256 g (n - 1) (by omega)] at this
  rw [this, Nat.mod_eq_of_lt h1]
 ·have := Nat.eq_of_beq_eq_true (List.all_eq_true.1 c x hx)
  have hle : (n - 1) / x.1 ≤ n - 1 := Nat.div_le_self _ _
  rw [pm_eq n 256 g _ (by omega)] at this
  exact this
theorem irr_2 : Irr 2 := irr_of 3 (by decide) (by decide +kernel)
theorem irr_3 : Irr 3 := irr_of 3 (by decide) (by decide +kernel)
theorem irr_65147 : Irr 65147 := irr_of 257 (by decide) (by decide +kernel)
theorem irr_353 : Irr 353 := irr_of 20 (by decide) (by decide +kernel)
theorem irr_57467 : Irr 57467 := irr_of 241 (by decide) (by decide +kernel)
theorem irr_132049 : Irr 132049 := irr_of 365 (by decide) (by decide +kernel)
theorem irr_1923133 : Irr 1923133 := irr_of 1388 (by decide) (by decide +kernel)
theorem irr_107 : Irr 107 := irr_of 12 (by decide) (by decide +kernel)
theorem irr_31 : Irr 31 := irr_of 7 (by decide) (by decide +kernel)
theorem irr_223 : Irr 223 := irr_of 16 (by decide) (by decide +kernel)
theorem irr_4153 : Irr 4153 := irr_of 66 (by decide) (by decide +kernel)
theorem irr_430751 : Irr 430751 := irr_of 658 (by decide) (by decide +kernel)
theorem cert_31757755568855353 : Cert 31757755568855353 10 [(2, 3), (3, 1), (107, 1), (31, 1), (223, 1), (4153, 1), (430751, 1)] := by
 refine cert_of (by decide) (by decide) (fun x hx => ?_) (by decide +kernel)
 simp only [List.mem_cons, List.not_mem_nil, or_false] at hx
 rcases hx with rfl | rfl | rfl | rfl | rfl | rfl | rfl
 ·exact irr_2
 ·exact irr_3
 ·exact irr_107
 ·exact irr_31
 ·exact irr_223
 ·exact irr_4153
 ·exact irr_430751
theorem irr_31757755568855353 : Irr 31757755568855353 := cert_31757755568855353.irr
theorem irr_5 : Irr 5 := irr_of 4 (by decide) (by decide +kernel)
theorem irr_75707 : Irr 75707 := irr_of 277 (by decide) (by decide +kernel)
theorem irr_13 : Irr 13 := irr_of 5 (by decide) (by decide +kernel)
theorem irr_2437 : Irr 2437 := irr_of 51 (by decide) (by decide +kernel)
theorem irr_569003 : Irr 569003 := irr_of 756 (by decide) (by decide +kernel)
theorem cert_2773320623 : Cert 2773320623 5 [(2, 1), (2437, 1), (569003, 1)] := by
 refine cert_of (by decide) (by decide) (fun x hx => ?_) (by decide +kernel)
 simp only [List.mem_cons, List.not_mem_nil, or_false] at hx
 rcases hx with rfl | rfl | rfl
 ·exact irr_2
 ·exact irr_2437
 ·exact irr_569003
theorem irr_2773320623 : Irr 2773320623 := cert_2773320623.irr
theorem cert_72106336199 : Cert 72106336199 7 [(2, 1), (13, 1), (2773320623, 1)] := by
 refine cert_of (by decide) (by decide) (fun x hx => ?_) (by decide +kernel)
 simp only [List.mem_cons, List.not_mem_nil, or_false] at hx
 rcases hx with rfl | rfl | rfl
 ·exact irr_2
 ·exact irr_13
 ·exact irr_2773320623
theorem irr_72106336199 : Irr 72106336199 := cert_72106336199.irr
theorem irr_19 : Irr 19 := irr_of 6 (by decide) (by decide +kernel)
theorem irr_7 : Irr 7 := irr_of 4 (by decide) (by decide +kernel)
theorem irr_47 : Irr 47 := irr_of 8 (by decide) (by decide +kernel)
theorem irr_127 : Irr 127 := irr_of 13 (by decide) (by decide +kernel)
theorem irr_8574133 : Irr 8574133 := irr_of 2930 (by decide) (by decide +kernel)
theorem cert_1919519569386763 : Cert 1919519569386763 2 [(2, 1), (3, 1), (19, 1), (7, 1), (47, 2), (127, 1), (8574133, 1)] := by
 refine cert_of (by decide) (by decide) (fun x hx => ?_) (by decide +kernel)
 simp only [List.mem_cons, List.not_mem_nil, or_false] at hx
 rcases hx with rfl | rfl | rfl | rfl | rfl | rfl | rfl
 ·exact irr_2
 ·exact irr_3
 ·exact irr_19
 ·exact irr_7
 ·exact irr_47
 ·exact irr_127
 ·exact irr_8574133
theorem irr_1919519569386763 : Irr 1919519569386763 := cert_1919519569386763.irr
theorem cert_75445702479781427272750846543864801 : Cert 75445702479781427272750846543864801 7 [(2, 5), (5, 2), (3, 2), (75707, 1), (72106336199, 1), (1919519569386763, 1)] := by
 refine cert_of (by decide) (by decide) (fun x hx => ?_) (by decide +kernel)
 simp only [List.mem_cons, List.not_mem_nil, or_false] at hx
 rcases hx with rfl | rfl | rfl | rfl | rfl | rfl
 ·exact irr_2
 ·exact irr_5
 ·exact irr_3
 ·exact irr_75707
 ·exact irr_72106336199
 ·exact irr_1919519569386763
theorem irr_75445702479781427272750846543864801 : Irr 75445702479781427272750846543864801 := cert_75445702479781427272750846543864801.irr
theorem cert_74058212732561358302231226437062788676166966415465897661863160754340907 : Cert 74058212732561358302231226437062788676166966415465897661863160754340907 2 [(2, 1), (3, 1), (353, 1), (57467, 1), (132049, 1), (1923133, 1), (31757755568855353, 1), (75445702479781427272750846543864801, 1)] := by
 refine cert_of (by decide) (by decide) (fun x hx => ?_) (by decide +kernel)
 simp only [List.mem_cons, List.not_mem_nil, or_false] at hx
 rcases hx with rfl | rfl | rfl | rfl | rfl | rfl | rfl | rfl
 ·exact irr_2
 ·exact irr_3
 ·exact irr_353
 ·exact irr_57467
 ·exact irr_132049
 ·exact irr_1923133
 ·exact irr_31757755568855353
 ·exact irr_75445702479781427272750846543864801
theorem irr_74058212732561358302231226437062788676166966415465897661863160754340907 : Irr 74058212732561358302231226437062788676166966415465897661863160754340907 := cert_74058212732561358302231226437062788676166966415465897661863160754340907.irr
theorem certP : Cert 57896044618658097711785492504343953926634992332820282019728792003956564819949 2 [(2, 2), (3, 1), (65147, 1), (74058212732561358302231226437062788676166966415465897661863160754340907, 1)] := by
 refine cert_of (by decide) (by decide) (fun x hx => ?_) (by decide +kernel)
 simp only [List.mem_cons, List.not_mem_nil, or_false] at hx
 rcases hx with rfl | rfl | rfl | rfl
 ·exact irr_2
 ·exact irr_3
 ·exact irr_65147
 ·exact irr_74058212732561358302231226437062788676166966415465897661863160754340907
end Go.Proofs.YtefjnfeckenmkaaGreatDoor.Num

namespace Go.Proofs.YtefjnfeckenmkaaGreatDoor.Num
def P : Nat := 57896044618658097711785492504343953926634992332820282019728792003956564819949
theorem P_big : 1 < P := by decide
theorem P_pos : 0 < P := by decide
theorem certOf : Cert P 2 [(2, 2), (3, 1), (65147, 1), (74058212732561358302231226437062788676166966415465897661863160754340907, 1)] := certP
theorem P_irr : Irr P := certOf.irr
theorem fermatP (a : Nat) (h : a % P ≠ 0) : a ^ (P - 1) % P = 1 := certOf.fermat a h
theorem mul_zero_P {a b : Nat} (h : a * b % P = 0) : a % P = 0 ∨ b % P = 0 := P_irr.mul h
theorem invP (a : Nat) (h : a % P ≠ 0) : a * a ^ (P - 2) % P = 1 := by
 rw [Nat.mul_comm, ← Nat.pow_succ, show (P - 2).succ = P - 1 by decide]
 exact fermatP a h
theorem square_eq {b c : Nat} (hb : b < P) (hc : c < P) (h : b * b % P = c * c % P) : b = c ∨ b + c = P ∨ (b = 0 ∧ c = 0) := by
 rcases Nat.le_total c b with hle | hle
 ·have e : (b - c) * (b + c) % P = 0 := by
   have e1 : (b - c) * (b + c) + c * c = b * b := by
    obtain ⟨d, rfl⟩ : ∃ d, b = c + d := ⟨b - c, by omega⟩
    rw [Nat.add_sub_cancel_left]
    rw [Nat.mul_add, Nat.mul_add, Nat.add_mul, Nat.mul_add, Nat.mul_add, Nat.mul_comm d c]
    omega
   have e2 : ((b - c) * (b + c) + c * c) % P = c * c % P := by rw [e1, h]
   have e3 := Nat.sub_mod_eq_zero_of_mod_eq e2
   rwa [Nat.add_sub_cancel] at e3
  rcases mul_zero_P e with h1 | h1
  ·left
   rw [Nat.mod_eq_of_lt (by omega)] at h1
   omega
  ·by_cases hs : b + c < P
   ·rw [Nat.mod_eq_of_lt hs] at h1
    exact .inr (.inr ⟨by omega, by omega⟩)
   ·rw [Nat.mod_eq_sub_mod (by omega), Nat.mod_eq_of_lt (by omega)] at h1
    exact .inr (.inl (by omega))
 ·have e : (c - b) * (c + b) % P = 0 := by
   have e1 : (c - b) * (c + b) + b * b = c * c := by
    obtain ⟨d, rfl⟩ : ∃ d, c = b + d := ⟨c - b, by omega⟩
    rw [Nat.add_sub_cancel_left]
    rw [Nat.mul_add, Nat.mul_add, Nat.add_mul, Nat.mul_add, Nat.mul_add, Nat.mul_comm d b]
    omega
   have e2 : ((c - b) * (c + b) + b * b) % P = b * b % P := by rw [e1, h]
   have e3 := Nat.sub_mod_eq_zero_of_mod_eq e2
   rwa [Nat.add_sub_cancel] at e3
  rcases mul_zero_P e with h1 | h1
  ·left
   rw [Nat.mod_eq_of_lt (by omega)] at h1
   omega
  ·by_cases hs : c + b < P
   ·rw [Nat.mod_eq_of_lt hs] at h1
    exact .inr (.inr ⟨by omega, by omega⟩)
   ·rw [Nat.mod_eq_sub_mod (by omega), Nat.mod_eq_of_lt (by omega)] at h1
    exact .inr (.inl (by omega))
theorem square_one {t : Nat} (ht : t < P) (h : t * t % P = 1) : t = 1 ∨ t = P - 1 := by
 have h1 : t * t % P = 1 * 1 % P := by rw [h]; decide
 rcases square_eq ht P_big h1 with e | e | e
 ·exact .inl e
 ·right; omega
 ·omega
def half : Nat := 28948022309329048855892746252171976963317496166410141009864396001978282409974
def quarter : Nat := 14474011154664524427946373126085988481658748083205070504932198000989141204987
def eighth : Nat := 7237005577332262213973186563042994240829374041602535252466099000494570602494
theorem half_two : half * 2 = P - 1 := by decide
theorem quarter_two : quarter * 2 = half := by decide
theorem eighth_two : eighth * 2 = quarter + 1 := by decide
def rootI : Nat := 19681161376707505956807079304988542015446066515923890162744021073123829784752
theorem rootI_sq : rootI * rootI % P = P - 1 := by decide +kernel
def Sq (a : Nat) : Prop := ∃ b, b * b % P = a % P
theorem Sq.pow {a : Nat} (h : Sq a) (ha : a % P ≠ 0) : a ^ half % P = 1 := by
 obtain ⟨b, hb⟩ := h
 have hb0 : b % P ≠ 0 := fun e => by
  rw [Nat.mul_mod, e] at hb
  simp at hb
  exact ha hb.symm
 rw [← pow_mod_eq hb half, ← Nat.pow_two, ← Nat.pow_mul, Nat.mul_comm, half_two]
 exact fermatP b hb0
def try0 (a : Nat) : Nat := a ^ eighth % P
def try1 (a : Nat) : Nat := try0 a * rootI % P
theorem try0_sq (a : Nat) : try0 a * try0 a % P = a * (a ^ quarter % P) % P := by
 unfold try0
 rw [← Nat.mul_mod, ← Nat.pow_two, ← Nat.pow_mul, eighth_two, Nat.pow_succ, Nat.mul_comm, Nat.mul_mod, Nat.mul_mod a (_ % P), Nat.mod_mod]
theorem try1_sq (a : Nat) : try1 a * try1 a % P = (try0 a * try0 a % P) * (P - 1) % P := by
 unfold try1
 rw [← Nat.mul_mod]
 have e : try0 a * rootI * (try0 a * rootI) = (try0 a * try0 a) * (rootI * rootI) := by
  rw [Nat.mul_assoc, Nat.mul_left_comm rootI, ← Nat.mul_assoc]
 rw [e, Nat.mul_mod, rootI_sq]
theorem neg_neg_mul (a : Nat) : a * (P - 1) % P * (P - 1) % P = a % P := by
 have e : (P - 1) * (P - 1) % P = 1 := by decide
 rw [Nat.mul_mod, Nat.mod_mod, ← Nat.mul_mod, Nat.mul_assoc, Nat.mul_mod, e, Nat.mul_one, Nat.mod_mod]
theorem root_of {a : Nat} (ha : a ^ half % P = 1) : try0 a * try0 a % P = a % P ∨ try1 a * try1 a % P = a % P := by
 have ht : (a ^ quarter % P) * (a ^ quarter % P) % P = 1 := by
  rw [← Nat.mul_mod, ← Nat.pow_two, ← Nat.pow_mul, quarter_two]
  exact ha
 rcases square_one (Nat.mod_lt _ P_pos) ht with h | h
 ·left
  rw [try0_sq, h, Nat.mul_one]
 ·right
  rw [try1_sq, try0_sq, h, neg_neg_mul]
theorem sq_try (a : Nat) : Sq a ↔ (try0 a * try0 a % P = a % P ∨ try1 a * try1 a % P = a % P) := by
 by_cases ha : a % P = 0
 ·refine ⟨fun _ => .inl ?_, fun _ => ⟨0, by rw [ha]; decide⟩⟩
  rw [try0_sq, Nat.mul_mod, ha, Nat.zero_mul, Nat.zero_mod]
 ·refine ⟨fun h => root_of (h.pow ha), fun h => ?_⟩
  rcases h with e | e
  ·exact ⟨_, e⟩
  ·exact ⟨_, e⟩
end Go.Proofs.YtefjnfeckenmkaaGreatDoor.Num

namespace Go.Proofs.YtefjnfeckenmkaaGreatDoor.Num
def num (B : Nat) : List Nat → Nat
 | [] => 0
 | x :: r => x + B * num B r
theorem num_nil (B : Nat) : num B [] = 0 := rfl
theorem num_append (B : Nat) : ∀ l m : List Nat, num B (l ++ m) = num B l + B ^ l.length * num B m
 | [], m => by simp [num]
 | x :: r, m => by
  rw [List.cons_append, num, num, num_append B r m, List.length_cons, Nat.pow_succ, Nat.mul_add, ← Nat.mul_assoc, Nat.mul_comm B (B ^ _)]
  omega
theorem num_lt (B : Nat) : ∀ l : List Nat, (∀ x ∈ l, x < B) → num B l < B ^ l.length
 | [], _ => by simp [num]
 | x :: r, h => by
  have ih := num_lt B r fun y hy => h y (List.mem_cons_of_mem _ hy)
  have hx := h x (List.mem_cons_self ..)
  have h1 : B * num B r + B ≤ B * B ^ r.length := by
   have := Nat.mul_le_mul_left B ih
   rwa [Nat.mul_succ] at this
  rw [num, List.length_cons, Nat.pow_succ, Nat.mul_comm (B ^ _)]
  omega
theorem num_set (B : Nat) : ∀ (l : List Nat) (k x : Nat) (h : k < l.length), num B (l.set k x) + l[k] * B ^ k = num B l + x * B ^ k
 | [], k, x, h => by simp at h
 | y :: r, 0, x, h => by simp [num]; omega
 | y :: r, k + 1, x, h => by
  have h' : k < r.length := by simpa using h
  have ih := num_set B r k x h'
  have e : B * (num B (r.set k x) + r[k] * B ^ k) = B * (num B r + x * B ^ k) := by rw [ih]
  rw [Nat.mul_add, Nat.mul_add] at e
  rw [List.set_cons_succ, num, num, List.getElem_cons_succ, Nat.pow_succ, Nat.mul_comm (B ^ k) B, Nat.mul_left_comm, Nat.mul_left_comm x]
  omega
theorem num_take (B : Nat) (l : List Nat) (k : Nat) (h : k < l.length) : num B (l.take (k + 1)) = num B (l.take k) + l[k] * B ^ k := by
 rw [List.take_succ_eq_append_getElem h, num_append, List.length_take, Nat.min_eq_left (by omega), num, num, Nat.mul_zero, Nat.add_zero, Nat.mul_comm]
theorem num_cut (B : Nat) (l : List Nat) (k : Nat) (h : k ≤ l.length) : num B l = num B (l.take k) + B ^ k * num B (l.drop k) := by
 conv => lhs; rw [← List.take_append_drop k l]
 rw [num_append, List.length_take, Nat.min_eq_left h]
theorem num_inj (B : Nat) : ∀ l m : List Nat, l.length = m.length → (∀ x ∈ l, x < B) → (∀ x ∈ m, x < B) → num B l = num B m → l = m
 | [], [], _, _, _, _ => rfl
 | [], y :: s, h, _, _, _ => by simp at h
 | x :: r, [], h, _, _, _ => by simp at h
 | x :: r, y :: s, h, hl, hm, e => by
  have hx := hl x (List.mem_cons_self ..)
  have hy := hm y (List.mem_cons_self ..)
  rw [num, num] at e
  have e1 : x = y := by
   have := congrArg (· % B) e
   simpa [Nat.add_mul_mod_self_left, Nat.mod_eq_of_lt hx, Nat.mod_eq_of_lt hy] using this
  subst e1
  have e2 : num B r = num B s := Nat.eq_of_mul_eq_mul_left (by omega) (Nat.add_left_cancel e)
  rw [num_inj B r s (by simpa using h) (fun z hz => hl z (List.mem_cons_of_mem _ hz)) (fun z hz => hm z (List.mem_cons_of_mem _ hz)) e2]
def digs (B : Nat) : Nat → Nat → List Nat
 | 0, _ => []
 | k + 1, n => n % B :: digs B k (n / B)
theorem digs_length (B : Nat) : ∀ k n, (digs B k n).length = k
 | 0, _ => rfl
 | k + 1, n => by rw [digs, List.length_cons, digs_length B k]
theorem digs_lt (B : Nat) (hB : 0 < B) : ∀ k n, ∀ x ∈ digs B k n, x < B
 | 0, _, x, h => by simp [digs] at h
 | k + 1, n, x, h => by
  rw [digs, List.mem_cons] at h
  rcases h with rfl | h
  ·exact Nat.mod_lt _ hB
  ·exact digs_lt B hB k _ x h
theorem num_digs (B : Nat) : ∀ k n, num B (digs B k n) = n % B ^ k
 | 0, n => by simp [digs, num, Nat.mod_one]
 | k + 1, n => by
  rw [digs, num, num_digs B k, Nat.pow_succ, Nat.mul_comm (B ^ k) B, Nat.mod_mul]
theorem digs_num (B : Nat) (l : List Nat) (h : ∀ x ∈ l, x < B) (k : Nat) (hk : l.length = k) : digs B k (num B l) = l := by
 subst hk
 by_cases hB : 0 < B
 ·refine num_inj B _ _ (digs_length _ _ _) (digs_lt B hB _ _) h ?_
  rw [num_digs, Nat.mod_eq_of_lt (num_lt B l h)]
 ·cases l with
  | nil => rfl
  | cons x r => exact absurd (h x (List.mem_cons_self ..)) (by omega)
theorem num_zeros (B k : Nat) : num B (List.replicate k 0) = 0 := by
 induction k with
 | zero => rfl
 | succ k ih => rw [List.replicate_succ, num, ih, Nat.mul_zero]
theorem digs_get (B : Nat) : ∀ k n j (h : j < (digs B k n).length), (digs B k n)[j] = n / B ^ j % B
 | 0, n, j, h => by simp [digs] at h
 | k + 1, n, 0, h => by simp [digs]
 | k + 1, n, j + 1, h => by
  have := digs_get B k (n / B) j (by simpa [digs] using h)
  simp only [digs, List.getElem_cons_succ]
  rw [this, Nat.div_div_eq_div_mul, Nat.pow_succ, Nat.mul_comm B]
theorem mod_step (B n k : Nat) : n % B ^ (k + 1) = n % B ^ k + n / B ^ k % B * B ^ k := by
 rw [Nat.pow_succ, Nat.mod_mul, Nat.mul_comm (B ^ k)]
end Go.Proofs.YtefjnfeckenmkaaGreatDoor.Num

namespace Go.Proofs.YtefjnfeckenmkaaGreatDoor.Num
theorem digs_set (B k n m i x : Nat) (hn : n < B ^ k) (hi : i < k) (hx : x < B) (e : m + n / B ^ i % B * B ^ i = n + x * B ^ i) : (digs B k n).set i x = digs B k m := by
 have hB : 0 < B := by omega
 have hl : i < (digs B k n).length := by rw [digs_length]; exact hi
 have h1 := num_set B (digs B k n) i x hl
 rw [digs_get, num_digs, Nat.mod_eq_of_lt hn, ← e] at h1
 have h2 : num B ((digs B k n).set i x) = m := Nat.add_right_cancel h1
 rw [← h2, digs_num]
 ·intro y hy
  rcases List.mem_or_eq_of_mem_set hy with hy | rfl
  ·exact digs_lt B hB _ _ y hy
  ·exact hx
 ·rw [List.length_set, digs_length]
theorem digs_push (B k n i x : Nat) (hn : n < B ^ i) (hi : i < k) (hx : x < B) : (digs B k n).set i x = digs B k (n + x * B ^ i) := by
 have hB : 0 < B := by omega
 refine digs_set B k n _ i x (Nat.lt_of_lt_of_le hn (Nat.pow_le_pow_right hB (by omega))) hi hx ?_
 rw [Nat.div_eq_of_lt hn, Nat.zero_mod, Nat.zero_mul, Nat.add_zero]
theorem pow_split (B i : Nat) : B ^ (i + 1) = B * B ^ i := by rw [Nat.pow_succ, Nat.mul_comm]
theorem carry_step (B s t i d : Nat) (hB : 0 < B) (e : t = s + d * B ^ i) :
  t % B ^ (i + 1) = s % B ^ i + (d + s / B ^ i) % B * B ^ i ∧ t / B ^ (i + 1) = (d + s / B ^ i) / B := by
 have hp : 0 < B ^ i := Nat.pow_pos hB
 have e1 : t / B ^ i = d + s / B ^ i := by rw [e, Nat.add_mul_div_right _ _ hp, Nat.add_comm]
 have e2 : t % B ^ i = s % B ^ i := by rw [e, Nat.add_mul_mod_self_right]
 refine ⟨?_, ?_⟩
 ·rw [mod_step, e1, e2]
 ·rw [Nat.pow_succ, ← Nat.div_div_eq_div_mul, e1]
theorem add_step (B a b i : Nat) (hB : 0 < B) :
  (a % B ^ (i + 1) + b % B ^ (i + 1)) % B ^ (i + 1) = (a % B ^ i + b % B ^ i) % B ^ i + (a / B ^ i % B + b / B ^ i % B + (a % B ^ i + b % B ^ i) / B ^ i) % B * B ^ i ∧
  (a % B ^ (i + 1) + b % B ^ (i + 1)) / B ^ (i + 1) = (a / B ^ i % B + b / B ^ i % B + (a % B ^ i + b % B ^ i) / B ^ i) / B :=
 carry_step B _ _ i _ hB (by rw [mod_step, mod_step, Nat.add_mul]; omega)
def bor (B a b i : Nat) : Nat := if a % B ^ i < b % B ^ i then 1 else 0
theorem sub_step (B a b i : Nat) (hB : 0 < B) :
  (a % B ^ (i + 1) + B ^ (i + 1) - b % B ^ (i + 1)) % B ^ (i + 1) = (a % B ^ i + B ^ i - b % B ^ i) % B ^ i + (a / B ^ i % B + B - b / B ^ i % B - bor B a b i) % B * B ^ i ∧
  bor B a b (i + 1) = if a / B ^ i % B < b / B ^ i % B + bor B a b i then 1 else 0 := by
 unfold bor
 have hp : 0 < B ^ i := Nat.pow_pos hB
 rw [mod_step B a, mod_step B b, pow_split]
 have ha := Nat.mod_lt a hp
 have hb := Nat.mod_lt b hp
 have hx := Nat.mod_lt (a / B ^ i) hB
 have hy := Nat.mod_lt (b / B ^ i) hB
 generalize a % B ^ i = r at *
 generalize b % B ^ i = s at *
 generalize a / B ^ i % B = x at *
 generalize b / B ^ i % B = y at *
 generalize B ^ i = M at *
 have key : ∀ u v : Nat, u < v → u * M + M ≤ v * M := fun u v h => by
  have := Nat.mul_le_mul_right M (show u + 1 ≤ v from h)
  rwa [Nat.succ_mul] at this
 have full : ∀ q : Nat, q < M → ∀ z, z < B → (q + z * M) % (B * M) = q + z * M := fun q hq z hz => by
  refine Nat.mod_eq_of_lt ?_
  have := key z B hz
  omega
 have over : ∀ q : Nat, q < M → ∀ z, z < B → (q + z * M + B * M) % (B * M) = q + z * M := fun q hq z hz => by
  rw [Nat.add_mod_right, full q hq z hz]
 constructor
 ·by_cases h : r < s
  ·rw [if_pos h, Nat.mod_eq_of_lt (show r + M - s < M by omega)]
   by_cases h2 : x < y + 1
   ·rw [Nat.mod_eq_of_lt (show x + B - y - 1 < B by omega)]
    have e : r + x * M + B * M - (s + y * M) = (r + M - s) + (x + B - y - 1) * M := by
     obtain ⟨t, ht⟩ : ∃ t, x + B = y + 1 + t := ⟨x + B - y - 1, by omega⟩
     have e2 : x * M + B * M = y * M + M + t * M := by rw [← Nat.add_mul, ht, Nat.add_mul, Nat.add_mul, Nat.one_mul]
     rw [show x + B - y - 1 = t by omega]
     omega
    rw [e, full _ (by omega) _ (by omega)]
   ·rw [Nat.mod_eq_sub_mod (show x + B - y - 1 ≥ B by omega), Nat.mod_eq_of_lt (show x + B - y - 1 - B < B by omega)]
    have e : r + x * M + B * M - (s + y * M) = (r + M - s) + (x + B - y - 1 - B) * M + B * M := by
     obtain ⟨t, ht⟩ : ∃ t, x = y + 1 + t := ⟨x - y - 1, by omega⟩
     have e2 : x * M = y * M + M + t * M := by rw [ht, Nat.add_mul, Nat.add_mul, Nat.one_mul]
     rw [show x + B - y - 1 - B = t by omega]
     omega
    rw [e, over _ (by omega) _ (by omega)]
  ·rw [if_neg h, Nat.mod_eq_sub_mod (show r + M - s ≥ M by omega), Nat.mod_eq_of_lt (show r + M - s - M < M by omega), Nat.sub_zero]
   by_cases h2 : x < y
   ·rw [Nat.mod_eq_of_lt (show x + B - y < B by omega)]
    have e : r + x * M + B * M - (s + y * M) = (r + M - s - M) + (x + B - y) * M := by
     obtain ⟨t, ht⟩ : ∃ t, x + B = y + t := ⟨x + B - y, by omega⟩
     have e2 : x * M + B * M = y * M + t * M := by rw [← Nat.add_mul, ht, Nat.add_mul]
     rw [show x + B - y = t by omega]
     omega
    rw [e, full _ (by omega) _ (by omega)]
   ·rw [Nat.mod_eq_sub_mod (show x + B - y ≥ B by omega), Nat.mod_eq_of_lt (show x + B - y - B < B by omega)]
    have e : r + x * M + B * M - (s + y * M) = (r + M - s - M) + (x + B - y - B) * M + B * M := by
     obtain ⟨t, ht⟩ : ∃ t, x = y + t := ⟨x - y, by omega⟩
     have e2 : x * M = y * M + t * M := by rw [ht, Nat.add_mul]
     rw [show x + B - y - B = t by omega]
     omega
    rw [e, over _ (by omega) _ (by omega)]
 ·rcases Nat.lt_trichotomy x y with h | h | h
  ·have := key x y h
   rw [if_pos (show r + x * M < s + y * M by omega), if_pos (by omega)]
  ·subst h
   by_cases h2 : r < s
   ·rw [if_pos h2, if_pos (by omega), if_pos (by omega)]
   ·rw [if_neg h2, if_neg (by omega), if_neg (by omega)]
  ·have := key y x h
   rw [if_neg (show ¬ r + x * M < s + y * M by omega)]
   by_cases h2 : r < s
   ·rw [if_pos h2, if_neg (by omega)]
   ·rw [if_neg h2, if_neg (by omega)]
theorem put_digit (B M q low r : Nat) (hB : 0 < B) (hM : M < B ^ r) (hq : q < r) (hl : low < B) :
  ∃ M', M' + M / B ^ q % B * B ^ q = M + low * B ^ q ∧ M' < B ^ r := by
 have hp : 0 < B ^ q := Nat.pow_pos hB
 have h1 : M / B ^ q % B * B ^ q ≤ M := by
  have h2 : M / B ^ q * B ^ q ≤ M := Nat.div_mul_le_self _ _
  have h3 : M / B ^ q % B ≤ M / B ^ q := Nat.mod_le _ _
  exact Nat.le_trans (Nat.mul_le_mul_right _ h3) h2
 refine ⟨M - M / B ^ q % B * B ^ q + low * B ^ q, by omega, ?_⟩
 have e1 : M = M % B ^ q + M / B ^ q % B * B ^ q + M / B ^ (q + 1) * B ^ (q + 1) := by
  have e2 := Nat.mod_add_div M (B ^ (q + 1))
  rw [mod_step, Nat.mul_comm (B ^ (q + 1))] at e2
  omega
 have h3 : M % B ^ q < B ^ q := Nat.mod_lt _ hp
 have h4 : low * B ^ q + B ^ q ≤ B ^ (q + 1) := by
  rw [pow_split]
  have := Nat.mul_le_mul_right (B ^ q) (show low + 1 ≤ B from hl)
  rwa [Nat.succ_mul] at this
 obtain ⟨t, ht⟩ : ∃ t, r = q + 1 + t := ⟨r - q - 1, by omega⟩
 have h5 : M / B ^ (q + 1) < B ^ t := by
  rw [Nat.div_lt_iff_lt_mul (Nat.pow_pos hB), ← Nat.pow_add, Nat.add_comm t, ← ht]
  exact hM
 have h6 : M / B ^ (q + 1) * B ^ (q + 1) + B ^ (q + 1) ≤ B ^ r := by
  rw [ht, Nat.pow_add B (q + 1) t, Nat.mul_comm (B ^ (q + 1)) (B ^ t)]
  have := Nat.mul_le_mul_right (B ^ (q + 1)) (show M / B ^ (q + 1) + 1 ≤ B ^ t from h5)
  rwa [Nat.succ_mul] at this
 omega
theorem mul_step (B M c A x b j p : Nat) (hB : 0 < B) (e : M + c * B ^ (p + j) = A + x * (b % B ^ j) * B ^ p) (hM : M < B ^ (p + 4)) (hj : j < 4) (hp : p < 4) (hx : x < B) (hc : c < B) :
  ∃ M', (digs B 8 M).set (p + j) ((x * (b / B ^ j % B) + M / B ^ (p + j) % B + c) % B) = digs B 8 M' ∧
   M' + (x * (b / B ^ j % B) + M / B ^ (p + j) % B + c) / B * B ^ (p + (j + 1)) = A + x * (b % B ^ (j + 1)) * B ^ p ∧
   M' < B ^ (p + 4) ∧ (x * (b / B ^ j % B) + M / B ^ (p + j) % B + c) / B < B := by
 have hy : b / B ^ j % B < B := Nat.mod_lt _ hB
 have hd : M / B ^ (p + j) % B < B := Nat.mod_lt _ hB
 have hb := mod_step B b j
 generalize b / B ^ j % B = y at *
 have hv : x * y + M / B ^ (p + j) % B + c < B * B := by
  obtain ⟨C, rfl⟩ : ∃ C, B = C + 1 := ⟨B - 1, by omega⟩
  have := Nat.mul_le_mul (show x ≤ C by omega) (show y ≤ C by omega)
  have e1 : (C + 1) * (C + 1) = C * C + C + C + 1 := by rw [Nat.add_mul, Nat.mul_add]; omega
  omega
 obtain ⟨M', h1, h2⟩ := put_digit B M (p + j) ((x * y + M / B ^ (p + j) % B + c) % B) (p + 4) hB hM (by omega) (Nat.mod_lt _ hB)
 refine ⟨M', digs_set B 8 M M' (p + j) _ (Nat.lt_of_lt_of_le hM (Nat.pow_le_pow_right hB (by omega))) (by omega) (Nat.mod_lt _ hB) h1, ?_, h2, ?_⟩
 ·have h3 := Nat.mod_add_div (x * y + M / B ^ (p + j) % B + c) B
  have e4 : ((x * y + M / B ^ (p + j) % B + c) % B + B * ((x * y + M / B ^ (p + j) % B + c) / B)) * B ^ (p + j) = (x * y + M / B ^ (p + j) % B + c) * B ^ (p + j) := by rw [h3]
  rw [Nat.add_mul, Nat.add_mul (x * y + _), Nat.add_mul (x * y)] at e4
  have e5 : B ^ (p + (j + 1)) = B * B ^ (p + j) := by rw [← Nat.add_assoc, pow_split]
  rw [e5, hb, Nat.mul_add, Nat.add_mul, ← Nat.mul_assoc x y, Nat.mul_assoc (x * y), ← Nat.pow_add, Nat.add_comm j p, ← Nat.mul_assoc (_ / B) B, Nat.mul_comm (_ / B) B]
  omega
 ·rw [Nat.div_lt_iff_lt_mul hB]
  exact hv
theorem mul_row (B M c a b p : Nat) (hB : 0 < B) (hb : b < B ^ 4) (e : M + c * B ^ (p + 4) = (a % B ^ p) * b + (a / B ^ p % B) * (b % B ^ 4) * B ^ p) (hM : M < B ^ (p + 4)) (hp : p < 4) (hc : c < B) :
  (digs B 8 M).set (p + 4) c = digs B 8 (a % B ^ (p + 1) * b) ∧ a % B ^ (p + 1) * b < B ^ (p + 1 + 4) := by
 have e1 : a % B ^ (p + 1) * b = M + c * B ^ (p + 4) := by
  rw [e, mod_step, Nat.mod_eq_of_lt hb, Nat.add_mul, Nat.mul_assoc (_ % B) b, Nat.mul_comm b, Nat.mul_assoc]
 refine ⟨?_, ?_⟩
 ·rw [e1]
  exact digs_push B 8 M (p + 4) c hM (by omega) hc
 ·rw [Nat.pow_add B (p + 1)]
  have h1 : a % B ^ (p + 1) < B ^ (p + 1) := Nat.mod_lt _ (Nat.pow_pos hB)
  exact Nat.mul_lt_mul'' h1 hb
theorem fold_step (B v i : Nat) (hB : 38 < B) :
  (v % B ^ (i + 1) + 38 * (v / B ^ 4 % B ^ (i + 1))) % B ^ (i + 1) = (v % B ^ i + 38 * (v / B ^ 4 % B ^ i)) % B ^ i + (v / B ^ (i + 4) % B * 38 + v / B ^ i % B + (v % B ^ i + 38 * (v / B ^ 4 % B ^ i)) / B ^ i) % B * B ^ i ∧
  (v % B ^ (i + 1) + 38 * (v / B ^ 4 % B ^ (i + 1))) / B ^ (i + 1) = (v / B ^ (i + 4) % B * 38 + v / B ^ i % B + (v % B ^ i + 38 * (v / B ^ 4 % B ^ i)) / B ^ i) / B := by
 refine carry_step B _ _ i _ (by omega) ?_
 have e1 : v / B ^ (i + 4) = v / B ^ 4 / B ^ i := by rw [Nat.div_div_eq_div_mul, ← Nat.pow_add, Nat.add_comm 4]
 rw [mod_step, mod_step B (v / B ^ 4), e1, Nat.add_mul, Nat.mul_comm _ 38, Nat.mul_add, Nat.mul_assoc 38]
 omega
end Go.Proofs.YtefjnfeckenmkaaGreatDoor.Num

namespace Go.Proofs.YtefjnfeckenmkaaGreatDoor.Num
abbrev K : Nat := 18446744073709551616
theorem K4 : K ^ 4 = 115792089237316195423570985008687907853269984665640564039457584007913129639936 := by decide
theorem P_two : P + P < K ^ 4 := by decide
theorem P_lt : P < K ^ 4 := by decide
def addP (a b : Nat) : Nat := (a + b) % P
def subP (a b : Nat) : Nat := (a + P - b) % P
def mulP (a b : Nat) : Nat := a * b % P
def negP (a : Nat) : Nat := (P - a) % P
def invE (a : Nat) : Nat := a ^ (P - 2) % P
def rootB (a : Nat) : Nat := if try0 a * try0 a % P = a then try0 a else try1 a
def rootP (a : Nat) : Option Nat := if rootB a * rootB a % P = a then some (if rootB a % 2 = 1 then negP (rootB a) else rootB a) else none
theorem addP_lt (a b : Nat) : addP a b < P := Nat.mod_lt _ P_pos
theorem subP_lt (a b : Nat) : subP a b < P := Nat.mod_lt _ P_pos
theorem mulP_lt (a b : Nat) : mulP a b < P := Nat.mod_lt _ P_pos
theorem negP_lt (a : Nat) : negP a < P := Nat.mod_lt _ P_pos
theorem invE_lt (a : Nat) : invE a < P := Nat.mod_lt _ P_pos
theorem try0_lt (a : Nat) : try0 a < P := Nat.mod_lt _ P_pos
theorem try1_lt (a : Nat) : try1 a < P := Nat.mod_lt _ P_pos
theorem rootB_lt (a : Nat) : rootB a < P := by
 unfold rootB
 split
 ·exact try0_lt a
 ·exact try1_lt a
theorem rootP_lt {a b : Nat} (h : rootP a = some b) : b < P := by
 unfold rootP at h
 split at h
 ·have e := Option.some.inj h
  rw [← e]
  split
  ·exact negP_lt _
  ·exact rootB_lt a
 ·cases h
theorem fold_end (v S : Nat) (hv : v < P * P) (hS : S = v % K ^ 4 + 38 * (v / K ^ 4 % K ^ 4)) :
  S % 2 ^ 255 + 19 * (S / 2 ^ 255) < P + P ∧ (S % 2 ^ 255 + 19 * (S / 2 ^ 255)) % P = v % P ∧ S / K ^ 4 ≤ 38 := by
 have h1 : v / K ^ 4 < K ^ 4 := by
  rw [Nat.div_lt_iff_lt_mul (by decide)]
  exact Nat.lt_trans hv (by decide)
 rw [Nat.mod_eq_of_lt h1] at hS
 have h2 := Nat.mod_add_div v (K ^ 4)
 have h3 : v % K ^ 4 < K ^ 4 := Nat.mod_lt _ (by decide)
 have hq : v / K ^ 4 < P := by
  rw [Nat.div_lt_iff_lt_mul (by decide)]
  exact Nat.lt_of_lt_of_le hv (Nat.mul_le_mul_left _ (Nat.le_of_lt P_lt))
 have eP : P = 57896044618658097711785492504343953926634992332820282019728792003956564819949 := rfl
 have e255 : 2 ^ 255 = 57896044618658097711785492504343953926634992332820282019728792003956564819968 := by decide
 rw [K4] at *
 rw [e255]
 generalize v / 115792089237316195423570985008687907853269984665640564039457584007913129639936 = q at *
 generalize v % 115792089237316195423570985008687907853269984665640564039457584007913129639936 = r at *
 refine ⟨by omega, ?_, by omega⟩
 have e1 : S % 57896044618658097711785492504343953926634992332820282019728792003956564819968 + 19 * (S / 57896044618658097711785492504343953926634992332820282019728792003956564819968) + P * (S / 57896044618658097711785492504343953926634992332820282019728792003956564819968) = S := by
  rw [eP]; omega
 have e2 : S + P * (2 * q) = v := by rw [eP]; omega
 have e3 : (S % 57896044618658097711785492504343953926634992332820282019728792003956564819968 + 19 * (S / 57896044618658097711785492504343953926634992332820282019728792003956564819968) + P * (S / 57896044618658097711785492504343953926634992332820282019728792003956564819968)) % P = v % P := by
  rw [e1, ← e2, Nat.add_mul_mod_self_left]
 rwa [Nat.add_mul_mod_self_left] at e3
theorem least_of (v : Nat) (hv : v < P + P) : v % P = if v < P then v else v - P := by
 split
 ·rename_i h; exact Nat.mod_eq_of_lt h
 ·rename_i h
  rw [Nat.mod_eq_sub_mod (by omega), Nat.mod_eq_of_lt (by omega)]
theorem subP_of (a b : Nat) (ha : a < P) (hb : b < P) : subP a b = if a < b then a + P - b else a - b := by
 unfold subP
 split
 ·exact Nat.mod_eq_of_lt (by omega)
 ·rw [Nat.mod_eq_sub_mod (by omega), Nat.mod_eq_of_lt (by omega)]; omega
theorem pow_bit (a e t : Nat) : a ^ (e % 2 ^ (t + 1)) % P = if e / 2 ^ t % 2 = 1 then a ^ (e % 2 ^ t) % P * (a ^ (2 ^ t) % P) % P else a ^ (e % 2 ^ t) % P := by
 rw [mod_step 2 e t]
 split
 ·rename_i h
  rw [h, Nat.one_mul, Nat.pow_add, Nat.mul_mod]
 ·rename_i h
  have : e / 2 ^ t % 2 = 0 := by omega
  rw [this, Nat.zero_mul, Nat.add_zero]
theorem pow_sq (a t : Nat) : a ^ (2 ^ (t + 1)) % P = a ^ (2 ^ t) % P * (a ^ (2 ^ t) % P) % P := by
 rw [← Nat.mul_mod, ← Nat.pow_two, ← Nat.pow_mul, Nat.pow_succ]
end Go.Proofs.YtefjnfeckenmkaaGreatDoor.Num

namespace Go.Proofs.YtefjnfeckenmkaaGreatDoor.Num
theorem mulP_comm (a b : Nat) : mulP a b = mulP b a := by unfold mulP; rw [Nat.mul_comm]
theorem negP_of (a : Nat) (ha : a < P) : negP a = if a = 0 then 0 else P - a := by
 unfold negP
 split
 ·rename_i h; rw [h, Nat.sub_zero, Nat.mod_self]
 ·exact Nat.mod_eq_of_lt (by omega)
theorem negP_sub (a : Nat) : subP 0 a = negP a := by
 unfold subP negP
 rw [Nat.zero_add]
theorem invE_pm (a : Nat) : invE a = pm P 256 a (P - 2) := (pm_eq P 256 a (P - 2) (by decide)).symm
theorem mulP_zero (b : Nat) : mulP 0 b = 0 := by unfold mulP; rw [Nat.zero_mul, Nat.zero_mod]
theorem mulP_inv (a : Nat) (ha : a < P) (h : a ≠ 0) : mulP a (invE a) = 1 := by
 unfold mulP invE
 rw [Nat.mul_mod_mod]
 exact invP a (by rw [Nat.mod_eq_of_lt ha]; exact h)
theorem mulP_nil (a b : Nat) (ha : a < P) (hb : b < P) : mulP a b = 0 ↔ a = 0 ∨ b = 0 := by
 refine ⟨fun h => ?_, fun h => ?_⟩
 ·have := mul_zero_P h
  rw [Nat.mod_eq_of_lt ha, Nat.mod_eq_of_lt hb] at this
  exact this
 ·rcases h with rfl | rfl
  ·exact mulP_zero b
  ·rw [mulP_comm]; exact mulP_zero a
theorem neg_sq (b : Nat) (hb : b < P) : negP b * negP b % P = b * b % P := by
 rw [negP_of b hb]
 split
 ·rename_i h; rw [h]
 ·obtain ⟨c, hc⟩ : ∃ c, P = b + c := ⟨P - b, by omega⟩
  rw [show P - b = c by omega]
  have e : c * c + P * b = b * b + P * c := by
   rw [hc, Nat.add_mul, Nat.add_mul, Nat.mul_comm c b]; omega
  have e2 := congrArg (· % P) e
  simp only [Nat.add_mul_mod_self_left] at e2
  exact e2
theorem P_odd : P % 2 = 1 := by decide
theorem root_is {a s : Nat} (h : rootP a = some s) : mulP s s = a ∧ s % 2 = 0 ∧ s < P := by
 refine ⟨?_, ?_, rootP_lt h⟩
 ·unfold rootP at h
  split at h
  ·rename_i hb
   have e := Option.some.inj h
   rw [← e]
   unfold mulP
   split
   ·rw [neg_sq _ (rootB_lt a)]; exact hb
   ·exact hb
  ·cases h
 ·unfold rootP at h
  split at h
  ·have e := Option.some.inj h
   rw [← e]
   have hl := rootB_lt a
   split
   ·rename_i ho
    have := P_odd
    rw [negP_of _ hl, if_neg (by omega)]
    omega
   ·omega
  ·cases h
theorem root_iff {a : Nat} (ha : a < P) : (∃ s, rootP a = some s) ↔ Sq a := by
 rw [sq_try, Nat.mod_eq_of_lt ha]
 unfold rootP rootB
 refine ⟨fun ⟨s, h⟩ => ?_, fun h => ?_⟩
 ·by_cases h0 : try0 a * try0 a % P = a
  ·exact .inl h0
  ·rw [if_neg h0] at h
   split at h
   ·rename_i h1; exact .inr h1
   ·cases h
 ·by_cases h0 : try0 a * try0 a % P = a
  ·rw [if_pos h0, if_pos h0]; exact ⟨_, rfl⟩
  ·rw [if_neg h0]
   rcases h with h | h
   ·exact absurd h h0
   ·rw [if_pos h]; exact ⟨_, rfl⟩
theorem root_square (a : Nat) (ha : a < P) : ∃ r, rootP (mulP a a) = some r ∧ r % 2 = 0 ∧ r < P ∧ (r = a ∨ r = negP a) := by
 obtain ⟨r, hr⟩ := (root_iff (mulP_lt a a)).2 ⟨a, by unfold mulP; rw [Nat.mod_mod]⟩
 obtain ⟨h1, h2, h3⟩ := root_is hr
 refine ⟨r, hr, h2, h3, ?_⟩
 rcases square_eq h3 ha h1 with e | e | e
 ·exact .inl e
 ·right
  rw [negP_of a ha]
  split
  ·omega
  ·omega
 ·left; omega
/-! closed -/
theorem try0_pm (a : Nat) : try0 a = pm P 256 a eighth := (pm_eq P 256 a eighth (by decide)).symm
theorem rootP_of (a : Nat) : rootP a = (let t := pm P 256 a eighth; let b := if t * t % P = a then t else t * rootI % P; if b * b % P = a then some (if b % 2 = 1 then (P - b) % P else b) else none) := by
 unfold rootP rootB try1 negP
 rw [try0_pm]
end Go.Proofs.YtefjnfeckenmkaaGreatDoor.Num

namespace Go.Proofs.YtefjnfeckenmkaaGreatDoor.Num
theorem digs_snoc (B : Nat) : ∀ k n, digs B (k + 1) n = digs B k n ++ [n / B ^ k % B]
 | 0, n => by simp [digs]
 | k + 1, n => by
  have e : n / B ^ (k + 1) % B = n / B / B ^ k % B := by rw [Nat.div_div_eq_div_mul, pow_split]
  rw [e]
  show n % B :: digs B (k + 1) (n / B) = n % B :: (digs B k (n / B) ++ [n / B / B ^ k % B])
  rw [digs_snoc B k (n / B)]
theorem digs_mod (B k n m : Nat) (hB : 0 < B) (h : n % B ^ k = m % B ^ k) : digs B k n = digs B k m := by
 refine num_inj B _ _ (by rw [digs_length, digs_length]) (digs_lt B hB _ _) (digs_lt B hB _ _) ?_
 rw [num_digs, num_digs, h]
def mix (B : Nat) (i n : Nat) (l : List Nat) : List Nat := digs B i n ++ l.drop i
theorem mix_length (B i n : Nat) (l : List Nat) (h : i ≤ l.length) : (mix B i n l).length = l.length := by
 unfold mix
 rw [List.length_append, digs_length, List.length_drop]; omega
theorem mix_get (B i n : Nat) (l : List Nat) (h : i < l.length) : (mix B i n l)[i]'(by rw [mix_length B i n l (by omega)]; exact h) = l[i] := by
 unfold mix
 rw [List.getElem_append_right (by rw [digs_length]; exact Nat.le_refl _)]
 simp [digs_length]
theorem mix_set (B i n n' x : Nat) (l : List Nat) (hB : 0 < B) (h : i < l.length) (e : n' % B ^ (i + 1) = n % B ^ i + x * B ^ i) : (mix B i n l).set i x = mix B (i + 1) n' l := by
 unfold mix
 rw [List.set_append_right _ _ (by rw [digs_length]; exact Nat.le_refl _), digs_length, Nat.sub_self, List.drop_eq_getElem_cons h, List.set_cons_zero, digs_snoc, List.append_assoc]
 have hp : 0 < B ^ i := Nat.pow_pos hB
 have e1 : n' % B ^ i = n % B ^ i := by
  have := congrArg (· % B ^ i) e
  simp only [Nat.add_mul_mod_self_right, Nat.mod_mod] at this
  rwa [Nat.mod_mod_of_dvd _ (Nat.pow_dvd_pow B (Nat.le_succ i))] at this
 have e2 : n' / B ^ i % B = x := by
  rw [mod_step] at e
  rw [e1] at e
  have := Nat.add_left_cancel e
  exact Nat.eq_of_mul_eq_mul_right hp this
 rw [digs_mod B i n' n hB e1, e2]
 rfl
theorem pass_step (B i : Nat) (l : List Nat) (hB : 0 < B) (h : i < l.length) :
  (mix B i (num B (l.take i)) l).set i ((l[i] + num B (l.take i) / B ^ i) % B) = mix B (i + 1) (num B (l.take (i + 1))) l ∧
  num B (l.take (i + 1)) / B ^ (i + 1) = (l[i] + num B (l.take i) / B ^ i) / B := by
 have := carry_step B (num B (l.take i)) (num B (l.take (i + 1))) i l[i] hB (num_take B l i h)
 exact ⟨mix_set B i _ _ _ l hB h this.1, this.2⟩
theorem num_le (B X : Nat) (hB : 0 < B) : ∀ l : List Nat, (∀ x ∈ l, x ≤ X * (B - 1)) → num B l + X ≤ X * B ^ l.length
 | [], _ => by simp [num]
 | x :: r, h => by
  have ih := num_le B X hB r fun y hy => h y (List.mem_cons_of_mem _ hy)
  have hx := h x (List.mem_cons_self ..)
  rw [num, List.length_cons, pow_split, Nat.mul_left_comm]
  have h1 := Nat.mul_le_mul_left B ih
  rw [Nat.mul_add] at h1
  have h2 : X * (B - 1) + X = B * X := by
   rw [Nat.mul_comm B X]
   conv => rhs; rw [show B = B - 1 + 1 by omega]
   rw [Nat.mul_succ]
  omega
theorem num_take_le (B X i : Nat) (hB : 0 < B) (l : List Nat) (h : ∀ x ∈ l, x ≤ X * (B - 1)) : num B (l.take i) / B ^ i ≤ X := by
 have h1 := num_le B X hB (l.take i) fun x hx => h x (List.mem_of_mem_take hx)
 have h2 : (l.take i).length ≤ i := by rw [List.length_take]; omega
 have h3 : B ^ (l.take i).length ≤ B ^ i := Nat.pow_le_pow_right hB h2
 have h4 := Nat.mul_le_mul_left X h3
 rcases Nat.eq_zero_or_pos X with h0 | h0
 ·subst h0
  have : num B (l.take i) = 0 := by omega
  rw [this, Nat.zero_div]; omega
 ·have : num B (l.take i) < (X + 1) * B ^ i := by rw [Nat.succ_mul]; omega
  have := (Nat.div_lt_iff_lt_mul (Nat.pow_pos hB)).2 this
  omega
theorem less_step (B a b i : Nat) (e : a / B ^ (i + 1) = b / B ^ (i + 1)) :
  (a / B ^ i % B = b / B ^ i % B → a / B ^ i = b / B ^ i) ∧ (a / B ^ i % B ≠ b / B ^ i % B → (a < b ↔ a / B ^ i % B < b / B ^ i % B)) := by
 have e1 : a / B ^ i / B = b / B ^ i / B := by rw [Nat.div_div_eq_div_mul, Nat.div_div_eq_div_mul, ← Nat.pow_succ]; exact e
 have h1 := Nat.mod_add_div (a / B ^ i) B
 have h2 := Nat.mod_add_div (b / B ^ i) B
 rw [e1] at h1
 refine ⟨fun h => by omega, fun h => ⟨fun h3 => ?_, fun h3 => ?_⟩⟩
 ·have : a / B ^ i ≤ b / B ^ i := Nat.div_le_div_right (Nat.le_of_lt h3)
  omega
 ·have h4 : a / B ^ i < b / B ^ i := by omega
  rcases Nat.lt_or_ge a b with h5 | h5
  ·exact h5
  ·have := Nat.div_le_div_right (c := B ^ i) h5
   omega
theorem num_more (B : Nat) (l : List Nat) (k x : Nat) (h : k < l.length) : num B (l.set k (l[k] + x)) = num B l + x * B ^ k := by
 have := num_set B l k (l[k] + x) h
 rw [Nat.add_mul] at this
 omega
theorem byte_pow (i : Nat) : 256 ^ i = K ^ (i / 8) * 2 ^ (8 * (i % 8)) := by
 have e1 : (256 : Nat) = 2 ^ 8 := rfl
 have e2 : K = 2 ^ 64 := by decide
 rw [e1, e2, ← Nat.pow_mul, ← Nat.pow_mul, ← Nat.pow_add]
 congr 1
 omega
theorem byte_of (n i : Nat) : n / 256 ^ i % 256 = n / K ^ (i / 8) % K / 2 ^ (8 * (i % 8)) % 256 := by
 rw [byte_pow, ← Nat.div_div_eq_div_mul]
 generalize n / K ^ (i / 8) = m
 have e : K = 2 ^ (8 * (i % 8)) * 2 ^ (64 - 8 * (i % 8)) := by
  have e2 : K = 2 ^ 64 := by decide
  rw [e2, ← Nat.pow_add]; congr 1; omega
 rw [e, Nat.mod_mul_right_div_self]
 have : (256 : Nat) ∣ 2 ^ (64 - 8 * (i % 8)) := by
  have e1 : (256 : Nat) = 2 ^ 8 := rfl
  rw [e1]
  exact Nat.pow_dvd_pow 2 (by omega)
 rw [Nat.mod_mod_of_dvd _ this]
theorem byte_put (n i x : Nat) (hn : n < 256 ^ i) (hi : i < 32) (hx : x < 256) :
  (digs K 4 n).set (i / 8) (n / K ^ (i / 8) % K + x * 2 ^ (8 * (i % 8))) = digs K 4 (n + x * 256 ^ i) ∧ n / K ^ (i / 8) % K < 2 ^ (8 * (i % 8)) := by
 have hw : n / K ^ (i / 8) < 2 ^ (8 * (i % 8)) := by
  rw [Nat.div_lt_iff_lt_mul (Nat.pow_pos (by decide)), Nat.mul_comm, ← byte_pow]
  exact hn
 have h56 : 2 ^ (8 * (i % 8)) ≤ 2 ^ 56 := Nat.pow_le_pow_right (by decide) (by omega)
 have hK : (2 : Nat) ^ 56 = 72057594037927936 := by decide
 have hm : n / K ^ (i / 8) % K = n / K ^ (i / 8) := Nat.mod_eq_of_lt (show _ < 18446744073709551616 by rw [hK] at h56; omega)
 rw [hm]
 have hx2 : x * 2 ^ (8 * (i % 8)) ≤ 255 * 2 ^ (8 * (i % 8)) := Nat.mul_le_mul_right _ (by omega)
 refine ⟨digs_set K 4 n _ _ _ ?_ (by omega) (show _ < 18446744073709551616 by rw [hK] at h56; omega) ?_, hw⟩
 ·refine Nat.lt_of_lt_of_le hn ?_
  rw [show K ^ 4 = 256 ^ 32 by decide]
  exact Nat.pow_le_pow_right (by decide) (by omega)
 ·rw [hm, Nat.add_mul, byte_pow, Nat.mul_comm (K ^ _) (2 ^ _), ← Nat.mul_assoc]
  omega
end Go.Proofs.YtefjnfeckenmkaaGreatDoor.Num
