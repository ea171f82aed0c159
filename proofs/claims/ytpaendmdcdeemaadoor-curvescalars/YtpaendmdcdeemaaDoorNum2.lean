/-
  Powers by squares, and the certificate that 2^255 - 19 is a prime.
-/
import Derived.Test.YtpaendmdcdeemaaDoorNum1
namespace Go.Proofs.YtpaendmdcdeemaaDoor.Num

/-- a power, what is left of it, by squares -/
def pm (n : Nat) : Nat → Nat → Nat → Nat
  | 0, _, _ => 1 % n
  | f + 1, a, e => cond (Nat.beq (e % 2) 1) (a * pm n f (a * a % n) (e / 2) % n) (pm n f (a * a % n) (e / 2))

theorem pm_eq (n : Nat) : ∀ f a e, e < 2 ^ f → pm n f a e = a ^ e % n
  | 0, a, e, h => by
    have : e = 0 := by simpa using h
    subst this
    simp [pm]
  | f + 1, a, e, h => by
    have h2 : e / 2 < 2 ^ f := by rw [Nat.pow_succ] at h; omega
    have ih := pm_eq n f (a * a % n) (e / 2) h2
    have e1 : (a * a % n) ^ (e / 2) % n = (a * a) ^ (e / 2) % n := pow_mod_eq (Nat.mod_mod _ _) _
    have e2 : (a * a) ^ (e / 2) = a ^ (2 * (e / 2)) := by rw [Nat.pow_mul, Nat.pow_two]
    rw [pm, ih, e1, e2]
    have hm := Nat.mod_two_eq_zero_or_one e
    rcases hm with hm | hm
    · have e3 : Nat.beq (e % 2) 1 = false := by rw [hm]; rfl
      rw [e3, cond_false, show 2 * (e / 2) = e by omega]
    · have e3 : Nat.beq (e % 2) 1 = true := by rw [hm]; rfl
      have e4 : a ^ e = a * a ^ (2 * (e / 2)) := by
        conv => lhs; rw [show e = 2 * (e / 2) + 1 by omega, Nat.pow_succ, Nat.mul_comm]
      rw [e3, cond_true, e4, Nat.mul_mod a (a ^ _ % n), Nat.mod_mod, ← Nat.mul_mod]

/-- is there no part from d on, up to the root? -/
def trial (n : Nat) : Nat → Nat → Bool
  | 0, _ => false
  | f + 1, d => cond (Nat.ble (d * d) n) (cond (Nat.beq (n % d) 0) false (trial n f (d + 1))) true

theorem trial_no (n : Nat) (hn : 0 < n) : ∀ f d, 2 ≤ d → trial n f d = true → (∀ m, 2 ≤ m → m < d → ¬ m ∣ n) → ∀ m, 2 ≤ m → m < n → ¬ m ∣ n
  | 0, _, _, h, _ => by simp [trial] at h
  | f + 1, d, hd, h, hlow => by
    rw [trial] at h
    by_cases hb : d * d ≤ n
    · have e1 : Nat.ble (d * d) n = true := Nat.ble_eq_true_of_le hb
      rw [e1, cond_true] at h
      by_cases hz : n % d = 0
      · have e2 : Nat.beq (n % d) 0 = true := by rw [hz]; rfl
        rw [e2, cond_true] at h
        cases h
      · have e2 : Nat.beq (n % d) 0 = false := by
          cases hq : Nat.beq (n % d) 0
          · rfl
          · exact absurd (Nat.eq_of_beq_eq_true hq) hz
        rw [e2, cond_false] at h
        refine trial_no n hn f (d + 1) (by omega) h (fun m h1 h2 => ?_)
        by_cases hm : m < d
        · exact hlow m h1 hm
        · have : m = d := by omega
          subst this
          exact fun hdv => hz (Nat.mod_eq_zero_of_dvd hdv)
    · intro m h1 h2 hdv
      obtain ⟨k, hk⟩ := hdv
      have hk2 : 2 ≤ k := by
        rcases k with _ | _ | k
        · simp at hk; omega
        · simp at hk; omega
        · omega
      by_cases hm : m < d
      · exact hlow m h1 hm ⟨k, hk⟩
      · have hkd : k < d := by
          refine Nat.lt_of_not_le (fun hle => hb ?_)
          rw [hk]
          exact Nat.mul_le_mul (by omega) hle
        exact hlow k hk2 hkd ⟨m, by rw [hk, Nat.mul_comm]⟩

theorem irr_of {n : Nat} (f : Nat) (hn : 1 < n) (h : trial n f 2 = true) : Irr n := by
  refine ⟨hn, fun m hm => ?_⟩
  have hle := Nat.le_of_dvd (by omega) hm
  by_cases h1 : m = 1
  · exact .inl h1
  · right
    have h0 : m ≠ 0 := fun e => by
      subst e
      have := Nat.eq_zero_of_zero_dvd hm
      omega
    by_cases h2 : m = n
    · exact h2
    · exact absurd hm (trial_no n (by omega) f 2 (Nat.le_refl _) h (fun m a b => by omega) m (by omega) (by omega))

/-- the certificate, reckoned -/
def chk (n g : Nat) (l : List (Nat × Nat)) : Bool :=
  Nat.beq (prodOf l) (n - 1) && Nat.beq (pm n 256 g (n - 1)) 1 && l.all fun x => Nat.beq (Nat.gcd (pm n 256 g ((n - 1) / x.1) + (n - 1)) n) 1

theorem cert_of {n g : Nat} {l : List (Nat × Nat)} (h1 : 1 < n) (h2 : n < 2 ^ 256) (hp : ∀ x, x ∈ l → Irr x.1) (h : chk n g l = true) : Cert n g l := by
  unfold chk at h
  rw [Bool.and_eq_true, Bool.and_eq_true] at h
  obtain ⟨⟨a, b⟩, c⟩ := h
  refine ⟨h1, hp, Nat.eq_of_beq_eq_true a, ?_, fun x hx => ?_⟩
  · have := Nat.eq_of_beq_eq_true b
    rw [pm_eq n 256 g (n - 1) (by omega)] at this
    rw [this, Nat.mod_eq_of_lt h1]
  · have := Nat.eq_of_beq_eq_true (List.all_eq_true.1 c x hx)
    have hle : (n - 1) / x.1 ≤ n - 1 := Nat.div_le_self _ _
    rw [pm_eq n 256 g _ (by omega)] at this
    exact this

theorem irr_2 : Irr 2 := irr_of 3 (by decide) (by decide +kernel)
theorem irr_3 : Irr 3 := irr_of 3 (by decide) (by decide +kernel)
theorem irr_65147 : Irr 65147 := irr_of 257 (by decide) (by decide +kernel)
theorem irr_353 : Irr 353 := irr_of 20 (by decide) (by decide +kernel)
theorem irr_57467 : Irr 57467 := irr_of 241 (by decide) (by decide +kernel)
theorem irr_132049 : Irr 132049 := irr_of 365 (by decide) (by decide +kernel)
theorem irr_1923133 : Irr 1923133 := irr_of 1388 (by decide) (by decide +kernel)
theorem irr_107 : Irr 107 := irr_of 12 (by decide) (by decide +kernel)
theorem irr_31 : Irr 31 := irr_of 7 (by decide) (by decide +kernel)
theorem irr_223 : Irr 223 := irr_of 16 (by decide) (by decide +kernel)
theorem irr_4153 : Irr 4153 := irr_of 66 (by decide) (by decide +kernel)
theorem irr_430751 : Irr 430751 := irr_of 658 (by decide) (by decide +kernel)
theorem cert_31757755568855353 : Cert 31757755568855353 10 [(2, 3), (3, 1), (107, 1), (31, 1), (223, 1), (4153, 1), (430751, 1)] := by
  refine cert_of (by decide) (by decide) (fun x hx => ?_) (by decide +kernel)
  simp only [List.mem_cons, List.not_mem_nil, or_false] at hx
  rcases hx with rfl | rfl | rfl | rfl | rfl | rfl | rfl
  · exact irr_2
  · exact irr_3
  · exact irr_107
  · exact irr_31
  · exact irr_223
  · exact irr_4153
  · exact irr_430751
theorem irr_31757755568855353 : Irr 31757755568855353 := cert_31757755568855353.irr
theorem irr_5 : Irr 5 := irr_of 4 (by decide) (by decide +kernel)
theorem irr_75707 : Irr 75707 := irr_of 277 (by decide) (by decide +kernel)
theorem irr_13 : Irr 13 := irr_of 5 (by decide) (by decide +kernel)
theorem irr_2437 : Irr 2437 := irr_of 51 (by decide) (by decide +kernel)
theorem irr_569003 : Irr 569003 := irr_of 756 (by decide) (by decide +kernel)
theorem cert_2773320623 : Cert 2773320623 5 [(2, 1), (2437, 1), (569003, 1)] := by
  refine cert_of (by decide) (by decide) (fun x hx => ?_) (by decide +kernel)
  simp only [List.mem_cons, List.not_mem_nil, or_false] at hx
  rcases hx with rfl | rfl | rfl
  · exact irr_2
  · exact irr_2437
  · exact irr_569003
theorem irr_2773320623 : Irr 2773320623 := cert_2773320623.irr
theorem cert_72106336199 : Cert 72106336199 7 [(2, 1), (13, 1), (2773320623, 1)] := by
  refine cert_of (by decide) (by decide) (fun x hx => ?_) (by decide +kernel)
  simp only [List.mem_cons, List.not_mem_nil, or_false] at hx
  rcases hx with rfl | rfl | rfl
  · exact irr_2
  · exact irr_13
  · exact irr_2773320623
theorem irr_72106336199 : Irr 72106336199 := cert_72106336199.irr
theorem irr_19 : Irr 19 := irr_of 6 (by decide) (by decide +kernel)
theorem irr_7 : Irr 7 := irr_of 4 (by decide) (by decide +kernel)
theorem irr_47 : Irr 47 := irr_of 8 (by decide) (by decide +kernel)
theorem irr_127 : Irr 127 := irr_of 13 (by decide) (by decide +kernel)
theorem irr_8574133 : Irr 8574133 := irr_of 2930 (by decide) (by decide +kernel)
theorem cert_1919519569386763 : Cert 1919519569386763 2 [(2, 1), (3, 1), (19, 1), (7, 1), (47, 2), (127, 1), (8574133, 1)] := by
  refine cert_of (by decide) (by decide) (fun x hx => ?_) (by decide +kernel)
  simp only [List.mem_cons, List.not_mem_nil, or_false] at hx
  rcases hx with rfl | rfl | rfl | rfl | rfl | rfl | rfl
  · exact irr_2
  · exact irr_3
  · exact irr_19
  · exact irr_7
  · exact irr_47
  · exact irr_127
  · exact irr_8574133
theorem irr_1919519569386763 : Irr 1919519569386763 := cert_1919519569386763.irr
theorem cert_75445702479781427272750846543864801 : Cert 75445702479781427272750846543864801 7 [(2, 5), (5, 2), (3, 2), (75707, 1), (72106336199, 1), (1919519569386763, 1)] := by
  refine cert_of (by decide) (by decide) (fun x hx => ?_) (by decide +kernel)
  simp only [List.mem_cons, List.not_mem_nil, or_false] at hx
  rcases hx with rfl | rfl | rfl | rfl | rfl | rfl
  · exact irr_2
  · exact irr_5
  · exact irr_3
  · exact irr_75707
  · exact irr_72106336199
  · exact irr_1919519569386763
theorem irr_75445702479781427272750846543864801 : Irr 75445702479781427272750846543864801 := cert_75445702479781427272750846543864801.irr
theorem cert_74058212732561358302231226437062788676166966415465897661863160754340907 : Cert 74058212732561358302231226437062788676166966415465897661863160754340907 2 [(2, 1), (3, 1), (353, 1), (57467, 1), (132049, 1), (1923133, 1), (31757755568855353, 1), (75445702479781427272750846543864801, 1)] := by
  refine cert_of (by decide) (by decide) (fun x hx => ?_) (by decide +kernel)
  simp only [List.mem_cons, List.not_mem_nil, or_false] at hx
  rcases hx with rfl | rfl | rfl | rfl | rfl | rfl | rfl | rfl
  · exact irr_2
  · exact irr_3
  · exact irr_353
  · exact irr_57467
  · exact irr_132049
  · exact irr_1923133
  · exact irr_31757755568855353
  · exact irr_75445702479781427272750846543864801
theorem irr_74058212732561358302231226437062788676166966415465897661863160754340907 : Irr 74058212732561358302231226437062788676166966415465897661863160754340907 := cert_74058212732561358302231226437062788676166966415465897661863160754340907.irr
theorem certP : Cert 57896044618658097711785492504343953926634992332820282019728792003956564819949 2 [(2, 2), (3, 1), (65147, 1), (74058212732561358302231226437062788676166966415465897661863160754340907, 1)] := by
  refine cert_of (by decide) (by decide) (fun x hx => ?_) (by decide +kernel)
  simp only [List.mem_cons, List.not_mem_nil, or_false] at hx
  rcases hx with rfl | rfl | rfl | rfl
  · exact irr_2
  · exact irr_3
  · exact irr_65147
  · exact irr_74058212732561358302231226437062788676166966415465897661863160754340907
end Go.Proofs.YtpaendmdcdeemaaDoor.Num
