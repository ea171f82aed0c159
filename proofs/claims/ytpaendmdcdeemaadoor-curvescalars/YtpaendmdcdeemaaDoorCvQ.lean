/-
  The order of the base is a number with no divisors. Nothing of a program.
-/
import Derived.Test.YtpaendmdcdeemaaDoorNum3
import Derived.Test.YtpaendmdcdeemaaDoorCvX
namespace Go.Proofs.YtpaendmdcdeemaaDoor.Num

theorem irr_11 : Irr 11 := irr_of 6 (by decide) (by decide +kernel)
theorem irr_23 : Irr 23 := irr_of 7 (by decide) (by decide +kernel)
theorem irr_30703 : Irr 30703 := irr_of 178 (by decide) (by decide +kernel)
theorem irr_82163 : Irr 82163 := irr_of 289 (by decide) (by decide +kernel)
theorem irr_132667 : Irr 132667 := irr_of 367 (by decide) (by decide +kernel)
theorem irr_137849 : Irr 137849 := irr_of 374 (by decide) (by decide +kernel)
theorem cert_3044861653679985063343 : Cert 3044861653679985063343 5 [(2, 1), (3, 1), (11, 1), (30703, 1), (82163, 1), (132667, 1), (137849, 1)] := by
  refine cert_of (by decide) (by decide) (fun x hx => ?_) (by decide +kernel)
  simp only [List.mem_cons, List.not_mem_nil, or_false] at hx
  rcases hx with rfl | rfl | rfl | rfl | rfl | rfl | rfl
  · exact irr_2
  · exact irr_3
  · exact irr_11
  · exact irr_30703
  · exact irr_82163
  · exact irr_132667
  · exact irr_137849
theorem irr_3044861653679985063343 : Irr 3044861653679985063343 := cert_3044861653679985063343.irr
theorem irr_409477 : Irr 409477 := irr_of 642 (by decide) (by decide +kernel)
theorem cert_14741173 : Cert 14741173 2 [(2, 2), (3, 2), (409477, 1)] := by
  refine cert_of (by decide) (by decide) (fun x hx => ?_) (by decide +kernel)
  simp only [List.mem_cons, List.not_mem_nil, or_false] at hx
  rcases hx with rfl | rfl | rfl
  · exact irr_2
  · exact irr_3
  · exact irr_409477
theorem irr_14741173 : Irr 14741173 := cert_14741173.irr
theorem cert_58964693 : Cert 58964693 2 [(2, 2), (14741173, 1)] := by
  refine cert_of (by decide) (by decide) (fun x hx => ?_) (by decide +kernel)
  simp only [List.mem_cons, List.not_mem_nil, or_false] at hx
  rcases hx with rfl | rfl
  · exact irr_2
  · exact irr_14741173
theorem irr_58964693 : Irr 58964693 := cert_58964693.irr
theorem cert_198211423230930754013084525763697 : Cert 198211423230930754013084525763697 5 [(2, 4), (3, 1), (23, 1), (3044861653679985063343, 1), (58964693, 1)] := by
  refine cert_of (by decide) (by decide) (fun x hx => ?_) (by decide +kernel)
  simp only [List.mem_cons, List.not_mem_nil, or_false] at hx
  rcases hx with rfl | rfl | rfl | rfl | rfl
  · exact irr_2
  · exact irr_3
  · exact irr_23
  · exact irr_3044861653679985063343
  · exact irr_58964693
theorem irr_198211423230930754013084525763697 : Irr 198211423230930754013084525763697 := cert_198211423230930754013084525763697.irr
theorem irr_269 : Irr 269 := irr_of 19 (by decide) (by decide +kernel)
theorem irr_73 : Irr 73 := irr_of 11 (by decide) (by decide +kernel)
theorem irr_307 : Irr 307 := irr_of 20 (by decide) (by decide +kernel)
theorem irr_5879 : Irr 5879 := irr_of 79 (by decide) (by decide +kernel)
theorem cert_292386187 : Cert 292386187 2 [(2, 1), (3, 4), (307, 1), (5879, 1)] := by
  refine cert_of (by decide) (by decide) (fun x hx => ?_) (by decide +kernel)
  simp only [List.mem_cons, List.not_mem_nil, or_false] at hx
  rcases hx with rfl | rfl | rfl | rfl
  · exact irr_2
  · exact irr_3
  · exact irr_307
  · exact irr_5879
theorem irr_292386187 : Irr 292386187 := cert_292386187.irr
theorem cert_213441916511 : Cert 213441916511 13 [(2, 1), (5, 1), (73, 1), (292386187, 1)] := by
  refine cert_of (by decide) (by decide) (fun x hx => ?_) (by decide +kernel)
  simp only [List.mem_cons, List.not_mem_nil, or_false] at hx
  rcases hx with rfl | rfl | rfl | rfl
  · exact irr_2
  · exact irr_5
  · exact irr_73
  · exact irr_292386187
theorem irr_213441916511 : Irr 213441916511 := cert_213441916511.irr
theorem irr_1361 : Irr 1361 := irr_of 39 (by decide) (by decide +kernel)
theorem irr_2851 : Irr 2851 := irr_of 56 (by decide) (by decide +kernel)
theorem irr_41 : Irr 41 := irr_of 9 (by decide) (by decide +kernel)
theorem irr_43 : Irr 43 := irr_of 9 (by decide) (by decide +kernel)
theorem irr_531581 : Irr 531581 := irr_of 732 (by decide) (by decide +kernel)
theorem irr_1224481 : Irr 1224481 := irr_of 1109 (by decide) (by decide +kernel)
theorem cert_1257559732178653 : Cert 1257559732178653 2 [(2, 2), (3, 1), (7, 1), (23, 1), (531581, 1), (1224481, 1)] := by
  refine cert_of (by decide) (by decide) (fun x hx => ?_) (by decide +kernel)
  simp only [List.mem_cons, List.not_mem_nil, or_false] at hx
  rcases hx with rfl | rfl | rfl | rfl | rfl | rfl
  · exact irr_2
  · exact irr_3
  · exact irr_7
  · exact irr_23
  · exact irr_531581
  · exact irr_1224481
theorem irr_1257559732178653 : Irr 1257559732178653 := cert_1257559732178653.irr
theorem cert_4434155615661930479 : Cert 4434155615661930479 17 [(2, 1), (41, 1), (43, 1), (1257559732178653, 1)] := by
  refine cert_of (by decide) (by decide) (fun x hx => ?_) (by decide +kernel)
  simp only [List.mem_cons, List.not_mem_nil, or_false] at hx
  rcases hx with rfl | rfl | rfl | rfl
  · exact irr_2
  · exact irr_41
  · exact irr_43
  · exact irr_1257559732178653
theorem irr_4434155615661930479 : Irr 4434155615661930479 := cert_4434155615661930479.irr
theorem cert_172054593956031949258510691 : Cert 172054593956031949258510691 2 [(2, 1), (5, 1), (1361, 1), (2851, 1), (4434155615661930479, 1)] := by
  refine cert_of (by decide) (by decide) (fun x hx => ?_) (by decide +kernel)
  simp only [List.mem_cons, List.not_mem_nil, or_false] at hx
  rcases hx with rfl | rfl | rfl | rfl | rfl
  · exact irr_2
  · exact irr_5
  · exact irr_1361
  · exact irr_2851
  · exact irr_4434155615661930479
theorem irr_172054593956031949258510691 : Irr 172054593956031949258510691 := cert_172054593956031949258510691.irr
theorem cert_19757330305831588566944191468367130476339 : Cert 19757330305831588566944191468367130476339 2 [(2, 1), (269, 1), (213441916511, 1), (172054593956031949258510691, 1)] := by
  refine cert_of (by decide) (by decide) (fun x hx => ?_) (by decide +kernel)
  simp only [List.mem_cons, List.not_mem_nil, or_false] at hx
  rcases hx with rfl | rfl | rfl | rfl
  · exact irr_2
  · exact irr_269
  · exact irr_213441916511
  · exact irr_172054593956031949258510691
theorem irr_19757330305831588566944191468367130476339 : Irr 19757330305831588566944191468367130476339 := cert_19757330305831588566944191468367130476339.irr
theorem cert_276602624281642239937218680557139826668747 : Cert 276602624281642239937218680557139826668747 2 [(2, 1), (7, 1), (19757330305831588566944191468367130476339, 1)] := by
  refine cert_of (by decide) (by decide) (fun x hx => ?_) (by decide +kernel)
  simp only [List.mem_cons, List.not_mem_nil, or_false] at hx
  rcases hx with rfl | rfl | rfl
  · exact irr_2
  · exact irr_7
  · exact irr_19757330305831588566944191468367130476339
theorem irr_276602624281642239937218680557139826668747 : Irr 276602624281642239937218680557139826668747 := cert_276602624281642239937218680557139826668747.irr
theorem cert_7237005577332262213973186563042994240857116359379907606001950938285454250989 : Cert 7237005577332262213973186563042994240857116359379907606001950938285454250989 2 [(2, 2), (3, 1), (11, 1), (198211423230930754013084525763697, 1), (276602624281642239937218680557139826668747, 1)] := by
  refine cert_of (by decide) (by decide) (fun x hx => ?_) (by decide +kernel)
  simp only [List.mem_cons, List.not_mem_nil, or_false] at hx
  rcases hx with rfl | rfl | rfl | rfl | rfl
  · exact irr_2
  · exact irr_3
  · exact irr_11
  · exact irr_198211423230930754013084525763697
  · exact irr_276602624281642239937218680557139826668747
theorem irr_7237005577332262213973186563042994240857116359379907606001950938285454250989 : Irr 7237005577332262213973186563042994240857116359379907606001950938285454250989 := cert_7237005577332262213973186563042994240857116359379907606001950938285454250989.irr
/-- the order of the base -/
def ordL : Nat := 7237005577332262213973186563042994240857116359379907606001950938285454250989
theorem ordL_irr : Irr ordL := irr_7237005577332262213973186563042994240857116359379907606001950938285454250989
end Go.Proofs.YtpaendmdcdeemaaDoor.Num

namespace Go.Proofs.YtpaendmdcdeemaaDoor
open Go.RowKit Num

def goQ (n c d : Nat) : Nat → Nat → Nat → Nat → Nat → Q4
  | 0, X, Y, Z, T => ⟨X, Y, Z, T⟩
  | k + 1, X, Y, Z, T => if n / 2 ^ k % 2 = 1 then goQ n c d k (adQ c d (dbQ ⟨X, Y, Z, T⟩)).X (adQ c d (dbQ ⟨X, Y, Z, T⟩)).Y (adQ c d (dbQ ⟨X, Y, Z, T⟩)).Z (adQ c d (dbQ ⟨X, Y, Z, T⟩)).T
    else goQ n c d k (dbQ ⟨X, Y, Z, T⟩).X (dbQ ⟨X, Y, Z, T⟩).Y (dbQ ⟨X, Y, Z, T⟩).Z (dbQ ⟨X, Y, Z, T⟩).T
theorem goQ_mu (s : ByteArray) (c d : Nat) : ∀ k m, k + m = 256 → goQ (numS s) c d k (muQ s c d m).X (muQ s c d m).Y (muQ s c d m).Z (muQ s c d m).T = muQ s c d 256
  | 0, m, h => by rw [show m = 256 by omega]; rfl
  | k + 1, m, h => by
    have e : 255 - m = k := by omega
    unfold goQ
    by_cases hb : numS s / 2 ^ k % 2 = 1
    · rw [if_pos hb, ← goQ_mu s c d k (m + 1) (by omega), ← muQ_one s c d m (by rw [e]; exact hb)]
    · rw [if_neg hb, ← goQ_mu s c d k (m + 1) (by omega), ← muQ_nil s c d m (by rw [e]; exact hb)]
theorem goQ_mu0 (s : ByteArray) (c d : Nat) : muQ s c d 256 = goQ (numS s) c d 256 0 1 1 0 := (goQ_mu s c d 256 0 rfl).symm
def bR : Nat := 46316835694926478169428394003475163141307993866256225615783033603165251855959
theorem bR_eq : subP bY 1 = bR := by decide +kernel
def sL : ByteArray := { data := #[237, 211, 245, 92, 26, 99, 18, 88, 214, 156, 247, 162, 222, 249, 222, 20, 0, 0, 0, 0, 0, 0, 0, 0, 0, 0, 0, 0, 0, 0, 0, 16] }
theorem sL_num : numS sL = ordL := by decide +kernel
theorem sL_size : sL.size = 32 := rfl
theorem goL : (goQ ordL bX bR 256 0 1 1 0).X = 0 ∧ (goQ ordL bX bR 256 0 1 1 0).Y = (goQ ordL bX bR 256 0 1 1 0).Z := by decide +kernel
theorem rp_none {q : Q4} {p : Pt} (h : Rp q p) (hx : q.X = 0) (hy : q.Y = q.Z) : p = nP := by
  have h1 := h.x
  have h2 := h.y
  rw [hx, toF_zero] at h1
  rw [hy] at h2
  refine Pt.same ((F_nil h1.symm).resolve_right h.nz) ?_
  have h3 : toF q.Z * p.y = toF q.Z * 1 := by grobner
  exact F_cancel h.nz h3
/-- the base so many times as its order is None -/
theorem base_ord : mP bP ordL = nP := by
  have h := mu_rep sL sL_size Pn.base 256 (Nat.le_refl _)
  rw [Nat.sub_self, Nat.pow_zero, Nat.div_one, sL_num, goQ_mu0, sL_num, bR_eq] at h
  exact rp_none h goL.1 goL.2
theorem base_ne : bP ≠ nP := fun e => by
  have h : toF bX = 0 := congrArg Pt.x e
  exact absurd h (by decide +kernel)
theorem mP_gcd (p : Pt) : ∀ a b, mP p a = nP → mP p b = nP → mP p (Nat.gcd a b) = nP := by
  intro a b
  induction a, b using Nat.gcd.induction with
  | H0 n => intro _ h; rw [Nat.gcd_zero_left]; exact h
  | H1 m n hm ih =>
    intro h1 h2
    rw [Nat.gcd_rec]
    exact ih (by rw [mP_mod p m n h1]; exact h2) h1
theorem mP_sub (p : Pt) {i j : Nat} (hij : i ≤ j) (h : mP p i = mP p j) : mP p (j - i) = nP := by
  obtain ⟨k, rfl⟩ := Nat.le.dest hij
  rw [mP_add] at h
  rw [Nat.add_sub_cancel_left]
  exact (aP_left (p := mP p i) (by rw [aP_none]; exact h)).symm
theorem ord_dvd {k : Nat} (h : mP bP k = nP) : ordL ∣ k := by
  have hg := mP_gcd bP k ordL h base_ord
  rcases ordL_irr.2 (Nat.gcd k ordL) (Nat.gcd_dvd_right _ _) with h1 | h1
  · rw [h1, mP_one] at hg
    exact absurd hg base_ne
  · rw [← h1]
    exact Nat.gcd_dvd_left _ _
/-- a point of order 8 -/
def tX : Nat := 43496726750457979451437558183816721346016168361625936758514574428539776020131
def tY : Nat := 55188659117513257062467267217118295137698188065244968500265048394206261417927
theorem t_on : OnC (toF tX) (toF tY) := by
  unfold OnC
  decide +kernel
def tP : Pt := ⟨toF tX, toF tY, t_on⟩
theorem t4_on : OnC iE 0 := by
  unfold OnC
  decide +kernel
theorem t2_on : OnC 0 (0 - 1) := by
  unfold OnC
  decide +kernel
theorem tw1 : aP tP tP = ⟨iE, 0, t4_on⟩ := Pt.same (over_is (plus_ne t_on t_on) (by decide +kernel)) (over_is (less_ne t_on t_on) (by decide +kernel))
theorem tw2 : aP ⟨iE, 0, t4_on⟩ ⟨iE, 0, t4_on⟩ = ⟨0, 0 - 1, t2_on⟩ := Pt.same (over_is (plus_ne t4_on t4_on) (by decide +kernel)) (over_is (less_ne t4_on t4_on) (by decide +kernel))
theorem tw3 : aP ⟨0, 0 - 1, t2_on⟩ ⟨0, 0 - 1, t2_on⟩ = nP := Pt.same (over_is (plus_ne t2_on t2_on) (by decide +kernel)) (over_is (less_ne t2_on t2_on) (by decide +kernel))
theorem t_four : mP tP 4 = ⟨0, 0 - 1, t2_on⟩ := by
  rw [show 4 = 2 * (2 * 1) from rfl, mP_two, mP_two, mP_one, tw1, tw2]
theorem t_eight : mP tP 8 = nP := by
  rw [show 8 = 2 * 4 from rfl, mP_two, t_four, tw3]
theorem t_four_ne : mP tP 4 ≠ nP := fun e => by
  rw [t_four] at e
  have h : (0 : F) - 1 = 1 := congrArg Pt.y e
  exact absurd h (by decide +kernel)
theorem t_dvd {k : Nat} (h : mP tP k = nP) (hk : k < 8) : k = 0 := by
  have hg := mP_gcd tP k 8 h t_eight
  have key : ∀ g, g ∣ 4 → mP tP g = nP → False := fun g hd hz => by
    obtain ⟨c, hc⟩ := hd
    apply t_four_ne
    rw [hc, mP_mul, hz, mP_none]
  rcases k with _ | _ | _ | _ | _ | _ | _ | _ | k
  · rfl
  · exact (key 1 (by decide) hg).elim
  · exact (key 2 (by decide) hg).elim
  · exact (key 1 (by decide) hg).elim
  · exact (key 4 (by decide) hg).elim
  · exact (key 1 (by decide) hg).elim
  · exact (key 2 (by decide) hg).elim
  · exact (key 1 (by decide) hg).elim
  · omega
/-- a point's number -/
def code (p : Pt) : Nat := 2 * p.y.val + p.x.val % 2
theorem code_lt (p : Pt) : code p < 2 * P := by
  have h : p.y.val < P := p.y.isLt
  unfold code
  omega
theorem val_neg {x y : F} (h : x + y = 0) : x.val + y.val = 0 ∨ x.val + y.val = P := by
  have h1 := congrArg Fin.val h
  rw [F_add] at h1
  have hx : x.val < P := x.isLt
  have hy : y.val < P := y.isLt
  have hz : (0 : F).val = 0 := rfl
  rw [hz] at h1
  rcases Nat.lt_or_ge (x.val + y.val) P with h2 | h2
  · rw [Nat.mod_eq_of_lt h2] at h1
    exact .inl h1
  · right
    rw [Nat.mod_eq_sub_mod h2, Nat.mod_eq_of_lt (by omega)] at h1
    omega
theorem code_inj {p q : Pt} (h : code p = code q) : p = q := by
  unfold code at h
  have hy : p.y = q.y := Fin.ext (by omega)
  refine Pt.same ?_ hy
  have h1 := p.on
  have h2 := q.on
  unfold OnC at h1 h2
  rw [← hy] at h2
  have h3 : (1 + dE * p.y * p.y) * ((p.x - q.x) * (p.x + q.x)) = 0 := by grobner
  rcases F_nil ((F_nil h3).resolve_left (dy_ne _)) with h4 | h4
  · grobner
  · have hp := P_odd
    rcases val_neg h4 with h5 | h5
    · exact Fin.ext (by omega)
    · omega
theorem ord_two : 2 * P < 16 * ordL := by decide
theorem cop8 : Nat.Coprime ordL 8 := by decide +kernel
/-- what all are counted by -/
def elt (p : Pt) (n : Nat) : Pt := aP (aP (mP bP (n % ordL)) (mP tP (n / ordL % 8))) (mP p (n / (8 * ordL)))
theorem mP_kill {p : Pt} {K : Nat} (h : mP p K = nP) (i : Nat) : mP (mP p i) K = nP := by rw [mP_swap, h, mP_none]
theorem b_kill : mP bP (8 * ordL) = nP := by rw [Nat.mul_comm, mP_mul, base_ord, mP_none]
theorem t_kill : mP tP (8 * ordL) = nP := by rw [mP_mul, t_eight, mP_none]
theorem i_eq {i i' : Nat} (hi' : i' < ordL) (hle : i ≤ i') (h : mP bP (8 * i) = mP bP (8 * i')) : i = i' := by
  have h1 := mP_sub bP (Nat.mul_le_mul_left 8 hle) h
  have h2 := ord_dvd h1
  rw [← Nat.mul_sub, Nat.mul_comm] at h2
  have h3 := Nat.Coprime.dvd_of_dvd_mul_right cop8 h2
  have h4 := Nat.eq_zero_of_dvd_of_lt h3 (by omega)
  omega
theorem j_eq {j j' : Nat} (hj' : j' < 8) (hle : j ≤ j') (h : mP tP j = mP tP j') : j = j' := by
  have := t_dvd (mP_sub tP hle h) (by omega)
  omega
theorem elt_inj {p : Pt} (hp : mP p (8 * ordL) ≠ nP) {n m : Nat} (hn : n < 16 * ordL) (hm : m < 16 * ordL) (h : elt p n = elt p m) : n = m := by
  have hL : 0 < ordL := by decide
  unfold elt at h
  have a1 : n / (8 * ordL) < 2 := (Nat.div_lt_iff_lt_mul (by omega)).2 (by omega)
  have a2 : m / (8 * ordL) < 2 := (Nat.div_lt_iff_lt_mul (by omega)).2 (by omega)
  have h1 := congrArg (fun q => mP q (8 * ordL)) h
  simp only [mP_aP, mP_kill b_kill, mP_kill t_kill, none_aP] at h1
  have e3 : n / (8 * ordL) = m / (8 * ordL) := by
    generalize n / (8 * ordL) = e at *
    generalize m / (8 * ordL) = e' at *
    rcases e with _ | _ | e
    · rcases e' with _ | _ | e'
      · rfl
      · exfalso
        rw [mP_one] at h1
        exact hp (h1.symm.trans (mP_none _))
      · omega
    · rcases e' with _ | _ | e'
      · exfalso
        rw [mP_one] at h1
        exact hp (h1.trans (mP_none _))
      · rfl
      · omega
    · omega
  rw [e3, aP_comm _ (mP p _), aP_comm _ (mP p _)] at h
  have h2 := aP_left h
  have h3 := congrArg (fun q => mP q 8) h2
  simp only [mP_aP, mP_kill t_eight, aP_none, ← mP_mul] at h3
  rw [Nat.mul_comm _ 8, Nat.mul_comm _ 8] at h3
  have e1 : n % ordL = m % ordL := by
    rcases Nat.le_total (n % ordL) (m % ordL) with hle | hle
    · exact i_eq (Nat.mod_lt _ hL) hle h3
    · exact (i_eq (Nat.mod_lt _ hL) hle h3.symm).symm
  rw [e1] at h2
  have h4 := aP_left h2
  have e2 : n / ordL % 8 = m / ordL % 8 := by
    rcases Nat.le_total (n / ordL % 8) (m / ordL % 8) with hle | hle
    · exact j_eq (Nat.mod_lt _ (by decide)) hle h4
    · exact (j_eq (Nat.mod_lt _ (by decide)) hle h4.symm).symm
  have e4 : n / ordL / 8 = m / ordL / 8 := by
    rw [Nat.div_div_eq_div_mul, Nat.div_div_eq_div_mul, Nat.mul_comm ordL 8]
    exact e3
  have e5 : n / ordL = m / ordL := by omega
  rw [← Nat.div_add_mod n ordL, ← Nat.div_add_mod m ordL, e5, e1]
/-- eight times the order kills each point -/
theorem all_ord (p : Pt) : mP p (8 * ordL) = nP := by
  by_cases hp : mP p (8 * ordL) = nP
  · exact hp
  · exfalso
    have := pigeon (2 * P) (16 * ordL) (fun n => code (elt p n)) (fun i _ => code_lt _) (fun i j hi hj h => elt_inj hp hi hj (code_inj h))
    exact absurd this (Nat.not_le.2 ord_two)
end Go.Proofs.YtpaendmdcdeemaaDoor
