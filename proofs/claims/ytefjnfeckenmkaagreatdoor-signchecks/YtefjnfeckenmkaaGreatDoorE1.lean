/-
 Sums of points hang on no brackets; a point so many times. Nothing of a program.
-/
import Derived.Test.YtefjnfeckenmkaaGreatDoorEd2
import Derived.Test.YtefjnfeckenmkaaGreatDoorN0
namespace Go.Proofs.YtefjnfeckenmkaaGreatDoor.Num
theorem asLx (d e g f h x y x3 y3 X : F) (hx : x * f = e) (hy : y * h = g) (hX : X * (1 + d * x * x3 * y * y3) = x * y3 + x3 * y) : X * (f * h + d * x3 * y3 * e * g) = e * h * y3 + x3 * g * f := by
 subst hx hy
 grobner
theorem asLy (d e g f h x y x3 y3 X : F) (hx : x * f = e) (hy : y * h = g) (hX : X * (1 - d * x * x3 * y * y3) = y * y3 + x * x3) : X * (f * h - d * x3 * y3 * e * g) = g * f * y3 + e * h * x3 := by
 subst hx hy
 grobner
theorem asRx (d e g f h x y x1 y1 X : F) (hx : x * f = e) (hy : y * h = g) (hX : X * (1 + d * x1 * x * y1 * y) = x1 * y + x * y1) : X * (f * h + d * x1 * y1 * e * g) = x1 * g * f + e * h * y1 := by
 subst hx hy
 grobner
theorem asRy (d e g f h x y x1 y1 X : F) (hx : x * f = e) (hy : y * h = g) (hX : X * (1 - d * x1 * x * y1 * y) = y1 * y + x1 * x) : X * (f * h - d * x1 * y1 * e * g) = y1 * g * f + x1 * e * h := by
 subst hx hy
 grobner
theorem nz_p (d e g f h x y x3 y3 : F) (hx : x * f = e) (hy : y * h = g) (hf : f ≠ 0) (hh : h ≠ 0) (hd : 1 + d * x * x3 * y * y3 ≠ 0) : f * h + d * x3 * y3 * e * g ≠ 0 := by
 have e : f * h + d * x3 * y3 * e * g = f * h * (1 + d * x * x3 * y * y3) := by
  subst hx hy
  grobner
 rw [e]
 exact F_ne (F_ne hf hh) hd
theorem nz_m (d e g f h x y x3 y3 : F) (hx : x * f = e) (hy : y * h = g) (hf : f ≠ 0) (hh : h ≠ 0) (hd : 1 - d * x * x3 * y * y3 ≠ 0) : f * h - d * x3 * y3 * e * g ≠ 0 := by
 have e : f * h - d * x3 * y3 * e * g = f * h * (1 - d * x * x3 * y * y3) := by
  subst hx hy
  grobner
 rw [e]
 exact F_ne (F_ne hf hh) hd
theorem both_eq {X Y a b n m : F} (ha : a ≠ 0) (hb : b ≠ 0) (hX : X * a = n) (hY : Y * b = m) (h : n * b = m * a) : X = Y := by
 have : (a * b) * X = (a * b) * Y := by
  subst hX hY
  grobner
 exact F_cancel (F_ne ha hb) this
section
variable {x1 y1 x2 y2 x3 y3 : F}
theorem sx_assoc (h1 : OnC x1 y1) (h2 : OnC x2 y2) (h3 : OnC x3 y3) : sx (sx x1 y1 x2 y2) (sy x1 y1 x2 y2) x3 y3 = sx x1 y1 (sx x2 y2 x3 y3) (sy x2 y2 x3 y3) := by
 have A := sum_on h1 h2
 have B := sum_on h2 h3
 have nl := nz_p dE _ _ _ _ _ _ x3 y3 (sx_eq h1 h2) (sy_eq h1 h2) (plus_ne h1 h2) (less_ne h1 h2) (plus_ne A h3)
 have nr := nz_p dE _ _ _ _ _ _ x1 y1 (sx_eq h2 h3) (sy_eq h2 h3) (plus_ne h2 h3) (less_ne h2 h3) (by
  have := plus_ne h1 B
  rwa [show 1 + dE * x1 * sx x2 y2 x3 y3 * y1 * sy x2 y2 x3 y3 = 1 + dE * sx x2 y2 x3 y3 * x1 * sy x2 y2 x3 y3 * y1 by grobner] at this)
 exact both_eq nl nr (asLx dE _ _ _ _ _ _ x3 y3 _ (sx_eq h1 h2) (sy_eq h1 h2) (sx_eq A h3)) (asRx dE _ _ _ _ _ _ x1 y1 _ (sx_eq h2 h3) (sy_eq h2 h3) (sx_eq h1 B)) (asx dE x1 y1 x2 y2 x3 y3 h1 h2 h3)
theorem sy_assoc (h1 : OnC x1 y1) (h2 : OnC x2 y2) (h3 : OnC x3 y3) : sy (sx x1 y1 x2 y2) (sy x1 y1 x2 y2) x3 y3 = sy x1 y1 (sx x2 y2 x3 y3) (sy x2 y2 x3 y3) := by
 have A := sum_on h1 h2
 have B := sum_on h2 h3
 have nl := nz_m dE _ _ _ _ _ _ x3 y3 (sx_eq h1 h2) (sy_eq h1 h2) (plus_ne h1 h2) (less_ne h1 h2) (less_ne A h3)
 have nr := nz_m dE _ _ _ _ _ _ x1 y1 (sx_eq h2 h3) (sy_eq h2 h3) (plus_ne h2 h3) (less_ne h2 h3) (by
  have := less_ne h1 B
  rwa [show 1 - dE * x1 * sx x2 y2 x3 y3 * y1 * sy x2 y2 x3 y3 = 1 - dE * sx x2 y2 x3 y3 * x1 * sy x2 y2 x3 y3 * y1 by grobner] at this)
 exact both_eq nl nr (asLy dE _ _ _ _ _ _ x3 y3 _ (sx_eq h1 h2) (sy_eq h1 h2) (sy_eq A h3)) (asRy dE _ _ _ _ _ _ x1 y1 _ (sx_eq h2 h3) (sy_eq h2 h3) (sy_eq h1 B)) (asy dE x1 y1 x2 y2 x3 y3 h1 h2 h3)
end
structure Pt where
 x : F
 y : F
 on : OnC x y
theorem Pt.same : ∀ {p q : Pt}, p.x = q.x → p.y = q.y → p = q
 | ⟨_, _, _⟩, ⟨_, _, _⟩, rfl, rfl => rfl
def nP : Pt := ⟨0, 1, on_none⟩
def aP (p q : Pt) : Pt := ⟨sx p.x p.y q.x q.y, sy p.x p.y q.x q.y, sum_on p.on q.on⟩
def gP (p : Pt) : Pt := ⟨0 - p.x, p.y, on_neg p.on⟩
theorem aP_comm (p q : Pt) : aP p q = aP q p := Pt.same (sx_comm _ _ _ _) (sy_comm _ _ _ _)
theorem aP_assoc (p q r : Pt) : aP (aP p q) r = aP p (aP q r) := Pt.same (sx_assoc p.on q.on r.on) (sy_assoc p.on q.on r.on)
theorem aP_none (p : Pt) : aP p nP = p := Pt.same (sx_none _ _) (sy_none _ _)
theorem none_aP (p : Pt) : aP nP p = p := by rw [aP_comm, aP_none]
theorem aP_neg (p : Pt) : aP p (gP p) = nP := Pt.same (sx_neg p.on) (sy_neg p.on)
theorem aP_left {p q r : Pt} (h : aP p q = aP p r) : q = r := by
 have h2 := congrArg (aP (gP p)) h
 rw [← aP_assoc, ← aP_assoc, aP_comm (gP p) p, aP_neg, none_aP, none_aP] at h2
 exact h2
def mP (p : Pt) : Nat → Pt
 | 0 => nP
 | n + 1 => aP (mP p n) p
theorem mP_add (p : Pt) (m : Nat) : ∀ n, mP p (m + n) = aP (mP p m) (mP p n)
 | 0 => (aP_none _).symm
 | n + 1 => by rw [← Nat.add_assoc, mP, mP_add p m n, mP, aP_assoc]
theorem mP_none : ∀ n, mP nP n = nP
 | 0 => rfl
 | n + 1 => by rw [mP, mP_none n, aP_none]
theorem mP_mul (p : Pt) (m : Nat) : ∀ n, mP p (m * n) = mP (mP p m) n
 | 0 => rfl
 | n + 1 => by rw [Nat.mul_succ, mP_add, mP_mul p m n, mP]
theorem mP_one (p : Pt) : mP p 1 = p := none_aP p
theorem mP_two (p : Pt) (n : Nat) : mP p (2 * n) = aP (mP p n) (mP p n) := by rw [Nat.two_mul, mP_add]
theorem mP_mod (p : Pt) (L n : Nat) (h : mP p L = nP) : mP p (n % L) = mP p n := by
 conv => rhs; rw [← Nat.div_add_mod n L, mP_add, mP_mul, h, mP_none, none_aP]
end Go.Proofs.YtefjnfeckenmkaaGreatDoor.Num

namespace Go.Proofs.YtefjnfeckenmkaaGreatDoor.Num
theorem irr_11 : Irr 11 := irr_of 6 (by decide) (by decide +kernel)
theorem irr_23 : Irr 23 := irr_of 7 (by decide) (by decide +kernel)
theorem irr_30703 : Irr 30703 := irr_of 178 (by decide) (by decide +kernel)
theorem irr_82163 : Irr 82163 := irr_of 289 (by decide) (by decide +kernel)
theorem irr_132667 : Irr 132667 := irr_of 367 (by decide) (by decide +kernel)
theorem irr_137849 : Irr 137849 := irr_of 374 (by decide) (by decide +kernel)
theorem cert_3044861653679985063343 : Cert 3044861653679985063343 5 [(2, 1), (3, 1), (11, 1), (30703, 1), (82163, 1), (132667, 1), (137849, 1)] := by
 refine cert_of (by decide) (by decide) (fun x hx => ?_) (by decide +kernel)
 simp only [List.mem_cons, List.not_mem_nil, or_false] at hx
 rcases hx with rfl | rfl | rfl | rfl | rfl | rfl | rfl
 ·exact irr_2
 ·exact irr_3
 ·exact irr_11
 ·exact irr_30703
 ·exact irr_82163
 ·exact irr_132667
 ·exact irr_137849
theorem irr_3044861653679985063343 : Irr 3044861653679985063343 := cert_3044861653679985063343.irr
theorem irr_409477 : Irr 409477 := irr_of 642 (by decide) (by decide +kernel)
theorem cert_14741173 : Cert 14741173 2 [(2, 2), (3, 2), (409477, 1)] := by
 refine cert_of (by decide) (by decide) (fun x hx => ?_) (by decide +kernel)
 simp only [List.mem_cons, List.not_mem_nil, or_false] at hx
 rcases hx with rfl | rfl | rfl
 ·exact irr_2
 ·exact irr_3
 ·exact irr_409477
theorem irr_14741173 : Irr 14741173 := cert_14741173.irr
theorem cert_58964693 : Cert 58964693 2 [(2, 2), (14741173, 1)] := by
 refine cert_of (by decide) (by decide) (fun x hx => ?_) (by decide +kernel)
 simp only [List.mem_cons, List.not_mem_nil, or_false] at hx
 rcases hx with rfl | rfl
 ·exact irr_2
 ·exact irr_14741173
theorem irr_58964693 : Irr 58964693 := cert_58964693.irr
theorem cert_198211423230930754013084525763697 : Cert 198211423230930754013084525763697 5 [(2, 4), (3, 1), (23, 1), (3044861653679985063343, 1), (58964693, 1)] := by
 refine cert_of (by decide) (by decide) (fun x hx => ?_) (by decide +kernel)
 simp only [List.mem_cons, List.not_mem_nil, or_false] at hx
 rcases hx with rfl | rfl | rfl | rfl | rfl
 ·exact irr_2
 ·exact irr_3
 ·exact irr_23
 ·exact irr_3044861653679985063343
 ·exact irr_58964693
theorem irr_198211423230930754013084525763697 : Irr 198211423230930754013084525763697 := cert_198211423230930754013084525763697.irr
theorem irr_269 : Irr 269 := irr_of 19 (by decide) (by decide +kernel)
theorem irr_73 : Irr 73 := irr_of 11 (by decide) (by decide +kernel)
theorem irr_307 : Irr 307 := irr_of 20 (by decide) (by decide +kernel)
theorem irr_5879 : Irr 5879 := irr_of 79 (by decide) (by decide +kernel)
theorem cert_292386187 : Cert 292386187 2 [(2, 1), (3, 4), (307, 1), (5879, 1)] := by
 refine cert_of (by decide) (by decide) (fun x hx => ?_) (by decide +kernel)
 simp only [List.mem_cons, List.not_mem_nil, or_false] at hx
 rcases hx with rfl | rfl | rfl | rfl
 ·exact irr_2
 ·exact irr_3
 ·exact irr_307
 ·exact irr_5879
theorem irr_292386187 : Irr 292386187 := cert_292386187.irr
theorem cert_213441916511 : Cert 213441916511 13 [(2, 1), (5, 1), (73, 1), (292386187, 1)] := by
 refine cert_of (by decide) (by decide) (fun x hx => ?_) (by decide +kernel)
 simp only [List.mem_cons, List.not_mem_nil, or_false] at hx
 rcases hx with rfl | rfl | rfl | rfl
 ·exact irr_2
 ·exact irr_5
 ·exact irr_73
 ·exact irr_292386187
theorem irr_213441916511 : Irr 213441916511 := cert_213441916511.irr
theorem irr_1361 : Irr 1361 := irr_of 39 (by decide) (by decide +kernel)
theorem irr_2851 : Irr 2851 := irr_of 56 (by decide) (by decide +kernel)
theorem irr_41 : Irr 41 := irr_of 9 (by decide) (by decide +kernel)
theorem irr_43 : Irr 43 := irr_of 9 (by decide) (by decide +kernel)
theorem irr_531581 : Irr 531581 := irr_of 732 (by decide) (by decide +kernel)
theorem irr_1224481 : Irr 1224481 := irr_of 1109 (by decide) (by decide +kernel)
theorem cert_1257559732178653 : Cert 1257559732178653 2 [(2, 2), (3, 1), (7, 1), (23, 1), (531581, 1), (1224481, 1)] := by
 refine cert_of (by decide) (by decide) (fun x hx => ?_) (by decide +kernel)
 simp only [List.mem_cons, List.not_mem_nil, or_false] at hx
 rcases hx with rfl | rfl | rfl | rfl | rfl | rfl
 ·exact irr_2
 ·exact irr_3
 ·exact irr_7
 ·exact irr_23
 ·exact irr_531581
 ·exact irr_1224481
theorem irr_1257559732178653 : Irr 1257559732178653 := cert_1257559732178653.irr
theorem cert_4434155615661930479 : Cert 4434155615661930479 17 [(2, 1), (41, 1), (43, 1), (1257559732178653, 1)] := by
 refine cert_of (by decide) (by decide) (fun x hx => ?_) (by decide +kernel)
 simp only [List.mem_cons, List.not_mem_nil, or_false] at hx
 rcases hx with rfl | rfl | rfl | rfl
 ·exact irr_2
 ·exact irr_41
 ·exact irr_43
 ·exact irr_1257559732178653
theorem irr_4434155615661930479 : Irr 4434155615661930479 := cert_4434155615661930479.irr
theorem cert_172054593956031949258510691 : Cert 172054593956031949258510691 2 [(2, 1), (5, 1), (1361, 1), (2851, 1), (4434155615661930479, 1)] := by
 refine cert_of (by decide) (by decide) (fun x hx => ?_) (by decide +kernel)
 simp only [List.mem_cons, List.not_mem_nil, or_false] at hx
 rcases hx with rfl | rfl | rfl | rfl | rfl
 ·exact irr_2
 ·exact irr_5
 ·exact irr_1361
 ·exact irr_2851
 ·exact irr_4434155615661930479
theorem irr_172054593956031949258510691 : Irr 172054593956031949258510691 := cert_172054593956031949258510691.irr
theorem cert_19757330305831588566944191468367130476339 : Cert 19757330305831588566944191468367130476339 2 [(2, 1), (269, 1), (213441916511, 1), (172054593956031949258510691, 1)] := by
 refine cert_of (by decide) (by decide) (fun x hx => ?_) (by decide +kernel)
 simp only [List.mem_cons, List.not_mem_nil, or_false] at hx
 rcases hx with rfl | rfl | rfl | rfl
 ·exact irr_2
 ·exact irr_269
 ·exact irr_213441916511
 ·exact irr_172054593956031949258510691
theorem irr_19757330305831588566944191468367130476339 : Irr 19757330305831588566944191468367130476339 := cert_19757330305831588566944191468367130476339.irr
theorem cert_276602624281642239937218680557139826668747 : Cert 276602624281642239937218680557139826668747 2 [(2, 1), (7, 1), (19757330305831588566944191468367130476339, 1)] := by
 refine cert_of (by decide) (by decide) (fun x hx => ?_) (by decide +kernel)
 simp only [List.mem_cons, List.not_mem_nil, or_false] at hx
 rcases hx with rfl | rfl | rfl
 ·exact irr_2
 ·exact irr_7
 ·exact irr_19757330305831588566944191468367130476339
theorem irr_276602624281642239937218680557139826668747 : Irr 276602624281642239937218680557139826668747 := cert_276602624281642239937218680557139826668747.irr
theorem cert_7237005577332262213973186563042994240857116359379907606001950938285454250989 : Cert 7237005577332262213973186563042994240857116359379907606001950938285454250989 2 [(2, 2), (3, 1), (11, 1), (198211423230930754013084525763697, 1), (276602624281642239937218680557139826668747, 1)] := by
 refine cert_of (by decide) (by decide) (fun x hx => ?_) (by decide +kernel)
 simp only [List.mem_cons, List.not_mem_nil, or_false] at hx
 rcases hx with rfl | rfl | rfl | rfl | rfl
 ·exact irr_2
 ·exact irr_3
 ·exact irr_11
 ·exact irr_198211423230930754013084525763697
 ·exact irr_276602624281642239937218680557139826668747
theorem irr_7237005577332262213973186563042994240857116359379907606001950938285454250989 : Irr 7237005577332262213973186563042994240857116359379907606001950938285454250989 := cert_7237005577332262213973186563042994240857116359379907606001950938285454250989.irr
def ordL : Nat := 7237005577332262213973186563042994240857116359379907606001950938285454250989
theorem ordL_irr : Irr ordL := irr_7237005577332262213973186563042994240857116359379907606001950938285454250989
end Go.Proofs.YtefjnfeckenmkaaGreatDoor.Num
