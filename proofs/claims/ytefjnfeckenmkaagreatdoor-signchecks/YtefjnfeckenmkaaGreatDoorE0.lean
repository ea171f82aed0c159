/-
 The field as a ring of its own, so that identities can be reckoned; nothing of a program.
-/
import Derived.Test.YtefjnfeckenmkaaGreatDoorN0
namespace Go.Proofs.YtefjnfeckenmkaaGreatDoor.Num
abbrev F : Type := Fin 57896044618658097711785492504343953926634992332820282019728792003956564819949
def toF (a : Nat) : F := ⟨a % 57896044618658097711785492504343953926634992332820282019728792003956564819949, Nat.mod_lt _ (by decide)⟩
theorem toF_val (a : Nat) : (toF a).val = a % P := rfl
theorem toF_inj {a b : Nat} (ha : a < P) (hb : b < P) (h : toF a = toF b) : a = b := by
 have h2 := congrArg Fin.val h
 rw [toF_val, toF_val, Nat.mod_eq_of_lt ha, Nat.mod_eq_of_lt hb] at h2
 exact h2
theorem toF_surj (x : F) : ∃ a, a < P ∧ toF a = x := ⟨x.val, x.isLt, Fin.ext (Nat.mod_eq_of_lt x.isLt)⟩
theorem toF_of (x : F) : toF x.val = x := Fin.ext (Nat.mod_eq_of_lt x.isLt)
theorem toF_mod (a : Nat) : toF (a % P) = toF a := Fin.ext (by rw [toF_val, toF_val, Nat.mod_mod])
theorem F_add (x y : F) : (x + y).val = (x.val + y.val) % P := rfl
theorem F_mul (x y : F) : (x * y).val = x.val * y.val % P := rfl
theorem F_sub (x y : F) : (x - y).val = (P - y.val + x.val) % P := rfl
theorem toF_plus (a b : Nat) : toF (a + b) = toF a + toF b := Fin.ext (by rw [F_add, toF_val, toF_val, toF_val, ← Nat.add_mod])
theorem toF_times (a b : Nat) : toF (a * b) = toF a * toF b := Fin.ext (by rw [F_mul, toF_val, toF_val, toF_val, ← Nat.mul_mod])
theorem toF_add (a b : Nat) : toF (addP a b) = toF a + toF b := by unfold addP; rw [toF_mod, toF_plus]
theorem toF_mul (a b : Nat) : toF (mulP a b) = toF a * toF b := by unfold mulP; rw [toF_mod, toF_times]
theorem gen_sb (p a b : Nat) (hb : b < p) : ((a + p - b) % p) % p = (p - b % p + a % p) % p := by
 rw [Nat.mod_mod, Nat.mod_eq_of_lt hb, show a + p - b = p - b + a by omega, Nat.add_mod_mod]
theorem toF_sub (a b : Nat) (hb : b < P) : toF (subP a b) = toF a - toF b := Fin.ext (by
 rw [F_sub, toF_val, toF_val, toF_val]
 exact gen_sb P a b hb)
theorem toF_zero : toF 0 = 0 := rfl
theorem toF_one : toF 1 = 1 := rfl
theorem toF_neg (a : Nat) (ha : a < P) : toF (negP a) = 0 - toF a := by rw [← negP_sub, toF_sub _ _ ha, toF_zero]
theorem toF_nil {a : Nat} (ha : a < P) : toF a = 0 ↔ a = 0 := ⟨fun h => toF_inj ha P_pos h, fun h => by rw [h]; rfl⟩
def inv (x : F) : F := toF (invE x.val)
theorem toF_inv (a : Nat) (ha : a < P) : toF (invE a) = inv (toF a) := by unfold inv; rw [toF_val, Nat.mod_eq_of_lt ha]
theorem mul_inv {x : F} (h : x ≠ 0) : x * inv x = 1 := by
 obtain ⟨a, ha, rfl⟩ := toF_surj x
 rw [← toF_inv a ha, ← toF_mul, mulP_inv a ha (fun e => h (by rw [e]; rfl))]
 rfl
theorem F_nil {x y : F} (h : x * y = 0) : x = 0 ∨ y = 0 := by
 obtain ⟨a, ha, rfl⟩ := toF_surj x
 obtain ⟨b, hb, rfl⟩ := toF_surj y
 rw [← toF_mul, toF_nil (mulP_lt _ _), mulP_nil a b ha hb] at h
 rwa [toF_nil ha, toF_nil hb]
theorem F_ne {x y : F} (hx : x ≠ 0) (hy : y ≠ 0) : x * y ≠ 0 := fun h => (F_nil h).elim hx hy
theorem F_cancel {c x y : F} (hc : c ≠ 0) (h : c * x = c * y) : x = y := by
 have h2 : c * (x - y) = 0 := by grobner
 rcases F_nil h2 with h3 | h3
 ·exact absurd h3 hc
 ·grobner
theorem F_one : (1 : F) ≠ 0 := by decide
theorem F_two : (2 : F) ≠ 0 := by decide
theorem over_is {x y z : F} (hy : y ≠ 0) (h : z * y = x) : x * inv y = z := by
 have := mul_inv hy
 grobner
theorem over_mul {x y : F} (hy : y ≠ 0) : (x * inv y) * y = x := by
 have := mul_inv hy
 grobner
def dN : Nat := 37095705934669439343138083508754565189542113879843219016388785533085940283555
def dE : F := toF dN
theorem dN_lt : dN < P := by decide
def iE : F := toF rootI
theorem iE_sq : iE * iE = -1 := by decide +kernel
theorem dN_half (t : Nat) (ht : t = dN) : t ^ half % P = P - 1 := (pm_eq P 256 t half (by decide)).symm.trans (by rw [ht]; decide +kernel)
theorem dE_nosq (s : F) : s * s ≠ dE := fun h => by
 obtain ⟨a, ha, rfl⟩ := toF_surj s
 have h1 : toF (mulP a a) = toF dN := by rw [toF_mul]; exact h
 have h2 : mulP a a = dN := toF_inj (mulP_lt _ _) dN_lt h1
 have h3 : Sq dN := ⟨a, by rw [Nat.mod_eq_of_lt dN_lt]; exact h2⟩
 have h4 := h3.pow (by decide)
 rw [dN_half dN rfl] at h4
 exact absurd h4 (by decide)
theorem nosq {a b : F} (h : dE * a * a = b * b) : a = 0 := by
 by_cases ha : a = 0
 ·exact ha
 ·exfalso
  apply dE_nosq (b * inv a)
  have := mul_inv ha
  grobner
end Go.Proofs.YtefjnfeckenmkaaGreatDoor.Num

namespace Go.Proofs.YtefjnfeckenmkaaGreatDoor.Num
def OnC (x y : F) : Prop := y * y - x * x = 1 + dE * x * x * y * y
theorem compl {x1 y1 x2 y2 : F} (h1 : OnC x1 y1) (h2 : OnC x2 y2) (hc : (dE * x1 * x2 * y1 * y2) * (dE * x1 * x2 * y1 * y2) = 1) : False := by
 unfold OnC at h1 h2
 have hi := iE_sq
 obtain ⟨d, hd⟩ : ∃ d, d = dE := ⟨_, rfl⟩
 obtain ⟨i, hii⟩ : ∃ i, i = iE := ⟨_, rfl⟩
 have k1 : d * (x1 * y1 * (y2 + i * x2)) * (x1 * y1 * (y2 + i * x2)) = (y1 + (d * x1 * x2 * y1 * y2) * i * x1) * (y1 + (d * x1 * x2 * y1 * y2) * i * x1) := by
  rw [← hd] at h1 h2 hc
  rw [← hii] at hi
  grobner
 have k2 : d * (x1 * y1 * (y2 - i * x2)) * (x1 * y1 * (y2 - i * x2)) = (y1 - (d * x1 * x2 * y1 * y2) * i * x1) * (y1 - (d * x1 * x2 * y1 * y2) * i * x1) := by
  rw [← hd] at h1 h2 hc
  rw [← hii] at hi
  grobner
 rw [hd] at k1 k2
 have a1 := nosq k1
 have a2 := nosq k2
 have hxy : x1 * y1 ≠ 0 := fun e => by
  have : (1 : F) = 0 := by grobner
  exact F_one this
 have hy : y2 ≠ 0 := fun e => by
  have : (1 : F) = 0 := by grobner
  exact F_one this
 have b1 : y2 + i * x2 = 0 := (F_nil a1).resolve_left hxy
 have b2 : y2 - i * x2 = 0 := (F_nil a2).resolve_left hxy
 have : (2 : F) * y2 = 0 := by grobner
 exact hy ((F_nil this).resolve_left F_two)
theorem plus_ne {x1 y1 x2 y2 : F} (h1 : OnC x1 y1) (h2 : OnC x2 y2) : 1 + dE * x1 * x2 * y1 * y2 ≠ 0 := fun e => compl h1 h2 (by grobner)
theorem less_ne {x1 y1 x2 y2 : F} (h1 : OnC x1 y1) (h2 : OnC x2 y2) : 1 - dE * x1 * x2 * y1 * y2 ≠ 0 := fun e => compl h1 h2 (by grobner)
def sx (x1 y1 x2 y2 : F) : F := (x1 * y2 + x2 * y1) * inv (1 + dE * x1 * x2 * y1 * y2)
def sy (x1 y1 x2 y2 : F) : F := (y1 * y2 + x1 * x2) * inv (1 - dE * x1 * x2 * y1 * y2)
theorem sx_eq {x1 y1 x2 y2 : F} (h1 : OnC x1 y1) (h2 : OnC x2 y2) : sx x1 y1 x2 y2 * (1 + dE * x1 * x2 * y1 * y2) = x1 * y2 + x2 * y1 := over_mul (plus_ne h1 h2)
theorem sy_eq {x1 y1 x2 y2 : F} (h1 : OnC x1 y1) (h2 : OnC x2 y2) : sy x1 y1 x2 y2 * (1 - dE * x1 * x2 * y1 * y2) = y1 * y2 + x1 * x2 := over_mul (less_ne h1 h2)
theorem clos_id (d x1 y1 x2 y2 : F) (h1 : y1 * y1 - x1 * x1 = 1 + d * x1 * x1 * y1 * y1) (h2 : y2 * y2 - x2 * x2 = 1 + d * x2 * x2 * y2 * y2) :
  ((y1 * y2 + x1 * x2) * (1 + d * x1 * x2 * y1 * y2)) * ((y1 * y2 + x1 * x2) * (1 + d * x1 * x2 * y1 * y2)) - ((x1 * y2 + x2 * y1) * (1 - d * x1 * x2 * y1 * y2)) * ((x1 * y2 + x2 * y1) * (1 - d * x1 * x2 * y1 * y2)) = (1 - d * x1 * x2 * y1 * y2) * (1 + d * x1 * x2 * y1 * y2) * ((1 - d * x1 * x2 * y1 * y2) * (1 + d * x1 * x2 * y1 * y2)) + d * ((x1 * y2 + x2 * y1) * (y1 * y2 + x1 * x2)) * ((x1 * y2 + x2 * y1) * (y1 * y2 + x1 * x2)) := by
 grobner
theorem clos_ab (d e g f h x y : F) (hx : x * f = e) (hy : y * h = g) (id : (g * f) * (g * f) - (e * h) * (e * h) = h * f * (h * f) + d * (e * g) * (e * g)) : ((h * f) * (h * f)) * (y * y - x * x) = ((h * f) * (h * f)) * (1 + d * x * x * y * y) := by
 subst hx hy
 grobner
theorem sum_on {x1 y1 x2 y2 : F} (h1 : OnC x1 y1) (h2 : OnC x2 y2) : OnC (sx x1 y1 x2 y2) (sy x1 y1 x2 y2) := by
 have hf := plus_ne h1 h2
 have hh := less_ne h1 h2
 have := clos_ab dE _ _ _ _ _ _ (sx_eq h1 h2) (sy_eq h1 h2) (clos_id dE x1 y1 x2 y2 h1 h2)
 exact F_cancel (F_ne (F_ne hh hf) (F_ne hh hf)) this
theorem sx_comm (x1 y1 x2 y2 : F) : sx x1 y1 x2 y2 = sx x2 y2 x1 y1 := by
 unfold sx
 rw [show x1 * y2 + x2 * y1 = x2 * y1 + x1 * y2 by grobner, show 1 + dE * x1 * x2 * y1 * y2 = 1 + dE * x2 * x1 * y2 * y1 by grobner]
theorem sy_comm (x1 y1 x2 y2 : F) : sy x1 y1 x2 y2 = sy x2 y2 x1 y1 := by
 unfold sy
 rw [show y1 * y2 + x1 * x2 = y2 * y1 + x2 * x1 by grobner, show 1 - dE * x1 * x2 * y1 * y2 = 1 - dE * x2 * x1 * y2 * y1 by grobner]
theorem on_none : OnC 0 1 := by
 unfold OnC
 grobner
theorem on_neg {x y : F} (h : OnC x y) : OnC (0 - x) y := by
 unfold OnC at *
 grobner
theorem sx_none (x y : F) : sx x y 0 1 = x := over_is (by rw [show 1 + dE * x * 0 * y * 1 = (1 : F) by grobner]; exact F_one) (by grobner)
theorem sy_none (x y : F) : sy x y 0 1 = y := over_is (by rw [show 1 - dE * x * 0 * y * 1 = (1 : F) by grobner]; exact F_one) (by grobner)
theorem sx_neg {x y : F} (h : OnC x y) : sx x y (0 - x) y = 0 := over_is (plus_ne h (on_neg h)) (by grobner)
theorem sy_neg {x y : F} (h : OnC x y) : sy x y (0 - x) y = 1 := over_is (less_ne h (on_neg h)) (by unfold OnC at h; grobner)
end Go.Proofs.YtefjnfeckenmkaaGreatDoor.Num
