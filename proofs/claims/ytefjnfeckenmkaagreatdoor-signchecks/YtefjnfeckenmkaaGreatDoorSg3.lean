/-
 sign: when the sum holds; the base so many times, reckoned.
-/
import Derived.Test.YtefjnfeckenmkaaGreatDoorSg2
namespace Go.Proofs.YtefjnfeckenmkaaGreatDoor
open Go.RowKit Num
theorem mP_iff (m n : Nat) : mP bP m = mP bP n ↔ m % ordL = n % ordL := by
 constructor
 ·intro h
  have key : ∀ i j, i ≤ j → mP bP i = mP bP j → i % ordL = j % ordL := by
   intro i j hij h
   obtain ⟨c, hc⟩ := ord_dvd (mP_sub bP hij h)
   have e : j = i + ordL * c := by omega
   rw [e, Nat.add_mul_mod_self_left]
  rcases Nat.le_total m n with hmn | hmn
  ·exact key m n hmn h
  ·exact (key n m hmn h.symm).symm
 ·intro h
  rw [← mP_mod bP ordL m base_ord, ← mP_mod bP ordL n base_ord, h]
theorem lin_mul (r a k : Nat) : aP (mP bP r) (mP (mP bP a) k) = mP bP (r + a * k) := by rw [mP_add, mP_mul]
theorem ext_l (x y : ByteArray) (hx : x.size = 32) : (x ++ y).extract 0 32 = x := by
 have h := ByteArray.extract_append_eq_left (a := x) (b := y) (i := 32) hx.symm
 exact h
theorem ext_r (x y : ByteArray) (hx : x.size = 32) : (x ++ y).extract 32 (x ++ y).size = y := by
 rw [app_size]
 exact ByteArray.extract_append_eq_right hx.symm rfl
theorem Lq_is : Sc.Lq = ordL := Lq_ord
theorem ver_mul (a r : Nat) (t y : ByteArray) (hy : y.size = 32) :
  verP (encP (mP bP a)) t (encP (mP bP r) ++ y) ↔ numS y < ordL ∧ numS y % ordL = (r + a * numS (kvS (encP (mP bP a)) t (encP (mP bP r)))) % ordL := by
 have hx := encP_size (mP bP r)
 have e0 := ext_l (encP (mP bP r)) y hx
 have e1 := ext_r (encP (mP bP r)) y hx
 unfold verP Sc.isS
 rw [e0, e1, Lq_is, app_size, hx, hy]
 constructor
 ·rintro ⟨_, ⟨_, h1⟩, R, A, hR, hA, hE⟩
  rw [encP_inj hR, encP_inj hA, lin_mul] at hE
  exact ⟨h1, (mP_iff _ _).1 hE⟩
 ·rintro ⟨h1, h2⟩
  exact ⟨rfl, ⟨rfl, h1⟩, _, _, rfl, rfl, by rw [lin_mul]; exact (mP_iff _ _).2 h2⟩
theorem ver_mul' (a r : Nat) (t y : ByteArray) (hy : y.size = 32) (hl : numS y < ordL) :
  verP (encP (mP bP a)) t (encP (mP bP r) ++ y) ↔ numS y = (r + a * numS (kvS (encP (mP bP a)) t (encP (mP bP r)))) % ordL := by
 rw [ver_mul a r t y hy, Nat.mod_eq_of_lt hl]
 exact ⟨fun h => h.2, fun h => ⟨hl, h⟩⟩
theorem rrS_size (s t : ByteArray) : (rrS s t).size = 32 := kS_size _
theorem kkS_size (s t : ByteArray) : (kkS s t).size = 32 := kS_size _
theorem mS_size (a b : ByteArray) : (Sc.mS a b).size = 32 := bytesOf_size _
theorem Ss_num (s t : ByteArray) : numS (SsS s t) = (numS (rrS s t) + numS (skS (hS s)) * numS (kkS s t)) % ordL := by
 unfold SsS
 rw [aS_num _ _ (rrS_size s t) (mS_size _ _), mS_num _ _ (kkS_size s t) (skS_size _ (hS_size s)), Nat.add_mod_mod, Nat.mul_comm]
theorem sig_ver (s t : ByteArray) : verP (pkS (hS s)) t (sigS s t) := by
 refine (ver_mul' (numS (skS (hS s))) (numS (rrS s t)) t (SsS s t) (SsS_size s t) ?_).2 (Ss_num s t)
 rw [Ss_num]
 exact Nat.mod_lt _ ordL_pos
theorem sig_text (s t u : ByteArray) (h : (numS (rrS s t) + numS (skS (hS s)) * numS (kvS (pkS (hS s)) u (RbS s t))) % ordL ≠ numS (SsS s t)) : ¬ verP (pkS (hS s)) u (sigS s t) := fun hv =>
 h (((ver_mul' (numS (skS (hS s))) (numS (rrS s t)) u (SsS s t) (SsS_size s t) (by rw [Ss_num]; exact Nat.mod_lt _ ordL_pos)).1 hv).symm)
theorem F_canr {a b c : F} (hc : c ≠ 0) (h : a * c = b * c) : a = b := F_cancel hc (by grobner)
def encL (x y : Nat) : ByteArray := if x % 2 = 1 then oddS y else bytesOf y
theorem enc_of (n x y : Nat) (hn : n < 2 ^ 256) (hx : x < P) (hy : y < P) (h : mulP x (goQ n bX bR 256 0 1 1 0).Z = (goQ n bX bR 256 0 1 1 0).X ∧ mulP y (goQ n bX bR 256 0 1 1 0).Z = (goQ n bX bR 256 0 1 1 0).Y) : encP (mP bP n) = encL x y := by
 have hr := mu_rep (bytesOf n) (bytesOf_size n) Pn.base 256 (Nat.le_refl _)
 rw [Nat.sub_self, Nat.pow_zero, Nat.div_one, goQ_mu0, num_bytesOf n hn, bR_eq] at hr
 have e1 : toF x = (mP bP n).x := by
  have h1 := hr.x
  rw [← h.1, toF_mul] at h1
  exact F_canr hr.nz h1
 have e2 : toF y = (mP bP n).y := by
  have h1 := hr.y
  rw [← h.2, toF_mul] at h1
  exact F_canr hr.nz h1
 have f1 : x = (mP bP n).x.val := toF_inj hx (mP bP n).x.isLt (by rw [e1, toF_of])
 have f2 : y = (mP bP n).y.val := toF_inj hy (mP bP n).y.isLt (by rw [e2, toF_of])
 unfold encP encL
 rw [← f1, ← f2]
end Go.Proofs.YtefjnfeckenmkaaGreatDoor
