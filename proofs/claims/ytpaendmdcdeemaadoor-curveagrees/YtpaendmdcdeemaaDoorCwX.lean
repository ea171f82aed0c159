/-
  The ladder tells a multiple's u = (1 + y) / (1 - y).
-/
import Derived.Test.YtpaendmdcdeemaaDoorCuH
import Derived.Test.YtpaendmdcdeemaaDoorEdX
import Derived.Test.YtpaendmdcdeemaaDoorCvX
import Derived.Test.YtpaendmdcdeemaaDoorCuX3
namespace Go.Proofs.YtpaendmdcdeemaaDoor
open Go.RowKit Num

theorem dbz_nilw (a : Nat) (ha : a < P) : dbz a 0 = 0 := by
  unfold dbz
  have e1 : addP a 0 = a := by unfold addP; rw [Nat.add_zero, Nat.mod_eq_of_lt ha]
  have e2 : subP a 0 = a := by unfold subP; rw [Nat.sub_zero, Nat.add_mod_right, Nat.mod_eq_of_lt ha]
  have e3 : subP (mulP a a) (mulP a a) = 0 := by unfold subP; rw [Nat.add_sub_cancel_left, Nat.mod_self]
  rw [e1, e2, e3, mulP_zero]
theorem lsz_nilw (a b c d : Nat) : lsz 0 a b c d = 0 := by
  unfold lsz
  rw [mulP_comm, mulP_zero]
theorem over_nilw (a : Nat) : mulP a (invE 0) = 0 := by rw [invE_zero, mulP_comm, mulP_zero]
theorem lad_zerow (s : ByteArray) : ∀ k, (lad s 0 (k + 1)).1.2 = 0 ∧ (lad s 0 (k + 1)).2.2 = 0
  | 0 => by
    have hl : lad s 0 0 = ((1, 0), (0, 1)) := rfl
    by_cases h : numS s / 2 ^ (255 - 0) % 2 = 1
    · rw [lad_one s 0 0 h, hl]; exact ⟨lsz_nilw _ _ _ _, show dbz 0 1 = 0 by decide⟩
    · rw [lad_nil s 0 0 h, hl]; exact ⟨show dbz 1 0 = 0 by decide, lsz_nilw _ _ _ _⟩
  | k + 1 => by
    obtain ⟨h1, h2⟩ := lad_zerow s k
    have hl := lad_lt s 0 (by decide) (k + 1)
    by_cases h : numS s / 2 ^ (255 - (k + 1)) % 2 = 1
    · rw [lad_one s 0 (k + 1) h, h1, h2]; exact ⟨lsz_nilw _ _ _ _, dbz_nilw _ hl.2.2.1⟩
    · rw [lad_nil s 0 (k + 1) h, h1, h2]; exact ⟨dbz_nilw _ hl.1, lsz_nilw _ _ _ _⟩
/-- X : Z is (1 + y) : (1 - y) of the point -/
def Mo (X Z : F) (q : Pt) : Prop := ∃ c : F, c ≠ 0 ∧ X = c * (1 + q.y) ∧ Z = c * (1 - q.y)
theorem mo_k (n d x y : F) (hd : (n + 1) * d = -n) (h : y * y - x * x = 1 + d * x * x * y * y) : y * y = (n + 1 - n * (y * y)) * (1 + x * x) := by grobner
theorem mo_dbl_id (n y x D y3 : F) (h : D = y * y - x * x - 1) (hy : y3 * (1 - D) = y * y + x * x) (k : y * y = (n + 1 - n * (y * y)) * (1 + x * x)) : (1 - D) * (y * y * (1 - y3)) = (1 - D) * ((1 - y * y) * (n + 1 - n * (y * y)) * (1 + y3)) := by grobner
theorem n_eq : ((121665 : F) + 1) * dE = -121665 := by rw [← dE_eq]; congr 1
theorem n_ne : (121665 : F) + 1 ≠ 0 := by decide +kernel
theorem split_c {X Z y : F} (h : X * (1 - y) = Z * (1 + y)) (hn : ¬ (X = 0 ∧ Z = 0)) : ∃ c : F, c ≠ 0 ∧ X = c * (1 + y) ∧ Z = c * (1 - y) := by
  have i2 := mul_inv F_two
  refine ⟨(X + Z) * inv 2, fun e => hn ?_, ?_, ?_⟩
  · have e2 : X + Z = 0 := by grobner
    constructor
    · apply F_cancel F_two; grobner
    · apply F_cancel F_two; grobner
  · grobner
  · grobner
theorem c4_ne {c : F} (hc : c ≠ 0) : 16 * (c * c * (c * c)) ≠ 0 := F_ne (by decide +kernel) (F_ne (F_ne hc hc) (F_ne hc hc))
theorem mo_dbl {X Z : F} {q : Pt} (h : Mo X Z q) :
    Mo ((X + Z) * (X + Z) * ((X - Z) * (X - Z))) (((X + Z) * (X + Z) - (X - Z) * (X - Z)) * ((X + Z) * (X + Z) + ((X + Z) * (X + Z) - (X - Z) * (X - Z)) * 121665)) (aP q q) := by
  obtain ⟨c, hc, hX, hZ⟩ := h
  have on : q.y * q.y - q.x * q.x = 1 + dE * q.x * q.x * q.y * q.y := q.on
  have hy : (aP q q).y * (1 - dE * q.x * q.x * q.y * q.y) = q.y * q.y + q.x * q.x := sy_eq q.on q.on
  have hne : 1 - dE * q.x * q.x * q.y * q.y ≠ 0 := less_ne q.on q.on
  have k := mo_k 121665 dE q.x q.y n_eq on
  have key := F_cancel hne (mo_dbl_id 121665 q.y q.x _ _ (by grobner) hy k)
  obtain ⟨m, hm⟩ : ∃ m : F, m = 121665 := ⟨_, rfl⟩
  have c4 := c4_ne hc
  have e1 : (X + Z) * (X + Z) * ((X - Z) * (X - Z)) = 16 * (c * c * (c * c)) * (q.y * q.y) := by rw [hX, hZ]; grobner
  have e2 : ((X + Z) * (X + Z) - (X - Z) * (X - Z)) * ((X + Z) * (X + Z) + ((X + Z) * (X + Z) - (X - Z) * (X - Z)) * m) = 16 * (c * c * (c * c)) * ((1 - q.y * q.y) * (m + 1 - m * (q.y * q.y))) := by rw [hX, hZ]; grobner
  rw [← hm] at key ⊢
  refine split_c (by rw [e1, e2]; grobner) fun hn => ?_
  rw [e1, e2] at hn
  rcases F_nil hn.1 with h1 | h1
  · exact c4 h1
  · rcases F_nil hn.2 with h2 | h2
    · exact c4 h2
    · rw [h1] at h2
      apply n_ne
      rw [← hm]
      grobner
theorem mo_add_id (d x1 y1 x2 y2 : F) (h1 : y1 * y1 - x1 * x1 = 1 + d * x1 * x1 * y1 * y1) (h2 : y2 * y2 - x2 * x2 = 1 + d * x2 * x2 * y2 * y2) :
    ((1 - d * x1 * x2 * y1 * y2) + (y1 * y2 + x1 * x2)) * ((1 + d * x1 * x2 * y1 * y2) + (y1 * y2 - x1 * x2)) * ((y2 - y1) * (y2 - y1)) =
    ((1 - d * x1 * x2 * y1 * y2) - (y1 * y2 + x1 * x2)) * ((1 + d * x1 * x2 * y1 * y2) - (y1 * y2 - x1 * x2)) * ((y1 + y2) * (y1 + y2)) := by grobner
theorem mo_add_ab (A B s t y3 y4 S T : F) (h3 : y3 * A = s) (h4 : y4 * B = t) (h : (A + s) * (B + t) * T = (A - s) * (B - t) * S) : (A * B) * ((1 + y3) * (1 + y4) * T) = (A * B) * ((1 - y3) * (1 - y4) * S) := by
  subst h3 h4
  grobner
theorem mo_ey (d x1 y1 x2 y2 r : F) (h : r * (1 - d * x2 * (0 - x1) * y2 * y1) = y2 * y1 + x2 * (0 - x1)) : r * (1 + d * x1 * x2 * y1 * y2) = y1 * y2 - x1 * x2 := by grobner
theorem mo_fin (u r y S T : F) (hu : u * (1 - r) = 1 + r) (h : (1 + y) * (1 + r) * T = (1 - y) * (1 - r) * S) : (1 - r) * (S * (1 - y)) = (1 - r) * (u * T * (1 + y)) := by grobner
theorem mo_end (x1 x2 r d : F) (o1 : 0 * 0 - x1 * x1 = 1 + d * x1 * x1 * 0 * 0) (o2 : 0 * 0 - x2 * x2 = 1 + d * x2 * x2 * 0 * 0) (h : r * (1 + d * x1 * x2 * 0 * 0) = 0 * 0 - x1 * x2) : (1 - r) * (1 + r) = 0 := by grobner
theorem mo_e1 (k l y z : F) : ((k * (1 + y) + k * (1 - y)) * (l * (1 + z) - l * (1 - z)) + (k * (1 + y) - k * (1 - y)) * (l * (1 + z) + l * (1 - z))) * ((k * (1 + y) + k * (1 - y)) * (l * (1 + z) - l * (1 - z)) + (k * (1 + y) - k * (1 - y)) * (l * (1 + z) + l * (1 - z))) = 16 * (k * k * (l * l)) * ((y + z) * (y + z)) := by grobner
theorem mo_e2 (k l y z u : F) : ((k * (1 + y) + k * (1 - y)) * (l * (1 + z) - l * (1 - z)) - (k * (1 + y) - k * (1 - y)) * (l * (1 + z) + l * (1 - z))) * ((k * (1 + y) + k * (1 - y)) * (l * (1 + z) - l * (1 - z)) - (k * (1 + y) - k * (1 - y)) * (l * (1 + z) + l * (1 - z))) * u = 16 * (k * k * (l * l)) * (u * ((z - y) * (z - y))) := by grobner
theorem mo_e3 (C S T y : F) (h : S * (1 - y) = T * (1 + y)) : C * S * (1 - y) = C * T * (1 + y) := by grobner
theorem mo_nil {y z : F} (h1 : y + z = 0) (h2 : z - y = 0) : y = 0 ∧ z = 0 := ⟨by apply F_cancel F_two; grobner, by apply F_cancel F_two; grobner⟩
theorem mo_add {a b c d u : F} {p q r : Pt} (h1 : Mo a b p) (h2 : Mo c d q) (hq : q = aP p r) (hu : u * (1 - r.y) = 1 + r.y) (r1 : 1 - r.y ≠ 0) (r2 : 1 + r.y ≠ 0) :
    Mo (((a + b) * (c - d) + (a - b) * (c + d)) * ((a + b) * (c - d) + (a - b) * (c + d))) (((a + b) * (c - d) - (a - b) * (c + d)) * ((a + b) * (c - d) - (a - b) * (c + d)) * u) (aP p q) := by
  obtain ⟨k, hk, ha, hb⟩ := h1
  obtain ⟨l, hl, hc, hd⟩ := h2
  have o1 : p.y * p.y - p.x * p.x = 1 + dE * p.x * p.x * p.y * p.y := p.on
  have o2 : q.y * q.y - q.x * q.x = 1 + dE * q.x * q.x * q.y * q.y := q.on
  have hr : r = aP q (gP p) := by rw [hq, aP_comm p r, aP_assoc, aP_neg, aP_none]
  have ey : r.y * (1 - dE * q.x * (0 - p.x) * q.y * p.y) = q.y * p.y + q.x * (0 - p.x) := by rw [hr]; exact sy_eq q.on (gP p).on
  have ey' : r.y * (1 + dE * p.x * q.x * p.y * q.y) = p.y * q.y - p.x * q.x := mo_ey _ _ _ _ _ _ ey
  have e3 : (aP p q).y * (1 - dE * p.x * q.x * p.y * q.y) = p.y * q.y + p.x * q.x := sy_eq p.on q.on
  have n1 : 1 - dE * p.x * q.x * p.y * q.y ≠ 0 := less_ne p.on q.on
  have n2 : 1 + dE * p.x * q.x * p.y * q.y ≠ 0 := plus_ne p.on q.on
  have id := F_cancel (F_ne n1 n2) (mo_add_ab _ _ _ _ _ _ _ _ e3 ey' (mo_add_id dE p.x p.y q.x q.y o1 o2))
  have id2 : (p.y + q.y) * (p.y + q.y) * (1 - (aP p q).y) = u * ((q.y - p.y) * (q.y - p.y)) * (1 + (aP p q).y) := F_cancel r1 (mo_fin _ _ _ _ _ hu id)
  have c4 : 16 * (k * k * (l * l)) ≠ 0 := F_ne (by decide +kernel) (F_ne (F_ne hk hk) (F_ne hl hl))
  have e1 : ((a + b) * (c - d) + (a - b) * (c + d)) * ((a + b) * (c - d) + (a - b) * (c + d)) = 16 * (k * k * (l * l)) * ((p.y + q.y) * (p.y + q.y)) := by
    rw [ha, hb, hc, hd]
    exact mo_e1 _ _ _ _
  have e2 : ((a + b) * (c - d) - (a - b) * (c + d)) * ((a + b) * (c - d) - (a - b) * (c + d)) * u = 16 * (k * k * (l * l)) * (u * ((q.y - p.y) * (q.y - p.y))) := by
    rw [ha, hb, hc, hd]
    exact mo_e2 _ _ _ _ _
  refine split_c (by
    rw [e1, e2]
    exact mo_e3 _ _ _ _ id2) fun hn => ?_
  rw [e1, e2] at hn
  have un : u ≠ 0 := fun e => r2 (by rw [← hu, e]; grobner)
  have s1 : p.y + q.y = 0 := by
    rcases F_nil hn.1 with h | h
    · exact absurd h c4
    · rcases F_nil h with h | h <;> exact h
  have s2 : q.y - p.y = 0 := by
    rcases F_nil hn.2 with h | h
    · exact absurd h c4
    · rcases F_nil h with h | h
      · exact absurd h un
      · rcases F_nil h with h | h <;> exact h
  obtain ⟨y1, y2⟩ := mo_nil s1 s2
  rw [y1, y2] at ey'
  rw [y1] at o1
  rw [y2] at o2
  have : (1 - r.y) * (1 + r.y) = 0 := mo_end _ _ _ _ o1 o2 ey'
  rcases F_nil this with h | h
  · exact r1 h
  · exact r2 h
end Go.Proofs.YtpaendmdcdeemaaDoor

namespace Go.Proofs.YtpaendmdcdeemaaDoor
open Go.RowKit Num

theorem toF_dbx (a b : Nat) (hb : b < P) : toF (dbx a b) = (toF a + toF b) * (toF a + toF b) * ((toF a - toF b) * (toF a - toF b)) := by
  unfold dbx
  rw [toF_mul, toF_mul, toF_mul, toF_add, toF_sub _ _ hb]
theorem toF_n : toF 121665 = 121665 := by decide +kernel
theorem toF_dbz (a b : Nat) (hb : b < P) : toF (dbz a b) = ((toF a + toF b) * (toF a + toF b) - (toF a - toF b) * (toF a - toF b)) * ((toF a + toF b) * (toF a + toF b) + ((toF a + toF b) * (toF a + toF b) - (toF a - toF b) * (toF a - toF b)) * 121665) := by
  unfold dbz
  rw [toF_mul, toF_sub _ _ (mulP_lt _ _), toF_add, toF_mul, toF_mul, toF_mul, toF_sub _ _ (mulP_lt _ _), toF_mul, toF_mul, toF_add, toF_sub _ _ hb, toF_n]
theorem toF_lsx (a b c d : Nat) (hb : b < P) (hd : d < P) : toF (lsx a b c d) = ((toF a + toF b) * (toF c - toF d) + (toF a - toF b) * (toF c + toF d)) * ((toF a + toF b) * (toF c - toF d) + (toF a - toF b) * (toF c + toF d)) := by
  unfold lsx
  rw [toF_mul, toF_add, toF_mul, toF_mul, toF_add, toF_add, toF_sub _ _ hb, toF_sub _ _ hd]
theorem toF_lsz (u a b c d : Nat) (hb : b < P) (hd : d < P) : toF (lsz u a b c d) = ((toF a + toF b) * (toF c - toF d) - (toF a - toF b) * (toF c + toF d)) * ((toF a + toF b) * (toF c - toF d) - (toF a - toF b) * (toF c + toF d)) * toF u := by
  unfold lsz
  rw [toF_mul, toF_mul, toF_sub _ _ (mulP_lt _ _), toF_mul, toF_mul, toF_add, toF_add, toF_sub _ _ hb, toF_sub _ _ hd]
theorem numS_256w (s : ByteArray) (hs : s.size = 32) : numS s < 2 ^ 256 := by
  have h : numS s % 65536 ^ 16 < 65536 ^ 16 := Nat.mod_lt _ (by decide)
  rw [numS_lt s hs] at h
  exact h
theorem gen_halfw (N e : Nat) : N / 2 ^ e = 2 * (N / 2 ^ (e + 1)) + N / 2 ^ e % 2 := by
  rw [Nat.pow_succ, ← Nat.div_div_eq_div_mul]
  omega
theorem lad_mo (s : ByteArray) (hs : s.size = 32) (u : Nat) (hu : u < P) (r : Pt) (hr : toF u * (1 - r.y) = 1 + r.y) (r1 : 1 - r.y ≠ 0) (r2 : 1 + r.y ≠ 0) : ∀ k, k ≤ 256 →
    Mo (toF (lad s u k).1.1) (toF (lad s u k).1.2) (mP r (numS s / 2 ^ (256 - k))) ∧ Mo (toF (lad s u k).2.1) (toF (lad s u k).2.2) (mP r (numS s / 2 ^ (256 - k) + 1))
  | 0, _ => by
    rw [Nat.div_eq_of_lt (numS_256w s hs)]
    refine ⟨split_c ?_ fun h => F_one h.1, split_c ?_ fun h => F_one h.2⟩
    · show (1 : F) * (1 - 1) = 0 * (1 + 1)
      grobner
    · rw [Nat.zero_add, mP_one]
      show toF u * (1 - r.y) = 1 * (1 + r.y)
      rw [hr]
      grobner
  | k + 1, hk => by
    obtain ⟨i1, i2⟩ := lad_mo s hs u hu r hr r1 r2 k (by omega)
    obtain ⟨_, l2, _, l4⟩ := lad_lt s u hu k
    have e : 256 - (k + 1) = 255 - k := by omega
    have e2 : 256 - k = (255 - k) + 1 := by omega
    rw [e2] at i1 i2
    rw [e, gen_halfw (numS s) (255 - k)]
    generalize numS s / 2 ^ (255 - k + 1) = n at *
    have hs1 := mo_add i1 i2 (by rw [mP]) hr r1 r2
    rw [← mP_add, show n + (n + 1) = 2 * n + 1 by omega, ← toF_lsx _ _ _ _ l2 l4, ← toF_lsz _ _ _ _ _ l2 l4] at hs1
    by_cases hb : numS s / 2 ^ (255 - k) % 2 = 1
    · rw [lad_one s u k hb, hb]
      have hd := mo_dbl i2
      rw [← mP_add, show n + 1 + (n + 1) = 2 * n + 1 + 1 by omega, ← toF_dbx _ _ l4, ← toF_dbz _ _ l4] at hd
      exact ⟨hs1, hd⟩
    · rw [lad_nil s u k hb, show numS s / 2 ^ (255 - k) % 2 = 0 by omega]
      have hd := mo_dbl i1
      rw [← mP_add, show n + n = 2 * n + 0 by omega, ← toF_dbx _ _ l2, ← toF_dbz _ _ l2] at hd
      exact ⟨hd, hs1⟩
/-- u of a point; 0 where there is none -/
def uP (q : Pt) : F := (1 + q.y) * inv (1 - q.y)
theorem uP_of {X Z : F} {q : Pt} (h : Mo X Z q) : X * inv Z = uP q := by
  obtain ⟨c, hc, rfl, rfl⟩ := h
  unfold uP
  by_cases hy : 1 - q.y = 0
  · rw [hy, show c * (0 : F) = 0 by grobner, inv_zero]
    grobner
  · have := mul_inv hy
    refine over_is (F_ne hc hy) ?_
    grobner
theorem uP_nil {q : Pt} (h : q.x = 0) : uP q = 0 := by
  have on : q.y * q.y - q.x * q.x = 1 + dE * q.x * q.x * q.y * q.y := q.on
  rw [h] at on
  have h2 : (1 - q.y) * (1 + q.y) = 0 := by grobner
  unfold uP
  rcases F_nil h2 with h3 | h3
  · rw [h3, inv_zero]
    grobner
  · rw [h3]
    grobner
theorem mP_xnil {r : Pt} (h : r.x = 0) : ∀ n, (mP r n).x = 0
  | 0 => rfl
  | n + 1 => by
    show ((mP r n).x * r.y + r.x * (mP r n).y) * inv _ = 0
    rw [h, mP_xnil h n]
    grobner
theorem one_d : (1 : F) + dE ≠ 0 := by decide +kernel
theorem x_nil {q : Pt} (h : (1 - q.y) * (1 + q.y) = 0) : q.x = 0 := by
  have on : q.y * q.y - q.x * q.x = 1 + dE * q.x * q.x * q.y * q.y := q.on
  have h2 : (1 + dE) * (q.x * q.x) = 0 := by grobner
  rcases F_nil h2 with h3 | h3
  · exact absurd h3 one_d
  · rcases F_nil h3 with h4 | h4 <;> exact h4
theorem lad_u (s : ByteArray) (hs : s.size = 32) (u : Nat) (hu : u < P) (r : Pt) (hr : toF u = uP r) :
    toF (mulP (lad s u 256).1.1 (invE (lad s u 256).1.2)) = uP (mP r (numS s)) := by
  by_cases hd : (1 - r.y) * (1 + r.y) = 0
  · have hx := x_nil hd
    rw [uP_nil hx, toF_nil hu] at hr
    rw [uP_nil (mP_xnil hx _), hr, (lad_zerow s 255).1, over_nilw]
    rfl
  · have r1 : 1 - r.y ≠ 0 := fun e => hd (by rw [e]; grobner)
    have r2 : 1 + r.y ≠ 0 := fun e => hd (by rw [e]; grobner)
    have hm := (lad_mo s hs u hu r (by rw [hr]; exact over_mul r1) r1 r2 256 (by decide)).1
    rw [Nat.sub_self, Nat.pow_zero, Nat.div_one] at hm
    obtain ⟨_, l2, _, _⟩ := lad_lt s u hu 256
    rw [toF_mul, toF_inv _ l2]
    exact uP_of hm
end Go.Proofs.YtpaendmdcdeemaaDoor

namespace Go.Proofs.YtpaendmdcdeemaaDoor
open Go.RowKit Num

theorem x_lt (a t : ByteArray) : xP a t < P := mulP_lt _ _
theorem top_bytes (v : Nat) (hv : v < P) : numS (topS (bytesOf v)) % P = v := by
  have h := P_255
  rw [top_num' _ (bytesOf_size v), num_bytesOf v (Nat.lt_trans hv (by decide)), Nat.mod_eq_of_lt (Nat.lt_trans hv h), Nat.mod_eq_of_lt hv]
theorem top_odd (v : Nat) (hv : v < P) : numS (topS (oddS v)) % P = v := by
  have h := P_255
  rw [top_num' _ (odd_size v), odd_num v (Nat.lt_trans hv h), Nat.add_mod_right, Nat.mod_eq_of_lt (Nat.lt_trans hv h), Nat.mod_eq_of_lt hv]
theorem base_u : toF 9 = uP bP := (over_is (x := 1 + toF bY) (y := 1 - toF bY) (by decide +kernel) (by decide +kernel)).symm
theorem x_u (a t : ByteArray) (ha : a.size = 32) (r : Pt) (h : toF (numS (topS t) % P) = uP r) : toF (xP a t) = uP (mP r (numS (clampS a))) := lad_u (clampS a) (clampS_size a ha) _ (mod_lt_P _) r h
theorem x_agree (a b : ByteArray) (ha : a.size = 32) (hb : b.size = 32) : xP a (bytesOf (xP b nine)) = xP b (bytesOf (xP a nine)) :=
  toF_inj (x_lt _ _) (x_lt _ _) (by
    have h1 := x_u b nine hb bP (by rw [nine_u]; exact base_u)
    have h2 := x_u a nine ha bP (by rw [nine_u]; exact base_u)
    rw [x_u a (bytesOf (xP b nine)) ha _ (by rw [top_bytes _ (x_lt _ _)]; exact h1), x_u b (bytesOf (xP a nine)) hb _ (by rw [top_bytes _ (x_lt _ _)]; exact h2), mP_swap])
theorem x_high (a : ByteArray) (v : Nat) (hv : v < P) : xP a (oddS v) = xP a (bytesOf v) := by
  unfold xP
  rw [top_odd v hv, top_bytes v hv]
def zS : ByteArray := ⟨(List.replicate 32 (0 : UInt8)).toArray⟩
theorem zS_u : numS (topS zS) % P = 0 := by decide +kernel
theorem zS_of : bytesOf 0 = zS := by decide +kernel
theorem x_zero (a : ByteArray) : xP a zS = 0 := by
  unfold xP
  rw [zS_u, (lad_zerow (clampS a) 255).1, over_nilw]
section
variable {ops : Array Oper} {Q : Exit → Act → World → Prop} {F : (Nat → Nat) → Act} {md : Region.Mode} {i : Nat}
  {w0 : World} {L M : List (Nat × TypeId × Array Value)}
/-- an operation that reads what was there ahead of the region -/
theorem gm_held {o : Oper} {v : Value} (hi : M.all (fun x => x.1 != i) = true) (hw : ∀ g, Region.wanted o (yielded ops (F g).tmps) = true) (hp : ∀ g, (F g).put o.dst v = F g)
    (hr : ∀ g w, HA w0 L w → (execOp (F g).eval o).run Tryd.prog w = .ok (.value v) w) : OpGhost Tryd.prog md ops Q (GM w0 L M) F i o :=
  OpGhost.take (v := fun _ => v) hw hp (fun g _ w h _ => ⟨hr g w h.held, h.call hi (Below.refl _ w)⟩)
end
end Go.Proofs.YtpaendmdcdeemaaDoor
