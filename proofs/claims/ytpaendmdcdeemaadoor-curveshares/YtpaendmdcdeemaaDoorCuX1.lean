/-
  The two ladders tell the same.
-/
import Derived.Test.YtpaendmdcdeemaaDoorCuJ
namespace Go.Proofs.YtpaendmdcdeemaaDoor
open Go.RowKit Num

theorem gen_sa (p x y : Nat) (hx : x < p) (hy : y < p) : ((x + y) % p + p - y) % p = x := by
  by_cases h : x + y < p
  · rw [Nat.mod_eq_of_lt h, show x + y + p - y = x + p by omega, Nat.add_mod_right, Nat.mod_eq_of_lt hx]
  · have e : (x + y) % p = x + y - p := by rw [Nat.mod_eq_sub_mod (by omega), Nat.mod_eq_of_lt (by omega)]
    rw [e, show x + y - p + p - y = x by omega, Nat.mod_eq_of_lt hx]
theorem sub_of_add (x y : Nat) (hx : x < P) (hy : y < P) : subP (addP x y) y = x := gen_sa P x y hx hy
theorem mulP_sub (a b c : Nat) (ha : a < P) (hb : b < P) : mulP (subP a b) c = subP (mulP a c) (mulP b c) := by
  have h := mulP_add (subP a b) b c
  rw [sub_add a b ha hb] at h
  rw [h, sub_of_add _ _ (mulP_lt _ _) (mulP_lt _ _)]
theorem sc_add (c a b : Nat) : addP (mulP c a) (mulP c b) = mulP c (addP a b) := by
  rw [mulP_comm c a, mulP_comm c b, ← mulP_add, mulP_comm]
theorem sc_sub (c a b : Nat) (ha : a < P) (hb : b < P) : subP (mulP c a) (mulP c b) = mulP c (subP a b) := by
  rw [mulP_comm c a, mulP_comm c b, ← mulP_sub a b c ha hb, mulP_comm]
theorem sc_mul (c d a b : Nat) : mulP (mulP c a) (mulP d b) = mulP (mulP c d) (mulP a b) := by
  rw [mulP_assoc, mulP_assoc, ← mulP_assoc a d b, mulP_comm a d, mulP_assoc d a b]
theorem dbx_sc (c a b : Nat) (ha : a < P) (hb : b < P) : dbx (mulP c a) (mulP c b) = mulP (mulP (mulP c c) (mulP c c)) (dbx a b) := by
  unfold dbx
  rw [sc_add, sc_sub c a b ha hb, sc_mul c c (addP a b), sc_mul c c (subP a b), sc_mul]
theorem dbz_sc (c a b : Nat) (ha : a < P) (hb : b < P) : dbz (mulP c a) (mulP c b) = mulP (mulP (mulP c c) (mulP c c)) (dbz a b) := by
  unfold dbz
  rw [sc_add, sc_sub c a b ha hb, sc_mul c c (addP a b), sc_mul c c (subP a b), sc_sub _ _ _ (mulP_lt _ _) (mulP_lt _ _), mulP_assoc _ _ 121665, sc_add, sc_mul]
theorem lsx_sc (c d a b x y : Nat) (ha : a < P) (hb : b < P) (hx : x < P) (hy : y < P) : lsx (mulP c a) (mulP c b) (mulP d x) (mulP d y) = mulP (mulP (mulP c d) (mulP c d)) (lsx a b x y) := by
  unfold lsx
  rw [sc_add c a b, sc_sub c a b ha hb, sc_add d x y, sc_sub d x y hx hy, sc_mul c d (addP a b), sc_mul c d (subP a b), sc_add, sc_mul]
theorem lsz_sc (u c d a b x y : Nat) (ha : a < P) (hb : b < P) (hx : x < P) (hy : y < P) : lsz u (mulP c a) (mulP c b) (mulP d x) (mulP d y) = mulP (mulP (mulP c d) (mulP c d)) (lsz u a b x y) := by
  unfold lsz
  rw [sc_add c a b, sc_sub c a b ha hb, sc_add d x y, sc_sub d x y hx hy, sc_mul c d (addP a b), sc_mul c d (subP a b), sc_sub _ _ _ (mulP_lt _ _) (mulP_lt _ _), sc_mul, mulP_assoc _ _ u]
theorem rdz_is (a b : Nat) : rdz a b = dbz a b := by
  unfold rdz dbz
  rw [mulP_comm 121665]
theorem sq_sub (a b : Nat) (ha : a < P) (hb : b < P) : mulP (subP a b) (subP a b) = mulP (subP b a) (subP b a) := by
  rw [sub_neg a b ha hb]
  exact neg_sq _ (subP_lt _ _)
theorem rsx_is (a b c d : Nat) : rsx a b c d = lsx a b c d := by
  unfold rsx lsx
  rw [mulP_comm (addP c d), mulP_comm (subP c d), addP_comm (mulP (subP a b) (addP c d))]
theorem rsz_is (u a b c d : Nat) : rsz u a b c d = lsz u a b c d := by
  unfold rsz lsz
  rw [mulP_comm u, mulP_comm (addP c d), mulP_comm (subP c d), sq_sub _ _ (mulP_lt _ _) (mulP_lt _ _)]
theorem rsx_sw (a b c d : Nat) : rsx c d a b = lsx a b c d := rfl
theorem rsz_sw (u a b c d : Nat) : rsz u c d a b = lsz u a b c d := by
  unfold rsz lsz
  rw [mulP_comm u]
theorem gen_inv (p e c b : Nat) : (c * b % p) ^ e % p = c ^ e % p * (b ^ e % p) % p := by
  rw [← Nat.pow_mod, Nat.mul_pow, ← Nat.mul_mod]
theorem inv_mul (c b : Nat) : invE (mulP c b) = mulP (invE c) (invE b) := gen_inv P (P - 2) c b
theorem one_mulP (a : Nat) (ha : a < P) : mulP 1 a = a := by rw [mulP_comm, mulP_one a ha]
theorem over_sc (c a b : Nat) (hc : c < P) (h : c ≠ 0) : mulP (mulP c a) (invE (mulP c b)) = mulP a (invE b) := by
  rw [inv_mul, sc_mul, mulP_inv c hc h, one_mulP _ (mulP_lt _ _)]
theorem ne_mul {a b : Nat} (ha : a < P) (hb : b < P) (h : a ≠ 0) (h' : b ≠ 0) : mulP a b ≠ 0 := fun e => by
  rcases (mulP_nil a b ha hb).1 e with e | e
  · exact h e
  · exact h' e
/-- as the reference goes on, in the program's words -/
theorem rlad_go (s : ByteArray) (u k : Nat) : rlad s u (k + 1) = if numS s / 2 ^ (254 - k) % 2 = 1 then
      ((lsx (rlad s u k).1.1 (rlad s u k).1.2 (rlad s u k).2.1 (rlad s u k).2.2, lsz u (rlad s u k).1.1 (rlad s u k).1.2 (rlad s u k).2.1 (rlad s u k).2.2), (dbx (rlad s u k).2.1 (rlad s u k).2.2, dbz (rlad s u k).2.1 (rlad s u k).2.2))
    else
      ((dbx (rlad s u k).1.1 (rlad s u k).1.2, dbz (rlad s u k).1.1 (rlad s u k).1.2), (lsx (rlad s u k).1.1 (rlad s u k).1.2 (rlad s u k).2.1 (rlad s u k).2.2, lsz u (rlad s u k).1.1 (rlad s u k).1.2 (rlad s u k).2.1 (rlad s u k).2.2)) := by
  rw [rlad]
  split
  · rw [rsx_sw, rsz_sw, rdz_is]; rfl
  · rw [rsx_is, rsz_is, rdz_is]; rfl
end Go.Proofs.YtpaendmdcdeemaaDoor

namespace Go.Proofs.YtpaendmdcdeemaaDoor
open Go.RowKit Num

/-- the program's ladder holds multiples of the reference's -/
def Mult (A B : (Nat × Nat) × (Nat × Nat)) : Prop := ∃ c d, c < P ∧ d < P ∧ c ≠ 0 ∧ d ≠ 0 ∧ A = ((mulP c B.1.1, mulP c B.1.2), (mulP d B.2.1, mulP d B.2.2))
theorem mult_step (s : ByteArray) (u : Nat) (hu : u < P) (k : Nat) (hk : k < 255) (h : Mult (lad s u (k + 1)) (rlad s u k)) : Mult (lad s u (k + 2)) (rlad s u (k + 1)) := by
  obtain ⟨c, d, hc, hd, hc0, hd0, e⟩ := h
  obtain ⟨h1, h2, h3, h4⟩ := rlad_lt s u hu k
  have e2 : 255 - (k + 1) = 254 - k := by omega
  have n1 := ne_mul (mulP_lt c c) (mulP_lt c c) (ne_mul hc hc hc0 hc0) (ne_mul hc hc hc0 hc0)
  have n2 := ne_mul (mulP_lt d d) (mulP_lt d d) (ne_mul hd hd hd0 hd0) (ne_mul hd hd hd0 hd0)
  have n3 := ne_mul (mulP_lt c d) (mulP_lt c d) (ne_mul hc hd hc0 hd0) (ne_mul hc hd hc0 hd0)
  by_cases hb : numS s / 2 ^ (254 - k) % 2 = 1
  · refine ⟨_, _, mulP_lt _ _, mulP_lt _ _, n3, n2, ?_⟩
    rw [lad_one s u (k + 1) (by rw [e2]; exact hb), rlad_go, if_pos hb, e]
    rw [lsx_sc c d _ _ _ _ h1 h2 h3 h4, lsz_sc u c d _ _ _ _ h1 h2 h3 h4, dbx_sc d _ _ h3 h4, dbz_sc d _ _ h3 h4]
  · refine ⟨_, _, mulP_lt _ _, mulP_lt _ _, n1, n3, ?_⟩
    rw [lad_nil s u (k + 1) (by rw [e2]; exact hb), rlad_go, if_neg hb, e]
    rw [lsx_sc c d _ _ _ _ h1 h2 h3 h4, lsz_sc u c d _ _ _ _ h1 h2 h3 h4, dbx_sc c _ _ h1 h2, dbz_sc c _ _ h1 h2]
theorem gen_add2 (p c : Nat) : (c + (c + 2) % p) % p = ((c + 1) % p + (c + 1) % p) % p := by
  rw [Nat.add_mod_mod, ← Nat.add_mod]
  congr 1
  omega
theorem gen_add3 (p c : Nat) : ((c + 1) % p + 1) % p = (c + 2) % p := by
  rw [Nat.mod_add_mod]
theorem dbl_mul (u : Nat) : addP u u = mulP 2 u := by
  unfold addP mulP
  congr 1
  omega
theorem first_x (u : Nat) (hu : u < P) : lsx 1 0 u 1 = mulP (mulP 4 u) u := by
  unfold lsx
  have e1 : addP 1 0 = 1 := by decide
  have e2 : subP 1 0 = 1 := by decide
  rw [e1, e2, one_mulP _ (subP_lt _ _), one_mulP _ (addP_lt _ _)]
  have e3 : addP (subP u 1) (addP u 1) = addP u u := by
    have h := sub_add u 1 hu (by decide)
    have h2 : addP (addP (subP u 1) 1) 1 = addP (subP u 1) 2 := gen_add3 P _
    have h3 : addP (subP u 1) (addP (subP u 1) 2) = addP (addP (subP u 1) 1) (addP (subP u 1) 1) := gen_add2 P _
    rw [h] at h2 h3
    rw [h2, h3]
  have e4 : mulP 2 2 = 4 := by decide
  rw [e3, dbl_mul, sc_mul, e4, mulP_assoc]
theorem first_z (u : Nat) (hu : u < P) : lsz u 1 0 u 1 = mulP (mulP 4 u) 1 := by
  unfold lsz
  have e1 : addP 1 0 = 1 := by decide
  have e2 : subP 1 0 = 1 := by decide
  rw [e1, e2, one_mulP _ (subP_lt _ _), one_mulP _ (addP_lt _ _)]
  have e3 : subP (addP u 1) (subP u 1) = 2 := by
    have h := sub_add u 1 hu (by decide)
    have h2 : addP (addP (subP u 1) 1) 1 = addP (subP u 1) 2 := gen_add3 P _
    rw [h, addP_comm (subP u 1) 2] at h2
    rw [h2]
    exact sub_of_add 2 _ (by decide) (subP_lt _ _)
  have e4 : mulP 2 2 = 4 := by decide
  rw [sq_sub _ _ (subP_lt _ _) (addP_lt _ _), e3, e4, mulP_one _ (mulP_lt _ _)]
theorem mult_start (s : ByteArray) (u : Nat) (hu : u < P) (h0 : u ≠ 0) (h : ¬ numS s / 2 ^ 255 % 2 = 1) : Mult (lad s u 1) (rlad s u 0) := by
  refine ⟨1, mulP 4 u, by decide, mulP_lt _ _, by decide, ne_mul (by decide) hu (by decide) h0, ?_⟩
  rw [lad_nil s u 0 h]
  have e1 : dbx 1 0 = mulP 1 1 := by decide
  have e2 : dbz 1 0 = mulP 1 0 := by decide
  have hl : lad s u 0 = ((1, 0), (u, 1)) := rfl
  have hr : rlad s u 0 = ((1, 0), (u, 1)) := rfl
  rw [hl, hr]
  show ((dbx 1 0, dbz 1 0), (lsx 1 0 u 1, lsz u 1 0 u 1)) = _
  rw [e1, e2, first_x u hu, first_z u hu]
theorem mult_all (s : ByteArray) (u : Nat) (hu : u < P) (h0 : u ≠ 0) (h : ¬ numS s / 2 ^ 255 % 2 = 1) : ∀ k, k ≤ 255 → Mult (lad s u (k + 1)) (rlad s u k)
  | 0, _ => mult_start s u hu h0 h
  | k + 1, hk => mult_step s u hu k (by omega) (mult_all s u hu h0 h k (by omega))
/-- where u is nought -/
theorem dbz_nil (a : Nat) (ha : a < P) : dbz a 0 = 0 := by
  unfold dbz
  have e1 : addP a 0 = a := by unfold addP; rw [Nat.add_zero, Nat.mod_eq_of_lt ha]
  have e2 : subP a 0 = a := by unfold subP; rw [Nat.sub_zero, Nat.add_mod_right, Nat.mod_eq_of_lt ha]
  have e3 : subP (mulP a a) (mulP a a) = 0 := by unfold subP; rw [Nat.add_sub_cancel_left, Nat.mod_self]
  rw [e1, e2, e3, mulP_zero]
theorem lsz_nil (a b c d : Nat) : lsz 0 a b c d = 0 := by
  unfold lsz
  rw [mulP_comm, mulP_zero]
theorem over_nil (a : Nat) : mulP a (invE 0) = 0 := by rw [invE_zero, mulP_comm, mulP_zero]
theorem lad_zero (s : ByteArray) : ∀ k, (lad s 0 (k + 1)).1.2 = 0 ∧ (lad s 0 (k + 1)).2.2 = 0
  | 0 => by
    have hl : lad s 0 0 = ((1, 0), (0, 1)) := rfl
    by_cases h : numS s / 2 ^ (255 - 0) % 2 = 1
    · rw [lad_one s 0 0 h, hl]; exact ⟨lsz_nil _ _ _ _, show dbz 0 1 = 0 by decide⟩
    · rw [lad_nil s 0 0 h, hl]; exact ⟨show dbz 1 0 = 0 by decide, lsz_nil _ _ _ _⟩
  | k + 1 => by
    obtain ⟨h1, h2⟩ := lad_zero s k
    have hl := lad_lt s 0 (by decide) (k + 1)
    by_cases h : numS s / 2 ^ (255 - (k + 1)) % 2 = 1
    · rw [lad_one s 0 (k + 1) h, h1, h2]; exact ⟨lsz_nil _ _ _ _, dbz_nil _ hl.2.2.1⟩
    · rw [lad_nil s 0 (k + 1) h, h1, h2]; exact ⟨dbz_nil _ hl.1, lsz_nil _ _ _ _⟩
theorem rlad_zero (s : ByteArray) : ∀ k, (rlad s 0 (k + 1)).1.2 = 0 ∧ (rlad s 0 (k + 1)).2.2 = 0
  | 0 => by
    have hl : rlad s 0 0 = ((1, 0), (0, 1)) := rfl
    rw [rlad_go, hl]
    split
    · exact ⟨lsz_nil _ _ _ _, show dbz 0 1 = 0 by decide⟩
    · exact ⟨show dbz 1 0 = 0 by decide, lsz_nil _ _ _ _⟩
  | k + 1 => by
    obtain ⟨h1, h2⟩ := rlad_zero s k
    have hl := rlad_lt s 0 (by decide) (k + 1)
    rw [rlad_go, h1, h2]
    split
    · exact ⟨lsz_nil _ _ _ _, dbz_nil _ hl.2.2.1⟩
    · exact ⟨dbz_nil _ hl.1, lsz_nil _ _ _ _⟩
theorem ladders (s : ByteArray) (u : Nat) (hu : u < P) (h : ¬ numS s / 2 ^ 255 % 2 = 1) :
    mulP (lad s u 256).1.1 (invE (lad s u 256).1.2) = mulP (rlad s u 255).1.1 (invE (rlad s u 255).1.2) := by
  by_cases h0 : u = 0
  · subst h0
    rw [(lad_zero s 255).1, (rlad_zero s 254).1, over_nil, over_nil]
  · obtain ⟨c, d, hc, hd, hc0, hd0, e⟩ := mult_all s u hu h0 h 255 (Nat.le_refl _)
    rw [e]
    exact over_sc c _ _ hc hc0
end Go.Proofs.YtpaendmdcdeemaaDoor

namespace Go.Proofs.YtpaendmdcdeemaaDoor
open Go.RowKit Num

theorem clamp_top (s : ByteArray) (hs : s.size = 32) : ¬ numS (clampS s) / 2 ^ 255 % 2 = 1 := by
  have hl : (clampL (bl s)).length = 32 := by unfold clampL; rw [List.length_set, List.length_set, bl_len, hs]
  have hz : 31 < (clampS s).size := by rw [clampS_size s hs]; decide
  have h1 : sb (clampS s) 31 < 128 := by
    rw [← sb_get (clampS s) 31 hz]
    have e : (clampS s).get 31 hz = (clampL (bl s))[31]'(by omega) := rfl
    rw [e]
    unfold clampL
    rw [List.getElem_set_self, UInt8.toNat_ofNat']
    refine Nat.lt_of_le_of_lt (Nat.mod_le _ _) (Nat.or_lt_two_pow (n := 7) ?_ (by decide))
    exact Nat.lt_of_le_of_lt Nat.and_le_right (by decide)
  have h2 := bit_of (clampS s) 255
  rw [← h2]
  have e : sb (clampS s) (255 / 8) / 2 ^ (255 % 8) = 0 := Nat.div_eq_of_lt h1
  rw [e]
  decide
theorem gen_top (K N b : Nat) (h : N < K) : (N + K * b) % (K * 128) = N + K * (b % 128) := by
  rw [Nat.mod_mul, Nat.add_mul_mod_self_left, Nat.mod_eq_of_lt h, Nat.add_mul_div_left _ _ (by omega), Nat.div_eq_of_lt h, Nat.zero_add]
theorem split32 (l : List UInt8) (hl : l.length = 32) : ∃ m b, m.length = 31 ∧ l = m ++ [b] := by
  refine ⟨l.take 31, l[31]'(by omega), by rw [List.length_take]; omega, ?_⟩
  have h := List.take_succ_eq_append_getElem (l := l) (i := 31) (by omega)
  rw [← h, List.take_of_length_le (by omega)]
theorem top_num (t : ByteArray) (ht : t.size = 32) : numS (topS t) = num 256 ((bl t).map (·.toNat)) % 2 ^ 255 := by
  have e0 : numS (topS t) = num 256 (((bl t).set 31 (UInt8.ofNat (((bl t).getD 31 0).toNat &&& 127))).map (·.toNat)) := rfl
  obtain ⟨m, b, hm, hl⟩ := split32 (bl t) (by rw [bl_len, ht])
  rw [e0, hl]
  have e1 : (m ++ [b]).getD 31 0 = b := by
    rw [List.getD_eq_getElem?_getD, List.getElem?_append_right (by omega), hm]; rfl
  have e2 : ∀ z, (m ++ [b]).set 31 z = m ++ [z] := fun z => by
    rw [List.set_append_right _ _ (by omega), hm]; rfl
  rw [e1, e2, List.map_append, List.map_append, num_append, num_append, List.length_map, hm]
  have hN : num 256 (m.map (·.toNat)) < 256 ^ 31 := by
    have h := num_lt 256 (m.map (·.toNat)) (fun x hx => by obtain ⟨y, _, rfl⟩ := List.mem_map.1 hx; exact UInt8.toNat_lt y)
    rw [List.length_map, hm] at h
    exact h
  have n1 : ∀ z : UInt8, num 256 ([z].map (·.toNat)) = z.toNat := fun z => by simp [num]
  rw [n1, n1, show (2 : Nat) ^ 255 = 256 ^ 31 * 128 by decide, gen_top _ _ _ hN]
  congr 2
  rw [UInt8.toNat_ofNat']
  have h7 : b.toNat &&& 127 = b.toNat % 128 := Nat.and_two_pow_sub_one_eq_mod b.toNat 7
  rw [h7]
  omega
theorem x_same (s t : ByteArray) (hs : s.size = 32) (ht : t.size = 32) : xP s t = rxP s t := by
  unfold xP rxP
  have e : numS (topS t) % P = anyP (bl t) := by rw [top_num t ht]; rfl
  rw [e]
  exact ladders (clampS s) _ (anyP_lt _) (clamp_top s hs)
end Go.Proofs.YtpaendmdcdeemaaDoor
