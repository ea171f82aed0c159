/-
 A body, read with its bounds: it tells the same, where it may be.
-/
import Derived.Test.YtckmlaempffpjaaGreatGQ4
import Derived.Test.YtckmlaempffpjaaGreatGSV
namespace Go.Proofs.YtckmlaempffpjaaGreat
open Go.RowKit Go.Proofs.Tryz
theorem nxt_up {us : List UInt8} (h : (nxt 64 us).2.1 = true) : nxt 262144 us = nxt 64 us := by
 unfold nxt at h ⊢
 split at h
 ·rename_i hc
  rw [if_pos hc, if_pos ⟨hc.1, Nat.le_trans hc.2.1 (by decide), hc.2.2⟩]
 ·cases h
theorem nxt_big {us : List UInt8} (h : (nxt 64 us).2.1 = false) (h2 : (nxt 262144 us).2.1 = true) : 64 < (nxt 262144 us).1.size := by
 unfold nxt at h h2 ⊢
 split at h2
 ·rename_i hc
  rw [if_pos hc]
  split at h
  ·cases h
  ·rename_i hn
   show 64 < (⟨(Wi.txt us).toArray⟩ : ByteArray).size
   rw [txt_size hc.2.2];refine Nat.lt_of_not_le fun h9 => hn ⟨hc.1, h9, hc.2.2⟩
 ·cases h2
theorem nxt_rest {m : Nat} (us : List UInt8) : (nxt m us).2.2.length ≤ us.length := by
 unfold nxt
 split
 ·show (us.drop _).length ≤ _
  rw [List.length_drop]; omega
 ·exact Nat.le_refl _
theorem nxn_rest (m : Nat) (us : List UInt8) : (nxn m us).2.2.length ≤ us.length := by
 unfold nxn
 split
 ·show (us.drop _).length ≤ _
  rw [List.length_drop]; omega
 ·exact Nat.le_refl _
/-! rows, read with their bounds -/
def okP (us : List UInt8) : Bool := (nxt 64 us).2.1 && (nxt 262144 (nxt 64 us).2.2).2.1
def rwP (us : List UInt8) : Rw := ⟨(nxt 64 us).1, (nxt 262144 (nxt 64 us).2.2).1⟩
def reP (us : List UInt8) : List UInt8 := (nxt 262144 (nxt 64 us).2.2).2.2
inductive Rdp : Nat → List UInt8 → List Rw → List UInt8 → Prop
 | zero (us : List UInt8) : Rdp 0 us [] us
 | succ {k : Nat} {us vs : List UInt8} {acc : List Rw} : Rdp k us acc vs → okP vs = true → Rdp (k + 1) us (acc ++ [rwP vs]) (reP vs)
theorem Rdp.len {k : Nat} {us vs : List UInt8} {acc : List Rw} (h : Rdp k us acc vs) : acc.length = k ∧ vs.length ≤ us.length := by
 induction h with
 | zero us => exact ⟨rfl, Nat.le_refl _⟩
 | succ h hk ih =>
  refine ⟨by rw [List.length_append, ih.1]; rfl, Nat.le_trans ?_ ih.2⟩;exact Nat.le_trans (nxt_rest _) (nxt_rest _)
theorem Rdp.pp {k : Nat} {us vs : List UInt8} {acc : List Rw} (h : Rdp k us acc vs) : ∀ m, ppR (k + m) true us [] = ppR m true vs acc := by
 induction h with
 | zero us => intro m; rw [Nat.zero_add]
 | @succ k us vs acc h hk ih =>
  intro m;have := ih (m + 1);rw [show k + 1 + m = k + (m + 1) by omega, this];have h1 : (nxt 64 vs).2.1 = true := by unfold okP at hk; simp only [Bool.and_eq_true] at hk; exact hk.1
  have h2 : (nxt 262144 (nxt 64 vs).2.2).2.1 = true := by unfold okP at hk; simp only [Bool.and_eq_true] at hk; exact hk.2
  show ppR m ((nxt 262144 vs).2.1 && (nxt 262144 (nxt 262144 vs).2.2).2.1) (nxt 262144 (nxt 262144 vs).2.2).2.2 (acc ++ [⟨(nxt 262144 vs).1, (nxt 262144 (nxt 262144 vs).2.2).1⟩]) = _
  rw [nxt_up h1, h1, h2]
  rfl
theorem pp_false : ∀ (m : Nat) (us : List UInt8) (acc : List Rw), (ppR m false us acc).1 = false
 | 0, _, _ => rfl
 | _ + 1, _, _ => rfl
theorem pp_keep : ∀ (m : Nat) (wh : Bool) (us : List UInt8) (acc : List Rw), ∀ x ∈ acc, x ∈ (ppR m wh us acc).2.2
 | 0, _, _, _, _, hx => hx
 | _ + 1, false, _, _, _, hx => hx
 | m + 1, true, _, _, x, hx => pp_keep m _ _ _ x (List.mem_append_left _ hx)
theorem pp_len : ∀ (m : Nat) (wh : Bool) (us : List UInt8) (acc : List Rw), (ppR m wh us acc).1 = true → (ppR m wh us acc).2.2.length = acc.length + m
 | 0, _, _, _, _ => rfl
 | _ + 1, false, _, _, h => by cases h
 | m + 1, true, us, acc, h => by
  have := pp_len m _ _ _ h
  show (ppR m _ _ _).2.2.length = _
  rw [this, List.length_append]
  simp only [List.length_singleton]
  omega
theorem pd_false : ∀ (m : Nat) (us : List UInt8) (acc : List ByteArray), (pdR m false us acc).1 = false
 | 0, _, _ => rfl
 | _ + 1, _, _ => rfl
theorem pd_keep : ∀ (m : Nat) (wh : Bool) (us : List UInt8) (acc : List ByteArray), ∀ x ∈ acc, x ∈ (pdR m wh us acc).2.2
 | 0, _, _, _, _, hx => hx
 | _ + 1, false, _, _, _, hx => hx
 | m + 1, true, _, _, x, hx => pd_keep m _ _ _ x (List.mem_append_left _ hx)
theorem pd_len : ∀ (m : Nat) (wh : Bool) (us : List UInt8) (acc : List ByteArray), (pdR m wh us acc).1 = true → (pdR m wh us acc).2.2.length = acc.length + m
 | 0, _, _, _, _ => rfl
 | _ + 1, false, _, _, h => by cases h
 | m + 1, true, us, acc, h => by
  have := pd_len m _ _ _ h
  show (pdR m _ _ _).2.2.length = _
  rw [this, List.length_append]
  simp only [List.length_singleton]
  omega
theorem ref_big {ps : List Rw} {ds : List ByteArray} {k : ByteArray} (h : k ∈ keysOf ps ds) (hk : 64 < k.size) : refR ps ds ≠ 0 := by
 unfold refR
 split
 ·decide
 ·rw [if_pos]
  ·decide
  ·unfold lng
   have : ((keysOf ps ds).any fun k => decide (64 < k.size)) = true := List.any_eq_true.2 ⟨k, h, decide_eq_true hk⟩;rw [this]
   simp
theorem ref_many {ps : List Rw} {ds : List ByteArray} (h : 64 < ps.length + ds.length) : refR ps ds ≠ 0 := by
 unfold refR
 split
 ·decide
 ·rw [if_pos]
  ·decide
  ·unfold lng
   rw [decide_eq_true h]
   simp
theorem ok_no {p : Pd} (h : p.wh = false ∨ refR p.ps p.ds ≠ 0) : okB p = false := by
 unfold okB
 rcases h with h | h
 ·rw [h]; rfl
 ·rw [decide_eq_false h]; simp
def ppB (bs : List UInt8) : Bool × List UInt8 × List Rw := ppR (nxn 2 bs).1 (nxn 2 bs).2.1 (nxn 2 bs).2.2 []
theorem pdB_eq (bs : List UInt8) : pdB bs = ⟨(pdR (nxn 2 (ppB bs).2.1).1 ((ppB bs).1 && (nxn 2 (ppB bs).2.1).2.1) (nxn 2 (ppB bs).2.1).2.2 []).1, (ppB bs).2.2, (pdR (nxn 2 (ppB bs).2.1).1 ((ppB bs).1 && (nxn 2 (ppB bs).2.1).2.1) (nxn 2 (ppB bs).2.1).2.2 []).2.2, (pdR (nxn 2 (ppB bs).2.1).1 ((ppB bs).1 && (nxn 2 (ppB bs).2.1).2.1) (nxn 2 (ppB bs).2.1).2.2 []).2.1⟩ := rfl
theorem body_no1 {bs : List UInt8} (h : (ppB bs).1 = false) : okB (pdB bs) = false := by
 refine ok_no (.inl ?_);rw [pdB_eq]
 show (pdR _ ((ppB bs).1 && _) _ _).1 = false
 rw [h, Bool.false_and];exact pd_false _ _ _
theorem body_n {bs : List UInt8} (h : (nxn 2 bs).2.1 = false ∨ 64 < (nxn 2 bs).1) : okB (pdB bs) = false := by
 rcases h with h | h
 ·refine body_no1 ?_
  unfold ppB
  rw [h];exact pp_false _ _ _
 ·by_cases hw : (ppB bs).1 = true
  ·refine ok_no (.inr (ref_many ?_));have := pp_len _ _ _ _ hw;have e : (pdB bs).ps = (ppB bs).2.2 := rfl;rw [e]
   show 64 < (ppB bs).2.2.length + _
   have h2 : (ppB bs).2.2.length = 0 + (nxn 2 bs).1 := this
   omega
  ·exact body_no1 (by cases hb : (ppB bs).1 with | true => exact absurd hb hw | false => rfl)
theorem body_p {bs vs : List UInt8} {k : Nat} {acc : List Rw} (hn : (nxn 2 bs).2.1 = true) (h : Rdp k (nxn 2 bs).2.2 acc vs) (hk : k < (nxn 2 bs).1) (hv : okP vs = false) : okB (pdB bs) = false := by
 have e : ppB bs = ppR ((nxn 2 bs).1 - k - 1 + 1) true vs acc := by
  unfold ppB
  rw [hn, ← h.pp]
  congr 1
  omega
 have e2 : ppB bs = ppR ((nxn 2 bs).1 - k - 1) ((nxt 262144 vs).2.1 && (nxt 262144 (nxt 262144 vs).2.2).2.1) (nxt 262144 (nxt 262144 vs).2.2).2.2 (acc ++ [⟨(nxt 262144 vs).1, (nxt 262144 (nxt 262144 vs).2.2).1⟩]) := e
 cases hf : ((nxt 262144 vs).2.1 && (nxt 262144 (nxt 262144 vs).2.2).2.1) with
 | false =>
  refine body_no1 ?_;rw [e2, hf];exact pp_false _ _ _
 | true =>
  have hf1 : (nxt 262144 vs).2.1 = true := by simp only [Bool.and_eq_true] at hf; exact hf.1
  have hf2 : (nxt 262144 (nxt 262144 vs).2.2).2.1 = true := by simp only [Bool.and_eq_true] at hf; exact hf.2
  have h64 : (nxt 64 vs).2.1 = false := by
   cases h9 : (nxt 64 vs).2.1 with
   | false => rfl
   | true =>
    unfold okP at hv
    rw [h9, Bool.true_and, ← nxt_up h9, hf2] at hv
    cases hv
  have hb := nxt_big h64 hf1;refine ok_no (.inr (ref_big (k := (nxt 262144 vs).1) ?_ hb));have hm : (⟨(nxt 262144 vs).1, (nxt 262144 (nxt 262144 vs).2.2).1⟩ : Rw) ∈ (ppB bs).2.2 := by
   rw [e2];exact pp_keep _ _ _ _ _ (by simp)
  show _ ∈ keysOf (ppB bs).2.2 _
  exact List.mem_append_left _ (List.mem_map.2 ⟨_, hm, rfl⟩)
/-! keys, read with their bound -/
inductive Rdd : Nat → List UInt8 → List ByteArray → List UInt8 → Prop
 | zero (us : List UInt8) : Rdd 0 us [] us
 | succ {k : Nat} {us vs : List UInt8} {acc : List ByteArray} : Rdd k us acc vs → (nxt 64 vs).2.1 = true → Rdd (k + 1) us (acc ++ [(nxt 64 vs).1]) (nxt 64 vs).2.2
theorem Rdd.len {k : Nat} {us vs : List UInt8} {acc : List ByteArray} (h : Rdd k us acc vs) : acc.length = k ∧ vs.length ≤ us.length := by
 induction h with
 | zero us => exact ⟨rfl, Nat.le_refl _⟩
 | succ h hk ih => exact ⟨by rw [List.length_append, ih.1]; rfl, Nat.le_trans (nxt_rest _) ih.2⟩
theorem Rdd.pd {k : Nat} {us vs : List UInt8} {acc : List ByteArray} (h : Rdd k us acc vs) : ∀ m, pdR (k + m) true us [] = pdR m true vs acc := by
 induction h with
 | zero us => intro m; rw [Nat.zero_add]
 | @succ k us vs acc h hk ih =>
  intro m;have := ih (m + 1);rw [show k + 1 + m = k + (m + 1) by omega, this]
  show pdR m (nxt 262144 vs).2.1 (nxt 262144 vs).2.2 (acc ++ [(nxt 262144 vs).1]) = _
  rw [nxt_up hk, hk]
theorem Rdp.all {bs vs : List UInt8} {acc : List Rw} (hn : (nxn 2 bs).2.1 = true) (h : Rdp (nxn 2 bs).1 (nxn 2 bs).2.2 acc vs) : ppB bs = (true, vs, acc) := by
 unfold ppB
 rw [hn];have := h.pp 0;rw [Nat.add_zero] at this;rw [this]
 rfl
theorem body_m {bs vs : List UInt8} {acc : List Rw} (hp : ppB bs = (true, vs, acc)) (h : (nxn 2 vs).2.1 = false ∨ 64 < (nxn 2 vs).1) : okB (pdB bs) = false := by
 have e := pdB_eq bs;rw [hp] at e
 simp only [Bool.true_and] at e
 rcases h with h | h
 ·refine ok_no (.inl ?_);rw [e]
  show (pdR _ (nxn 2 vs).2.1 _ _).1 = false
  rw [h];exact pd_false _ _ _
 ·cases hw : (pdR (nxn 2 vs).1 (nxn 2 vs).2.1 (nxn 2 vs).2.2 []).1 with
  | false => exact ok_no (.inl (by rw [e]; exact hw))
  | true =>
   refine ok_no (.inr (ref_many ?_));have := pd_len _ _ _ _ hw;rw [e]
   show 64 < acc.length + (pdR _ _ _ _).2.2.length
   rw [this]
   simp only [List.length_nil]
   omega
theorem body_d {bs vs us : List UInt8} {acc : List Rw} {k : Nat} {dd : List ByteArray} (hp : ppB bs = (true, vs, acc)) (hm : (nxn 2 vs).2.1 = true) (h : Rdd k (nxn 2 vs).2.2 dd us) (hk : k < (nxn 2 vs).1) (hv : (nxt 64 us).2.1 = false) : okB (pdB bs) = false := by
 have e := pdB_eq bs;rw [hp] at e
 simp only [Bool.true_and] at e
 have e2 : pdR (nxn 2 vs).1 (nxn 2 vs).2.1 (nxn 2 vs).2.2 [] = pdR ((nxn 2 vs).1 - k - 1) (nxt 262144 us).2.1 (nxt 262144 us).2.2 (dd ++ [(nxt 262144 us).1]) := by
  rw [hm];have h9 := h.pd ((nxn 2 vs).1 - k - 1 + 1);rw [show k + ((nxn 2 vs).1 - k - 1 + 1) = (nxn 2 vs).1 by omega] at h9;rw [h9]
  rfl
 cases hf : (nxt 262144 us).2.1 with
 | false =>
  refine ok_no (.inl ?_);rw [e, e2, hf];exact pd_false _ _ _
 | true =>
  refine ok_no (.inr (ref_big (k := (nxt 262144 us).1) ?_ (nxt_big hv hf)));rw [e, e2];exact List.mem_append_right _ (pd_keep _ _ _ _ _ (by simp))
theorem body_yes {bs vs us : List UInt8} {acc : List Rw} {dd : List ByteArray} (hp : ppB bs = (true, vs, acc)) (hm : (nxn 2 vs).2.1 = true) (h : Rdd (nxn 2 vs).1 (nxn 2 vs).2.2 dd us) : pdB bs = ⟨true, acc, dd, us⟩ := by
 have e := pdB_eq bs;rw [hp] at e
 simp only [Bool.true_and] at e
 have e2 : pdR (nxn 2 vs).1 (nxn 2 vs).2.1 (nxn 2 vs).2.2 [] = (true, us, dd) := by
  rw [hm];have h9 := h.pd 0;rw [Nat.add_zero] at h9;rw [h9]
  rfl
 rw [e, e2]
end Go.Proofs.YtckmlaempffpjaaGreat
namespace Go.Proofs.YtckmlaempffpjaaGreat
set_option linter.unusedVariables false
set_option maxRecDepth 100000
set_option maxHeartbeats 4000000
open Go.RowKit Go.Proofs.Tryz
abbrev bs0 (w : World) : Base := bs w
theorem rbody_any {w : World} (bs : List UInt8) (hl : bs.length ≤ 1000000000) :
  Calls prog 72 #[.string (bB bs)] w fun e w' => ∃ vp vd N, e = .returned (.tuple #[vp, vd, .bool (okB (pdB bs))]) ∧ (okB (pdB bs) = true → ∃ Np Nd, Row 64 2 vp (pdB bs).ps.length (rcl (pdB bs).ps) Np ∧ Row 9 1 vd (pdB bs).ds.length (scl (pdB bs).ds) Nd ∧ (∀ y, y ∈ Np ∨ y ∈ Nd → y ∈ N)) ∧ HA (bs0 w) N w' := by
 have H0 : HA (bs0 w) [] w := HA.start w
 go_enter Tryz.func72, Tryz.ntmps72
 refine zsr ?_;refine zwv (.slice none 0 0) ?_;refine zwv (.slice none 0 0) ?_;refine zwv (.bool false) ?_;refine znt (zsr ?_);refine zwv (.string (bB bs)) ?_;refine wl_callx enter68 #[.string (bB bs)] (rnew_H (L := []) H0 bs) ?_;rintro _ w1 ⟨b, rfl, hnw⟩;refine ⟨_, rfl, ?_⟩;refine zwv (pq b) ?_;refine znt (zsr ?_);refine zwv (.slice none 0 0) ?_;refine znt (zsr ?_);refine zwv (.slice none 0 0) ?_;refine znt (zsr ?_);refine zwv (pq b) ?_;refine wl_callx enter69 #[pq b, i6 2] (rnum_H hnw 2 (by decide) (by decide)) ?_;rintro _ w3 ⟨rfl, hnu2⟩;refine ⟨_, rfl, ?_⟩;refine zwv (.tuple #[iN .u64 ((nxn 2 bs).1), .bool ((nxn 2 bs).2.1)]) ?_;refine zwv (iN .u64 ((nxn 2 bs).1)) ?_;refine zwv (.bool ((nxn 2 bs).2.1)) ?_;refine zwv (iN .u64 ((nxn 2 bs).1)) ?_;refine zwv (.bool ((nxn 2 bs).2.1)) ?_;refine znt (wp_seq (wp_seq ?_))
 cases hokn : (nxn 2 bs).2.1
 ·refine wl_region ?_;refine zwv (.bool false) ?_;refine zwv (.bool true) ?_;refine zwv (.bool true) ?_;refine wl_skip ?_;refine wl_skip ?_;refine zwv (.bool true) ?_;refine znt (zct (zsr ?_));refine zwv (.slice none 0 0) ?_;refine zwv (.slice none 0 0) ?_;refine zwv (.bool false) ?_;refine znt ?_;refine wp_ret ?_
  repeat first|refine zrt ?_|refine block_ret ?_
  exact zb (v := .tuple #[.slice none 0 0, .slice none 0 0, .bool false]) ⟨_, _, _, (by rw [body_n (.inl hokn)]), (fun h => absurd h (by rw [body_n (.inl hokn)]; decide)), hnu2⟩
 ·by_cases h64n : 64 < (nxn 2 bs).1
  ·refine wl_region ?_;refine zwv (.bool true) ?_;refine zwv (.bool false) ?_;refine zwv (.bool false) ?_;refine zwv (iN .u64 ((nxn 2 bs).1)) ?_;refine zwu (run_gtr (k := .u64) (a := (nxn 2 bs).1) (b := 64) true (dt h64n)) ?_;refine zwv (.bool true) ?_;refine znt (zct (zsr ?_));refine zwv (.slice none 0 0) ?_;refine zwv (.slice none 0 0) ?_;refine zwv (.bool false) ?_;refine znt ?_;refine wp_ret ?_
   repeat first|refine zrt ?_|refine block_ret ?_
   exact zb (v := .tuple #[.slice none 0 0, .slice none 0 0, .bool false]) ⟨_, _, _, (by rw [body_n (.inr h64n)]), (fun h => absurd h (by rw [body_n (.inr h64n)]; decide)), hnu2⟩
  ·refine wl_region ?_;refine zwv (.bool true) ?_;refine zwv (.bool false) ?_;refine zwv (.bool false) ?_;refine zwv (iN .u64 ((nxn 2 bs).1)) ?_;refine zwu (run_gtr (k := .u64) (a := (nxn 2 bs).1) (b := 64) false (df h64n)) ?_;refine zwv (.bool false) ?_;refine znt (zcf (wp_skip (zt (wp_seq (zsr ?_)))));refine zwv (iN .u64 0) ?_;refine znt ?_;refine wp_block ?_;refine zcn (fun Z0 k A w' => ∃ u4 : Nat → Value, A = pts Z0 [(2, u4 2), (3, u4 3), (4, u4 4), (6, u4 6), (10, iN .u64 k), (11, u4 11), (12, u4 12), (13, u4 13), (14, u4 14), (32, u4 32), (33, u4 33), (34, u4 34), (35, u4 35), (36, u4 36), (37, u4 37), (38, u4 38), (39, u4 39), (40, u4 40), (41, u4 41), (42, u4 42), (43, u4 43), (44, u4 44), (45, u4 45), (46, u4 46), (47, u4 47), (48, u4 48), (49, u4 49), (50, u4 50), (51, u4 51), (52, u4 52), (53, u4 53), (54, u4 54), (55, u4 55), (56, u4 56), (57, u4 57), (58, u4 58)] ∧ ∃ vs acc vp N, Rdp k (nxn 2 bs).2.2 acc vs ∧ Row 64 2 vp acc.length (rcl acc) N ∧ u4 6 = vp ∧ HA (bs0 w) ((b, 165, #[.string (bB vs)]) :: (N ++ [])) w') ((nxn 2 bs).1) ?_ ?_ ?_
   ·exact zey [(6, .slice none 0 0)] ⟨(nxn 2 bs).2.2, [], _, [], Rdp.zero _, Row.nil 64 2, rfl, hnu2⟩
   ·rintro k hk _ w5 ⟨u4, rfl, vs, acc, vp, N, hrd, hRp, rfl, hL⟩;have hrl := hrd.len;have hre := nxn_rest 2 bs;refine wp_seq (zsr ?_);refine zwv (iN .u64 k) ?_;refine zwv (iN .u64 ((nxn 2 bs).1)) ?_;refine zwu (run_lss (k := .u64) (a := k) (b := (nxn 2 bs).1) true (dt (by omega))) ?_;refine znt (zct (wp_skip (zt (wp_seq ?_))));refine wp_block ?_;refine zsr ?_;refine zwv (pq b) ?_;refine wl_callx enter115 #[pq b, i6 64] (rtext_H hL 64 (by decide) (by first | omega | (have h7 := nxt_rest (m := 64) vs; omega))) ?_;rintro _ w7 ⟨rfl, htx6⟩;refine ⟨_, rfl, ?_⟩;refine zwv (.tuple #[.string ((nxt 64 vs).1), .bool ((nxt 64 vs).2.1)]) ?_;refine zwv (.string ((nxt 64 vs).1)) ?_;refine zwv (.bool ((nxt 64 vs).2.1)) ?_;refine zwv (.string ((nxt 64 vs).1)) ?_;refine zwv (.bool ((nxt 64 vs).2.1)) ?_;refine znt (zsr ?_);refine zwv (pq b) ?_;refine wl_callx enter115 #[pq b, i6 262144] (rtext_H htx6 262144 (by decide) (by first | omega | (have h7 := nxt_rest (m := 64) vs; omega))) ?_;rintro _ w9 ⟨rfl, htx8⟩;refine ⟨_, rfl, ?_⟩;refine zwv (.tuple #[.string ((nxt 262144 ((nxt 64 vs).2.2)).1), .bool ((nxt 262144 ((nxt 64 vs).2.2)).2.1)]) ?_;refine zwv (.string ((nxt 262144 ((nxt 64 vs).2.2)).1)) ?_;refine zwv (.bool ((nxt 262144 ((nxt 64 vs).2.2)).2.1)) ?_;refine zwv (.string ((nxt 262144 ((nxt 64 vs).2.2)).1)) ?_;refine zwv (.bool ((nxt 262144 ((nxt 64 vs).2.2)).2.1)) ?_;refine znt (wp_seq (wp_seq ?_))
    cases ha1 : (nxt 64 vs).2.1
    ·have hokp : okP vs = false := by unfold okP; rw [ha1]; rfl
     refine wl_region ?_;refine zwv (.bool false) ?_;refine zwv (.bool true) ?_;refine zwv (.bool true) ?_;refine wl_skip ?_;refine wl_skip ?_;refine zwv (.bool true) ?_;refine znt (zct (zsr ?_));refine zwv (.slice none 0 0) ?_;refine zwv (.slice none 0 0) ?_;refine zwv (.bool false) ?_;refine znt ?_;refine wp_ret ?_
     repeat first|refine zrt ?_|refine block_ret ?_
     exact zb (v := .tuple #[.slice none 0 0, .slice none 0 0, .bool false]) ⟨_, _, _, (by rw [body_p hokn hrd hk hokp]), (fun h => absurd h (by rw [body_p hokn hrd hk hokp]; decide)), htx8⟩
    ·cases hb1 : (nxt 262144 (nxt 64 vs).2.2).2.1
     ·have hokp : okP vs = false := by unfold okP; rw [ha1, hb1]; rfl
      refine wl_region ?_;refine zwv (.bool true) ?_;refine zwv (.bool false) ?_;refine zwv (.bool false) ?_;refine zwv (.bool false) ?_;refine zwv (.bool true) ?_;refine zwv (.bool true) ?_;refine znt (zct (zsr ?_));refine zwv (.slice none 0 0) ?_;refine zwv (.slice none 0 0) ?_;refine zwv (.bool false) ?_;refine znt ?_;refine wp_ret ?_
      repeat first|refine zrt ?_|refine block_ret ?_
      exact zb (v := .tuple #[.slice none 0 0, .slice none 0 0, .bool false]) ⟨_, _, _, (by rw [body_p hokn hrd hk hokp]), (fun h => absurd h (by rw [body_p hokn hrd hk hokp]; decide)), htx8⟩
     ·have hokp : okP vs = true := by unfold okP; rw [ha1, hb1]; rfl
      refine wl_region ?_;refine zwv (.bool true) ?_;refine zwv (.bool false) ?_;refine zwv (.bool false) ?_;refine zwv (.bool true) ?_;refine zwv (.bool false) ?_;refine zwv (.bool false) ?_;refine znt (zcf (wp_skip (zt (wl_region ?_))));refine zwv (u4 6) ?_;refine zwv (.string ((nxt 64 vs).1)) ?_;refine zwv (.string ((nxt 262144 ((nxt 64 vs).2.2)).1)) ?_;refine zwv (.agg #[.string ((nxt 64 vs).1), .string ((nxt 262144 ((nxt 64 vs).2.2)).1)]) ?_;refine wl_mks (n := 1) (m := 1) (c := #[.string ((nxt 64 vs).1), .string ((nxt 262144 ((nxt 64 vs).2.2)).1)]) htx8 64 ?_;intro q10 w11 h12;have h13 := h12.perm (List.Perm.cons _ (perm_mv [(b, 165, #[.string (bB ((nxt 262144 ((nxt 64 vs).2.2)).2.2))])] N []));refine wl_append (Lr := N) (L := [(b, 165, #[.string (bB ((nxt 262144 ((nxt 64 vs).2.2)).2.2))])] ++ []) (m := 1) (c := 1) hRp h13 (.agg #[.string { data := #[] }, .string { data := #[] }]) 32 underlying30 info64 rfl rfl (by unfold maxLen; omega) (by omega) ?_;intro v14 w15 N14 hR14 h16;have h17 : HA (bs0 w) ((b, 165, #[.string (bB ((nxt 262144 ((nxt 64 vs).2.2)).2.2))]) :: (N14 ++ [])) w15 := h16.perm (perm_mv [(b, 165, #[.string (bB ((nxt 262144 ((nxt 64 vs).2.2)).2.2))])] N14 []).symm;refine zwv (v14) ?_;refine wl_nil ?_;refine block_normal ?_;refine zt (wl_region ?_);refine zwv (iN .u64 k) ?_;refine zwu (run_add (k := .u64) (a := k) (b := 1) (by first | omega | (simp only [top]; omega))) ?_;refine zwv (iN .u64 (k + 1)) ?_;refine wl_nil ?_;exact then_I (zey [(6, v14)] ⟨reP vs, acc ++ [rwP vs], _, N14, Rdp.succ hrd hokp, (by rw [rcl_snoc, List.length_append]; exact hR14), rfl, h17⟩)
   ·rintro _ w18 ⟨u4, rfl, vs, acc, vp, N, hrd, hRp, rfl, hL⟩;have hrl := hrd.len;have hre := nxn_rest 2 bs;refine wp_seq (zsr ?_);refine zwv (iN .u64 ((nxn 2 bs).1)) ?_;refine zwv (iN .u64 ((nxn 2 bs).1)) ?_;refine zwu (run_lss (k := .u64) (a := (nxn 2 bs).1) (b := (nxn 2 bs).1) false (df (by omega))) ?_;refine znt (zcf ?_);refine wp_exit ?_
    repeat first | refine then_exit ?_ | refine block_exit ?_ | refine block_exit_ne (by decide) ?_
    refine zt (wp_seq ?_);have hall := Rdp.all hokn hrd;refine wl_region ?_;refine zwv (pq b) ?_;refine wl_callx enter69 #[pq b, i6 2] (rnum_H hL 2 (by decide) (by decide)) ?_;rintro _ w20 ⟨rfl, hnu19⟩;refine ⟨_, rfl, ?_⟩;refine zwv (.tuple #[iN .u64 ((nxn 2 vs).1), .bool ((nxn 2 vs).2.1)]) ?_;refine zwv (iN .u64 ((nxn 2 vs).1)) ?_;refine zwv (.bool ((nxn 2 vs).2.1)) ?_;refine zwv (iN .u64 ((nxn 2 vs).1)) ?_;refine zwv (.bool ((nxn 2 vs).2.1)) ?_;refine znt (wp_seq (wp_seq ?_))
    cases hokm : (nxn 2 vs).2.1
    ·refine wl_region ?_;refine zwv (.bool false) ?_;refine zwv (.bool true) ?_;refine zwv (.bool true) ?_;refine wl_skip ?_;refine wl_skip ?_;refine zwv (.bool true) ?_;refine znt (zct (zsr ?_));refine zwv (.slice none 0 0) ?_;refine zwv (.slice none 0 0) ?_;refine zwv (.bool false) ?_;refine znt ?_;refine wp_ret ?_
     repeat first|refine zrt ?_|refine block_ret ?_
     exact zb (v := .tuple #[.slice none 0 0, .slice none 0 0, .bool false]) ⟨_, _, _, (by rw [body_m hall (.inl hokm)]), (fun h => absurd h (by rw [body_m hall (.inl hokm)]; decide)), hnu19⟩
    ·by_cases h64m : 64 < (nxn 2 vs).1
     ·refine wl_region ?_;refine zwv (.bool true) ?_;refine zwv (.bool false) ?_;refine zwv (.bool false) ?_;refine zwv (iN .u64 ((nxn 2 vs).1)) ?_;refine zwu (run_gtr (k := .u64) (a := (nxn 2 vs).1) (b := 64) true (dt h64m)) ?_;refine zwv (.bool true) ?_;refine zna ⟨(.string (bB bs) :: un :: u4 2 :: u4 3 :: u4 4 :: pt b :: u4 6 :: .slice none 0 0 :: iN .u64 ((nxn 2 bs).1) :: .bool true :: iN .u64 ((nxn 2 bs).1) :: u4 11 :: u4 12 :: u4 13 :: u4 14 :: iN .u64 ((nxn 2 vs).1) :: un :: un :: un :: .string (bB bs) :: pt b :: .tuple #[iN .u64 ((nxn 2 bs).1), .bool true] :: pt b :: .tuple #[iN .u64 ((nxn 2 bs).1), .bool true] :: iN .u64 ((nxn 2 bs).1) :: .bool true :: .bool true :: .bool false :: .bool false :: iN .u64 ((nxn 2 bs).1) :: .bool false :: .bool false :: iN .u64 ((nxn 2 bs).1) :: iN .u64 ((nxn 2 bs).1) :: .bool false :: u4 35 :: u4 36 :: u4 37 :: u4 38 :: u4 39 :: u4 40 :: u4 41 :: u4 42 :: u4 43 :: u4 44 :: u4 45 :: u4 46 :: u4 47 :: u4 48 :: u4 49 :: u4 50 :: u4 51 :: u4 52 :: u4 53 :: u4 54 :: u4 55 :: u4 56 :: u4 57 :: u4 58 :: .tuple #[iN .u64 ((nxn 2 vs).1), .bool true] :: pt b :: .tuple #[iN .u64 ((nxn 2 vs).1), .bool true] :: iN .u64 ((nxn 2 vs).1) :: .bool true :: .bool true :: .bool false :: .bool false :: iN .u64 ((nxn 2 vs).1) :: .bool true :: .bool true :: List.replicate 35 un).toArray, []⟩ ?_;refine zct (zsr ?_);refine zwv (.slice none 0 0) ?_;refine zwv (.slice none 0 0) ?_;refine zwv (.bool false) ?_;refine znt ?_;refine wp_ret ?_
      repeat first|refine zrt ?_|refine block_ret ?_
      exact zb (v := .tuple #[.slice none 0 0, .slice none 0 0, .bool false]) ⟨_, _, _, (by rw [body_m hall (.inr h64m)]), (fun h => absurd h (by rw [body_m hall (.inr h64m)]; decide)), hnu19⟩
     ·refine wl_region ?_;refine zwv (.bool true) ?_;refine zwv (.bool false) ?_;refine zwv (.bool false) ?_;refine zwv (iN .u64 ((nxn 2 vs).1)) ?_;refine zwu (run_gtr (k := .u64) (a := (nxn 2 vs).1) (b := 64) false (df h64m)) ?_;refine zwv (.bool false) ?_;refine znt (zcf (wp_skip (zt (wp_seq (zsr ?_)))));refine zwv (iN .u64 0) ?_;refine znt ?_;refine wp_block ?_;refine zcn (fun Z0 k A w' => ∃ u21 : Nat → Value, A = pts Z0 [(2, u21 2), (3, u21 3), (4, u21 4), (7, u21 7), (16, iN .u64 k), (17, u21 17), (18, u21 18), (70, u21 70), (71, u21 71), (72, u21 72), (73, u21 73), (74, u21 74), (75, u21 75), (76, u21 76), (77, u21 77), (78, u21 78), (79, u21 79), (80, u21 80), (81, u21 81), (82, u21 82), (83, u21 83), (84, u21 84), (85, u21 85)] ∧ ∃ us dd vd N2, Rdd k (nxn 2 vs).2.2 dd us ∧ Row 9 1 vd dd.length (scl dd) N2 ∧ u21 7 = vd ∧ HA (bs0 w) ((b, 165, #[.string (bB us)]) :: (N2 ++ (N ++ []))) w') ((nxn 2 vs).1) ?_ ?_ ?_
      ·exact zey [(7, .slice none 0 0)] ⟨(nxn 2 vs).2.2, [], _, [], Rdd.zero _, Row.nil 9 1, rfl, hnu19⟩
      ·rintro k hk _ w22 ⟨u21, rfl, us, dd, vd, N2, hrd2, hRd, rfl, hL2⟩;have hrl2 := hrd2.len;have hre2 := nxn_rest 2 vs;refine wp_seq (zsr ?_);refine zwv (iN .u64 k) ?_;refine zwv (iN .u64 ((nxn 2 vs).1)) ?_;refine zwu (run_lss (k := .u64) (a := k) (b := (nxn 2 vs).1) true (dt (by omega))) ?_;refine znt (zct (wp_skip (zt (wp_seq ?_))));refine wp_block ?_;refine zsr ?_;refine zwv (pq b) ?_;refine wl_callx enter115 #[pq b, i6 64] (rtext_H hL2 64 (by decide) (by first | omega | (have h7 := nxt_rest (m := 64) vs; omega))) ?_;rintro _ w24 ⟨rfl, htx23⟩;refine ⟨_, rfl, ?_⟩;refine zwv (.tuple #[.string ((nxt 64 us).1), .bool ((nxt 64 us).2.1)]) ?_;refine zwv (.string ((nxt 64 us).1)) ?_;refine zwv (.bool ((nxt 64 us).2.1)) ?_;refine zwv (.string ((nxt 64 us).1)) ?_;refine zwv (.bool ((nxt 64 us).2.1)) ?_;refine znt (wp_seq (wp_seq ?_))
       cases hd1 : (nxt 64 us).2.1
       ·refine wl_region ?_;refine zwv (.bool false) ?_;refine zwv (.bool true) ?_;refine znt (zct (zsr ?_));refine zwv (.slice none 0 0) ?_;refine zwv (.slice none 0 0) ?_;refine zwv (.bool false) ?_;refine znt ?_;refine wp_ret ?_
        repeat first|refine zrt ?_|refine block_ret ?_
        exact zb (v := .tuple #[.slice none 0 0, .slice none 0 0, .bool false]) ⟨_, _, _, (by rw [body_d hall hokm hrd2 hk hd1]), (fun h => absurd h (by rw [body_d hall hokm hrd2 hk hd1]; decide)), htx23⟩
       ·refine wl_region ?_;refine zwv (.bool true) ?_;refine zwv (.bool false) ?_;refine znt (zcf (wp_skip (zt (wl_region ?_))));refine zwv (u21 7) ?_;refine zwv (.string ((nxt 64 us).1)) ?_;refine wl_mks (n := 1) (m := 1) (c := #[.string ((nxt 64 us).1)]) htx23 9 ?_;intro q25 w26 h27;have h28 := h27.perm (List.Perm.cons _ (perm_mv [(b, 165, #[.string (bB ((nxt 64 us).2.2))])] N2 (N ++ [])));refine wl_append (Lr := N2) (L := [(b, 165, #[.string (bB ((nxt 64 us).2.2))])] ++ (N ++ [])) (m := 1) (c := 1) hRd h28 (.string { data := #[] }) 16 underlying39 info9s rfl rfl (by unfold maxLen; omega) (by omega) ?_;intro v29 w30 N29 hR29 h31;have h32 : HA (bs0 w) ((b, 165, #[.string (bB ((nxt 64 us).2.2))]) :: (N29 ++ (N ++ []))) w30 := h31.perm (perm_mv [(b, 165, #[.string (bB ((nxt 64 us).2.2))])] N29 (N ++ [])).symm;refine zwv (v29) ?_;refine wl_nil ?_;refine block_normal ?_;refine zt (wl_region ?_);refine zwv (iN .u64 k) ?_;refine zwu (run_add (k := .u64) (a := k) (b := 1) (by first | omega | (simp only [top]; omega))) ?_;refine zwv (iN .u64 (k + 1)) ?_;refine wl_nil ?_;exact then_I (zey [(7, v29)] ⟨(nxt 64 us).2.2, dd ++ [(nxt 64 us).1], _, N29, Rdd.succ hrd2 hd1, (by rw [scl_snoc, List.length_append]; exact hR29), rfl, h32⟩)
      ·rintro _ w33 ⟨u21, rfl, us, dd, vd, N2, hrd2, hRd, rfl, hL2⟩;have hrl2 := hrd2.len;have hre2 := nxn_rest 2 vs;refine wp_seq (zsr ?_);refine zwv (iN .u64 ((nxn 2 vs).1)) ?_;refine zwv (iN .u64 ((nxn 2 vs).1)) ?_;refine zwu (run_lss (k := .u64) (a := (nxn 2 vs).1) (b := (nxn 2 vs).1) false (df (by omega))) ?_;refine znt (zcf ?_);refine wp_exit ?_
       repeat first | refine then_exit ?_ | refine block_exit ?_ | refine block_exit_ne (by decide) ?_
       refine zt (wp_seq ?_);have hyes := body_yes hall hokm hrd2;obtain ⟨pp9, cp9, hvp9⟩ := hRp.form;rw [hvp9] at hRp ⊢;obtain ⟨pd9, cd9, hvd9⟩ := hRd.form;rw [hvd9] at hRd ⊢
       by_cases hz1 : us.length = 0
       ·by_cases hz2 : refR acc dd = 0
        ·by_cases hz3 : 0 < acc.length + dd.length
         ·refine wl_region ?_;refine zwv (.slice pp9 acc.length cp9) ?_;refine zwv (.slice pd9 dd.length cd9) ?_;refine zwv (pq b) ?_;refine wl_call (v := i6 us.length) hL2 enter70 #[pq b] (rleft_H hL2) ?_;intro w34 h35;refine zwu (run_eqi (k := .i64) (a := us.length) (b := 0) true (dt hz1)) ?_;refine zwv (.bool true) ?_;refine zwv (.slice pp9 acc.length cp9) ?_;refine zwv (.slice pd9 dd.length cd9) ?_;refine wl_call (v := i6 (refR acc dd)) h35 enter83 #[.slice pp9 acc.length cp9, .slice pd9 dd.length cd9] (rmay_any (po := pp9) (do_ := pd9) (pc := cp9) (dc := cd9) (Row.rows hRp (fun y hy => h35.blk y (by simp [hy]))) (Row.keys hRd (fun y hy => h35.blk y (by simp [hy]))) (by omega) (by omega)) ?_;intro w36 h37;refine zwu (run_eqi (k := .i64) (a := refR acc dd) (b := 0) true (dt hz2)) ?_;refine zwv (.bool true) ?_;refine zwv (.bool true) ?_;refine zwv (.slice pp9 acc.length cp9) ?_;refine zwv (i6 acc.length) ?_;refine zwv (.slice pd9 dd.length cd9) ?_;refine zwv (i6 dd.length) ?_;refine zwu (run_add (k := .i64) (a := acc.length) (b := dd.length) (by first | omega | (simp only [top]; omega))) ?_;refine zwu (run_gtr (k := .i64) (a := acc.length + dd.length) (b := 0) true (dt hz3)) ?_;refine zwv (.bool true) ?_;refine zwv (.slice pp9 acc.length cp9) ?_;refine zwv (.slice pd9 dd.length cd9) ?_;refine zwv (.bool true) ?_;refine znt ?_;refine wp_ret ?_
          repeat first|refine zrt ?_|refine block_ret ?_
          exact zb (v := .tuple #[.slice pp9 acc.length cp9, .slice pd9 dd.length cd9, .bool true]) ⟨_, _, _, (by rw [show okB (pdB bs) = true from (by rw [hyes]; unfold okB; rw [decide_eq_true hz1, decide_eq_true hz2, decide_eq_true (show acc.length + dd.length ≠ 0 by omega)]; rfl)]), (fun _ => ⟨_, _, (by rw [hyes]; exact hRp), (by rw [hyes]; exact hRd), (fun y hy => by simp only [List.append_nil, List.mem_append] at *; exact hy.elim .inr .inl)⟩), h37.sub (List.sublist_cons_self _ _)⟩
         ·refine wl_region ?_;refine zwv (.slice pp9 acc.length cp9) ?_;refine zwv (.slice pd9 dd.length cd9) ?_;refine zwv (pq b) ?_;refine wl_call (v := i6 us.length) hL2 enter70 #[pq b] (rleft_H hL2) ?_;intro w38 h39;refine zwu (run_eqi (k := .i64) (a := us.length) (b := 0) true (dt hz1)) ?_;refine zwv (.bool true) ?_;refine zwv (.slice pp9 acc.length cp9) ?_;refine zwv (.slice pd9 dd.length cd9) ?_;refine wl_call (v := i6 (refR acc dd)) h39 enter83 #[.slice pp9 acc.length cp9, .slice pd9 dd.length cd9] (rmay_any (po := pp9) (do_ := pd9) (pc := cp9) (dc := cd9) (Row.rows hRp (fun y hy => h39.blk y (by simp [hy]))) (Row.keys hRd (fun y hy => h39.blk y (by simp [hy]))) (by omega) (by omega)) ?_;intro w40 h41;refine zwu (run_eqi (k := .i64) (a := refR acc dd) (b := 0) true (dt hz2)) ?_;refine zwv (.bool true) ?_;refine zwv (.bool true) ?_;refine zwv (.slice pp9 acc.length cp9) ?_;refine zwv (i6 acc.length) ?_;refine zwv (.slice pd9 dd.length cd9) ?_;refine zwv (i6 dd.length) ?_;refine zwu (run_add (k := .i64) (a := acc.length) (b := dd.length) (by first | omega | (simp only [top]; omega))) ?_;refine zwu (run_gtr (k := .i64) (a := acc.length + dd.length) (b := 0) false (df hz3)) ?_;refine zwv (.bool false) ?_;refine zwv (.slice pp9 acc.length cp9) ?_;refine zwv (.slice pd9 dd.length cd9) ?_;refine zwv (.bool false) ?_;refine znt ?_;refine wp_ret ?_
          repeat first|refine zrt ?_|refine block_ret ?_
          exact zb (v := .tuple #[.slice pp9 acc.length cp9, .slice pd9 dd.length cd9, .bool false]) ⟨_, _, _, (by rw [show okB (pdB bs) = false from (by rw [hyes]; unfold okB; rw [decide_eq_false (show ¬ (acc.length + dd.length ≠ 0) by omega)]; simp)]), (fun _ => ⟨_, _, (by rw [hyes]; exact hRp), (by rw [hyes]; exact hRd), (fun y hy => by simp only [List.append_nil, List.mem_append] at *; exact hy.elim .inr .inl)⟩), h41.sub (List.sublist_cons_self _ _)⟩
        ·refine wl_region ?_;refine zwv (.slice pp9 acc.length cp9) ?_;refine zwv (.slice pd9 dd.length cd9) ?_;refine zwv (pq b) ?_;refine wl_call (v := i6 us.length) hL2 enter70 #[pq b] (rleft_H hL2) ?_;intro w42 h43;refine zwu (run_eqi (k := .i64) (a := us.length) (b := 0) true (dt hz1)) ?_;refine zwv (.bool true) ?_;refine zwv (.slice pp9 acc.length cp9) ?_;refine zwv (.slice pd9 dd.length cd9) ?_;refine wl_call (v := i6 (refR acc dd)) h43 enter83 #[.slice pp9 acc.length cp9, .slice pd9 dd.length cd9] (rmay_any (po := pp9) (do_ := pd9) (pc := cp9) (dc := cd9) (Row.rows hRp (fun y hy => h43.blk y (by simp [hy]))) (Row.keys hRd (fun y hy => h43.blk y (by simp [hy]))) (by omega) (by omega)) ?_;intro w44 h45;refine zwu (run_eqi (k := .i64) (a := refR acc dd) (b := 0) false (df hz2)) ?_;refine zwv (.bool false) ?_;refine zwv (.bool false) ?_;refine wl_skip ?_;refine wl_skip ?_;refine wl_skip ?_;refine wl_skip ?_;refine wl_skip ?_;refine wl_skip ?_;refine zwv (.bool false) ?_;refine zwv (.slice pp9 acc.length cp9) ?_;refine zwv (.slice pd9 dd.length cd9) ?_;refine zwv (.bool false) ?_;refine znt ?_;refine wp_ret ?_
         repeat first|refine zrt ?_|refine block_ret ?_
         exact zb (v := .tuple #[.slice pp9 acc.length cp9, .slice pd9 dd.length cd9, .bool false]) ⟨_, _, _, (by rw [show okB (pdB bs) = false from (by rw [hyes]; unfold okB; rw [decide_eq_false hz2]; simp)]), (fun _ => ⟨_, _, (by rw [hyes]; exact hRp), (by rw [hyes]; exact hRd), (fun y hy => by simp only [List.append_nil, List.mem_append] at *; exact hy.elim .inr .inl)⟩), h45.sub (List.sublist_cons_self _ _)⟩
       ·refine wl_region ?_;refine zwv (.slice pp9 acc.length cp9) ?_;refine zwv (.slice pd9 dd.length cd9) ?_;refine zwv (pq b) ?_;refine wl_call (v := i6 us.length) hL2 enter70 #[pq b] (rleft_H hL2) ?_;intro w46 h47;refine zwu (run_eqi (k := .i64) (a := us.length) (b := 0) false (df hz1)) ?_;refine zwv (.bool false) ?_;refine wl_skip ?_;refine wl_skip ?_;refine wl_skip ?_;refine wl_skip ?_;refine zwv (.bool false) ?_;refine zwv (.bool false) ?_;refine wl_skip ?_;refine wl_skip ?_;refine wl_skip ?_;refine wl_skip ?_;refine wl_skip ?_;refine wl_skip ?_;refine zwv (.bool false) ?_;refine zwv (.slice pp9 acc.length cp9) ?_;refine zwv (.slice pd9 dd.length cd9) ?_;refine zwv (.bool false) ?_;refine znt ?_;refine wp_ret ?_
        repeat first|refine zrt ?_|refine block_ret ?_
        exact zb (v := .tuple #[.slice pp9 acc.length cp9, .slice pd9 dd.length cd9, .bool false]) ⟨_, _, _, (by rw [show okB (pdB bs) = false from (by rw [hyes]; unfold okB; rw [decide_eq_false hz1]; rfl)]), (fun _ => ⟨_, _, (by rw [hyes]; exact hRp), (by rw [hyes]; exact hRd), (fun y hy => by simp only [List.append_nil, List.mem_append] at *; exact hy.elim .inr .inl)⟩), h47.sub (List.sublist_cons_self _ _)⟩
end Go.Proofs.YtckmlaempffpjaaGreat
namespace Go.Proofs.YtckmlaempffpjaaGreat
open Go.RowKit Go.Proofs.Tryz
def rplO : Nat → List Rw → List UInt8 → List Rw × List UInt8 × Bool
 | 0, rows, us => (rows, us, true)
 | n + 1, rows, us =>
  if (nxt MX us).2.1 = false then (rows, us, true)
  else if okB (pdB (bl (nxt MX us).1)) = false then (rows, us, false)
  else rplO n (chgO rows (pdB (bl (nxt MX us).1)).ps (pdB (bl (nxt MX us).1)).ds) (nxt MX us).2.2
def rplP (log : ByteArray) : List Rw × List UInt8 × Bool := rplO (log.size + 1) [] (bl log)
def opnO (D : DS) : DS × List Rw × Nat :=
 if (readD D nS).2 = 16 then (D, [], 16)
 else if (rplP (lgD D)).2.2 = false then (D, [], 4)
 else if 0 < (rplP (lgD D)).2.1.length then
  if (layD D ((lgD D).extract 0 ((lgD D).size - (rplP (lgD D)).2.1.length))).2 ≠ 0 then ((layD D ((lgD D).extract 0 ((lgD D).size - (rplP (lgD D)).2.1.length))).1, [], (layD D ((lgD D).extract 0 ((lgD D).size - (rplP (lgD D)).2.1.length))).2)
  else ((layD D ((lgD D).extract 0 ((lgD D).size - (rplP (lgD D)).2.1.length))).1, (rplP (lgD D)).1, 0)
 else (D, (rplP (lgD D)).1, 0)
/-! a frame, read by its number -/
theorem frame_no {us : List UInt8} (h : (nxn 4 us).2.1 = false ∨ (nxn 4 us).2.2.length < (nxn 4 us).1) : (nxt MX us).2.1 = false := by
 unfold nxt
 rw [if_neg];intro hc;have e : nxn 4 us = (Wi.val (us.take 4), true, us.drop 4) := by unfold nxn; exact if_pos hc.1
 rw [e] at h
 rcases h with h | h
 ·cases h
 ·have h2 : (us.drop 4).length < Wi.val (us.take 4) := h;rw [List.length_drop] at h2
  omega
theorem frame_yes {us : List UInt8} (h1 : (nxn 4 us).2.1 = true) (h2 : ¬ (nxn 4 us).2.2.length < (nxn 4 us).1) : nxt MX us = (bB ((nxn 4 us).2.2.take (nxn 4 us).1), true, us.drop (4 + (nxn 4 us).1)) := by
 have hc : 4 ≤ us.length := by
  refine Decidable.byContradiction fun h9 => ?_
  unfold nxn at h1
  rw [if_neg h9] at h1
  cases h1
 have e : nxn 4 us = (Wi.val (us.take 4), true, us.drop 4) := by unfold nxn; exact if_pos hc
 rw [e] at h2 ⊢;have h3 : Wi.val (us.take 4) ≤ us.length - 4 := by
  have h4 : ¬ (us.drop 4).length < Wi.val (us.take 4) := h2;rw [List.length_drop] at h4
  omega
 have hv : Wi.val (us.take 4) < 256 ^ 4 := by
  have := Wi.val_lt (us.take 4);rw [List.length_take, Nat.min_eq_left hc] at this;exact this
 unfold nxt
 rw [if_pos ⟨hc, Nat.le_of_lt (Nat.lt_of_lt_of_le hv (by decide)), by omega⟩]
 rfl
theorem cut_lo (s : ByteArray) (a : Nat) : s.extract a s.size = bB ((bl s).drop a) := by
 have e : s = bB (bl s) := bl_inj (by show bl s = bl (bB (bl s)); exact (bl_mk _).symm);have h := bB_drop (bl s) a;rw [← e] at h;exact h
theorem chgO_len (l ps : List Rw) (ds : List ByteArray) : (chgO l ps ds).length ≤ l.length + ps.length := by
 unfold chgO
 exact Nat.le_trans (drops_len ds _) (withs_len ps l)
theorem laid_cnt : ∀ l : List Rw, 8 * l.length ≤ laidR l
 | [] => Nat.zero_le _
 | x :: l => by
  have := laid_cnt l
  show 8 * (l.length + 1) ≤ rsz x + laidR l
  unfold rsz
  omega
theorem nxn4_len {us : List UInt8} (h : (nxn 4 us).2.1 = true) : us.length = 4 + (nxn 4 us).2.2.length := by
 unfold nxn at h ⊢
 split at h
 ·rename_i hc
  rw [if_pos hc]
  show _ = 4 + (us.drop 4).length
  rw [List.length_drop]
  omega
 ·cases h
theorem rplO_no {n : Nat} {rows : List Rw} {us : List UInt8} (h : (nxt MX us).2.1 = false) : rplO (n + 1) rows us = (rows, us, true) := by
 rw [rplO, if_pos h]
theorem rplO_bad {n : Nat} {rows : List Rw} {us vs bd : List UInt8} (h : nxt MX us = (bB bd, true, vs)) (hb : okB (pdB bd) = false) : rplO (n + 1) rows us = (rows, us, false) := by
 have e : bl (bB bd) = bd := bl_mk bd;rw [rplO, h, if_neg (fun h => Bool.noConfusion h), if_pos (by rw [e]; exact hb)]
theorem rplO_yes {n : Nat} {rows : List Rw} {us vs bd : List UInt8} (h : nxt MX us = (bB bd, true, vs)) (hb : okB (pdB bd) = true) : rplO (n + 1) rows us = rplO n (chgO rows (pdB bd).ps (pdB bd).ds) vs := by
 have e : bl (bB bd) = bd := bl_mk bd;rw [rplO, h, if_neg (fun h => Bool.noConfusion h), if_neg (by rw [e, hb]; decide)]
 show rplO n (chgO rows (pdB (bl (bB bd))).ps (pdB (bl (bB bd))).ds) vs = _
 rw [e]
def ROS (w w' : World) (N : BL) (e : Ending) (D : DS) (rm : Nat) (ls : List Rw) (code : Nat) : Prop :=
 ∃ pf nf cf dn lf pz nz cz p c N', e = .returned (.tuple #[.agg (d6 rm pf nf cf dn lf pz nz cz p ls.length c), i6 code]) ∧ RD (.agg (d5 rm pf nf cf dn lf pz nz cz)) D rm (N' ++ N) ∧ (∃ Nr, Row 64 2 (.slice p ls.length c) ls.length (rcl ls) Nr ∧ ∀ y ∈ Nr, y ∈ N' ++ N) ∧ Newer w.heap.size w' N' ∧ Below w.heap.size w w'
theorem keep_rows {o p2 : Option Addr} {c c2 : Nat} {l0 ls : List Rw} {z : Base} {N1 N2 Nb : BL} {x y b : Nat × TypeId × Array Value} {w' : World} (hRw : Row 64 2 (.slice o l0.length c) l0.length (rcl l0) N1) (hrv : RVw o c l0 N2 p2 c2 ls) (hj : HA z (N2 ++ (b :: x :: y :: (Nb ++ N1))) w') :
  ∃ N3, Row 64 2 (.slice p2 ls.length c2) ls.length (rcl ls) N3 ∧ HA z (x :: y :: N3) w' := by
 rcases hrv with ⟨rfl, rfl, rfl⟩ | hr
 ·exact ⟨N1, hRw, hj.sub (List.Sublist.trans (sk (sc (sc (List.sublist_append_right Nb N1)))) (List.sublist_append_right N2 _))⟩
 ·refine ⟨N2, hr, ?_⟩;have h1 : HA z (N2 ++ [x, y]) w' := hj.sub (List.Sublist.append_left (sk (sc (sc (List.nil_sublist _)))) N2);exact h1.perm List.perm_append_comm
end Go.Proofs.YtckmlaempffpjaaGreat
