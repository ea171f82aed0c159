/-
  Logs: what was laid is read back; bytes of a frame that is not there wholly say nothing.
-/
import Derived.Test.YtckmlaempffpjaaGreatS21
namespace Go.Proofs.YtckmlaempffpjaaGreat
open Go.RowKit Go.Shelf

theorem val_cons (c : UInt8) (l : List UInt8) : Wi.val (c :: l) = c.toNat * 256 ^ l.length + Wi.val l := by
  have key : ∀ (l : List UInt8) (a : Nat), l.foldl (fun v c => v * 256 + c.toNat) a = a * 256 ^ l.length + l.foldl (fun v c => v * 256 + c.toNat) 0 := by
    intro l
    induction l with
    | nil => intro a; simp
    | cons d l ih =>
      intro a
      rw [List.foldl_cons, List.foldl_cons, ih (a * 256 + d.toNat), ih (0 * 256 + d.toNat), List.length_cons, Nat.pow_succ, Nat.zero_mul, Nat.zero_add, Nat.add_mul, Nat.mul_comm (256 ^ l.length) 256, ← Nat.mul_assoc]
      omega
  unfold Wi.val
  rw [List.foldl_cons, key l (0 * 256 + c.toNat), Nat.zero_mul, Nat.zero_add]
theorem val_be : ∀ (m n : Nat), n < 256 ^ m → Wi.val (Wi.be n m) = n
  | 0, n, h => by
    have : n = 0 := by simpa using h
    subst this; rfl
  | m + 1, n, h => by
    have key : ∀ (m n : Nat), Wi.val (Wi.be n m) = n % 256 ^ m := by
      intro m
      induction m with
      | zero => intro n; simp [Wi.be, Wi.val, Nat.mod_one]
      | succ m ih =>
        intro n
        rw [Wi.be, val_cons, ih, Wi.be_length, UInt8.toNat_ofNat', show n % 256 ^ (m + 1) = n % (256 ^ m * 256) by rw [Nat.pow_succ], Nat.mod_mul, Nat.mul_comm (256 ^ m)]
        exact Nat.add_comm _ _
    rw [key, Nat.mod_eq_of_lt h]
theorem take_be (n m : Nat) (rest : List UInt8) : (Wi.be n m ++ rest).take m = Wi.be n m := by
  rw [List.take_append_of_le_length (by rw [Wi.be_length]; exact Nat.le_refl _), List.take_of_length_le (by rw [Wi.be_length]; exact Nat.le_refl _)]
theorem nxn_be (n : Nat) (rest : List UInt8) (h : n < 65536) : nxn 2 (Wi.be n 2 ++ rest) = (n, true, rest) := by
  unfold nxn
  rw [if_pos (by rw [List.length_append, Wi.be_length]; omega), take_be, val_be 2 n h, List.drop_left' (Wi.be_length n 2)]
theorem nxt_pt (m : Nat) (s : ByteArray) (rest : List UInt8) (hm : s.size ≤ m) (h : s.size < 4294967296) : nxt m (ptB s ++ rest) = (s, true, rest) := by
  have h4 : (ptB s ++ rest).take 4 = Wi.be s.size 4 := by rw [ptB, List.append_assoc, take_be]
  have hv : Wi.val ((ptB s ++ rest).take 4) = s.size := by rw [h4, val_be 4 _ h]
  have hl : (ptB s ++ rest).length = 4 + s.size + rest.length := by rw [List.length_append, ptB_len]
  unfold nxt
  rw [hv, if_pos (by rw [hl]; omega)]
  have e1 : Wi.txt (ptB s ++ rest) = bl s := by
    unfold Wi.txt
    rw [hv, ptB, List.append_assoc, List.drop_left' (Wi.be_length _ 4), List.take_append_of_le_length (by rw [bl_len]; exact Nat.le_refl _), List.take_of_length_le (by rw [bl_len]; exact Nat.le_refl _)]
  rw [e1, List.drop_left' (ptB_len s)]
  simp [bl]
/-- a change, and what it is to be read back -/
structure ChOk (ps : List Rw) (ds : List ByteArray) : Prop where
  r : refR ps ds = 0
  n : ps.length + ds.length ≠ 0
theorem ppR_read : ∀ (ps : List Rw) (rest : List UInt8) (acc : List Rw), (∀ x ∈ ps, x.k.size ≤ 262144 ∧ x.v.size ≤ 262144) → ppR ps.length true (ps.flatMap rowB ++ rest) acc = (true, rest, acc ++ ps)
  | [], rest, acc, _ => by simp [ppR]
  | x :: ps, rest, acc, h => by
    have hx := h x (.head _)
    have e1 : (x :: ps).flatMap rowB ++ rest = ptB x.k ++ (ptB x.v ++ (ps.flatMap rowB ++ rest)) := by simp [rowB]
    rw [e1, List.length_cons, ppR, nxt_pt 262144 x.k _ hx.1 (by omega)]
    simp only
    rw [nxt_pt 262144 x.v _ hx.2 (by omega)]
    simp only [Bool.and_self]
    rw [ppR_read ps rest _ (fun y hy => h y (.tail _ hy))]
    simp
theorem pdR_read : ∀ (ds : List ByteArray) (rest : List UInt8) (acc : List ByteArray), (∀ x ∈ ds, x.size ≤ 262144) → pdR ds.length true (ds.flatMap ptB ++ rest) acc = (true, rest, acc ++ ds)
  | [], rest, acc, _ => by simp [pdR]
  | x :: ds, rest, acc, h => by
    have hx := h x (.head _)
    have e1 : (x :: ds).flatMap ptB ++ rest = ptB x ++ (ds.flatMap ptB ++ rest) := by simp
    rw [e1, List.length_cons, pdR, nxt_pt 262144 x _ hx (by omega)]
    simp only
    rw [pdR_read ds rest _ (fun y hy => h y (.tail _ hy))]
    simp
theorem body_read {ps : List Rw} {ds : List ByteArray} (h : ChOk ps ds) : pdB (bodyB ps ds) = ⟨true, ps, ds, []⟩ := by
  obtain ⟨h1, h2, h3⟩ := ref_ok h.r
  unfold pdB
  have e : bodyB ps ds = Wi.be ps.length 2 ++ (ps.flatMap rowB ++ (Wi.be ds.length 2 ++ (ds.flatMap ptB ++ []))) := by simp [bodyB]
  rw [e]
  have hp : ∀ x ∈ ps, x.k.size ≤ 262144 ∧ x.v.size ≤ 262144 := fun x hx => ⟨by have := h1.k x hx; omega, h1.v x hx⟩
  have hd : ∀ x ∈ ds, x.size ≤ 262144 := fun x hx => by have := (h3 x (by rw [keysOf]; exact List.mem_append_right _ hx)).2; omega
  simp only [nxn_be ps.length _ (by omega), ppR_read ps _ [] hp, nxn_be ds.length _ (by omega), Bool.and_self, pdR_read ds [] [] hd, List.nil_append]
theorem body_ok {ps : List Rw} {ds : List ByteArray} (h : ChOk ps ds) : okB (pdB (bodyB ps ds)) = true := by
  rw [body_read h]
  exact okB_yes rfl (by simp) h.n (by rw [h.r]; decide)
theorem frame_pt (ps : List Rw) (ds : List ByteArray) : frameB ps ds = ptB ⟨(bodyB ps ds).toArray⟩ := by
  rw [ptB, bl_mk, frameB]
  rfl
theorem body_size (ps : List Rw) (ds : List ByteArray) : (⟨(bodyB ps ds).toArray⟩ : ByteArray).size = (bodyB ps ds).length := by
  show (bodyB ps ds).toArray.size = _
  rw [List.size_toArray]
theorem frame_read {ps : List Rw} {ds : List ByteArray} (h : ChOk ps ds) (rest : List UInt8) : nxt MX (frameB ps ds ++ rest) = (⟨(bodyB ps ds).toArray⟩, true, rest) := by
  have := frm_small h.r
  rw [frame_pt]
  exact nxt_pt MX _ rest (by rw [body_size]; unfold MX; omega) (by rw [body_size]; omega)
/-- some first bytes of a frame, not all -/
theorem part_none {ps : List Rw} {ds : List ByteArray} (h : ChOk ps ds) {k : Nat} (hk : k < (frameB ps ds).length) : (nxt MX ((frameB ps ds).take k)).2.1 = false := by
  have hs := frm_small h.r
  have hl := frameB_len ps ds
  unfold nxt
  rw [if_neg]
  rintro ⟨h1, _, h3⟩
  rw [List.length_take, Nat.min_eq_left (Nat.le_of_lt hk)] at h1 h3
  rw [List.take_take, Nat.min_eq_left h1, frameB, take_be, val_be 4 _ (by omega)] at h3
  omega
theorem nxt_nil : (nxt MX []).2.1 = false := by decide
abbrev Chg := List Rw × List ByteArray
def logB (cs : List Chg) : List UInt8 := cs.flatMap fun c => frameB c.1 c.2
def saysF (r : List Rw) (cs : List Chg) : List Rw := cs.foldl (fun r c => applyR r c.1 c.2) r
def saysC (cs : List Chg) : List Rw := saysF [] cs
def okC (cs : List Chg) : Prop := ∀ c ∈ cs, ChOk c.1 c.2
theorem rpl_log : ∀ (cs : List Chg) (n : Nat) (r : List Rw) (t : List UInt8), okC cs → (nxt MX t).2.1 = false → cs.length < n → rplF n r (logB cs ++ t) = (saysF r cs, t, true)
  | [], n + 1, r, t, _, ht, _ => by
    rw [rplF, show logB [] ++ t = t from rfl, if_pos ht]
    rfl
  | c :: cs, n + 1, r, t, hc, ht, hn => by
    have h1 := hc c (.head _)
    have e : logB (c :: cs) ++ t = frameB c.1 c.2 ++ (logB cs ++ t) := by simp [logB]
    rw [rplF, e, frame_read h1, if_neg (show ¬ true = false by decide), bl_mk, if_neg (by rw [body_ok h1]; decide), body_read h1]
    simp only
    rw [rpl_log cs n _ t (fun d hd => hc d (.tail _ hd)) ht (by simp at hn; omega)]
    rfl
theorem log_len (cs : List Chg) : cs.length ≤ (logB cs).length := by
  induction cs with
  | nil => exact Nat.le_refl _
  | cons c cs ih =>
    have e : logB (c :: cs) = frameB c.1 c.2 ++ logB cs := by simp [logB]
    rw [e, List.length_append, frameB_len, List.length_cons]
    omega
theorem rpl_bytes {cs : List Chg} {t : List UInt8} {log : ByteArray} (hc : okC cs) (ht : (nxt MX t).2.1 = false) (hl : bl log = logB cs ++ t) : rplB log = (saysC cs, t, true) := by
  unfold rplB
  rw [hl]
  refine rpl_log cs _ [] t hc ht ?_
  have h1 := log_len cs
  have h2 : (bl log).length = log.size := bl_len log
  rw [hl, List.length_append] at h2
  omega
theorem log_snoc (cs : List Chg) (c : Chg) : logB (cs ++ [c]) = logB cs ++ frameB c.1 c.2 := by simp [logB]
theorem says_snoc (cs : List Chg) (c : Chg) : saysC (cs ++ [c]) = applyR (saysC cs) c.1 c.2 := by simp [saysC, saysF]
theorem okC_snoc {cs : List Chg} {c : Chg} (h : okC cs) (hc : ChOk c.1 c.2) : okC (cs ++ [c]) := fun d hd => by
  rcases List.mem_append.1 hd with hd | hd
  · exact h d hd
  · obtain rfl := List.mem_singleton.1 hd; exact hc
/-! rows that are the same but for their order -/
theorem drop_perm {a b : List Rw} (h : a.Perm b) (k : ByteArray) : (dropR a k).Perm (dropR b k) := h.filter _
theorem put_perm {a b : List Rw} (h : a.Perm b) (x : Rw) : (putR a x).Perm (putR b x) := (drop_perm h x.k).append_right _
theorem puts_perm {a b : List Rw} (h : a.Perm b) (ps : List Rw) : (putsR a ps).Perm (putsR b ps) := by
  induction ps generalizing a b with
  | nil => exact h
  | cons x ps ih => exact ih (put_perm h x)
theorem dels_perm {a b : List Rw} (h : a.Perm b) (ds : List ByteArray) : (delsR a ds).Perm (delsR b ds) := by
  induction ds generalizing a b with
  | nil => exact h
  | cons x ds ih => exact ih (drop_perm h x)
theorem apply_perm {a b : List Rw} (h : a.Perm b) (ps : List Rw) (ds : List ByteArray) : (applyR a ps ds).Perm (applyR b ps ds) := dels_perm (puts_perm h ps) ds
theorem drop_nodup {l : List Rw} (h : (l.map (·.k)).Nodup) (k : ByteArray) : ((dropR l k).map (·.k)).Nodup := (List.Sublist.map _ List.filter_sublist).nodup h
theorem put_nodup {l : List Rw} (h : (l.map (·.k)).Nodup) (x : Rw) : ((putR l x).map (·.k)).Nodup := by
  unfold putR
  rw [List.map_append, List.nodup_append]
  refine ⟨drop_nodup h x.k, by simp, fun a ha b hb e => ?_⟩
  obtain ⟨y, hy, rfl⟩ := List.mem_map.1 ha
  have hb' : b = x.k := by simpa using hb
  exact drop_nokey l x.k y hy (e.trans hb')
theorem apply_nodup {l : List Rw} (h : (l.map (·.k)).Nodup) (ps : List Rw) (ds : List ByteArray) : ((applyR l ps ds).map (·.k)).Nodup := by
  have h1 : ((putsR l ps).map (·.k)).Nodup := by
    induction ps generalizing l with
    | nil => exact h
    | cons x ps ih => exact ih (put_nodup h x)
  unfold applyR
  generalize putsR l ps = m at h1 ⊢
  induction ds generalizing m with
  | nil => exact h1
  | cons x ds ih => exact ih _ (drop_nodup h1 x)
theorem says_nodup (cs : List Chg) : ((saysC cs).map (·.k)).Nodup := by
  have key : ∀ (cs : List Chg) (r : List Rw), (r.map (·.k)).Nodup → ((saysF r cs).map (·.k)).Nodup := by
    intro cs
    induction cs with
    | nil => intro r h; exact h
    | cons c cs ih => intro r h; exact ih _ (apply_nodup h c.1 c.2)
  exact key cs [] List.nodup_nil
/-! what Pack lays, as changes -/
def packC (l : List Rw) : List Chg := (List.range ((l.length + 63) / 64)).map fun j => (pieceR (ordR l) j, [])
theorem pack_log (l : List Rw) : logB (packC l) = packL l := by
  unfold logB packC packL packK
  rw [List.flatMap_map]
theorem puts_new : ∀ (ps l : List Rw), ((l ++ ps).map (·.k)).Nodup → putsR l ps = l ++ ps
  | [], l, _ => by simp [putsR]
  | x :: ps, l, h => by
    have h1 : dropR l x.k = l := dropR_no fun y hy e => by
      rw [List.map_append, List.nodup_append] at h
      exact h.2.2 y.k (List.mem_map.2 ⟨y, hy, rfl⟩) x.k (by simp) e
    show putsR (putR l x) ps = _
    rw [putR, h1, puts_new ps (l ++ [x]) (by simpa using h)]
    simp
theorem pack_upto2 (l : List Rw) (h : ((ordR l).map (·.k)).Nodup) (k : Nat) : saysF [] ((List.range k).map fun j => (pieceR (ordR l) j, ([] : List ByteArray))) = (ordR l).take (64 * k) := by
  induction k with
  | zero => simp [saysF]
  | succ k ih =>
    rw [List.range_succ, List.map_append, saysF, List.foldl_append]
    change applyR (saysF [] _) _ _ = _
    rw [ih]
    have e : (ordR l).take (64 * (k + 1)) = (ordR l).take (64 * k) ++ pieceR (ordR l) k := by
      rw [show 64 * (k + 1) = 64 * k + 64 by omega, List.take_add, pieceR]
    simp only [applyR, delsR, List.foldl_nil]
    rw [puts_new _ _ (by rw [← e]; exact (List.Sublist.map _ (List.take_sublist _ _)).nodup h), e]
theorem pack_says {l : List Rw} (hn : (l.map (·.k)).Nodup) : (saysC (packC l)).Perm l := by
  have hp := ordR_perm hn
  have hno : ((ordR l).map (·.k)).Nodup := (hp.map _).nodup_iff.2 hn
  have h := pack_upto2 l hno ((l.length + 63) / 64)
  unfold saysC packC
  rw [h, List.take_of_length_le (by rw [ordR_len]; omega)]
  exact hp
theorem ref_rows {ps : List Rw} (h1 : ps.length ≤ 64) (h2 : ∀ x ∈ ps, x.k.size ≠ 0 ∧ x.k.size ≤ 64 ∧ x.v.size ≤ 262144) : refR ps [] = 0 := by
  unfold refR
  rw [if_neg, if_neg]
  · rw [Bool.or_eq_true]
    rintro (h | h)
    · unfold lng at h
      rw [Bool.or_eq_true] at h
      rcases h with h | h
      · have := of_decide_eq_true h; simp at this; omega
      · obtain ⟨k, hk, e⟩ := List.any_eq_true.1 h
        rw [keysOf, List.append_nil] at hk
        obtain ⟨x, hx, rfl⟩ := List.mem_map.1 hk
        have := (h2 x hx).2.1
        have := of_decide_eq_true e
        omega
    · obtain ⟨x, hx, e⟩ := List.any_eq_true.1 h
      have := (h2 x hx).2.2
      have := of_decide_eq_true e
      omega
  · intro h
    obtain ⟨k, hk, e⟩ := List.any_eq_true.1 h
    rw [keysOf, List.append_nil] at hk
    obtain ⟨x, hx, rfl⟩ := List.mem_map.1 hk
    exact (h2 x hx).1 (of_decide_eq_true e)
/-- rows that a store may have -/
def RowsOk (l : List Rw) : Prop := ∀ x ∈ l, x.k.size ≠ 0 ∧ x.k.size ≤ 64 ∧ x.v.size ≤ 262144
theorem pack_ok {l : List Rw} (hn : (l.map (·.k)).Nodup) (h : RowsOk l) : okC (packC l) := fun c hc => by
  obtain ⟨j, hj, rfl⟩ := List.mem_map.1 hc
  have hj' := List.mem_range.1 hj
  have hl := piece_len (ordR l) j
  rw [ordR_len] at hl
  refine ⟨ref_rows (by simp only; omega) (fun x hx => h x ((ordR_perm hn).mem_iff.1 (List.mem_of_mem_drop (List.mem_of_mem_take hx)))), ?_⟩
  simp only [List.length_nil, Nat.add_zero]
  omega
theorem rowsOk_apply {l ps : List Rw} {ds : List ByteArray} (h : RowsOk l) (hc : refR ps ds = 0) : RowsOk (applyR l ps ds) := by
  obtain ⟨h1, h2, h3⟩ := ref_ok hc
  have hp : RowsOk ps := fun x hx => ⟨(h3 x.k (by rw [keysOf]; exact List.mem_append_left _ (List.mem_map.2 ⟨x, hx, rfl⟩))).1, h1.k x hx, h1.v x hx⟩
  have hput : ∀ (ps l : List Rw), RowsOk l → RowsOk ps → RowsOk (putsR l ps) := by
    intro ps
    induction ps with
    | nil => intro l h _; exact h
    | cons x ps ih =>
      intro l h hp
      refine ih _ (fun y hy => ?_) (fun y hy => hp y (.tail _ hy))
      rcases List.mem_append.1 hy with hy | hy
      · exact h y (List.mem_filter.1 hy).1
      · obtain rfl := List.mem_singleton.1 hy; exact hp y (.head _)
  have hdel : ∀ (ds : List ByteArray) (l : List Rw), RowsOk l → RowsOk (delsR l ds) := by
    intro ds
    induction ds with
    | nil => intro l h; exact h
    | cons x ds ih => intro l h; exact ih _ (fun y hy => h y (List.mem_filter.1 hy).1)
  exact hdel ds _ (hput ps l h hp)
end Go.Proofs.YtckmlaempffpjaaGreat

namespace Go.Proofs.YtckmlaempffpjaaGreat
open Go.RowKit Go.Shelf

theorem get_nm {fs : List FA} {n : ByteArray} {x : FA} (h : getF fs n = some x) : x.nm = n ∧ x ∈ fs := by
  unfold getF at h
  exact ⟨by simpa using List.find?_some h, List.mem_of_find?_eq_some h⟩
theorem get_upd (fs : List FA) (nm n : ByteArray) (g : FA → FA) (hg : ∀ x, (g x).nm = x.nm) : getF (updF fs nm g) n = (getF fs n).map (fun x => if n = nm then g x else x) := by
  induction fs with
  | nil => rfl
  | cons y l ih =>
    unfold getF updF at ih ⊢
    rw [List.map_cons, List.find?_cons, List.find?_cons]
    by_cases e : y.nm = nm
    · rw [if_pos e]
      by_cases e2 : y.nm = n
      · have : decide ((g y).nm = n) = true := by rw [hg]; exact decide_eq_true e2
        rw [this, decide_eq_true e2]
        simp [← e2, e]
      · have : decide ((g y).nm = n) = false := by rw [hg]; exact decide_eq_false e2
        rw [this, decide_eq_false e2]
        exact ih
    · rw [if_neg e]
      by_cases e2 : y.nm = n
      · rw [decide_eq_true e2]
        have : ¬ n = nm := fun h => e (e2.trans h)
        simp [this]
      · rw [decide_eq_false e2]
        exact ih
theorem get_mk (fs : List FA) (nm n : ByteArray) : getF (mkF fs nm) n = if n = nm ∧ getF fs nm = none then some ⟨nm, [], 0⟩ else getF fs n := by
  unfold mkF
  split
  · rename_i h
    have : getF fs nm ≠ none := by
      obtain ⟨x, hx, e⟩ := h
      unfold getF
      intro hnn
      exact List.find?_eq_none.1 hnn x hx (decide_eq_true e)
    rw [if_neg (fun h => this h.2)]
  · rename_i h
    have hn : getF fs nm = none := by
      unfold getF
      refine List.find?_eq_none.2 fun x hx => ?_
      simp only [decide_eq_true_eq]
      exact fun e => h ⟨x, hx, e⟩
    by_cases e : n = nm
    · subst e
      rw [if_pos ⟨rfl, hn⟩]
      unfold getF at hn ⊢
      rw [List.find?_append, hn]
      simp
    · rw [if_neg (fun h => e h.1)]
      unfold getF
      rw [List.find?_append]
      have : List.find? (fun x : FA => decide (x.nm = n)) [⟨nm, [], 0⟩] = none := by simp [Ne.symm e]
      rw [this, Option.or_none]
theorem rank_lt {fs : List FA} {x : FA} (h : x ∈ fs) : rankF fs x.nm < fs.length := by
  have : bl x.nm ∈ srtL fs := (srt_perm fs).mem_iff.2 (List.mem_map.2 ⟨x, h, rfl⟩)
  have := List.idxOf_lt_length_of_mem this
  rw [srt_len] at this
  exact this
theorem wk_map (fs : List FA) (ks : List Int) : wkK fs ks fs.length = fs.map fun x => cutA x (ks.getD (rankF fs x.nm) 0) := by
  unfold wkK
  refine List.map_congr_left fun x hx => ?_
  rw [if_pos (rank_lt hx)]
theorem get_map {fs : List FA} {n : ByteArray} {g : FA → FA} (hg : ∀ x, (g x).nm = x.nm) : getF (fs.map g) n = (getF fs n).map g := by
  induction fs with
  | nil => rfl
  | cons y l ih =>
    unfold getF at ih ⊢
    rw [List.map_cons, List.find?_cons, List.find?_cons, hg]
    cases decide (y.nm = n) with
    | true => rfl
    | false => exact ih
theorem get_del (fs : List FA) (nm n : ByteArray) : getF (delF fs nm) n = if n = nm then none else getF fs n := by
  induction fs with
  | nil => simp [getF, delF]
  | cons y l ih =>
    unfold getF delF at ih ⊢
    by_cases e : y.nm = nm
    · rw [List.filter_cons_of_neg (by simp [e]), ih]
      by_cases e2 : n = nm
      · rw [if_pos e2, if_pos e2]
      · rw [if_neg e2, if_neg e2, List.find?_cons, decide_eq_false (by rw [e]; exact Ne.symm e2)]
    · rw [List.filter_cons_of_pos (by simp [e]), List.find?_cons, ih]
      by_cases e2 : y.nm = n
      · have hnn : ¬ n = nm := fun h => e (e2.trans h)
        simp [hnn, e2]
      · rw [decide_eq_false e2, List.find?_cons, decide_eq_false e2]
theorem get_app (a b : List FA) (n : ByteArray) : getF (a ++ b) n = (getF a n).or (getF b n) := by
  unfold getF
  exact List.find?_append
theorem get_keep (fs : List FA) (nm b n : ByteArray) : getF ((keepF fs nm).map (fun x : FA => { x with nm := b })) n = if n = b then (getF fs nm).map (fun x : FA => { x with nm := b }) else none := by
  induction fs with
  | nil => simp [getF, keepF]
  | cons y l ih =>
    unfold getF keepF at ih ⊢
    by_cases e : y.nm = nm
    · rw [List.filter_cons_of_pos (by simp [e]), List.map_cons, List.find?_cons, List.find?_cons, decide_eq_true e]
      by_cases e2 : n = b
      · rw [if_pos e2, decide_eq_true (show ({ y with nm := b } : FA).nm = n from e2.symm)]
        rfl
      · rw [decide_eq_false (show ¬ ({ y with nm := b } : FA).nm = n from fun h => e2 h.symm), ih]
        rw [if_neg e2, if_neg e2]
    · rw [List.filter_cons_of_neg (by simp [e]), List.find?_cons, decide_eq_false e]
      exact ih
theorem has_iff (fs : List FA) (n : ByteArray) : (∃ x ∈ fs, x.nm = n) ↔ getF fs n ≠ none := by
  unfold getF
  rw [Ne, List.find?_eq_none]
  constructor
  · rintro ⟨x, hx, e⟩ h
    exact h x hx (decide_eq_true e)
  · intro h
    refine Decidable.byContradiction fun hn => h fun x hx e => hn ⟨x, hx, of_decide_eq_true e⟩
theorem nSN : nS ≠ nN := by decide
theorem isN : isNm nN = true := by decide
theorem isS : isNm nS = true := by decide
abbrev Fi := Option (List UInt8 × Nat)
def mkFi (n : ByteArray) (f : List UInt8 × Nat) : FA := ⟨n, f.1, f.2⟩
def lenF (o : Fi) : Nat := match o with | none => 0 | some f => f.1.length
/-- the files are these -/
structure V2 (D : DS) (a b : Fi) : Prop where
  s : getF D.fs nS = a.map (mkFi nS)
  n : getF D.fs nN = b.map (mkFi nN)
  o : ∀ x, x ≠ nS → x ≠ nN → getF D.fs x = none
theorem V2.fs {D D' : DS} {a b : Fi} (h : V2 D a b) (e : D'.fs = D.fs) : V2 D' a b := ⟨by rw [e]; exact h.s, by rw [e]; exact h.n, by rw [e]; exact h.o⟩
theorem V2.new {n : Nat} : V2 ⟨[], n, 0, false, []⟩ none none := ⟨rfl, rfl, fun _ _ _ => rfl⟩
theorem spend_up {D : DS} (hd : D.down = false) : (spendD D).down = true → D.left ≠ 0 := fun h e => by
  unfold spendD at h
  simp only [e, if_pos] at h
  rw [hd] at h
  cases h
/-- how an operation ends that may be done -/
theorem op_v {D D2 : DS} {put er : Nat} (hd : D.down = false) (h2 : D2.down = (spendD D).down) : ((opD D D2 put er).2 = 16 ∧ (opD D D2 put er).1.down = true ∧ (opD D D2 put er).1.fs = D.fs ∧ D.left ≠ 0) ∨ ((opD D D2 put er).2 = er ∧ (opD D D2 put er).1.down = false ∧ (opD D D2 put er).1.fs = D2.fs ∧ (opD D D2 put er).1.left = D2.left ∧ (opD D D2 put er).1.free = D2.free) := by
  unfold opD
  cases h : (spendD D).down with
  | true => exact .inl ⟨rfl, h, rfl, spend_up hd h⟩
  | false =>
    right
    rw [if_neg (by decide)]
    split
    · rename_i he; exact ⟨he.symm, h2.trans h, rfl, rfl, rfl⟩
    · exact ⟨rfl, h2.trans h, rfl, rfl, rfl⟩
theorem app_v {D : DS} {nm s : ByteArray} (hd : D.down = false) (hn : isNm nm = true) : ((AppendD D nm s).2 = 16 ∧ (AppendD D nm s).1.down = true ∧ (AppendD D nm s).1.fs = D.fs ∧ D.left ≠ 0) ∨ ((AppendD D nm s).2 = 7 ∧ (AppendD D nm s).1.down = false ∧ (AppendD D nm s).1.fs = D.fs ∧ (AppendD D nm s).1.left = D.left - 1 ∧ D.free < s.size) ∨ ((AppendD D nm s).2 = 0 ∧ (AppendD D nm s).1.down = false ∧ (AppendD D nm s).1.fs = updF (mkF D.fs nm) nm (fun x => { x with da := x.da ++ bl s }) ∧ (AppendD D nm s).1.left = D.left - 1 ∧ s.size ≤ D.free) := by
  unfold AppendD
  by_cases hf : (spendD D).free < s.size
  · have e : appD (spendD D) nm s = (spendD D, 0, 7) := by unfold appD; rw [if_neg (by rw [hn]; decide), if_pos hf]
    rw [e]
    rcases op_v (put := 0) (er := 7) hd (D2 := spendD D) rfl with h | h
    · exact .inl h
    · exact .inr (.inl ⟨h.1, h.2.1, h.2.2.1, h.2.2.2.1, hf⟩)
  · have e : appD (spendD D) nm s = ({ spendD D with fs := updF (mkF D.fs nm) nm (fun x => { x with da := x.da ++ bl s }), free := D.free - s.size }, s.size, 0) := by unfold appD; rw [if_neg (by rw [hn]; decide), if_neg hf]; rfl
    rw [e]
    rcases op_v (put := s.size) (er := 0) hd (D2 := { spendD D with fs := updF (mkF D.fs nm) nm (fun x => { x with da := x.da ++ bl s }), free := D.free - s.size }) rfl with h | h
    · exact .inl h
    · exact .inr (.inr ⟨h.1, h.2.1, h.2.2.1, h.2.2.2.1, Nat.le_of_not_lt hf⟩)
theorem on_v {D D2 : DS} {nm : ByteArray} (hd : D.down = false) (h2 : D2.down = (spendD D).down) (hl : D2.left = (spendD D).left) (hf : getF D.fs nm ≠ none) : ((OnD D D2 nm 0).2 = 16 ∧ (OnD D D2 nm 0).1.down = true ∧ (OnD D D2 nm 0).1.fs = D.fs ∧ D.left ≠ 0) ∨ ((OnD D D2 nm 0).2 = 0 ∧ (OnD D D2 nm 0).1.down = false ∧ (OnD D D2 nm 0).1.fs = D2.fs ∧ (OnD D D2 nm 0).1.left = D.left - 1) := by
  unfold OnD
  have e : onD (spendD D) D2 nm 0 = (D2, 0, 0) := by unfold onD; exact if_pos ((has_iff D.fs nm).2 hf)
  rw [e]
  rcases op_v (put := 0) (er := 0) hd h2 with h | h
  · exact .inl h
  · exact .inr ⟨h.1, h.2.1, h.2.2.1, h.2.2.2.1.trans hl⟩
theorem sync_v {D : DS} {nm : ByteArray} (hd : D.down = false) (hf : getF D.fs nm ≠ none) : ((SyncD D nm).2 = 16 ∧ (SyncD D nm).1.down = true ∧ (SyncD D nm).1.fs = D.fs ∧ D.left ≠ 0) ∨ ((SyncD D nm).2 = 0 ∧ (SyncD D nm).1.down = false ∧ (SyncD D nm).1.fs = updF D.fs nm (fun x => { x with sy := x.da.length }) ∧ (SyncD D nm).1.left = D.left - 1) :=
  on_v (D2 := syncF (spendD D) nm) hd rfl rfl hf
theorem rem_v {D : DS} {nm : ByteArray} (hd : D.down = false) (hf : getF D.fs nm ≠ none) : ((RemoveD D nm).2 = 16 ∧ (RemoveD D nm).1.down = true ∧ (RemoveD D nm).1.fs = D.fs ∧ D.left ≠ 0) ∨ ((RemoveD D nm).2 = 0 ∧ (RemoveD D nm).1.down = false ∧ (RemoveD D nm).1.fs = delF D.fs nm ∧ (RemoveD D nm).1.left = D.left - 1) :=
  on_v (D2 := remF (spendD D) nm) hd rfl rfl hf
theorem ren_v {D : DS} (hd : D.down = false) (hf : getF D.fs nN ≠ none) : ((RenameD D nN nS).2 = 16 ∧ (RenameD D nN nS).1.down = true ∧ (RenameD D nN nS).1.fs = D.fs ∧ D.left ≠ 0) ∨ ((RenameD D nN nS).2 = 0 ∧ (RenameD D nN nS).1.down = false ∧ (RenameD D nN nS).1.fs = delF (delF D.fs nS) nN ++ (keepF (delF D.fs nS) nN).map (fun x => { x with nm := nS }) ∧ (RenameD D nN nS).1.left = D.left - 1) := by
  have e : renT (spendD D) nN nS = (renF (spendD D) nN nS, 0) := by unfold renT; rw [if_neg (by rw [isS]; decide), if_neg (Ne.symm nSN)]
  unfold RenameD
  rw [e]
  exact on_v (D2 := renF (spendD D) nN nS) hd rfl rfl hf
/-! the files behind each -/
section
variable {D D' : DS} {a b : Fi}
theorem get_append (fs : List FA) (nm n : ByteArray) (l : List UInt8) : getF (updF (mkF fs nm) nm (fun x => { x with da := x.da ++ l })) n = if n = nm then some ⟨nm, ((getF fs nm).elim [] (·.da)) ++ l, (getF fs nm).elim 0 (·.sy)⟩ else getF fs n := by
  rw [get_upd _ _ _ (fun x : FA => { x with da := x.da ++ l }) (fun _ => rfl), get_mk]
  by_cases e : n = nm
  · subst e
    rw [if_pos rfl]
    cases h : getF fs n with
    | none => simp
    | some x =>
      have := (get_nm h).1
      simp [← this]
  · rw [if_neg e, if_neg (fun h => e h.1)]
    cases getF fs n with
    | none => rfl
    | some x => simp [e]
def appF (o : Fi) (l : List UInt8) : Fi := some ((o.elim [] (·.1)) ++ l, o.elim 0 (·.2))
def synF (o : Fi) : Fi := o.map fun f => (f.1, f.1.length)
theorem V2.appS (h : V2 D a b) {l : List UInt8} (e : D'.fs = updF (mkF D.fs nS) nS (fun x => { x with da := x.da ++ l })) : V2 D' (appF a l) b := by
  refine ⟨?_, ?_, fun x h1 h2 => ?_⟩
  · rw [e, get_append, if_pos rfl, h.s]
    cases a <;> rfl
  · rw [e, get_append, if_neg (Ne.symm nSN), h.n]
  · rw [e, get_append, if_neg h1, h.o x h1 h2]
theorem V2.appN (h : V2 D a b) {l : List UInt8} (e : D'.fs = updF (mkF D.fs nN) nN (fun x => { x with da := x.da ++ l })) : V2 D' a (appF b l) := by
  refine ⟨?_, ?_, fun x h1 h2 => ?_⟩
  · rw [e, get_append, if_neg nSN, h.s]
  · rw [e, get_append, if_pos rfl, h.n]
    cases b <;> rfl
  · rw [e, get_append, if_neg h2, h.o x h1 h2]
theorem get_sync (fs : List FA) (nm n : ByteArray) : getF (updF fs nm (fun x => { x with sy := x.da.length })) n = (getF fs n).map fun x => if n = nm then { x with sy := x.da.length } else x := get_upd _ _ _ _ (fun _ => rfl)
theorem V2.synS (h : V2 D a b) (e : D'.fs = updF D.fs nS (fun x => { x with sy := x.da.length })) : V2 D' (synF a) b := by
  refine ⟨?_, ?_, fun x h1 h2 => ?_⟩
  · rw [e, get_sync, h.s]
    cases a <;> rfl
  · rw [e, get_sync, h.n]
    cases b
    · rfl
    · simp [Ne.symm nSN]
  · rw [e, get_sync, h.o x h1 h2]; rfl
theorem V2.synN (h : V2 D a b) (e : D'.fs = updF D.fs nN (fun x => { x with sy := x.da.length })) : V2 D' a (synF b) := by
  refine ⟨?_, ?_, fun x h1 h2 => ?_⟩
  · rw [e, get_sync, h.s]
    cases a
    · rfl
    · simp [nSN]
  · rw [e, get_sync, h.n]
    cases b <;> rfl
  · rw [e, get_sync, h.o x h1 h2]; rfl
theorem V2.remN (h : V2 D a b) (e : D'.fs = delF D.fs nN) : V2 D' a none := by
  refine ⟨?_, ?_, fun x h1 h2 => ?_⟩
  · rw [e, get_del, if_neg nSN, h.s]
  · rw [e, get_del, if_pos rfl]; rfl
  · rw [e, get_del, if_neg h2, h.o x h1 h2]
theorem V2.ren (h : V2 D a b) (e : D'.fs = delF (delF D.fs nS) nN ++ (keepF (delF D.fs nS) nN).map (fun x => { x with nm := nS })) : V2 D' b none := by
  refine ⟨?_, ?_, fun x h1 h2 => ?_⟩
  · rw [e, get_app, get_del, if_neg nSN, get_del, if_pos rfl, Option.none_or, get_keep, if_pos rfl, get_del, if_neg (Ne.symm nSN), h.n]
    cases b <;> rfl
  · rw [e, get_app, get_del, if_pos rfl, Option.none_or, get_keep, if_neg (Ne.symm nSN)]; rfl
  · rw [e, get_app, get_del, if_neg h2, get_del, if_neg h1, h.o x h1 h2, Option.none_or, get_keep, if_neg h1]
def cutF (o : Fi) (k : Nat) : Fi := o.map fun f => (f.1.take (f.2 + k), f.2 + k)
theorem V2.wake (h : V2 D a b) (ks : List Int) : ∃ k j, (∀ f, a = some f → k ≤ f.1.length - f.2) ∧ V2 (wakeD D ks) (cutF a k) (cutF b j) := by
  have e : (wakeD D ks).fs = D.fs.map fun x => cutA x (ks.getD (rankF D.fs x.nm) 0) := wk_map D.fs ks
  have hg : ∀ n, getF (wakeD D ks).fs n = (getF D.fs n).map fun x => cutA x (ks.getD (rankF D.fs x.nm) 0) := fun n => by rw [e, get_map (g := fun x => cutA x (ks.getD (rankF D.fs x.nm) 0)) (fun _ => rfl)]
  refine ⟨a.elim 0 (fun f => stayN (ks.getD (rankF D.fs nS) 0) (f.1.length - f.2)), b.elim 0 (fun f => stayN (ks.getD (rankF D.fs nN) 0) (f.1.length - f.2)), fun f hf => ?_, ?_, ?_, fun x h1 h2 => ?_⟩
  · rw [hf]; exact stayN_le _ _
  · rw [hg, h.s]
    cases a <;> rfl
  · rw [hg, h.n]
    cases b <;> rfl
  · rw [hg, h.o x h1 h2]; rfl
theorem V2.usedF (h : V2 D a b) (hn : (D.fs.map (·.nm)).Nodup) : used D.fs = lenF a + lenF b := by
  have key : ∀ (fs : List FA), (fs.map (·.nm)).Nodup → (∀ x ∈ fs, x.nm = nS ∨ x.nm = nN) → used fs = (getF fs nS).elim 0 (·.da.length) + (getF fs nN).elim 0 (·.da.length) := by
    intro fs
    induction fs with
    | nil => intro _ _; rfl
    | cons y l ih =>
      intro hn ho
      rw [List.map_cons, List.nodup_cons] at hn
      have h1 := ih hn.2 (fun x hx => ho x (.tail _ hx))
      have hu : used (y :: l) = y.da.length + used l := by simp [used]
      have hno : ∀ n, y.nm = n → getF l n = none := fun n e => by
        have : ¬ (∃ x ∈ l, x.nm = n) := fun ⟨x, hx, e2⟩ => hn.1 (List.mem_map.2 ⟨x, hx, e2.trans e.symm⟩)
        rw [has_iff] at this
        exact Decidable.not_not.1 this
      have hc : ∀ n, getF (y :: l) n = if y.nm = n then some y else getF l n := fun n => by
        unfold getF
        rw [List.find?_cons]
        by_cases e : y.nm = n
        · rw [decide_eq_true e, if_pos e]
        · rw [decide_eq_false e, if_neg e]
      rw [hu, h1, hc, hc]
      rcases ho y (.head _) with e | e
      · rw [if_pos e, if_neg (by rw [e]; exact nSN), hno nS e]
        simp
      · rw [if_neg (by rw [e]; exact Ne.symm nSN), if_pos e, hno nN e]
        simp; omega
  rw [key D.fs hn (fun x hx => Decidable.byContradiction fun hc => by
    have h1 : x.nm ≠ nS := fun e => hc (.inl e)
    have h2 : x.nm ≠ nN := fun e => hc (.inr e)
    exact (has_iff _ _).1 ⟨x, hx, rfl⟩ (h.o x.nm h1 h2)), h.s, h.n]
  cases a <;> cases b <;> rfl
end
end Go.Proofs.YtckmlaempffpjaaGreat

namespace Go.Proofs.YtckmlaempffpjaaGreat
open Go.RowKit Go.Shelf

theorem has_v {D : DS} {a b : Fi} (h : V2 D a b) (hd : D.down = false) : hasN D = b.isSome := by
  unfold hasN
  rw [hd, Bool.not_false, Bool.true_and, Bool.eq_iff_iff, List.any_eq_true]
  have e : (∃ x, x ∈ D.fs ∧ decide (x.nm = nN) = true) ↔ ∃ x ∈ D.fs, x.nm = nN := by simp
  rw [e, has_iff, h.n]
  cases b <;> simp
theorem rm_v {D : DS} {a b : Fi} (h : V2 D a b) (hd : D.down = false) : ((rmN D).2 = 16 ∧ (rmN D).1.down = true ∧ D.left ≠ 0 ∧ V2 (rmN D).1 a b) ∨ ((rmN D).2 = 0 ∧ (rmN D).1.down = false ∧ (rmN D).1.left ≤ D.left ∧ V2 (rmN D).1 a none) := by
  unfold rmN
  rw [has_v h hd]
  cases b with
  | none => exact .inr ⟨rfl, hd, Nat.le_refl _, h⟩
  | some f =>
    rw [if_pos (show (some f).isSome = true from rfl)]
    rcases rem_v hd (nm := nN) (by rw [h.n]; simp) with r | r
    · exact .inl ⟨r.1, r.2.1, r.2.2.2, h.fs r.2.2.1⟩
    · exact .inr ⟨r.1, r.2.1, by omega, h.remN r.2.2.1⟩
/-- Remove("n") where there is none -/
theorem remn_v {D : DS} (hd : D.down = false) (hf : getF D.fs nN = none) : ((RemoveD D nN).1.down = true ∧ (RemoveD D nN).1.fs = D.fs ∧ (RemoveD D nN).1.left = 0 ∧ D.left ≠ 0) ∨ ((RemoveD D nN).1.down = false ∧ (RemoveD D nN).1.fs = D.fs ∧ (RemoveD D nN).1.left ≤ D.left) := by
  have e : onD (spendD D) (remF (spendD D) nN) nN 0 = (spendD D, 0, 5) := by
    unfold onD
    exact if_neg (fun h => (has_iff D.fs nN).1 h hf)
  unfold RemoveD OnD
  rw [e]
  unfold opD
  cases h : (spendD D).down with
  | true =>
    left
    have hl := spend_up hd h
    rw [if_pos rfl]
    refine ⟨h, rfl, ?_, hl⟩
    unfold spendD at h ⊢
    simp only [if_neg hl] at h
    have := of_decide_eq_true h
    show D.left - 1 = 0
    omega
  | false =>
    right
    rw [if_neg (by decide), if_neg (show ¬ (5 : Nat) = 0 by decide)]
    exact ⟨h, rfl, Nat.sub_le _ _⟩
theorem room_rmN (D : DS) : roomD (rmN D).1 = roomD D := by
  unfold rmN
  split
  · exact room_Remove D nN
  · rfl
theorem free_v {D : DS} {a b : Fi} {R N : Nat} (h : V2 D a b) (hg : DG D R N) : D.free + lenF a + lenF b = roomD D := by
  have := h.usedF hg.db.nd
  unfold roomD
  omega
/-- laying anew -/
theorem lay_v {D : DS} {a b : Fi} {R N : Nat} (h : V2 D a b) (hg : DG D R N) (hd : D.down = false) (fr : ByteArray) :
    ((layD D fr).2 = 16 ∧ (layD D fr).1.down = true ∧ D.left ≠ 0 ∧ ∃ b', V2 (layD D fr).1 a b' ∧ (lenF b' ≤ lenF b ∨ lenF b' ≤ fr.size)) ∨
    ((layD D fr).2 = 7 ∧ (layD D fr).1.down = false ∧ (layD D fr).1.left ≤ D.left ∧ V2 (layD D fr).1 a none ∧ roomD D < lenF a + fr.size) ∨
    ((layD D fr).2 = 0 ∧ (layD D fr).1.down = false ∧ (layD D fr).1.left ≤ D.left ∧ V2 (layD D fr).1 (some (bl fr, (bl fr).length)) none) := by
  unfold layD
  have hg1 := hg.rmN
  have hrm := room_rmN D
  rcases rm_v h hd with ⟨e1, d1, l1, v1⟩ | ⟨e1, d1, l1, v1⟩
  · rw [if_pos (by rw [e1]; decide)]
    exact .inl ⟨e1, d1, l1, b, v1, .inl (Nat.le_refl _)⟩
  · rw [if_neg (by rw [e1]; decide)]
    have hf := free_v v1 hg1
    have e0 : lenF (none : Fi) = 0 := rfl
    generalize rmN D = X at *
    rcases app_v (s := fr) d1 isN with r | r | r
    · rw [if_pos (by rw [r.1]; decide)]
      exact .inl ⟨r.1, r.2.1, by omega, none, v1.fs r.2.2.1, .inl (by rw [e0]; exact Nat.zero_le _)⟩
    · rw [if_pos (by rw [r.1]; decide)]
      exact .inr (.inl ⟨r.1, r.2.1, by omega, v1.fs r.2.2.1, by omega⟩)
    · rw [if_neg (by rw [r.1]; decide)]
      have v2 := v1.appN r.2.2.1
      have l2 := r.2.2.2.1
      have d2 := r.2.1
      generalize AppendD X.1 nN fr = Y at *
      rcases sync_v d2 (nm := nN) (by rw [v2.n]; simp [appF]) with r | r
      · rw [if_pos (by rw [r.1]; decide)]
        exact .inl ⟨r.1, r.2.1, by omega, _, v2.fs r.2.2.1, .inr (by simp [appF, lenF, bl_len])⟩
      · rw [if_neg (by rw [r.1]; decide)]
        have v3 := v2.synN r.2.2.1
        have l3 := r.2.2.2
        have d3 := r.2.1
        generalize SyncD Y.1 nN = Zz at *
        rcases ren_v d3 (by rw [v3.n]; simp [appF, synF]) with r | r
        · exact .inl ⟨r.1, r.2.1, by omega, _, v3.fs r.2.2.1, .inr (by simp [appF, synF, lenF, bl_len])⟩
        · refine .inr (.inr ⟨r.1, r.2.1, by omega, ?_⟩)
          have := v3.ren r.2.2.1
          simpa [appF, synF] using this
/-- a store that is up: its log is cs, all synced -/
structure Gd (S : SS) (cs : List Chg) (a b : Fi) (B : Nat) : Prop where
  up : S.D.down = false
  ok : okC cs
  v : V2 S.D a b
  fa : (a = none ∧ cs = []) ∨ a = some (logB cs, (logB cs).length)
  sz : S.size = (logB cs).length
  rw : S.rows.Perm (saysC cs)
  ro : RowsOk S.rows
  la : lenF a ≤ B
  lb : lenF b ≤ B
  pk : (packL S.rows).length ≤ B
/-- a disk without power: its log is cs, and perhaps t behind it, of which some may be synced -/
structure Fe (D : DS) (cs : List Chg) (t : List UInt8) (a b : Fi) (B : Nat) : Prop where
  dn : D.down = true
  ok : okC cs
  v : V2 D a b
  fa : (a = none ∧ cs = [] ∧ t = []) ∨ ∃ sy, a = some (logB cs ++ t, sy) ∧ (logB cs).length ≤ sy ∧ sy ≤ (logB cs ++ t).length
  la : lenF a ≤ B
  lb : lenF b ≤ B
theorem room_lay {D : DS} {R N : Nat} (hg : DG D R N) (fr : ByteArray) : roomD (layD D fr).1 = roomD D := by
  have h1 := room_rmN D
  have h2 := room_Append hg.rmN.db.nd nN fr
  have h3 := room_Sync (AppendD (rmN D).1 nN fr).1 nN
  have h4 := room_Rename (SyncD (AppendD (rmN D).1 nN fr).1 nN).1 nN nS
  unfold layD
  split
  · exact h1
  · split
    · exact h2.trans h1
    · split
      · exact h3.trans (h2.trans h1)
      · exact h4.trans (h3.trans (h2.trans h1))
theorem room_pack {S : SS} {R N : Nat} (hg : DG S.D R N) : roomD (PackS S).1.D = roomD S.D := by
  have h := room_lay hg (packB S.rows)
  unfold PackS
  split
  · exact (room_Remove _ nN).trans h
  · exact h
theorem room_pre {S : SS} {R N : Nat} (hg : DG S.D R N) : roomD (preS S).1.D = roomD S.D := by
  unfold preS
  split
  · exact room_pack hg
  · rfl
section
variable {S : SS} {cs : List Chg} {a b : Fi} {B R N : Nat}
theorem Gd.nodup (h : Gd S cs a b B) : (S.rows.map (·.k)).Nodup := (h.rw.map _).nodup_iff.2 (says_nodup cs)
theorem Gd.fell (h : Gd S cs a b B) {D : DS} {b' : Fi} {B' : Nat} (hd : D.down = true) (v : V2 D a b') (hB : B ≤ B') (hb : lenF b' ≤ B') : Fe D cs [] a b' B' := by
  refine ⟨hd, h.ok, v, ?_, Nat.le_trans h.la hB, hb⟩
  rcases h.fa with ⟨h1, h2⟩ | h1
  · exact .inl ⟨h1, h2, rfl⟩
  · exact .inr ⟨_, by rw [List.append_nil]; exact h1, Nat.le_refl _, by simp⟩
theorem Gd.same (h : Gd S cs a b B) {D : DS} {b' : Fi} (hd : D.down = false) (v : V2 D a b') (hb : lenF b' ≤ B) : Gd ⟨D, S.rows, S.size⟩ cs a b' B := ⟨hd, h.ok, v, h.fa, h.sz, h.rw, h.ro, h.la, hb, h.pk⟩
theorem Gd.len (h : Gd S cs a b B) : lenF a = (logB cs).length := by
  rcases h.fa with ⟨rfl, rfl⟩ | rfl <;> rfl
/-- Pack: where it answers ErrFull the power may go at the operation behind it -/
theorem pack_v (h : Gd S cs a b B) (hg : DG S.D R N) :
    ((PackS S).2 = 16 ∧ S.D.left ≠ 0 ∧ ∃ b', Fe (PackS S).1.D cs [] a b' B) ∨
    ((PackS S).2 = 7 ∧ roomD S.D < B + B ∧ (((PackS S).1.D.left ≤ S.D.left ∧ Gd (PackS S).1 cs a none B) ∨ (S.D.left ≠ 0 ∧ (PackS S).1.D.left = 0 ∧ Fe (PackS S).1.D cs [] a none B))) ∨
    ((PackS S).2 = 0 ∧ (PackS S).1.D.left ≤ S.D.left ∧ Gd (PackS S).1 (packC S.rows) (some (packL S.rows, (packL S.rows).length)) none B) := by
  have e0 : lenF (none : Fi) = 0 := rfl
  have hs := packB_size S.rows
  have hpk := h.pk
  have hlb := h.lb
  have hla := h.la
  have hbl : bl (packB S.rows) = packL S.rows := bl_mk _
  rcases lay_v h.v hg h.up (packB S.rows) with ⟨e1, d1, l1, b', v1, hb⟩ | ⟨e1, d1, l1, v1, hr⟩ | ⟨e1, d1, l1, v1⟩
  · have e : PackS S = layS S (packB S.rows) := by unfold PackS; rw [if_neg (by show ¬ (layD S.D (packB S.rows)).2 = 7; rw [e1]; decide)]
    rw [e]
    exact .inl ⟨e1, l1, b', h.fell d1 v1 (Nat.le_refl _) (by omega)⟩
  · have e : PackS S = (⟨(RemoveD (layD S.D (packB S.rows)).1 nN).1, (layS S (packB S.rows)).1.rows, (layS S (packB S.rows)).1.size⟩, 7) := by unfold PackS; exact if_pos e1
    have e3 : (layS S (packB S.rows)).1.size = S.size := by unfold layS; simp only; rw [if_neg (by rw [e1]; decide)]
    rw [e, e3, lay_rows]
    refine .inr (.inl ⟨rfl, by omega, ?_⟩)
    generalize layD S.D (packB S.rows) = Y at *
    rcases remn_v d1 (by rw [v1.n]; rfl) with r | r
    · exact .inr ⟨by have := r.2.2.2; omega, r.2.2.1, h.fell r.1 (v1.fs r.2.1) (Nat.le_refl _) (by rw [e0]; exact Nat.zero_le _)⟩
    · exact .inl ⟨Nat.le_trans r.2.2 l1, h.same r.1 (v1.fs r.2.1) (by rw [e0]; exact Nat.zero_le _)⟩
  · have e : PackS S = layS S (packB S.rows) := by unfold PackS; rw [if_neg (by show ¬ (layD S.D (packB S.rows)).2 = 7; rw [e1]; decide)]
    have e3 : layS S (packB S.rows) = (⟨(layD S.D (packB S.rows)).1, S.rows, (packB S.rows).size⟩, 0) := by unfold layS; rw [e1, if_pos rfl]
    rw [e, e3]
    rw [hbl] at v1
    have hn := h.nodup
    refine .inr (.inr ⟨rfl, l1, ⟨d1, pack_ok hn h.ro, v1, .inr (by rw [pack_log]), by rw [pack_log]; exact hs, (pack_says hn).symm, h.ro, hpk, by rw [e0]; exact Nat.zero_le _, hpk⟩⟩)
/-- what is packed ahead -/
theorem pre_v (h : Gd S cs a b B) (hg : DG S.D R N) :
    ((preS S).2 = 16 ∧ S.D.left ≠ 0 ∧ ∃ b', Fe (preS S).1.D cs [] a b' B) ∨
    (((preS S).2 = 0 ∨ (preS S).2 = 7) ∧ (preS S).1.D.left ≤ S.D.left ∧ ∃ cs' a' b', Gd (preS S).1 cs' a' b' B) ∨
    ((preS S).2 = 7 ∧ S.D.left ≠ 0 ∧ (preS S).1.D.left = 0 ∧ Fe (preS S).1.D cs [] a none B) := by
  unfold preS
  split
  · rcases pack_v h hg with r | ⟨e, _, r | r⟩ | r
    · exact .inl r
    · exact .inr (.inl ⟨.inr e, r.1, _, _, _, r.2⟩)
    · exact .inr (.inr ⟨e, r⟩)
    · exact .inr (.inl ⟨.inl r.1, r.2.1, _, _, _, r.2.2⟩)
  · exact .inr (.inl ⟨.inl rfl, Nat.le_refl _, _, _, _, h⟩)
/-- a disk without power does nothing -/
theorem op_dn {D D2 : DS} {put er : Nat} (hd : D.down = true) (hl : D.left = 0) : opD D D2 put er = (D, 16) := by
  have e : spendD D = D := by
    unfold spendD
    rw [hl, if_pos rfl]
    cases D
    simp only at hl
    subst hl
    rfl
  unfold opD
  rw [e, if_pos hd]
theorem write_dn {S : SS} (hd : S.D.down = true) (hl : S.D.left = 0) (fr : ByteArray) : writeS S fr = (S, 16) := by
  have e : wrA S fr = (S, 16) := by
    unfold wrA AppendD
    rw [op_dn hd hl]
  have e2 : wrB S fr = (S, 16) := by
    unfold wrB
    rw [e]
    exact if_neg (show ¬ (16 : Nat) = 7 by decide)
  unfold writeS
  rw [e2]
  exact if_pos (show (16 : Nat) ≠ 0 by decide)
theorem appF_log (h : Gd S cs a b B) (l : List UInt8) : appF a l = some (logB cs ++ l, (logB cs).length) := by
  rcases h.fa with ⟨rfl, rfl⟩ | rfl <;> rfl
/-- a frame behind the log -/
theorem wrA_v (h : Gd S cs a b B) (hg : DG S.D R N) (fr : ByteArray) :
    ((wrA S fr).2 = 16 ∧ S.D.left ≠ 0 ∧ Fe (wrA S fr).1.D cs [] a b B) ∨
    ((wrA S fr).2 = 7 ∧ (wrA S fr).1.D.left ≤ S.D.left ∧ Gd (wrA S fr).1 cs a b B ∧ roomD S.D < B + B + fr.size) ∨
    ((wrA S fr).2 = 0 ∧ (wrA S fr).1.D.left ≤ S.D.left ∧ (wrA S fr).1.D.down = false ∧ V2 (wrA S fr).1.D (some (logB cs ++ bl fr, (logB cs).length)) b) := by
  have hf := free_v h.v hg
  have h1 := h.la
  have h2 := h.lb
  rcases app_v (s := fr) h.up isS with r | r | r
  · exact .inl ⟨r.1, r.2.2.2, h.fell r.2.1 (h.v.fs r.2.2.1) (Nat.le_refl _) h.lb⟩
  · exact .inr (.inl ⟨r.1, by show (AppendD S.D nS fr).1.left ≤ _; omega, h.same r.2.1 (h.v.fs r.2.2.1) h.lb, by omega⟩)
  · refine .inr (.inr ⟨r.1, by show (AppendD S.D nS fr).1.left ≤ _; omega, r.2.1, ?_⟩)
    have := h.v.appS (D' := (wrA S fr).1.D) r.2.2.1
    rw [appF_log h] at this
    exact this
/-- a frame that was put behind the log is synced -/
theorem sy_v {S1 : SS} {c : Chg} {fr : ByteArray} (hfr : bl fr = frameB c.1 c.2) (h : Gd S cs a b B) (hsz : S1.size = S.size) (hd : S1.D.down = false) (hv : V2 S1.D (some (logB cs ++ bl fr, (logB cs).length)) b) :
    ((syS S1 fr).2 = 16 ∧ S1.D.left ≠ 0 ∧ Fe (syS S1 fr).1.D cs (frameB c.1 c.2) (some (logB cs ++ bl fr, (logB cs).length)) b (B + fr.size)) ∨
    ((syS S1 fr).2 = 0 ∧ (syS S1 fr).1.D.left ≤ S1.D.left ∧ (syS S1 fr).1.D.down = false ∧ (syS S1 fr).1.size = (logB (cs ++ [c])).length ∧ V2 (syS S1 fr).1.D (some (logB (cs ++ [c]), (logB (cs ++ [c])).length)) b) := by
  have hl := h.len
  have hla := h.la
  have hlb := h.lb
  have hs : (bl fr).length = fr.size := bl_len fr
  rcases sync_v hd (nm := nS) (by rw [hv.s]; simp) with r | r
  · exact .inl ⟨r.1, r.2.2.2, r.2.1, h.ok, hv.fs r.2.2.1, .inr ⟨_, by rw [hfr], Nat.le_refl _, by rw [List.length_append]; omega⟩, by show (logB cs ++ bl fr).length ≤ _; rw [List.length_append]; omega, by omega⟩
  · refine .inr ⟨r.1, by show (SyncD S1.D nS).1.left ≤ _; omega, r.2.1, ?_, ?_⟩
    · show S1.size + fr.size = _
      rw [hsz, h.sz, log_snoc, List.length_append, ← hfr, hs]
    · have := hv.synS (D' := (syS S1 fr).1.D) r.2.2.1
      rw [log_snoc, ← hfr]
      exact this
/-- what a change makes of a store, at whatever operation the power goes -/
def WrP (S : SS) (fr : ByteArray) (c : Chg) (B : Nat) : Prop :=
    ((writeS S fr).2 = 16 ∧ S.D.left ≠ 0 ∧ ∃ cs' t a' b', Fe (writeS S fr).1.D cs' t a' b' (B + fr.size) ∧ (saysC cs').Perm S.rows ∧ (t = [] ∨ t = frameB c.1 c.2)) ∨
    ((writeS S fr).2 = 7 ∧ roomD S.D < B + B + fr.size ∧ (((writeS S fr).1.D.left ≤ S.D.left ∧ ∃ cs' a' b', Gd (writeS S fr).1 cs' a' b' B) ∨ (S.D.left ≠ 0 ∧ ∃ cs' a' b', Fe (writeS S fr).1.D cs' [] a' b' B ∧ (saysC cs').Perm S.rows))) ∨
    ((writeS S fr).2 = 0 ∧ (writeS S fr).1.D.left ≤ S.D.left ∧ ∃ cs' b', okC cs' ∧ (saysC cs').Perm (applyR S.rows c.1 c.2) ∧ (writeS S fr).1.D.down = false ∧ (writeS S fr).1.size = (logB cs').length ∧ V2 (writeS S fr).1.D (some (logB cs', (logB cs').length)) b' ∧ (logB cs').length ≤ B + fr.size ∧ lenF b' ≤ B)
theorem write_v {c : Chg} {fr : ByteArray} (hfr : bl fr = frameB c.1 c.2) (hc : ChOk c.1 c.2) (h : Gd S cs a b B) (hg : DG S.D R N) :
    WrP S fr c B := by
  have hs : (bl fr).length = fr.size := bl_len fr
  -- what is so behind a frame that was put
  have fin : ∀ {S1 S0 : SS} {cs0 : List Chg} {a0 b0 : Fi}, Gd S0 cs0 a0 b0 B → S0.rows = S.rows → wrB S fr = (S1, 0) → S1.size = S0.size → S1.D.down = false → S1.D.left ≤ S.D.left → V2 S1.D (some (logB cs0 ++ bl fr, (logB cs0).length)) b0 → WrP S fr c B := by
    intro S1 S0 cs0 a0 b0 g hr0 hw hz1 hd1 hl1 hv1
    have ew : writeS S fr = syS S1 fr := by unfold writeS; rw [hw]; exact if_neg (fun e => e rfl)
    have hl := g.len
    have hla := g.la
    have hlb := g.lb
    unfold WrP
    rcases sy_v hfr g hz1 hd1 hv1 with r | r
    · left
      rw [ew]
      exact ⟨r.1, by have := r.2.1; omega, cs0, _, _, _, ⟨r.2.2.dn, r.2.2.ok, r.2.2.v, r.2.2.fa, Nat.le_trans r.2.2.la (by omega), Nat.le_trans r.2.2.lb (by omega)⟩, by rw [← hr0]; exact g.rw.symm, .inr rfl⟩
    · right; right
      rw [ew]
      refine ⟨r.1, by have := r.2.1; omega, cs0 ++ [c], b0, okC_snoc g.ok hc, ?_, r.2.2.1, r.2.2.2.1, r.2.2.2.2, by rw [log_snoc, List.length_append, ← hfr]; omega, hlb⟩
      rw [says_snoc, ← hr0]
      exact apply_perm g.rw.symm c.1 c.2
  have stop : ∀ {X : SS × Nat}, wrB S fr = X → X.2 ≠ 0 → writeS S fr = X := fun hx h0 => by unfold writeS; rw [hx]; exact if_pos h0
  unfold WrP at fin ⊢
  rcases wrA_v h hg fr with r | r | r
  · have hw : wrB S fr = wrA S fr := by unfold wrB; exact if_neg (by rw [r.1]; decide)
    have ew := stop hw (by rw [r.1]; decide)
    left
    rw [ew]
    exact ⟨r.1, r.2.1, cs, [], a, b, ⟨r.2.2.dn, r.2.2.ok, r.2.2.v, r.2.2.fa, Nat.le_trans r.2.2.la (by omega), Nat.le_trans r.2.2.lb (by omega)⟩, h.rw.symm, .inl rfl⟩
  · have hgA : DG (wrA S fr).1.D R (N + 1) := hg.app nS fr
    have hroA : roomD (wrA S fr).1.D = roomD S.D := room_Append hg.db.nd nS fr
    have hr7 := r.2.2.2
    have hw : wrB S fr = if (PackS (wrA S fr).1).2 = 0 then wrA (PackS (wrA S fr).1).1 fr else PackS (wrA S fr).1 := by unfold wrB; exact if_pos r.1
    rcases pack_v r.2.2.1 hgA with p | p | p
    · have hw2 : wrB S fr = PackS (wrA S fr).1 := by rw [hw]; exact if_neg (by rw [p.1]; decide)
      have ew := stop hw2 (by rw [p.1]; decide)
      left
      rw [ew]
      obtain ⟨b', q⟩ := p.2.2
      exact ⟨p.1, by have := p.2.1; have := r.2.1; omega, cs, [], a, b', ⟨q.dn, q.ok, q.v, q.fa, Nat.le_trans q.la (by omega), Nat.le_trans q.lb (by omega)⟩, h.rw.symm, .inl rfl⟩
    · have hw2 : wrB S fr = PackS (wrA S fr).1 := by rw [hw]; exact if_neg (by rw [p.1]; decide)
      have ew := stop hw2 (by rw [p.1]; decide)
      right; left
      rw [ew]
      refine ⟨p.1, hr7, ?_⟩
      rcases p.2.2 with q | q
      · exact .inl ⟨by have := q.1; have := r.2.1; omega, _, _, _, q.2⟩
      · exact .inr ⟨by have := q.1; have := r.2.1; omega, _, _, _, q.2.2, h.rw.symm⟩
    · have hw2 : wrB S fr = wrA (PackS (wrA S fr).1).1 fr := by rw [hw]; exact if_pos p.1
      have hgP := hgA.packS
      have hrP : (PackS (wrA S fr).1).1.rows = S.rows := Pack_rows _
      have g := p.2.2
      have hlP : (PackS (wrA S fr).1).1.D.left ≤ S.D.left := by have := p.2.1; have := r.2.1; omega
      generalize PackS (wrA S fr).1 = X at *
      rcases wrA_v g hgP fr with u | u | u
      · have ew := stop hw2 (by rw [u.1]; decide)
        left
        rw [ew]
        exact ⟨u.1, by have := u.2.1; omega, _, [], _, _, ⟨u.2.2.dn, u.2.2.ok, u.2.2.v, u.2.2.fa, Nat.le_trans u.2.2.la (by omega), Nat.le_trans u.2.2.lb (by omega)⟩, by rw [← hrP]; exact g.rw.symm, .inl rfl⟩
      · have ew := stop hw2 (by rw [u.1]; decide)
        right; left
        rw [ew]
        exact ⟨u.1, hr7, .inl ⟨by have := u.2.1; omega, _, _, _, u.2.2.1⟩⟩
      · have hw3 : wrB S fr = ((wrA X.1 fr).1, 0) := by rw [hw2, ← u.1]
        exact fin g hrP hw3 rfl u.2.2.1 (by have := u.2.1; omega) u.2.2.2
  · have hw : wrB S fr = ((wrA S fr).1, 0) := by rw [← r.1]; unfold wrB; exact if_neg (by rw [r.1]; decide)
    exact fin h rfl hw rfl r.2.2.1 r.2.1 r.2.2.2
theorem do_v {ps : List Rw} {ds : List ByteArray} (hc : ChOk ps ds) (h : Gd S cs a b B) (hg : DG S.D R N) (hB2 : (packL (applyR S.rows ps ds)).length ≤ B + (frameB ps ds).length) :
    ((DoS S ps ds).2 = 16 ∧ S.D.left ≠ 0 ∧ ∃ cs' t a' b', Fe (DoS S ps ds).1.D cs' t a' b' (B + (frameB ps ds).length) ∧ (saysC cs').Perm S.rows ∧ (t = [] ∨ t = frameB ps ds)) ∨
    ((DoS S ps ds).2 = 7 ∧ roomD S.D < B + B + (frameB ps ds).length ∧ (DoS S ps ds).1.rows = S.rows ∧ (((DoS S ps ds).1.D.left ≤ S.D.left ∧ ∃ cs' a' b', Gd (DoS S ps ds).1 cs' a' b' B) ∨ (S.D.left ≠ 0 ∧ ∃ cs' a' b', Fe (DoS S ps ds).1.D cs' [] a' b' B ∧ (saysC cs').Perm S.rows))) ∨
    ((DoS S ps ds).2 = 0 ∧ (DoS S ps ds).1.D.left ≤ S.D.left ∧ (DoS S ps ds).1.rows = applyR S.rows ps ds ∧ ∃ cs' a' b', Gd (DoS S ps ds).1 cs' a' b' (B + (frameB ps ds).length)) := by
  have hgo : ¬ (refR ps ds ≠ 0 ∨ ps.length + ds.length = 0) := fun e => e.elim (fun e => e hc.r) hc.n
  have hfr : bl (frmB ps ds) = frameB ps ds := bl_mk _
  have hfs : (frmB ps ds).size = (frameB ps ds).length := by rw [frmB_size, frameB_len]
  have ed : DoS S ps ds = if (preS S).2 ≠ 0 ∧ (preS S).2 ≠ 7 then preS S else chgS (preS S).1 ps ds := by unfold DoS; exact if_neg hgo
  have hpr := pre_rows S
  rcases pre_v h hg with r | r | ⟨r1, r2, r3, r4⟩
  · have e2 : DoS S ps ds = preS S := by rw [ed]; exact if_pos ⟨by rw [r.1]; decide, by rw [r.1]; decide⟩
    left
    rw [e2]
    obtain ⟨b', q⟩ := r.2.2
    exact ⟨r.1, r.2.1, cs, [], a, b', ⟨q.dn, q.ok, q.v, q.fa, Nat.le_trans q.la (by omega), Nat.le_trans q.lb (by omega)⟩, h.rw.symm, .inl rfl⟩
  · have e2 : DoS S ps ds = chgS (preS S).1 ps ds := by rw [ed]; exact if_neg (fun e => r.1.elim e.1 e.2)
    obtain ⟨cs1, a1, b1, g⟩ := r.2.2
    have hl1 := r.2.1
    have hg1 := hg.preS
    have hro1 : roomD (preS S).1.D = roomD S.D := room_pre hg
    rw [e2]
    unfold chgS
    have hwr := write_rows (preS S).1 (frmB ps ds)
    rcases write_v (c := (ps, ds)) hfr hc g hg1 with u | u | u
    · rw [if_pos (by rw [u.1]; decide)]
      left
      obtain ⟨cs', t, a', b', f1, f2, f3⟩ := u.2.2
      rw [hfs] at f1
      exact ⟨u.1, by have := u.2.1; omega, cs', t, a', b', f1, by rw [← hpr]; exact f2, f3⟩
    · rw [if_pos (by rw [u.1]; decide)]
      right; left
      refine ⟨u.1, by have := u.2.1; rw [hfs] at this; omega, hwr.trans hpr, ?_⟩
      rcases u.2.2 with q | ⟨q, cs', a', b', q1, q2⟩
      · exact .inl ⟨by have := q.1; omega, q.2⟩
      · exact .inr ⟨by omega, cs', a', b', q1, by rw [← hpr]; exact q2⟩
    · rw [if_neg (by rw [u.1]; exact fun e => e rfl)]
      right; right
      obtain ⟨cs', b', k1, k2, k3, k4, k5, k6, k7⟩ := u.2.2
      rw [hfs] at k6
      refine ⟨rfl, by have := u.2.1; show (writeS (preS S).1 (frmB ps ds)).1.D.left ≤ _; omega, by show applyR _ ps ds = _; rw [hwr, hpr], cs', some (logB cs', (logB cs').length), b', ?_⟩
      refine ⟨k3, k1, k5, .inr rfl, k4, ?_, ?_, k6, Nat.le_trans k7 (by omega), ?_⟩
      · show (applyR (writeS (preS S).1 (frmB ps ds)).1.rows ps ds).Perm _
        rw [hwr]
        exact k2.symm
      · show RowsOk (applyR (writeS (preS S).1 (frmB ps ds)).1.rows ps ds)
        rw [hwr, hpr]
        exact rowsOk_apply h.ro hc.r
      · show (packL (applyR (writeS (preS S).1 (frmB ps ds)).1.rows ps ds)).length ≤ _
        rw [hwr, hpr]
        exact hB2
  · have e2 : DoS S ps ds = chgS (preS S).1 ps ds := by rw [ed]; exact if_neg (fun e => e.2 r1)
    have e3 : DoS S ps ds = ((preS S).1, 16) := by
      rw [e2]
      unfold chgS
      rw [write_dn r4.dn r3]
      exact if_pos (show (16 : Nat) ≠ 0 by decide)
    left
    rw [e3]
    exact ⟨rfl, r2, cs, [], a, none, ⟨r4.dn, r4.ok, r4.v, r4.fa, Nat.le_trans r4.la (by omega), Nat.le_trans r4.lb (by omega)⟩, h.rw.symm, .inl rfl⟩
end
end Go.Proofs.YtckmlaempffpjaaGreat

namespace Go.Proofs.YtckmlaempffpjaaGreat
open Go.RowKit Go.Shelf

theorem says_ok {cs : List Chg} (h : okC cs) : RowsOk (saysC cs) := by
  have key : ∀ (cs : List Chg) (r : List Rw), okC cs → RowsOk r → RowsOk (saysF r cs) := by
    intro cs
    induction cs with
    | nil => intro r _ h; exact h
    | cons c cs ih => intro r hc h; exact ih _ (fun d hd => hc d (.tail _ hd)) (rowsOk_apply h (hc c (.head _)).r)
  exact key cs [] h (fun _ h => by cases h)
/-- a disk that is up: its log is cs, and t behind it, all synced -/
structure Wk (D : DS) (cs : List Chg) (t : List UInt8) (a b : Fi) (B : Nat) : Prop where
  up : D.down = false
  ok : okC cs
  v : V2 D a b
  fa : (a = none ∧ cs = [] ∧ t = []) ∨ a = some (logB cs ++ t, (logB cs ++ t).length)
  la : lenF a ≤ B
  lb : lenF b ≤ B
theorem cut_len (o : Fi) (k B : Nat) (h : lenF o ≤ B) : lenF (cutF o k) ≤ B := by
  cases o with
  | none => exact h
  | some f =>
    show (f.1.take (f.2 + k)).length ≤ B
    rw [List.length_take]
    exact Nat.le_trans (Nat.min_le_right _ _) h
/-- the power comes again -/
theorem wake_fe {D : DS} {cs : List Chg} {t : List UInt8} {a b : Fi} {B : Nat} (h : Fe D cs t a b B) (ks : List Int) : ∃ k a' b', Wk (wakeD D ks) cs (t.take k) a' b' B := by
  obtain ⟨k, j, hk, hv⟩ := h.v.wake ks
  rcases h.fa with ⟨rfl, rfl, rfl⟩ | ⟨sy, rfl, h1, h2⟩
  · exact ⟨0, _, _, rfl, h.ok, hv, .inl ⟨rfl, rfl, rfl⟩, h.la, cut_len _ _ _ h.lb⟩
  · have hk2 := hk _ rfl
    simp only at hk2
    have e : (logB cs ++ t).take (sy + k) = logB cs ++ t.take (sy + k - (logB cs).length) := by
      rw [List.take_append, List.take_of_length_le (by omega)]
    have el : ((logB cs ++ t).take (sy + k)).length = sy + k := by rw [List.length_take]; omega
    refine ⟨sy + k - (logB cs).length, _, _, rfl, h.ok, hv, .inr ?_, cut_len _ _ _ h.la, cut_len _ _ _ h.lb⟩
    show some ((logB cs ++ t).take (sy + k), sy + k) = _
    rw [← e, el]
theorem wake_wk {D : DS} {cs : List Chg} {t : List UInt8} {a b : Fi} {B : Nat} (hok : okC cs) (hv : V2 D a b) (fa : (a = none ∧ cs = [] ∧ t = []) ∨ a = some (logB cs ++ t, (logB cs ++ t).length)) (la : lenF a ≤ B) (lb : lenF b ≤ B) (ks : List Int) : ∃ b', Wk (wakeD D ks) cs t a b' B := by
  obtain ⟨k, j, hk, hv2⟩ := hv.wake ks
  rcases fa with ⟨rfl, rfl, rfl⟩ | rfl
  · exact ⟨_, rfl, hok, hv2, .inl ⟨rfl, rfl, rfl⟩, la, cut_len _ _ _ lb⟩
  · have hk2 := hk _ rfl
    simp only [Nat.sub_self] at hk2
    obtain rfl : k = 0 := by omega
    refine ⟨_, rfl, hok, ?_, .inr rfl, la, cut_len _ j _ lb⟩
    have e : cutF (some (logB cs ++ t, (logB cs ++ t).length)) 0 = some (logB cs ++ t, (logB cs ++ t).length) := by
      show some ((logB cs ++ t).take ((logB cs ++ t).length + 0), (logB cs ++ t).length + 0) = _
      rw [Nat.add_zero, List.take_length]
    rw [e] at hv2
    exact hv2
theorem wake_gd {S : SS} {cs : List Chg} {a b : Fi} {B : Nat} (h : Gd S cs a b B) (ks : List Int) : ∃ b', Wk (wakeD S.D ks) cs [] a b' B :=
  wake_wk h.ok h.v (by rw [List.append_nil]; rcases h.fa with ⟨h1, h2⟩ | h1; exact .inl ⟨h1, h2, rfl⟩; exact .inr h1) h.la h.lb ks
theorem read_v {D : DS} {cs : List Chg} {t : List UInt8} {a b : Fi} {B : Nat} (h : Wk D cs t a b B) : ¬ ((readD D nS).2 ≠ 0 ∧ (readD D nS).2 ≠ 5) ∧ bl (lgD D) = logB cs ++ t := by
  unfold lgD readD
  rw [if_neg (by rw [h.up]; decide), h.v.s]
  rcases h.fa with ⟨rfl, rfl, rfl⟩ | rfl
  · exact ⟨fun e => e.2 rfl, rfl⟩
  · exact ⟨fun e => e.1 rfl, bl_mk _⟩
theorem packL_perm {l m : List Rw} (h : l.Perm m) (hn : (l.map (·.k)).Nodup) : (packL l).length = (packL m).length := by
  rw [packL_len hn, packL_len ((h.map _).nodup_iff.1 hn), laid_perm h, h.length_eq]
/-- Open: the changes, or those and that which was under way -/
theorem opn_v {D : DS} {cs : List Chg} {c : Chg} {k : Nat} {a b : Fi} {B R N : Nat} (h : Wk D cs ((frameB c.1 c.2).take k) a b B) (hc : ChOk c.1 c.2) (hg : DG D R N) (hp1 : (packL (saysC cs)).length ≤ B) (hp2 : (packL (saysC (cs ++ [c]))).length ≤ B) :
    ((opnS D).2 = 16 ∧ D.left ≠ 0 ∧ (opnS D).1.D.down = true ∧ ∃ b', V2 (opnS D).1.D a b' ∧ lenF b' ≤ B) ∨
    ((opnS D).2 = 7 ∧ roomD D < B + B) ∨
    ((opnS D).2 = 0 ∧ (opnS D).1.D.left ≤ D.left ∧ ∃ cs' a' b', Gd (opnS D).1 cs' a' b' B ∧ (cs' = cs ∨ cs' = cs ++ [c]) ∧ (opnS D).1.rows = saysC cs') := by
  obtain ⟨hr, hb⟩ := read_v h
  have hls : (lgD D).size = (logB cs ++ (frameB c.1 c.2).take k).length := by rw [← hb, bl_len]
  -- whole frames alone
  have whole : ∀ cs', okC cs' → logB cs ++ (frameB c.1 c.2).take k = logB cs' → (a = none ∧ cs' = [] ∨ a = some (logB cs', (logB cs').length)) → (packL (saysC cs')).length ≤ B → (opnS D).2 = 0 ∧ (opnS D).1.D.left ≤ D.left ∧ ∃ a' b', Gd (opnS D).1 cs' a' b' B ∧ (opnS D).1.rows = saysC cs' := by
    intro cs' ho e hfa hpk
    have hrp : rplB (lgD D) = (saysC cs', [], true) := rpl_bytes ho nxt_nil (by rw [hb, e, List.append_nil])
    have eS : rawS D = ⟨D, saysC cs', (logB cs').length⟩ := by unfold rawS; rw [hrp, hls, e]; rfl
    have eo : opnS D = (rawS D, 0) := by
      unfold opnS
      rw [if_neg hr, hrp, if_neg (show ¬ true = false by decide), eS, hls, e]
      exact if_neg (Nat.lt_irrefl _)
    rw [eo, eS]
    exact ⟨rfl, Nat.le_refl _, a, b, ⟨h.up, ho, h.v, hfa, rfl, List.Perm.refl _, says_ok ho, h.la, h.lb, hpk⟩, rfl⟩
  by_cases hk : (frameB c.1 c.2).length ≤ k
  · have et : (frameB c.1 c.2).take k = frameB c.1 c.2 := List.take_of_length_le hk
    obtain ⟨h1, h2, a', b', g, h3⟩ := whole (cs ++ [c]) (okC_snoc h.ok hc) (by rw [et, log_snoc]) (by
      rcases h.fa with ⟨_, _, e3⟩ | e
      · rw [et] at e3
        exact absurd (congrArg List.length e3) (by rw [frameB_len, List.length_nil]; omega)
      · right; rw [e, et, log_snoc]) hp2
    exact .inr (.inr ⟨h1, h2, cs ++ [c], a', b', g, .inr rfl, h3⟩)
  · by_cases h0 : (frameB c.1 c.2).take k = []
    · obtain ⟨h1, h2, a', b', g, h3⟩ := whole cs h.ok (by rw [h0, List.append_nil]) (by
        rcases h.fa with ⟨e1, e2, _⟩ | e
        · exact .inl ⟨e1, e2⟩
        · right; rw [e, h0, List.append_nil]) hp1
      exact .inr (.inr ⟨h1, h2, cs, a', b', g, .inl rfl, h3⟩)
    · have hpart := part_none hc (k := k) (by omega)
      have hrp : rplB (lgD D) = (saysC cs, (frameB c.1 c.2).take k, true) := rpl_bytes h.ok hpart hb
      have hpos : 0 < ((frameB c.1 c.2).take k).length := List.length_pos_iff.2 h0
      have eS : rawS D = ⟨D, saysC cs, (logB cs).length⟩ := by
        unfold rawS
        rw [hrp, hls, List.length_append]
        simp
      have ex : (lgD D).extract 0 (logB cs).length = ⟨(logB cs).toArray⟩ := by
        apply bl_inj
        rw [bl_extract, hb, bl_mk, List.drop_zero, Nat.sub_zero, List.take_left]
      have eo : opnS D = layS ⟨D, saysC cs, (logB cs).length⟩ ⟨(logB cs).toArray⟩ := by
        unfold opnS
        rw [if_neg hr, hrp, if_neg (show ¬ true = false by decide), eS, hls, if_pos (by show (logB cs).length < _; rw [List.length_append]; omega)]
        show layS _ ((lgD D).extract 0 (logB cs).length) = _
        rw [ex]
      have ha : a = some (logB cs ++ (frameB c.1 c.2).take k, (logB cs ++ (frameB c.1 c.2).take k).length) := by
        rcases h.fa with ⟨_, _, e3⟩ | e
        · exact absurd e3 h0
        · exact e
      have hla := h.la
      have hlb := h.lb
      have hlc : (logB cs).length ≤ B := by
        rw [ha] at hla
        have : (logB cs ++ (frameB c.1 c.2).take k).length ≤ B := hla
        rw [List.length_append] at this
        omega
      have hfs : (⟨(logB cs).toArray⟩ : ByteArray).size = (logB cs).length := by show (logB cs).toArray.size = _; rw [List.size_toArray]
      rw [eo]
      rcases lay_v h.v hg h.up ⟨(logB cs).toArray⟩ with r | r | r
      · obtain ⟨b', v', hb'⟩ := r.2.2.2
        exact .inl ⟨r.1, r.2.2.1, r.2.1, b', v', by omega⟩
      · exact .inr (.inl ⟨r.1, by have := r.2.2.2.2; omega⟩)
      · have e3 : layS ⟨D, saysC cs, (logB cs).length⟩ ⟨(logB cs).toArray⟩ = (⟨(layD D ⟨(logB cs).toArray⟩).1, saysC cs, (logB cs).length⟩, 0) := by
          unfold layS
          simp only
          rw [r.1, if_pos rfl, hfs]
        rw [e3]
        have v' := r.2.2.2
        rw [bl_mk] at v'
        exact .inr (.inr ⟨rfl, r.2.2.1, cs, _, none, ⟨r.2.1, h.ok, v', .inr rfl, rfl, List.Perm.refl _, says_ok h.ok, hlc, Nat.zero_le _, hp1⟩, .inl rfl, rfl⟩)
/-- a new disk -/
theorem opn_new (n B : Nat) : (opnS ⟨[], n, 0, false, []⟩).2 = 0 ∧ (opnS ⟨[], n, 0, false, []⟩).1.D = ⟨[], n, 0, false, []⟩ ∧ (opnS ⟨[], n, 0, false, []⟩).1.rows = [] ∧ Gd (opnS ⟨[], n, 0, false, []⟩).1 [] none none B := by
  have e : opnS ⟨[], n, 0, false, []⟩ = (⟨⟨[], n, 0, false, []⟩, [], 0⟩, 0) := by
    have hr : readD ⟨[], n, 0, false, []⟩ nS = ({ data := #[] }, 5) := rfl
    have hl : lgD ⟨[], n, 0, false, []⟩ = { data := #[] } := rfl
    have hp : rplB { data := #[] } = ([], [], true) := by decide
    unfold opnS rawS
    rw [hr, hl, hp, if_neg (fun e => e.2 rfl), if_neg (by decide)]
    rfl
  rw [e]
  exact ⟨rfl, rfl, rfl, rfl, fun _ h => (by cases h), V2.new, .inl ⟨rfl, rfl⟩, rfl, List.Perm.refl _, fun _ h => (by cases h), Nat.zero_le _, Nat.zero_le _, by show (packL []).length ≤ B; rw [packL_len (l := []) List.nodup_nil]; exact Nat.zero_le _⟩
end Go.Proofs.YtckmlaempffpjaaGreat

namespace Go.Proofs.YtckmlaempffpjaaGreat
open Go.RowKit Go.Shelf

/-- a row's name -/
def nmR (k : Nat) : ByteArray := ⟨#[114, UInt8.ofNat (97 + k)]⟩
theorem nmR_inj {j k : Nat} (hj : j < 16) (hk : k < 16) (h : nmR j = nmR k) : j = k := by
  have h1 : UInt8.ofNat (97 + j) = UInt8.ofNat (97 + k) := by
    have := congrArg (fun b : ByteArray => b.data.toList) h
    simpa [nmR] using this
  have h2 := congrArg UInt8.toNat h1
  rw [UInt8.toNat_ofNat', UInt8.toNat_ofNat'] at h2
  omega
theorem nmR_size (k : Nat) : (nmR k).size = 2 := rfl
abbrev eB : ByteArray := { data := #[] }
def atR (now : List ByteArray) (k : Nat) : ByteArray := now.getD k eB
/-- the rows that there are -/
def nowR (now : List ByteArray) : List Rw := ((List.range 16).filter fun k => decide (atR now k ≠ eB)).map fun k => ⟨nmR k, atR now k⟩
theorem mem_now {now : List ByteArray} {x : Rw} : x ∈ nowR now ↔ ∃ k, k < 16 ∧ atR now k ≠ eB ∧ x = ⟨nmR k, atR now k⟩ := by
  unfold nowR
  rw [List.mem_map]
  constructor
  · rintro ⟨k, hk, rfl⟩
    rw [List.mem_filter, List.mem_range] at hk
    exact ⟨k, hk.1, of_decide_eq_true hk.2, rfl⟩
  · rintro ⟨k, h1, h2, rfl⟩
    exact ⟨k, List.mem_filter.2 ⟨List.mem_range.2 h1, decide_eq_true h2⟩, rfl⟩
theorem now_nodup (now : List ByteArray) : ((nowR now).map (·.k)).Nodup := by
  unfold nowR
  rw [List.map_map]
  have h : ((List.range 16).filter fun k => decide (atR now k ≠ eB)).Nodup := List.filter_sublist.nodup List.nodup_range
  refine List.pairwise_map.2 (List.Pairwise.imp_of_mem ?_ h)
  intro j k hj hk hne e
  exact hne (nmR_inj (List.mem_range.1 (List.mem_filter.1 hj).1) (List.mem_range.1 (List.mem_filter.1 hk).1) e)
theorem nodup_rows {l : List Rw} (h : (l.map (·.k)).Nodup) : l.Nodup := (List.pairwise_map.1 h).imp fun hne e => hne (by rw [e])
theorem perm_rows {a b : List Rw} (ha : (a.map (·.k)).Nodup) (hb : (b.map (·.k)).Nodup) (h : ∀ x, x ∈ a ↔ x ∈ b) : a.Perm b := (List.perm_ext_iff_of_nodup (nodup_rows ha) (nodup_rows hb)).2 h
theorem at_set {now : List ByteArray} {k j : Nat} {v : ByteArray} (hk : k < now.length) : atR (now.set k v) j = if j = k then v else atR now j := by
  unfold atR
  rw [List.getD_eq_getElem?_getD, List.getD_eq_getElem?_getD, List.getElem?_set]
  by_cases e : k = j
  · subst e
    simp [hk]
  · rw [if_neg e, if_neg (fun h => e h.symm)]
theorem put_now {now : List ByteArray} {k : Nat} {v : ByteArray} (hl : now.length = 16) (hk : k < 16) (hv : v ≠ eB) : (putR (nowR now) ⟨nmR k, v⟩).Perm (nowR (now.set k v)) := by
  refine perm_rows (put_nodup (now_nodup now) _) (now_nodup _) fun x => ?_
  unfold putR dropR
  rw [List.mem_append, List.mem_filter, List.mem_singleton, mem_now, mem_now]
  constructor
  · rintro (⟨⟨j, h1, h2, rfl⟩, h3⟩ | rfl)
    · have hne : j ≠ k := fun e => of_decide_eq_true h3 (by rw [e])
      exact ⟨j, h1, by rw [at_set (by omega), if_neg hne]; exact h2, by rw [at_set (by omega), if_neg hne]⟩
    · exact ⟨k, hk, by rw [at_set (by omega), if_pos rfl]; exact hv, by rw [at_set (by omega), if_pos rfl]⟩
  · rintro ⟨j, h1, h2, rfl⟩
    rw [at_set (by omega)] at h2 ⊢
    by_cases e : j = k
    · right; rw [if_pos e, e]
    · left
      rw [if_neg e] at h2 ⊢
      exact ⟨⟨j, h1, h2, rfl⟩, decide_eq_true fun h => e (nmR_inj h1 hk h)⟩
theorem del_now {now : List ByteArray} {k : Nat} (hl : now.length = 16) (hk : k < 16) : (dropR (nowR now) (nmR k)).Perm (nowR (now.set k eB)) := by
  refine perm_rows (drop_nodup (now_nodup now) _) (now_nodup _) fun x => ?_
  unfold dropR
  rw [List.mem_filter, mem_now, mem_now]
  constructor
  · rintro ⟨⟨j, h1, h2, rfl⟩, h3⟩
    have hne : j ≠ k := fun e => of_decide_eq_true h3 (by rw [e])
    exact ⟨j, h1, by rw [at_set (by omega), if_neg hne]; exact h2, by rw [at_set (by omega), if_neg hne]⟩
  · rintro ⟨j, h1, h2, rfl⟩
    rw [at_set (by omega)] at h2 ⊢
    by_cases e : j = k
    · rw [if_pos e] at h2; exact absurd rfl h2
    · rw [if_neg e] at h2 ⊢
      exact ⟨⟨j, h1, h2, rfl⟩, decide_eq_true fun h => e (nmR_inj h1 hk h)⟩
/-- a turn -/
structure Tn where
  ps : List Nat
  ds : List Nat
  many : Nat
  size : Nat
  arm : Nat
  keep : Int
  pack : Bool
structure TnOk (x : Tn) : Prop where
  lp : x.ps.length = 3
  ld : x.ds.length = 3
  p : ∀ i, x.ps.getD i 0 < 256
  d : ∀ i, x.ds.getD i 0 < 256
  m : x.many < 256
  s : x.size < 65536
  a : x.arm < 256
/-- a value of a turn -/
def valL (n i sz : Nat) : List UInt8 := ((List.replicate (1 + sz % 300) (0 : UInt8)).set 0 (UInt8.ofNat n)).set (sz % 300) (UInt8.ofNat (n + i))
def valB (n i sz : Nat) : ByteArray := ⟨(valL n i sz).toArray⟩
theorem valL_len (n i sz : Nat) : (valL n i sz).length = 1 + sz % 300 := by simp [valL]
theorem valB_size (n i sz : Nat) : (valB n i sz).size = 1 + sz % 300 := by
  show (valL n i sz).toArray.size = _
  rw [List.size_toArray, valL_len]
theorem valB_ne (n i sz : Nat) : valB n i sz ≠ eB := fun e => by
  have := congrArg ByteArray.size e
  rw [valB_size] at this
  have h0 : eB.size = 0 := rfl
  omega
def pk (x : Tn) (i : Nat) : Nat := x.ps.getD i 0 % 16
def dk (x : Tn) (i : Nat) : Nat := x.ds.getD i 0 % 16
def chP (x : Tn) (n i : Nat) : List Rw := (List.range i).map fun j => ⟨nmR (pk x j), valB n j x.size⟩
def chD (x : Tn) (i : Nat) : List ByteArray := (List.range i).map fun j => nmR (dk x j)
def chN (now : List ByteArray) (x : Tn) (n i : Nat) : List ByteArray := (List.range i).foldl (fun r j => r.set (pk x j) (valB n j x.size)) now
def chM (now : List ByteArray) (x : Tn) (i : Nat) : List ByteArray := (List.range i).foldl (fun r j => r.set (dk x j) eB) now
def nP (x : Tn) : Nat := x.many % 4
def nD (x : Tn) : Nat := x.many / 4 % 4
def nextR (now : List ByteArray) (x : Tn) (n : Nat) : List ByteArray := chM (chN now x n (nP x)) x (nD x)
theorem chN_succ (now : List ByteArray) (x : Tn) (n i : Nat) : chN now x n (i + 1) = (chN now x n i).set (pk x i) (valB n i x.size) := by
  unfold chN; rw [List.range_succ, List.foldl_append]; rfl
theorem chM_succ (now : List ByteArray) (x : Tn) (i : Nat) : chM now x (i + 1) = (chM now x i).set (dk x i) eB := by
  unfold chM; rw [List.range_succ, List.foldl_append]; rfl
theorem chP_succ (x : Tn) (n i : Nat) : chP x n (i + 1) = chP x n i ++ [⟨nmR (pk x i), valB n i x.size⟩] := by
  unfold chP; rw [List.range_succ, List.map_append]; rfl
theorem chD_succ (x : Tn) (i : Nat) : chD x (i + 1) = chD x i ++ [nmR (dk x i)] := by
  unfold chD; rw [List.range_succ, List.map_append]; rfl
theorem chP_len (x : Tn) (n i : Nat) : (chP x n i).length = i := by simp [chP]
theorem chD_len (x : Tn) (i : Nat) : (chD x i).length = i := by simp [chD]
theorem chN_len (now : List ByteArray) (x : Tn) (n : Nat) : ∀ i, (chN now x n i).length = now.length
  | 0 => rfl
  | i + 1 => by rw [chN_succ, List.length_set, chN_len now x n i]
theorem chM_len (now : List ByteArray) (x : Tn) : ∀ i, (chM now x i).length = now.length
  | 0 => rfl
  | i + 1 => by rw [chM_succ, List.length_set, chM_len now x i]
theorem next_len (now : List ByteArray) (x : Tn) (n : Nat) : (nextR now x n).length = now.length := by rw [nextR, chM_len, chN_len]
theorem puts_now {now : List ByteArray} (hl : now.length = 16) (x : Tn) (n : Nat) : ∀ i, (putsR (nowR now) (chP x n i)).Perm (nowR (chN now x n i))
  | 0 => List.Perm.refl _
  | i + 1 => by
    rw [chP_succ, puts_snoc, chN_succ]
    exact (put_perm (puts_now hl x n i) _).trans (put_now (by rw [chN_len]; exact hl) (Nat.mod_lt _ (by decide)) (valB_ne _ _ _))
theorem dels_now {now : List ByteArray} (hl : now.length = 16) (x : Tn) : ∀ i, (delsR (nowR now) (chD x i)).Perm (nowR (chM now x i))
  | 0 => List.Perm.refl _
  | i + 1 => by
    rw [chD_succ, dels_snoc, chM_succ]
    exact (drop_perm (dels_now hl x i) _).trans (del_now (by rw [chM_len]; exact hl) (Nat.mod_lt _ (by decide)))
/-- what a turn makes of the rows -/
theorem apply_now {now : List ByteArray} (hl : now.length = 16) {rows : List Rw} (hr : rows.Perm (nowR now)) (x : Tn) (n : Nat) : (applyR rows (chP x n (nP x)) (chD x (nD x))).Perm (nowR (nextR now x n)) := by
  refine (apply_perm hr _ _).trans ?_
  unfold applyR nextR
  exact (dels_perm (puts_now hl x n _) _).trans (dels_now (by rw [chN_len]; exact hl) x _)
/-- values that may be -/
def NowOk (now : List ByteArray) : Prop := now.length = 16 ∧ ∀ k, (atR now k).size ≤ 300
theorem NowOk.start : NowOk (List.replicate 16 eB) := ⟨by simp, fun k => by
  unfold atR
  rw [List.getD_eq_getElem?_getD, List.getElem?_replicate]
  split <;> exact Nat.zero_le _⟩
theorem NowOk.set {now : List ByteArray} (h : NowOk now) {k : Nat} {v : ByteArray} (hk : k < 16) (hv : v.size ≤ 300) : NowOk (now.set k v) := ⟨by rw [List.length_set]; exact h.1, fun j => by
  rw [at_set (by rw [h.1]; exact hk)]
  split
  · exact hv
  · exact h.2 j⟩
theorem NowOk.next {now : List ByteArray} (h : NowOk now) (x : Tn) (n : Nat) : NowOk (nextR now x n) := by
  have h1 : ∀ i, NowOk (chN now x n i) := by
    intro i
    induction i with
    | zero => exact h
    | succ i ih => rw [chN_succ]; exact ih.set (Nat.mod_lt _ (by decide)) (by rw [valB_size]; omega)
  have h2 : ∀ m, NowOk m → ∀ i, NowOk (chM m x i) := by
    intro m hm i
    induction i with
    | zero => exact hm
    | succ i ih => rw [chM_succ]; exact ih.set (Nat.mod_lt _ (by decide)) (Nat.zero_le _)
  exact h2 _ (h1 _) _
theorem now_len (now : List ByteArray) : (nowR now).length ≤ 16 := by
  unfold nowR
  rw [List.length_map]
  exact Nat.le_trans (List.length_filter_le _ _) (by simp)
theorem now_laid {now : List ByteArray} (h : NowOk now) : laidR (nowR now) ≤ 16 * 310 := by
  have key : ∀ l : List Rw, (∀ x ∈ l, rsz x ≤ 310) → laidR l ≤ l.length * 310 := by
    intro l hl
    induction l with
    | nil => exact Nat.le_refl _
    | cons x l ih =>
      have h1 := ih (fun y hy => hl y (.tail _ hy))
      have h2 := hl x (.head _)
      have e : laidR (x :: l) = rsz x + laidR l := by simp [laidR]
      rw [e, List.length_cons]
      omega
  have h1 := key (nowR now) (fun x hx => by
    obtain ⟨k, _, _, rfl⟩ := mem_now.1 hx
    have h3 := h.2 k
    show 8 + (nmR k).size + (atR now k).size ≤ 310
    rw [nmR_size]
    omega)
  exact Nat.le_trans h1 (Nat.mul_le_mul_right 310 (now_len now))
theorem now_pack {now : List ByteArray} (h : NowOk now) {rows : List Rw} (hr : rows.Perm (nowR now)) : (packL rows).length ≤ 5000 := by
  rw [packL_perm hr ((hr.map _).nodup_iff.2 (now_nodup now)), packL_len (now_nodup now)]
  have h1 := now_laid h
  have h2 := now_len now
  omega
theorem ch_ok (x : Tn) (n : Nat) : refR (chP x n (nP x)) (chD x (nD x)) = 0 := by
  have hp : nP x < 4 := Nat.mod_lt _ (by decide)
  have hd : nD x < 4 := Nat.mod_lt _ (by decide)
  have hk : ∀ k ∈ keysOf (chP x n (nP x)) (chD x (nD x)), k.size = 2 := fun k hk => by
    rcases List.mem_append.1 hk with hk | hk
    · obtain ⟨y, hy, rfl⟩ := List.mem_map.1 hk
      obtain ⟨j, _, rfl⟩ := List.mem_map.1 hy
      rfl
    · obtain ⟨j, _, rfl⟩ := List.mem_map.1 hk
      rfl
  unfold refR
  rw [if_neg, if_neg]
  · rw [Bool.or_eq_true]
    rintro (h | h)
    · unfold lng at h
      rw [Bool.or_eq_true] at h
      rcases h with h | h
      · have := of_decide_eq_true h
        rw [chP_len, chD_len] at this
        omega
      · obtain ⟨k, h1, h2⟩ := List.any_eq_true.1 h
        have := of_decide_eq_true h2
        rw [hk k h1] at this
        omega
    · obtain ⟨y, h1, h2⟩ := List.any_eq_true.1 h
      obtain ⟨j, _, rfl⟩ := List.mem_map.1 h1
      have := of_decide_eq_true h2
      simp only [valB_size] at this
      omega
  · intro h
    obtain ⟨k, h1, h2⟩ := List.any_eq_true.1 h
    have := of_decide_eq_true h2
    rw [hk k h1] at this
    cases this
theorem ch_frame (x : Tn) (n : Nat) : (frameB (chP x n (nP x)) (chD x (nD x))).length ≤ 1000 := by
  have hp : nP x < 4 := Nat.mod_lt _ (by decide)
  have hd : nD x < 4 := Nat.mod_lt _ (by decide)
  have h1 : laidR (chP x n (nP x)) ≤ (nP x) * 310 := by
    have : ∀ i, laidR (chP x n i) ≤ i * 310 := by
      intro i
      induction i with
      | zero => exact Nat.le_refl _
      | succ i ih =>
        rw [chP_succ, laid_app]
        have e : laidR [⟨nmR (pk x i), valB n i x.size⟩] = 8 + 2 + (1 + x.size % 300) := by
          simp [laidR, rsz, nmR_size, valB_size]
        omega
    exact this _
  have h2 := dels_len (ds := chD x (nD x)) (fun k hk => by obtain ⟨j, _, rfl⟩ := List.mem_map.1 hk; exact (by decide : (2 : Nat) ≤ 64))
  have h3 : ((chD x (nD x)).flatMap ptB).length ≤ nD x * 6 := by
    have : ∀ i, ((chD x i).flatMap ptB).length ≤ i * 6 := by
      intro i
      induction i with
      | zero => exact Nat.le_refl _
      | succ i ih =>
        rw [chD_succ, List.flatMap_append, List.length_append]
        have e : ([nmR (dk x i)].flatMap ptB).length = 6 := by simp [ptB_len, nmR_size]
        omega
    exact this _
  rw [frameB_len, bodyB]
  simp only [List.length_append, Wi.be_length, rows_len]
  omega
/-! what a store tells -/
theorem get_now {now : List ByteArray} {rows : List Rw} (hr : rows.Perm (nowR now)) {k : Nat} (hk : k < 16) : getR rows (nmR k) = (atR now k, decide (atR now k ≠ eB)) := by
  have hn : (rows.map (·.k)).Nodup := (hr.map _).nodup_iff.2 (now_nodup now)
  by_cases h : atR now k = eB
  · rw [getR_no, h, decide_eq_false (fun e => e rfl)]
    intro x hx e
    obtain ⟨j, h1, h2, rfl⟩ := mem_now.1 (hr.mem_iff.1 hx)
    rw [nmR_inj h1 hk e] at h2
    exact h2 h
  · have hm : (⟨nmR k, atR now k⟩ : Rw) ∈ rows := hr.mem_iff.2 (mem_now.2 ⟨k, hk, h, rfl⟩)
    obtain ⟨A, B, rfl⟩ := List.append_of_mem hm
    rw [decide_eq_true h]
    rw [List.map_append, List.map_cons, List.nodup_append] at hn
    exact getR_yes (x := ⟨nmR k, atR now k⟩) (fun y hy => hn.2.2 y.k (List.mem_map.2 ⟨y, hy, rfl⟩) (nmR k) (by simp))
/-- how many there are among the first -/
def cntR (now : List ByteArray) (k : Nat) : Nat := ((List.range k).filter fun j => decide (atR now j ≠ eB)).length
theorem cnt_succ (now : List ByteArray) (k : Nat) : cntR now (k + 1) = cntR now k + if atR now k ≠ eB then 1 else 0 := by
  unfold cntR
  rw [List.range_succ, List.filter_append, List.length_append]
  congr 1
  by_cases h : atR now k ≠ eB
  · rw [if_pos h]; simp [h]
  · rw [if_neg h]; simp [h]
theorem cnt_le (now : List ByteArray) (k : Nat) : cntR now k ≤ k := by
  unfold cntR
  exact Nat.le_trans (List.length_filter_le _ _) (by simp)
def nR : ByteArray := { data := #[114] }
def lst16 (now : List ByteArray) : List (List UInt8) := ((List.range 16).filter fun k => decide (atR now k ≠ eB)).map fun k => bl (nmR k)
theorem lst16_len (now : List ByteArray) : (lst16 now).length = cntR now 16 := by unfold lst16; rw [List.length_map]; rfl
theorem now_cnt (now : List ByteArray) : (nowR now).length = cntR now 16 := by unfold nowR; rw [List.length_map]; rfl
theorem names_le : ∀ j, j < 16 → ∀ k, k < 16 → j < k → leB (bl (nmR j)) (bl (nmR k)) = true := by decide +kernel
theorem names_pfx : ∀ k, k < 16 → pfx (nmR k) nR = true := by decide +kernel
theorem lst_now {now : List ByteArray} {rows : List Rw} (hr : rows.Perm (nowR now)) : lstR rows nR = lst16 now := by
  unfold lstR
  have h1 : (rows.filter fun x => pfx x.k nR) = rows := List.filter_eq_self.2 fun x hx => by
    obtain ⟨k, hk, _, rfl⟩ := mem_now.1 (hr.mem_iff.1 hx)
    exact names_pfx k hk
  rw [h1]
  have h2 : (rows.map fun x => bl x.k).Perm (lst16 now) := by
    have := hr.map (fun x => bl x.k)
    unfold nowR at this
    rw [List.map_map] at this
    exact this
  have h3 : (lst16 now).Pairwise (fun a b => leB a b = true) := by
    unfold lst16
    refine List.pairwise_map.2 ?_
    have hp : ((List.range 16).filter fun k => decide (atR now k ≠ eB)).Pairwise (· < ·) := List.Pairwise.filter _ List.pairwise_lt_range
    refine List.Pairwise.imp_of_mem ?_ hp
    intro a b ha hb hab
    exact names_le a (List.mem_range.1 (List.mem_filter.1 ha).1) b (List.mem_range.1 (List.mem_filter.1 hb).1) hab
  rw [mergeSort_of_perm h2]
  exact List.mergeSort_of_pairwise h3
theorem lst_at {now : List ByteArray} {k : Nat} (hk : k < 16) (h : atR now k ≠ eB) : (lst16 now)[cntR now k]? = some (bl (nmR k)) := by
  have e : List.range 16 = List.range k ++ (k :: (List.range 16).drop (k + 1)) := by
    have h1 : (List.range 16).take k = List.range k := by rw [List.take_range, Nat.min_eq_left (by omega)]
    have h2 : (List.range 16).drop k = k :: (List.range 16).drop (k + 1) := by
      rw [List.drop_eq_getElem_cons (by simpa using hk)]
      simp
    rw [← h2, ← h1, List.take_append_drop]
  unfold lst16
  rw [e, List.filter_append, List.map_append, List.getElem?_append_right (by rw [List.length_map]; exact Nat.le_refl _), List.length_map]
  show _[cntR now k - cntR now k]? = _
  rw [Nat.sub_self, List.filter_cons_of_pos (by simpa using h)]
  rfl
end Go.Proofs.YtckmlaempffpjaaGreat
