/-
  DiskKeeps, in mathematics: what was put, what was synced.
-/
import Derived.Test.YtjedhnjjgmbcbaaD12
namespace Go.Proofs.Ytjedhnjjgmbcbaa
open Go.RowKit

theorem get_nm {fs : List FA} {n : ByteArray} {x : FA} (h : getF fs n = some x) : x.nm = n ∧ x ∈ fs := by
  unfold getF at h
  exact ⟨by simpa using List.find?_some h, List.mem_of_find?_eq_some h⟩
theorem get_upd (fs : List FA) (nm n : ByteArray) (g : FA → FA) (hg : ∀ x, (g x).nm = x.nm) : getF (updF fs nm g) n = (getF fs n).map (fun x => if n = nm then g x else x) := by
  induction fs with
  | nil => rfl
  | cons y l ih =>
    unfold getF updF at ih ⊢
    rw [List.map_cons, List.find?_cons, List.find?_cons]
    by_cases e : y.nm = nm
    · rw [if_pos e]
      by_cases e2 : y.nm = n
      · have : decide ((g y).nm = n) = true := by rw [hg]; exact decide_eq_true e2
        rw [this, decide_eq_true e2]
        simp [← e2, e]
      · have : decide ((g y).nm = n) = false := by rw [hg]; exact decide_eq_false e2
        rw [this, decide_eq_false e2]
        exact ih
    · rw [if_neg e]
      by_cases e2 : y.nm = n
      · rw [decide_eq_true e2]
        have : ¬ n = nm := fun h => e (e2.trans h)
        simp [this]
      · rw [decide_eq_false e2]
        exact ih
theorem get_mk (fs : List FA) (nm n : ByteArray) : getF (mkF fs nm) n = if n = nm ∧ getF fs nm = none then some ⟨nm, [], 0⟩ else getF fs n := by
  unfold mkF
  split
  · rename_i h
    have : getF fs nm ≠ none := by
      obtain ⟨x, hx, e⟩ := h
      unfold getF
      intro hnn
      exact List.find?_eq_none.1 hnn x hx (decide_eq_true e)
    rw [if_neg (fun h => this h.2)]
  · rename_i h
    have hn : getF fs nm = none := by
      unfold getF
      refine List.find?_eq_none.2 fun x hx => ?_
      simp only [decide_eq_true_eq]
      exact fun e => h ⟨x, hx, e⟩
    by_cases e : n = nm
    · subst e
      rw [if_pos ⟨rfl, hn⟩]
      unfold getF at hn ⊢
      rw [List.find?_append, hn]
      simp
    · rw [if_neg (fun h => e h.1)]
      unfold getF
      rw [List.find?_append]
      have : List.find? (fun x : FA => decide (x.nm = n)) [⟨nm, [], 0⟩] = none := by simp [Ne.symm e]
      rw [this, Option.or_none]
/-- what was put, what was synced, file by file -/
structure KR (D : DS) (sy pu : List ByteArray) : Prop where
  ls : sy.length = 3
  lp : pu.length = 3
  no : ∀ k, k < 3 → getF D.fs ⟨#[UInt8.ofNat (97 + k)]⟩ = none → bl (pu.getD k { data := #[] }) = [] ∧ bl (sy.getD k { data := #[] }) = []
  yes : ∀ k, k < 3 → ∀ x, getF D.fs ⟨#[UInt8.ofNat (97 + k)]⟩ = some x → bl (pu.getD k { data := #[] }) = x.da ∧ bl (sy.getD k { data := #[] }) = x.da.take x.sy ∧ x.sy ≤ x.da.length
def nmK (k : Nat) : ByteArray := ⟨#[UInt8.ofNat (97 + k)]⟩
theorem nmK_is {k : Nat} : isNm (nmK k) = true := by
  unfold isNm nmK
  refine decide_eq_true ⟨fun h => ?_, ?_⟩
  · have := congrArg (fun s : ByteArray => s.data.size) h
    simp at this
  · show (#[UInt8.ofNat (97 + k)] : Array UInt8).size ≤ 64
    simp
theorem nmK_inj {j k : Nat} (hj : j < 3) (hk : k < 3) (h : nmK j = nmK k) : j = k := by
  unfold nmK at h
  have h1 : (#[UInt8.ofNat (97 + j)] : Array UInt8) = #[UInt8.ofNat (97 + k)] := congrArg ByteArray.data h
  have h2 : UInt8.ofNat (97 + j) = UInt8.ofNat (97 + k) := by simpa using h1
  have h3 := congrArg UInt8.toNat h2
  simp only [UInt8.toNat_ofNat'] at h3
  omega
theorem KR.fs {D D' : DS} {sy pu : List ByteArray} (h : KR D sy pu) (e : D'.fs = D.fs) : KR D' sy pu := ⟨h.ls, h.lp, by rw [e]; exact h.no, by rw [e]; exact h.yes⟩
theorem KR.start {D : DS} (h : D.fs = []) : KR D [{ data := #[] }, { data := #[] }, { data := #[] }] [{ data := #[] }, { data := #[] }, { data := #[] }] := by
  refine ⟨rfl, rfl, fun k hk _ => ?_, fun k hk x hx => ?_⟩
  · match k, hk with
    | 0, _ => exact ⟨rfl, rfl⟩
    | 1, _ => exact ⟨rfl, rfl⟩
    | 2, _ => exact ⟨rfl, rfl⟩
  · rw [h] at hx; cases hx
theorem getD_set {l : List ByteArray} {k j : Nat} {s d : ByteArray} (hk : k < l.length) : (l.set k s).getD j d = if j = k then s else l.getD j d := by
  by_cases e : j = k
  · subst e
    rw [if_pos rfl, List.getD_eq_getElem?_getD, List.getElem?_set_self hk]
    rfl
  · rw [if_neg e, List.getD_eq_getElem?_getD, List.getElem?_set_ne (Ne.symm e), ← List.getD_eq_getElem?_getD]
theorem bl_app (s t : ByteArray) : bl (s ++ t) = bl s ++ bl t := by simp [bl, ByteArray.data_append]
theorem KR.app {D D' : DS} {sy pu : List ByteArray} {k : Nat} {s : ByteArray} (h : KR D sy pu) (hk : k < 3) (e : D'.fs = updF (mkF D.fs (nmK k)) (nmK k) (fun x => { x with da := x.da ++ bl s })) : KR D' sy (pu.set k (pu.getD k { data := #[] } ++ s)) := by
  have key : ∀ j, j < 3 → getF D'.fs (nmK j) = if j = k then some (match getF D.fs (nmK k) with | some x => { x with da := x.da ++ bl s } | none => ⟨nmK k, [] ++ bl s, 0⟩) else getF D.fs (nmK j) := fun j hj => by
    rw [e, get_upd (mkF D.fs (nmK k)) (nmK k) (nmK j) (fun x => { x with da := x.da ++ bl s }) (fun _ => rfl), get_mk]
    by_cases ejk : j = k
    · subst ejk
      rw [if_pos rfl]
      cases hg : getF D.fs (nmK j) with
      | none => simp
      | some x => simp
    · have hne : nmK j ≠ nmK k := fun h => ejk (nmK_inj hj hk h)
      rw [if_neg ejk, if_neg (fun h => hne h.1)]
      cases getF D.fs (nmK j) with
      | none => rfl
      | some x => simp [hne]
  have hl : k < pu.length := by rw [h.lp]; exact hk
  refine ⟨h.ls, by rw [List.length_set]; exact h.lp, fun j hj hn => ?_, fun j hj x hx => ?_⟩
  · have := key j hj
    rw [show nmK j = ⟨#[UInt8.ofNat (97 + j)]⟩ from rfl, hn] at this
    by_cases ejk : j = k
    · rw [if_pos ejk] at this; cases this
    · rw [if_neg ejk] at this
      rw [getD_set hl, if_neg ejk]
      exact h.no j hj this.symm
  · have := key j hj
    rw [show nmK j = ⟨#[UInt8.ofNat (97 + j)]⟩ from rfl, hx] at this
    by_cases ejk : j = k
    · subst ejk
      rw [if_pos rfl] at this
      rw [getD_set hl, if_pos rfl, bl_app]
      cases hg : getF D.fs (nmK j) with
      | none =>
        obtain ⟨h1, h2⟩ := h.no j hj hg
        rw [hg] at this
        obtain rfl := Option.some.inj this
        rw [h1, h2]
        exact ⟨rfl, by simp, Nat.zero_le _⟩
      | some y =>
        obtain ⟨h1, h2, h3⟩ := h.yes j hj y hg
        rw [hg] at this
        obtain rfl := Option.some.inj this
        rw [h1, h2]
        exact ⟨rfl, by rw [List.take_append_of_le_length h3], by simp; omega⟩
    · rw [if_neg ejk] at this
      rw [getD_set hl, if_neg ejk]
      exact h.yes j hj x this.symm
theorem KR.syn {D D' : DS} {sy pu : List ByteArray} {k : Nat} (h : KR D sy pu) (hk : k < 3) (e : D'.fs = updF D.fs (nmK k) (fun x => { x with sy := x.da.length })) : KR D' (sy.set k (pu.getD k { data := #[] })) pu := by
  have key : ∀ j, j < 3 → getF D'.fs (nmK j) = (getF D.fs (nmK j)).map (fun x => if j = k then { x with sy := x.da.length } else x) := fun j hj => by
    rw [e, get_upd D.fs (nmK k) (nmK j) (fun x => { x with sy := x.da.length }) (fun _ => rfl)]
    congr 1
    funext x
    by_cases ejk : j = k
    · subst ejk; simp
    · have hne : nmK j ≠ nmK k := fun h => ejk (nmK_inj hj hk h)
      simp [hne, ejk]
  have hl : k < sy.length := by rw [h.ls]; exact hk
  refine ⟨by rw [List.length_set]; exact h.ls, h.lp, fun j hj hn => ?_, fun j hj x hx => ?_⟩
  · have := key j hj
    rw [show nmK j = ⟨#[UInt8.ofNat (97 + j)]⟩ from rfl, hn] at this
    have hg : getF D.fs (nmK j) = none := by
      cases hg : getF D.fs (nmK j) with
      | none => rfl
      | some y => rw [show nmK j = ⟨#[UInt8.ofNat (97 + j)]⟩ from rfl] at hg; rw [hg] at this; cases this
    obtain ⟨h1, h2⟩ := h.no j hj hg
    refine ⟨h1, ?_⟩
    rw [getD_set hl]
    split
    · rename_i e; rw [← e]; exact h1
    · exact h2
  · have := key j hj
    rw [show nmK j = ⟨#[UInt8.ofNat (97 + j)]⟩ from rfl, hx] at this
    cases hg : getF D.fs (nmK j) with
    | none => rw [show nmK j = ⟨#[UInt8.ofNat (97 + j)]⟩ from rfl] at hg; rw [hg] at this; cases this
    | some y =>
      obtain ⟨h1, h2, h3⟩ := h.yes j hj y hg
      rw [show nmK j = ⟨#[UInt8.ofNat (97 + j)]⟩ from rfl] at hg
      rw [hg] at this
      have := (Option.some.inj this)
      simp only at this
      rw [getD_set hl]
      by_cases ejk : j = k
      · rw [if_pos ejk] at this
        rw [if_pos ejk]
        subst this
        subst ejk
        exact ⟨h1, by rw [h1]; simp, Nat.le_refl _⟩
      · rw [if_neg ejk] at this
        rw [if_neg ejk]
        subst this
        exact ⟨h1, h2, h3⟩
theorem rank_lt {fs : List FA} {x : FA} (h : x ∈ fs) : rankF fs x.nm < fs.length := by
  have : bl x.nm ∈ srtL fs := (srt_perm fs).mem_iff.2 (List.mem_map.2 ⟨x, h, rfl⟩)
  have := List.idxOf_lt_length_of_mem this
  rw [srt_len] at this
  exact this
theorem wk_map (fs : List FA) (ks : List Int) : wkK fs ks fs.length = fs.map fun x => cutA x (ks.getD (rankF fs x.nm) 0) := by
  unfold wkK
  refine List.map_congr_left fun x hx => ?_
  rw [if_pos (rank_lt hx)]
theorem get_map {fs : List FA} {n : ByteArray} {g : FA → FA} (hg : ∀ x, (g x).nm = x.nm) : getF (fs.map g) n = (getF fs n).map g := by
  induction fs with
  | nil => rfl
  | cons y l ih =>
    unfold getF at ih ⊢
    rw [List.map_cons, List.find?_cons, List.find?_cons, hg]
    cases decide (y.nm = n) with
    | true => rfl
    | false => exact ih
/-- behind the waking -/
theorem KR.woken {D : DS} {sy pu : List ByteArray} {ks : List Int} {k : Nat} (h : KR D sy pu) (hk : k < 3) :
    (readD (wakeD D ks) (nmK k) = ({ data := #[] }, 5) ∧ bl (pu.getD k { data := #[] }) = [] ∧ bl (sy.getD k { data := #[] }) = []) ∨
    ∃ s : ByteArray, readD (wakeD D ks) (nmK k) = (s, 0) ∧ (sy.getD k { data := #[] }).size ≤ s.size ∧ s.size ≤ (pu.getD k { data := #[] }).size ∧ s = (pu.getD k { data := #[] }).extract 0 s.size ∧ synD (wakeD D ks) (nmK k) = s.size := by
  have e1 : getF (wakeD D ks).fs (nmK k) = (getF D.fs (nmK k)).map (fun x => cutA x (ks.getD (rankF D.fs x.nm) 0)) := by
    rw [show (wakeD D ks).fs = wkK D.fs ks D.fs.length from rfl, wk_map, get_map (g := fun x => cutA x (ks.getD (rankF D.fs x.nm) 0)) (fun _ => rfl)]
  cases hg : getF D.fs (nmK k) with
  | none =>
    rw [hg] at e1
    exact .inl ⟨by simp only [readD, e1]; rfl, h.no k hk hg⟩
  | some x =>
    rw [hg] at e1
    obtain ⟨h1, h2, h3⟩ := h.yes k hk x hg
    obtain ⟨z, hz⟩ : ∃ z, z = ks.getD (rankF D.fs x.nm) 0 := ⟨_, rfl⟩
    have e2 : getF (wakeD D ks).fs (nmK k) = some (cutA x z) := by rw [e1, hz]; rfl
    have hs := stayN_le z (x.da.length - x.sy)
    have hl1 : (x.da.take (x.sy + stayN z (x.da.length - x.sy))).length = x.sy + stayN z (x.da.length - x.sy) := by rw [List.length_take]; omega
    have hl : (⟨(cutA x z).da.toArray⟩ : ByteArray).size = x.sy + stayN z (x.da.length - x.sy) := by
      show ((cutA x z).da.toArray).size = _
      simp only [List.size_toArray]
      exact hl1
    refine .inr ⟨⟨(cutA x z).da.toArray⟩, by simp only [readD, e2]; rfl, ?_, ?_, ?_, ?_⟩
    · rw [hl, ← bl_len, h2, List.length_take]; omega
    · rw [hl, ← bl_len, h1]; omega
    · refine bl_inj ?_
      rw [bl_extract, h1, hl]
      show (cutA x z).da = _
      simp [cutA]
    · rw [hl]
      simp only [synD, e2]
      rfl
/-- what an operation does where there is room -/
theorem app_is {D : DS} {k : Nat} {s : ByteArray} (hf : s.size ≤ D.free) :
    AppendD D (nmK k) s = if (spendD D).down = true then (spendD D, 16) else ({ spendD D with fs := updF (mkF D.fs (nmK k)) (nmK k) (fun x => { x with da := x.da ++ bl s }), free := D.free - s.size, sizes := D.sizes ++ [s.size] }, 0) := by
  have e : appD (spendD D) (nmK k) s = ({ spendD D with fs := updF (mkF D.fs (nmK k)) (nmK k) (fun x => { x with da := x.da ++ bl s }), free := D.free - s.size }, s.size, 0) := by
    rw [appD, if_neg (by rw [nmK_is]; decide), if_neg (by show ¬ D.free < s.size; omega)]
    rfl
  rw [AppendD, e, opD]
  split
  · rfl
  · rw [if_pos rfl]
    rfl
theorem sync_is {D : DS} {nm : ByteArray} (h : ∃ x ∈ D.fs, x.nm = nm) :
    SyncD D nm = if (spendD D).down = true then (spendD D, 16) else ({ spendD D with fs := updF D.fs nm (fun x => { x with sy := x.da.length }), sizes := D.sizes ++ [0] }, 0) := by
  have e : onD (spendD D) (syncF (spendD D) nm) nm 0 = (syncF (spendD D) nm, 0, 0) := if_pos h
  rw [SyncD, OnD, e, opD]
  split
  · rfl
  · rw [if_pos rfl]
    rfl
end Go.Proofs.Ytjedhnjjgmbcbaa
