/-
  The reference's files in the order of their names: one disk, told in two ways.
-/
import Derived.Test.YtjedhnjjgmbcbaaR12
import Derived.Sort.Walk0
namespace Go.Proofs.Ytjedhnjjgmbcbaa
open Go.RowKit

theorem geN_iff (a b : ByteArray) : geN a b = true ↔ ¬ bl a < bl b := by
  unfold geN
  rw [show Op.bytesLess a.toList b.toList = decide (bl a < bl b) by rw [bytesLess_eq, ByteArray.toList_eq, ByteArray.toList_eq]; rfl]
  simp
theorem lt_of_ge_ne {a b : ByteArray} (h : ¬ bl a < bl b) (hn : a ≠ b) : bl b < bl a := by
  rcases Std.lt_trichotomy (bl a) (bl b) with h1 | h1 | h1
  · exact absurd h1 h
  · exact absurd (bl_inj h1) hn
  · exact h1
def fa (f : RF) : FA := ⟨f.nm, bl f.b, f.sy⟩
def SrtF (fs : List RF) : Prop := fs.Pairwise fun a b => bl a.nm < bl b.nm
/-- a file at its place -/
def insR : List RF → RF → List RF
  | [], f => [f]
  | g :: fs, f => if geN g.nm f.nm = true then (if g.nm = f.nm then f :: fs else f :: g :: fs) else g :: insR fs f
theorem withR_eq (f : RF) : ∀ fs : List RF, withR fs f = insR fs f
  | [] => rfl
  | g :: fs => by
    have ih := withR_eq f fs
    unfold withR at ih ⊢
    rw [insR, findR]
    by_cases hg : geN g.nm f.nm = true
    · rw [if_pos hg, if_pos hg]
      by_cases he : g.nm = f.nm
      · rw [if_pos he, decide_eq_true he]; rfl
      · rw [if_neg he, decide_eq_false he]; rfl
    · rw [if_neg hg, if_neg hg, ← ih]
      cases (findR fs f.nm).2 <;> rfl
theorem insR_mem {f x : RF} : ∀ {fs : List RF}, x ∈ insR fs f → x = f ∨ x ∈ fs
  | [], h => .inl (List.mem_singleton.1 h)
  | g :: fs, h => by
    rw [insR] at h
    split at h
    · split at h
      · rcases List.mem_cons.1 h with h | h
        · exact .inl h
        · exact .inr (List.mem_cons_of_mem _ h)
      · rcases List.mem_cons.1 h with h | h
        · exact .inl h
        · exact .inr h
    · rcases List.mem_cons.1 h with h | h
      · exact .inr (by rw [h]; exact List.mem_cons_self ..)
      · exact (insR_mem h).imp id (List.mem_cons_of_mem _)
theorem insR_srt {f : RF} : ∀ {fs : List RF}, SrtF fs → SrtF (insR fs f)
  | [], _ => List.pairwise_singleton _ _
  | g :: fs, h => by
    obtain ⟨h1, h2⟩ := List.pairwise_cons.1 h
    rw [insR]
    split
    · rename_i hg
      split
      · rename_i he
        exact List.pairwise_cons.2 ⟨fun x hx => he ▸ h1 x hx, h2⟩
      · rename_i he
        have hlt := lt_of_ge_ne ((geN_iff _ _).1 hg) he
        refine List.pairwise_cons.2 ⟨fun x hx => ?_, h⟩
        rcases List.mem_cons.1 hx with rfl | hx
        · exact hlt
        · exact Std.lt_trans hlt (h1 x hx)
    · rename_i hg
      refine List.pairwise_cons.2 ⟨fun x hx => ?_, insR_srt h2⟩
      rcases insR_mem hx with rfl | hx
      · exact Decidable.of_not_not (fun hn => hg ((geN_iff _ _).2 hn))
      · exact h1 x hx
theorem insR_new {f : RF} : ∀ {fs : List RF}, (∀ g ∈ fs, g.nm ≠ f.nm) → (insR fs f).Perm (fs ++ [f])
  | [], _ => List.Perm.refl _
  | g :: fs, h => by
    rw [insR]
    split
    · rw [if_neg (h g (List.mem_cons_self ..))]
      exact (List.perm_append_singleton f (g :: fs)).symm
    · exact List.Perm.cons _ (insR_new (fun x hx => h x (List.mem_cons_of_mem _ hx)))
theorem insR_old {f : RF} : ∀ {fs : List RF}, SrtF fs → (∃ g ∈ fs, g.nm = f.nm) → insR fs f = fs.map fun g => if g.nm = f.nm then f else g
  | [], _, h => by obtain ⟨_, h, _⟩ := h; cases h
  | g :: fs, hs, h => by
    obtain ⟨h1, h2⟩ := List.pairwise_cons.1 hs
    rw [insR, List.map_cons]
    by_cases he : g.nm = f.nm
    · rw [if_pos ((geN_iff _ _).2 (by rw [he]; exact Std.lt_irrefl)), if_pos he, if_pos he]
      congr 1
      have : fs.map (fun x => if x.nm = f.nm then f else x) = fs.map id := by
        refine List.map_congr_left fun x hx => ?_
        have := h1 x hx
        rw [if_neg (fun e => by rw [e, he] at this; exact Std.lt_irrefl this)]
        rfl
      rw [this, List.map_id]
    · obtain ⟨x, hx, hxn⟩ := h
      rcases List.mem_cons.1 hx with rfl | hx
      · exact absurd hxn he
      · have hlt : bl g.nm < bl f.nm := hxn ▸ h1 x hx
        rw [if_neg (fun e => (geN_iff _ _).1 e hlt), if_neg he, insR_old h2 ⟨x, hx, hxn⟩]
theorem findR_no {s : ByteArray} : ∀ {fs : List RF} {i : Nat}, SrtF fs → findR fs s = (i, false) → ∀ f ∈ fs, f.nm ≠ s
  | [], _, _, _, f, hf => by cases hf
  | g :: fs, i, hs, h, f, hf => by
    obtain ⟨h1, h2⟩ := List.pairwise_cons.1 hs
    rw [findR] at h
    split at h
    · rename_i hg
      have e : decide (g.nm = s) = false := congrArg Prod.snd h
      have hn := of_decide_eq_false e
      rcases List.mem_cons.1 hf with rfl | hf
      · exact hn
      · intro e2
        have := Std.lt_trans (lt_of_ge_ne ((geN_iff _ _).1 hg) hn) (h1 f hf)
        rw [e2] at this
        exact Std.lt_irrefl this
    · rename_i hg
      rcases List.mem_cons.1 hf with rfl | hf
      · intro e
        subst e
        exact hg ((geN_iff _ _).2 Std.lt_irrefl)
      · have e2 : (findR fs s).2 = false := congrArg Prod.snd h
        exact findR_no (i := (findR fs s).1) h2 (Prod.ext rfl e2) f hf
end Go.Proofs.Ytjedhnjjgmbcbaa
