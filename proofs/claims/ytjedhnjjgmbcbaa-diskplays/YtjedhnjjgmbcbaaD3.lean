/-
  made, drop, lose: one file.
-/
import Derived.Test.YtjedhnjjgmbcbaaD2
namespace Go.Proofs.Ytjedhnjjgmbcbaa
open Go.RowKit

theorem Clone_any (s : ByteArray) (w : World) (h : s.size ≤ 1000000) :
    Calls Try.prog 64 #[.string s] w fun e w' => e = .returned (.string s) ∧ Below w.heap.size w w' := Try.stringslite_Clone s w (by omega)
set_option linter.unusedVariables false in
set_option maxRecDepth 100000 in
set_option maxHeartbeats 2000000 in
theorem sclone_any (s : ByteArray) (w : World) (hs : s.size ≤ 1000000) :
    Calls Try.prog 46 #[.string s] w fun e w' => e = .returned (.string s) ∧ Below w.heap.size w w' := by
  have H0 := HA.start w
  go_enter Try.func46, Try.ntmps46
  refine wp_seq ?_
  refine wl_region ?_
  refine wl_val (.string ({ data := #[] })) (by kernel_rfl) (by kernel_rfl) ?_
  refine wl_nil ?_
  refine then_at (F := ⟨(.string s :: un :: .string ({ data := #[] }) :: List.replicate 2 un).toArray, []⟩) (by kernel_rfl) ?_
  refine wp_seq ?_
  refine wl_region ?_
  refine wl_val (.string s) (by kernel_rfl) (by kernel_rfl) ?_
  refine wl_call (v := .string s) H0 (by kernel_rfl) enter64 #[.string s] (by kernel_rfl) (Clone_any s w hs) ?_
  intro w1 h2
  refine wl_val (.string s) (by kernel_rfl) (by kernel_rfl) ?_
  refine wl_nil ?_
  refine then_at (F := ⟨(.string s :: un :: .string s :: .string s :: .string s :: List.replicate 0 un).toArray, []⟩) (by kernel_rfl) ?_
  refine wp_ret ?_
  repeat first | refine then_ret ?_ | refine block_ret ?_
  exact bodyPost_ret (v := .string s) (by kernel_rfl) rfl ⟨rfl, h2.old.old⟩
/-- a name among the files -/
theorem fl_split {fl : List Fl} {s : ByteArray} (h : ∃ f ∈ fl, f.nm = s) : ∃ A f B, fl = A ++ f :: B ∧ f.nm = s ∧ ∀ g ∈ A, g.nm ≠ s := by
  induction fl with
  | nil => obtain ⟨f, hf, _⟩ := h; cases hf
  | cons g fl ih =>
    by_cases hg : g.nm = s
    · exact ⟨[], g, fl, rfl, hg, fun _ h => (by cases h)⟩
    · obtain ⟨f, hf, e⟩ := h
      have : f ∈ fl := by
        rcases List.mem_cons.1 hf with rfl | h
        · exact absurd e hg
        · exact h
      obtain ⟨A, f', B, rfl, h1, h2⟩ := ih ⟨f, this, e⟩
      exact ⟨g :: A, f', B, rfl, h1, fun x hx => by
        rcases List.mem_cons.1 hx with rfl | hx
        · exact hg
        · exact h2 x hx⟩
/-- one file's blocks ahead of the others -/
theorem HA.file {z : Base} {q : Nat × TypeId × Array Value} {Lr L : BL} {A B : List Fl} {f : Fl} {w : World} (h : HA z (q :: (Lr ++ (FB (A ++ f :: B) ++ L))) w) :
    HA z (q :: (f.p, 67, fcell f.v f.sy) :: (f.Lr ++ (Lr ++ (FB (A ++ B) ++ L)))) w := by
  refine h.perm (List.Perm.cons _ ?_)
  rw [FB_app, FB_app, FB_cons]
  show (Lr ++ (FB A ++ (fb f ++ FB B) ++ L)).Perm (fb f ++ (Lr ++ (FB A ++ FB B ++ L)))
  have h1 : (FB A ++ (fb f ++ FB B) ++ L).Perm (fb f ++ (FB A ++ FB B ++ L)) := by
    have := perm_mv (FB A) (fb f) (FB B ++ L)
    simpa [List.append_assoc] using this
  exact (List.Perm.append_left Lr h1).trans (perm_mv Lr (fb f) _)
theorem HA.unfile {z : Base} {q : Nat × TypeId × Array Value} {Lr L : BL} {A B : List Fl} {f : Fl} {w : World} (h : HA z (q :: (f.p, 67, fcell f.v f.sy) :: (f.Lr ++ (Lr ++ (FB (A ++ B) ++ L)))) w) :
    HA z (q :: (Lr ++ (FB (A ++ f :: B) ++ L))) w := by
  refine h.perm (List.Perm.cons _ ?_)
  rw [FB_app, FB_app, FB_cons]
  show (fb f ++ (Lr ++ (FB A ++ FB B ++ L))).Perm (Lr ++ (FB A ++ (fb f ++ FB B) ++ L))
  have h1 : (FB A ++ (fb f ++ FB B) ++ L).Perm (fb f ++ (FB A ++ FB B ++ L)) := by
    have := perm_mv (FB A) (fb f) (FB B ++ L)
    simpa [List.append_assoc] using this
  exact ((List.Perm.append_left Lr h1).trans (perm_mv Lr (fb f) _)).symm
theorem eF_same {A B : List Fl} {f g : Fl} (h1 : g.nm = f.nm) (h2 : g.p = f.p) (h3 : g.bn = f.bn) : eF (A ++ g :: B) = eF (A ++ f :: B) := by simp [eF, ent, h1, h2, h3]
theorem FK.turn {A B : List Fl} {f g : Fl} {nx : Nat} (h : FK (A ++ f :: B) nx) (h1 : g.nm = f.nm) (h3 : g.bn = f.bn) (hr : RowB g.v g.da g.Lr) (hs : g.sy ≤ g.da.length) : FK (A ++ g :: B) nx := by
  have key : ∀ {P : Fl → Prop}, (∀ x ∈ A ++ f :: B, P x) → P g → ∀ x ∈ A ++ g :: B, P x := fun hp hg x hx => by
    rcases List.mem_append.1 hx with hx | hx
    · exact hp x (by simp [hx])
    · rcases List.mem_cons.1 hx with rfl | hx
      · exact hg
      · exact hp x (by simp [hx])
  exact ⟨key h.row hr, key h.syn hs, by have := h.nms; simpa [h1] using this, key h.old (by rw [h3]; exact h.old f (by simp)), by have := h.bns; simpa [h3] using this⟩
theorem FK.out {A B : List Fl} {f : Fl} {nx : Nat} (h : FK (A ++ f :: B) nx) : FK (A ++ B) nx := by
  have sub : (A ++ B).Sublist (A ++ f :: B) := List.Sublist.append_left (List.sublist_cons_self _ _) _
  exact ⟨fun x hx => h.row x (sub.subset hx), fun x hx => h.syn x (sub.subset hx), (sub.map _).nodup h.nms, fun x hx => h.old x (sub.subset hx), (sub.map _).nodup h.bns⟩
theorem FK.more {fl : List Fl} {f : Fl} {nx : Nat} (h : FK fl nx) (hn : ∀ g ∈ fl, g.nm ≠ f.nm) (hb : f.bn = nx) (hr : RowB f.v f.da f.Lr) (hs : f.sy ≤ f.da.length) : FK (fl ++ [f]) (nx + 1) := by
  have key : ∀ {P : Fl → Prop}, (∀ x ∈ fl, P x) → P f → ∀ x ∈ fl ++ [f], P x := fun hp hg x hx => by
    rcases List.mem_append.1 hx with hx | hx
    · exact hp x hx
    · rw [List.mem_singleton.1 hx]; exact hg
  refine ⟨key h.row hr, key h.syn hs, ?_, key (fun x hx => Nat.lt_succ_of_lt (h.old x hx)) (by omega), ?_⟩
  · rw [List.map_append, List.nodup_append]
    exact ⟨h.nms, by simp, fun a ha b hb' => by
      obtain ⟨x, hx, rfl⟩ := List.mem_map.1 ha
      obtain rfl : b = f.nm := by simpa using hb'
      exact hn x hx⟩
  · rw [List.map_append, List.nodup_append]
    exact ⟨h.bns, by simp, fun a ha b hb' => by
      obtain ⟨x, hx, rfl⟩ := List.mem_map.1 ha
      obtain rfl : b = f.bn := by simpa using hb'
      have := h.old x hx
      omega⟩
theorem RowB.form {v : Value} {da : List UInt8} {Lr : BL} (h : RowB v da Lr) : ∃ p c, v = .slice p da.length c := by
  rcases h with ⟨rfl, rfl, rfl⟩ | ⟨g, cap, cur, rfl, _⟩
  · exact ⟨none, 0, rfl⟩
  · exact ⟨_, _, rfl⟩
end Go.Proofs.Ytjedhnjjgmbcbaa
