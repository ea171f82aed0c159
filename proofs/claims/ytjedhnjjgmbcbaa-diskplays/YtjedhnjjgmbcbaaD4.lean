/-
  made, drop, lose.
-/
import Derived.Test.YtjedhnjjgmbcbaaD3
namespace Go.Proofs.Ytjedhnjjgmbcbaa
open Go.RowKit

theorem HA.newfile {z : Base} {q : Nat × TypeId × Array Value} {Lr L : BL} {fl : List Fl} {g : Fl} {w : World} (h : HA z ((g.p, 67, fcell g.v g.sy) :: q :: (Lr ++ (FB fl ++ L))) w) (hg : g.Lr = []) : HA z (q :: (Lr ++ (FB (fl ++ [g]) ++ L))) w := by
  refine h.perm ?_
  rw [FB_app]
  have e : FB [g] = [(g.p, 67, fcell g.v g.sy)] := by simp [FB, fb, hg]
  rw [e]
  have h1 := perm_mv [(g.p, 67, fcell g.v g.sy)] (q :: (Lr ++ FB fl)) L
  simpa [List.append_assoc] using h1
/-- what is told of files: made, where there is none; turned; taken away -/
def mkF (fs : List FA) (nm : ByteArray) : List FA := if ∃ x ∈ fs, x.nm = nm then fs else fs ++ [⟨nm, [], 0⟩]
def updF (fs : List FA) (nm : ByteArray) (g : FA → FA) : List FA := fs.map fun x => if x.nm = nm then g x else x
def delF (fs : List FA) (nm : ByteArray) : List FA := fs.filter fun x => decide (x.nm ≠ nm)
section
variable {A B : List Fl} {f : Fl} {nx : Nat}
theorem FK.apartA (h : FK (A ++ f :: B) nx) : ∀ g ∈ A, g.nm ≠ f.nm := fun g hg e => by
  have := h.nms
  rw [List.map_append, List.nodup_append] at this
  exact this.2.2 g.nm (List.mem_map.2 ⟨g, hg, rfl⟩) f.nm (by simp) e
theorem FK.apartB (h : FK (A ++ f :: B) nx) : ∀ g ∈ B, g.nm ≠ f.nm := fun g hg e => by
  have := h.nms
  rw [List.map_append, List.nodup_append] at this
  have h2 := this.2.1
  rw [List.map_cons, List.nodup_cons] at h2
  exact h2.1 (List.mem_map.2 ⟨g, hg, e⟩)
theorem upd_at (h : FK (A ++ f :: B) nx) (g : Fl) (u : FA → FA) (hg : ab g = u (ab f)) : (A ++ g :: B).map ab = updF ((A ++ f :: B).map ab) f.nm u := by
  have hA := h.apartA
  have hB := h.apartB
  have e : ∀ l : List Fl, (∀ x ∈ l, x.nm ≠ f.nm) → updF (l.map ab) f.nm u = l.map ab := fun l hl => by
    unfold updF
    rw [List.map_map]
    exact List.map_congr_left fun x hx => if_neg (hl x hx)
  have e2 : updF ((A ++ f :: B).map ab) f.nm u = updF (A.map ab) f.nm u ++ (u (ab f) :: updF (B.map ab) f.nm u) := by
    simp [updF, ab]
  rw [e2, e A hA, e B hB]
  simp [hg]
theorem del_at (h : FK (A ++ f :: B) nx) : (A ++ B).map ab = delF ((A ++ f :: B).map ab) f.nm := by
  have hA := h.apartA
  have hB := h.apartB
  have e : ∀ l : List Fl, (∀ x ∈ l, x.nm ≠ f.nm) → delF (l.map ab) f.nm = l.map ab := fun l hl => by
    unfold delF
    refine List.filter_eq_self.2 fun x hx => ?_
    obtain ⟨y, hy, rfl⟩ := List.mem_map.1 hx
    exact decide_eq_true (hl y hy)
  have e2 : delF ((A ++ f :: B).map ab) f.nm = delF (A.map ab) f.nm ++ delF (B.map ab) f.nm := by
    simp [delF, ab]
  rw [e2, e A hA, e B hB, List.map_append]
theorem del_no {fl : List Fl} {s : ByteArray} (h : ∀ g ∈ fl, g.nm ≠ s) : delF (fl.map ab) s = fl.map ab := by
  unfold delF
  refine List.filter_eq_self.2 fun x hx => ?_
  obtain ⟨y, hy, rfl⟩ := List.mem_map.1 hx
  exact decide_eq_true (h y hy)
end
set_option linter.unusedVariables false in
set_option maxRecDepth 100000 in
set_option maxHeartbeats 2000000 in
theorem made_yes {w0 : World} {M : ML} {q r fr lf nx : Nat} {dn : Bool} {v : Value} {Lr L : BL} {w : World} {A B : List Fl} {f : Fl} {s : ByteArray} (hK : FK (A ++ f :: B) nx) (hf : f.nm = s) (H0 : HA ⟨w0, (r, .mp (eF (A ++ f :: B)) nx) :: M⟩ ((q, 61, dcell r fr lf dn v) :: (Lr ++ (FB (A ++ f :: B) ++ L))) w) :
    Calls Try.prog 35 #[pt q, .string s] w fun e w' => ∃ A' f' B' nx', e = .returned (pt f'.p) ∧ f'.nm = s ∧ FK (A' ++ f' :: B') nx' ∧ (A' ++ f' :: B').map ab = mkF ((A ++ f :: B).map ab) s ∧ HA ⟨w0, (r, .mp (eF (A' ++ f' :: B')) nx') :: M⟩ ((q, 61, dcell r fr lf dn v) :: (Lr ++ (FB (A' ++ f' :: B') ++ L))) w' := by
  go_enter Try.func35, Try.ntmps35
  refine wp_seq ?_
  refine wl_region ?_
  refine wl_val (.pointer none) (by kernel_rfl) (by kernel_rfl) ?_
  refine wl_nil ?_
  refine then_at rfl ?_
  refine wp_seq ?_
  refine wl_region ?_
  refine wl_val (.pointer (some ⟨q, 0, none⟩)) (by kernel_rfl) (by kernel_rfl) ?_
  refine wl_val (.pointer (some ⟨q, 0, none⟩)) (by kernel_rfl) (by kernel_rfl) ?_
  refine wl_val (.pointer (some ⟨q, 0, none⟩)) (by kernel_rfl) (by kernel_rfl) ?_
  refine wl_val (.map (some r)) (by kernel_rfl) (run_load1 (fun w => Try.isAgg59 w) (by kernel_rfl) (((H0.get 0 rfl).cell 0).trans rfl)) ?_
  refine wl_val (.string s) (by kernel_rfl) (by kernel_rfl) ?_
  refine wl_val (.pointer (some ⟨f.p, 0, none⟩)) (by kernel_rfl) (run_look_yes (H0.old.maps _ (List.mem_cons_self ..)) hf (hf ▸ hK.apartA) (by kernel_rfl) (by kernel_rfl)) ?_
  refine wl_val (.pointer (some ⟨f.p, 0, none⟩)) (by kernel_rfl) (by kernel_rfl) ?_
  refine wl_nil ?_
  refine then_at rfl ?_
  refine wp_seq ?_
  refine wp_seq ?_
  refine wl_region ?_
  refine wl_val (.pointer (some ⟨f.p, 0, none⟩)) (by kernel_rfl) (by kernel_rfl) ?_
  refine wl_val (.bool false) (by kernel_rfl) (by kernel_rfl) ?_
  refine wl_nil ?_
  refine then_at rfl ?_
  refine wp_cond_false (by kernel_rfl) ?_
  refine wp_skip ?_
  refine then_at rfl ?_
  refine wp_seq ?_
  refine wl_region ?_
  refine wl_val (.pointer (some ⟨f.p, 0, none⟩)) (by kernel_rfl) (by kernel_rfl) ?_
  refine wl_val (.pointer (some ⟨f.p, 0, none⟩)) (by kernel_rfl) (by kernel_rfl) ?_
  refine wl_nil ?_
  refine then_at rfl ?_
  refine wp_ret ?_
  repeat first | refine then_ret ?_ | refine block_ret ?_
  exact bodyPost_ret (v := pt f.p) (by kernel_rfl) rfl ⟨A, f, B, nx, rfl, hf, hK, by rw [mkF, if_pos ⟨ab f, by simp, hf⟩], H0⟩
set_option linter.unusedVariables false in
set_option maxRecDepth 100000 in
set_option maxHeartbeats 2000000 in
theorem made_no {w0 : World} {M : ML} {q r fr lf nx : Nat} {dn : Bool} {v : Value} {Lr L : BL} {w : World} {fl : List Fl} {s : ByteArray} (hK : FK fl nx) (hn : ∀ f ∈ fl, f.nm ≠ s) (H0 : HA ⟨w0, (r, .mp (eF fl) nx) :: M⟩ ((q, 61, dcell r fr lf dn v) :: (Lr ++ (FB fl ++ L))) w) (hs : s.size ≤ 1000000) :
    Calls Try.prog 35 #[pt q, .string s] w fun e w' => ∃ A' f' B' nx', e = .returned (pt f'.p) ∧ f'.nm = s ∧ FK (A' ++ f' :: B') nx' ∧ (A' ++ f' :: B').map ab = mkF (fl.map ab) s ∧ HA ⟨w0, (r, .mp (eF (A' ++ f' :: B')) nx') :: M⟩ ((q, 61, dcell r fr lf dn v) :: (Lr ++ (FB (A' ++ f' :: B') ++ L))) w' := by
  go_enter Try.func35, Try.ntmps35
  refine wp_seq ?_
  refine wl_region ?_
  refine wl_val (.pointer none) (by kernel_rfl) (by kernel_rfl) ?_
  refine wl_nil ?_
  refine then_at rfl ?_
  refine wp_seq ?_
  refine wl_region ?_
  refine wl_val (.pointer (some ⟨q, 0, none⟩)) (by kernel_rfl) (by kernel_rfl) ?_
  refine wl_val (.pointer (some ⟨q, 0, none⟩)) (by kernel_rfl) (by kernel_rfl) ?_
  refine wl_val (.pointer (some ⟨q, 0, none⟩)) (by kernel_rfl) (by kernel_rfl) ?_
  refine wl_val (.map (some r)) (by kernel_rfl) (run_load1 (fun w => Try.isAgg59 w) (by kernel_rfl) (((H0.get 0 rfl).cell 0).trans rfl)) ?_
  refine wl_val (.string s) (by kernel_rfl) (by kernel_rfl) ?_
  refine wl_val (.pointer none) (by kernel_rfl) (run_look_no (H0.old.maps _ (List.mem_cons_self ..)) hn (by kernel_rfl) (by kernel_rfl)) ?_
  refine wl_val (.pointer none) (by kernel_rfl) (by kernel_rfl) ?_
  refine wl_nil ?_
  refine then_at rfl ?_
  refine wp_seq ?_
  refine wp_seq ?_
  refine wl_region ?_
  refine wl_val (.pointer none) (by kernel_rfl) (by kernel_rfl) ?_
  refine wl_val (.bool true) (by kernel_rfl) (by kernel_rfl) ?_
  refine wl_nil ?_
  refine then_at rfl ?_
  refine wp_cond_true (by kernel_rfl) ?_
  refine wp_seq ?_
  refine wl_region ?_
  refine wl_val (.agg #[.slice none 0 0, iN .i64 0]) (by kernel_rfl) (by kernel_rfl) ?_
  refine wl_make (c := #[.slice none 0 0, iN .i64 0]) H0 67 (by kernel_rfl) (by kernel_rfl) ?_
  intro q1 w2 (h3 : HA ⟨w0, (r, .mp (eF fl) nx) :: M⟩ ((q1, 67, #[.slice none 0 0, iN .i64 0]) :: (q, 61, dcell r fr lf dn v) :: (Lr ++ (FB fl ++ L))) w2)
  refine wl_val (.pointer (some ⟨q1, 0, none⟩)) (by kernel_rfl) (by kernel_rfl) ?_
  refine wl_nil ?_
  refine then_at rfl ?_
  refine wp_region_wx (HA ⟨w0, (r, .mp (eF fl) nx) :: M⟩ ((q1, 67, #[.slice none 0 0, iN .i64 0]) :: (q, 61, dcell r fr lf dn v) :: (Lr ++ (FB fl ++ L)))) (fun AQ w' => AQ = ⟨(pt q :: .string s :: un :: un :: .pointer none :: pt q1 :: pt q :: pt q :: pt q :: .map (some r) :: .string s :: .pointer none :: .pointer none :: .bool true :: .agg #[.slice none 0 0, iN .i64 0] :: pt q1 :: pt q :: pt q :: pt q :: .map (some r) :: .string s :: .string s :: pt q1 :: List.replicate 1 un).toArray, []⟩ ∧ HA ⟨w0, (r, .mp (eF (fl ++ [⟨s, q1, [], 0, .slice none 0 0, [], nx⟩])) (nx + 1)) :: M⟩ ((q1, 67, #[.slice none 0 0, iN .i64 0]) :: (q, 61, dcell r fr lf dn v) :: (Lr ++ (FB fl ++ L))) w') 8 (by kernel_rfl) (by kernel_rfl) (by kernel_rfl) (by kernel_rfl) (by kernel_rfl) (h3.drew) ?_ ?_
  · have h4 := h3.drew
    refine wx_pure (i := 0) (.pointer (some ⟨q, 0, none⟩)) rfl rfl (by kernel_rfl) (by kernel_rfl) (fun _ => (by kernel_rfl)) ?_
    refine wx_pure (i := 1) (.pointer (some ⟨q, 0, none⟩)) rfl rfl (by kernel_rfl) (by kernel_rfl) (fun _ => (by kernel_rfl)) ?_
    refine wx_pure (i := 2) (.pointer (some ⟨q, 0, none⟩)) rfl rfl (by kernel_rfl) (by kernel_rfl) (fun _ => (by kernel_rfl)) ?_
    refine wx_val (i := 3) (.map (some r)) rfl rfl (by kernel_rfl) (by kernel_rfl) (fun w' h' => run_load1 (fun w => Try.isAgg59 w) (by kernel_rfl) (((h'.get 1 rfl).cell 0).trans rfl)) ?_
    refine wx_pure (i := 4) (.string s) rfl rfl (by kernel_rfl) (by kernel_rfl) (fun _ => (by kernel_rfl)) ?_
    refine wx_call (i := 5) (.string s) (fun _ _ h hb => HA.keep _ _ h hb) rfl rfl (by kernel_rfl) (by kernel_rfl) enter46 #[.string s] (by kernel_rfl) (fun w' h' => sclone_any s w' hs) ?_
    refine wx_pure (i := 6) (.pointer (some ⟨q1, 0, none⟩)) rfl rfl (by kernel_rfl) (by kernel_rfl) (fun _ => (by kernel_rfl)) ?_
    refine wx_one 7 (by kernel_rfl) ?_
    refine ex_skip rfl (by kernel_rfl) (by kernel_rfl) h4 fun w5 h6 => ⟨_, run_upd (h6.old.maps _ (List.mem_cons_self ..)) hn (by kernel_rfl) (by kernel_rfl) ⟨s, q1, [], 0, .slice none 0 0, [], nx⟩ rfl rfl (by kernel_rfl), _, h6.setMap 0 rfl, ?_⟩
    have h7 : HA ⟨w0, (r, .mp (eF (fl ++ [⟨s, q1, [], 0, .slice none 0 0, [], nx⟩])) (nx + 1)) :: M⟩ ((q1, 67, #[.slice none 0 0, iN .i64 0]) :: (q, 61, dcell r fr lf dn v) :: (Lr ++ (FB fl ++ L))) _ := h6.setMap 0 rfl
    refine wx_end fun w8 hbx _ => ?_
    have h9 := HA.keep _ _ h7 hbx
    exact ⟨by kernel_rfl, h9⟩
  · rintro _ w10 ⟨rfl, h11⟩
    refine then_at rfl ?_
    refine wp_seq ?_
    refine wl_region ?_
    refine wl_val (.pointer (some ⟨q1, 0, none⟩)) (by kernel_rfl) (by kernel_rfl) ?_
    refine wl_val (.pointer (some ⟨q1, 0, none⟩)) (by kernel_rfl) (by kernel_rfl) ?_
    refine wl_nil ?_
    refine then_at (F := ⟨(pt q :: .string s :: un :: un :: pt q1 :: pt q1 :: pt q :: pt q :: pt q :: .map (some r) :: .string s :: .pointer none :: .pointer none :: .bool true :: .agg #[.slice none 0 0, iN .i64 0] :: pt q1 :: pt q :: pt q :: pt q :: .map (some r) :: .string s :: .string s :: pt q1 :: pt q1 :: List.replicate 0 un).toArray, []⟩) (by kernel_rfl) ?_
    refine wp_ret ?_
    repeat first | refine then_ret ?_ | refine block_ret ?_
    exact bodyPost_ret (v := pt q1) (by kernel_rfl) rfl ⟨fl, ⟨s, q1, [], 0, .slice none 0 0, [], nx⟩, [], nx + 1, rfl, rfl, hK.more hn rfl RowB.nil (Nat.zero_le _), by rw [mkF, if_neg (by rintro ⟨x, hx, e⟩; obtain ⟨y, hy, rfl⟩ := List.mem_map.1 hx; exact hn y hy e)]; simp [ab], HA.newfile (g := ⟨s, q1, [], 0, .slice none 0 0, [], nx⟩) h11 rfl⟩
set_option linter.unusedVariables false in
set_option maxRecDepth 100000 in
set_option maxHeartbeats 2000000 in
theorem drop_yes {w0 : World} {M : ML} {q r fr lf nx : Nat} {dn : Bool} {v : Value} {Lr L : BL} {w : World} {A B : List Fl} {f : Fl} {s : ByteArray} (hK : FK (A ++ f :: B) nx) (hf : f.nm = s) (H0 : HA ⟨w0, (r, .mp (eF (A ++ f :: B)) nx) :: M⟩ ((q, 61, dcell r fr lf dn v) :: (Lr ++ (FB (A ++ f :: B) ++ L))) w) (hfr : fr + f.da.length ≤ 9223372036854775807) :
    Calls Try.prog 45 #[pt q, .string s] w fun e w' => e = .returned (.tuple #[]) ∧ HA ⟨w0, (r, .mp (eF (A ++ B)) nx) :: M⟩ ((q, 61, dcell r (fr + f.da.length) lf dn v) :: (Lr ++ (FB (A ++ B) ++ L))) w' := by
  obtain ⟨pf, cf, hv⟩ := (hK.row f (by simp)).form
  have H0 := H0.file
  rw [hv] at H0
  go_enter Try.func45, Try.ntmps45
  refine wp_seq ?_
  refine wl_region ?_
  refine wl_val (.pointer (some ⟨q, 0, none⟩)) (by kernel_rfl) (by kernel_rfl) ?_
  refine wl_val (.pointer (some ⟨q, 0, none⟩)) (by kernel_rfl) (by kernel_rfl) ?_
  refine wl_val (.pointer (some ⟨q, 0, none⟩)) (by kernel_rfl) (by kernel_rfl) ?_
  refine wl_val (.map (some r)) (by kernel_rfl) (run_load1 (fun w => Try.isAgg59 w) (by kernel_rfl) (((H0.get 0 rfl).cell 0).trans rfl)) ?_
  refine wl_val (.string s) (by kernel_rfl) (by kernel_rfl) ?_
  refine wl_val (.pointer (some ⟨f.p, 0, none⟩)) (by kernel_rfl) (run_look_yes (H0.old.maps _ (List.mem_cons_self ..)) hf (hf ▸ hK.apartA) (by kernel_rfl) (by kernel_rfl)) ?_
  refine wl_val (.pointer (some ⟨f.p, 0, none⟩)) (by kernel_rfl) (by kernel_rfl) ?_
  refine wl_nil ?_
  refine then_at rfl ?_
  refine wp_seq ?_
  refine wl_region ?_
  refine wl_val (.pointer (some ⟨f.p, 0, none⟩)) (by kernel_rfl) (by kernel_rfl) ?_
  refine wl_val (.bool true) (by kernel_rfl) (by kernel_rfl) ?_
  refine wl_nil ?_
  refine then_at rfl ?_
  refine wp_cond_true (by kernel_rfl) ?_
  refine wp_seq ?_
  refine wp_region_wx (HA ⟨w0, (r, .mp (eF (A ++ f :: B)) nx) :: M⟩ ((q, 61, dcell r fr lf dn v) :: (f.p, 67, fcell (.slice pf f.da.length cf) f.sy) :: (f.Lr ++ (Lr ++ (FB (A ++ B) ++ L))))) (fun AQ w' => AQ = ⟨(pt q :: .string s :: un :: un :: pt f.p :: pt q :: pt q :: pt q :: .map (some r) :: .string s :: pt f.p :: pt f.p :: .bool true :: pt q :: pt q :: .pointer (some ⟨q, 1, none⟩) :: iN .i64 fr :: pt f.p :: pt f.p :: pt f.p :: .slice pf f.da.length cf :: iN .i64 f.da.length :: iN .i64 (fr + f.da.length) :: pt q :: .pointer (some ⟨q, 1, none⟩) :: List.replicate 5 un).toArray, []⟩ ∧ HA ⟨w0, (r, .mp (eF (A ++ f :: B)) nx) :: M⟩ ((q, 61, dcell r (fr + f.da.length) lf dn v) :: (f.p, 67, fcell (.slice pf f.da.length cf) f.sy) :: (f.Lr ++ (Lr ++ (FB (A ++ B) ++ L)))) w') 13 (by kernel_rfl) (by kernel_rfl) (by kernel_rfl) (by kernel_rfl) (by kernel_rfl) (H0.drew) ?_ ?_
  · have h1 := H0.drew
    refine wx_pure (i := 0) (.pointer (some ⟨q, 0, none⟩)) rfl rfl (by kernel_rfl) (by kernel_rfl) (fun _ => (by kernel_rfl)) ?_
    refine wx_pure (i := 1) (.pointer (some ⟨q, 0, none⟩)) rfl rfl (by kernel_rfl) (by kernel_rfl) (fun _ => (by kernel_rfl)) ?_
    refine wx_pure (i := 2) (.pointer (some ⟨q, 1, none⟩)) rfl rfl (by kernel_rfl) (by kernel_rfl) (fun _ => (by kernel_rfl)) ?_
    refine wx_val (i := 3) (iN .i64 fr) rfl rfl (by kernel_rfl) (by kernel_rfl) (fun w' h' => run_load1 (fun w => Try.isAgg3 w) (by kernel_rfl) (((h'.get 0 rfl).cell 1).trans rfl)) ?_
    refine wx_pure (i := 4) (.pointer (some ⟨f.p, 0, none⟩)) rfl rfl (by kernel_rfl) (by kernel_rfl) (fun _ => (by kernel_rfl)) ?_
    refine wx_pure (i := 5) (.pointer (some ⟨f.p, 0, none⟩)) rfl rfl (by kernel_rfl) (by kernel_rfl) (fun _ => (by kernel_rfl)) ?_
    refine wx_pure (i := 6) (.pointer (some ⟨f.p, 0, none⟩)) rfl rfl (by kernel_rfl) (by kernel_rfl) (fun _ => (by kernel_rfl)) ?_
    refine wx_val (i := 7) (.slice pf f.da.length cf) rfl rfl (by kernel_rfl) (by kernel_rfl) (fun w' h' => run_load1 (fun w => Try.isAgg52 w) (by kernel_rfl) (((h'.get 1 rfl).cell 0).trans rfl)) ?_
    refine wx_pure (i := 8) (iN .i64 f.da.length) rfl rfl (by kernel_rfl) (by kernel_rfl) (fun _ => (by kernel_rfl)) ?_
    refine wx_pure (i := 9) (iN .i64 (fr + f.da.length)) rfl rfl (by kernel_rfl) (by kernel_rfl) (fun _ => (run_add (k := .i64) (a := fr) (b := f.da.length) (by kernel_rfl) (by kernel_rfl) (by simp only [top]; omega))) ?_
    refine wx_pure (i := 10) (.pointer (some ⟨q, 0, none⟩)) rfl rfl (by kernel_rfl) (by kernel_rfl) (fun _ => (by kernel_rfl)) ?_
    refine wx_pure (i := 11) (.pointer (some ⟨q, 1, none⟩)) rfl rfl (by kernel_rfl) (by kernel_rfl) (fun _ => (by kernel_rfl)) ?_
    refine wx_one 12 (by kernel_rfl) ?_
    refine ex_skip rfl (by kernel_rfl) (by kernel_rfl) h1 fun w2 h3 => ⟨_, run_storev (v := iN .i64 (fr + f.da.length)) (fun w => Try.sizeOf3 w) (by kernel_rfl) (by kernel_rfl) (by kernel_rfl) (by rw [(h3.get 0 rfl).cell]; rfl) ((h3.get 0 rfl).free _ (by show 1 < 5; decide)), _, h3.put 0 rfl 1 _, ?_⟩
    have h4 : HA ⟨w0, (r, .mp (eF (A ++ f :: B)) nx) :: M⟩ ((q, 61, dcell r (fr + f.da.length) lf dn v) :: (f.p, 67, fcell (.slice pf f.da.length cf) f.sy) :: (f.Lr ++ (Lr ++ (FB (A ++ B) ++ L)))) _ := h3.put 0 rfl 1 (iN .i64 (fr + f.da.length))
    refine wx_end fun w5 hbx _ => ?_
    have h6 := HA.keep _ _ h4 hbx
    exact ⟨by kernel_rfl, h6⟩
  · rintro _ w7 ⟨rfl, h8⟩
    refine then_at rfl ?_
    refine wl_region ?_
    refine wl_val (.pointer (some ⟨q, 0, none⟩)) (by kernel_rfl) (by kernel_rfl) ?_
    refine wl_val (.pointer (some ⟨q, 0, none⟩)) (by kernel_rfl) (by kernel_rfl) ?_
    refine wl_val (.pointer (some ⟨q, 0, none⟩)) (by kernel_rfl) (by kernel_rfl) ?_
    refine wl_val (.map (some r)) (by kernel_rfl) (run_load1 (fun w => Try.isAgg59 w) (by kernel_rfl) (((h8.get 0 rfl).cell 0).trans rfl)) ?_
    refine wl_val (.string s) (by kernel_rfl) (by kernel_rfl) ?_
    refine wl_any (by kernel_rfl) (run_del (h8.old.maps _ (List.mem_cons_self ..)) hf (hf ▸ hK.apartA) (by kernel_rfl) (by kernel_rfl)) ?_
    have h9 : HA ⟨w0, (r, .mp (eF (A ++ B)) nx) :: M⟩ ((q, 61, dcell r (fr + f.da.length) lf dn v) :: (f.p, 67, fcell (.slice pf f.da.length cf) f.sy) :: (f.Lr ++ (Lr ++ (FB (A ++ B) ++ L)))) _ := h8.setMap 0 rfl
    generalize World.setMap _ _ _ _ = w10 at h9 ⊢
    refine wl_nil ?_
    exact bodyPost_end (v := .tuple #[]) (by kernel_rfl) rfl ⟨rfl, h9.sub (List.Sublist.cons_cons _ (List.Sublist.cons _ (List.sublist_append_right _ _)))⟩
set_option linter.unusedVariables false in
set_option maxRecDepth 100000 in
set_option maxHeartbeats 2000000 in
theorem drop_no {w0 : World} {M : ML} {q r fr lf nx : Nat} {dn : Bool} {v : Value} {Lr L : BL} {w : World} {fl : List Fl} {s : ByteArray} (hK : FK fl nx) (hn : ∀ f ∈ fl, f.nm ≠ s) (H0 : HA ⟨w0, (r, .mp (eF fl) nx) :: M⟩ ((q, 61, dcell r fr lf dn v) :: (Lr ++ (FB fl ++ L))) w) :
    Calls Try.prog 45 #[pt q, .string s] w fun e w' => e = .returned (.tuple #[]) ∧ HA ⟨w0, (r, .mp (eF fl) nx) :: M⟩ ((q, 61, dcell r fr lf dn v) :: (Lr ++ (FB fl ++ L))) w' := by
  go_enter Try.func45, Try.ntmps45
  refine wp_seq ?_
  refine wl_region ?_
  refine wl_val (.pointer (some ⟨q, 0, none⟩)) (by kernel_rfl) (by kernel_rfl) ?_
  refine wl_val (.pointer (some ⟨q, 0, none⟩)) (by kernel_rfl) (by kernel_rfl) ?_
  refine wl_val (.pointer (some ⟨q, 0, none⟩)) (by kernel_rfl) (by kernel_rfl) ?_
  refine wl_val (.map (some r)) (by kernel_rfl) (run_load1 (fun w => Try.isAgg59 w) (by kernel_rfl) (((H0.get 0 rfl).cell 0).trans rfl)) ?_
  refine wl_val (.string s) (by kernel_rfl) (by kernel_rfl) ?_
  refine wl_val (.pointer none) (by kernel_rfl) (run_look_no (H0.old.maps _ (List.mem_cons_self ..)) hn (by kernel_rfl) (by kernel_rfl)) ?_
  refine wl_val (.pointer none) (by kernel_rfl) (by kernel_rfl) ?_
  refine wl_nil ?_
  refine then_at rfl ?_
  refine wp_seq ?_
  refine wl_region ?_
  refine wl_val (.pointer none) (by kernel_rfl) (by kernel_rfl) ?_
  refine wl_val (.bool false) (by kernel_rfl) (by kernel_rfl) ?_
  refine wl_nil ?_
  refine then_at rfl ?_
  refine wp_cond_false (by kernel_rfl) ?_
  refine wp_skip ?_
  exact bodyPost_end (v := .tuple #[]) (by kernel_rfl) rfl ⟨rfl, H0⟩
/-- of u bytes that are not synced so many stay -/
def stayN (z : Int) (u : Nat) : Nat := (z % ((u : Int) + 1)).toNat
theorem stayN_le (z : Int) (u : Nat) : stayN z u ≤ u := by
  have h1 := Int.emod_nonneg z (show ((u : Int) + 1) ≠ 0 by omega)
  have h2 := Int.emod_lt_of_pos z (show (0 : Int) < (u : Int) + 1 by omega)
  unfold stayN
  omega
section
variable {ρ : Operand → Value} {x y : Operand} {w : World} {dst : Option Tmp} {T T2 ty : TypeId} {pos : String} {aft : Array Edge} {gd : Option (Nat × Bool)} {P : Program}
theorem wrap_id {z : Int} (h1 : -9223372036854775808 ≤ z) (h2 : z ≤ 9223372036854775807) : IntKind.i64.wrap z = z := by
  simp [IntKind.wrap, IntKind.bits, IntKind.signed]
  omega
theorem run_remz {z : Int} {u : Nat} (hu : u + 1 ≤ 9223372036854775807) (hx : ρ x = .int .i64 z) (hy : ρ y = iN .i64 (u + 1)) : (execOp ρ ⟨dst, .binOp .rem T x y T2, ty, pos, aft, gd⟩).run P w = .ok (.value (.int .i64 (z.tmod ((u : Int) + 1)))) w := by
  simp only [execOp, hx, hy, iN]
  have h3 := Int.tmod_lt_of_pos z (show (0 : Int) < (u : Int) + 1 by omega)
  have h4 : -((u : Int) + 1) < z.tmod ((u : Int) + 1) := by
    have := Int.tmod_lt_of_pos (-z) (show (0 : Int) < (u : Int) + 1 by omega)
    rw [Int.neg_tmod] at this
    omega
  simp [binOp, go_sem]
  omega
theorem run_addz {z : Int} {u : Nat} (hu : u ≤ 1099511627776) (hx : ρ x = .int .i64 (z.tmod ((u : Int) + 1))) (hy : ρ y = iN .i64 (u + 1)) : (execOp ρ ⟨dst, .binOp .add T x y T2, ty, pos, aft, gd⟩).run P w = .ok (.value (iN .i64 (z.tmod ((u : Int) + 1) + ((u : Int) + 1)).toNat)) w := by
  simp only [execOp, hx, hy, iN]
  have h3 := Int.tmod_lt_of_pos z (show (0 : Int) < (u : Int) + 1 by omega)
  have h4 : -((u : Int) + 1) < z.tmod ((u : Int) + 1) := by
    have := Int.tmod_lt_of_pos (-z) (show (0 : Int) < (u : Int) + 1 by omega)
    rw [Int.neg_tmod] at this
    omega
  have e : (((z.tmod ((u : Int) + 1) + ((u : Int) + 1)).toNat : Nat) : Int) = z.tmod ((u : Int) + 1) + ((u : Int) + 1) := by omega
  simp [binOp, go_sem]
  rw [wrap_id (by omega) (by omega)]
  omega
theorem stay_eq (z : Int) (u : Nat) : (z.tmod ((u : Int) + 1) + ((u : Int) + 1)).toNat % (u + 1) = stayN z u := by
  have hp : (0 : Int) < (u : Int) + 1 := by omega
  have h3 := Int.tmod_lt_of_pos z hp
  have h4 : -((u : Int) + 1) < z.tmod ((u : Int) + 1) := by
    have := Int.tmod_lt_of_pos (-z) hp
    rw [Int.neg_tmod] at this
    omega
  have e : (((z.tmod ((u : Int) + 1) + ((u : Int) + 1)).toNat : Nat) : Int) = z.tmod ((u : Int) + 1) + ((u : Int) + 1) := by omega
  unfold stayN
  have h5 : (z.tmod ((u : Int) + 1) + ((u : Int) + 1)) % ((u : Int) + 1) = z % ((u : Int) + 1) := by
    rw [Int.add_emod_right]
    have : z = (u + 1 : Int) * z.tdiv (u + 1) + z.tmod (u + 1) := (Int.mul_tdiv_add_tmod z (u + 1)).symm
    conv => rhs; rw [this]
    rw [Int.mul_add_emod_self_left]
  have h6 : (((z.tmod ((u : Int) + 1) + ((u : Int) + 1)).toNat % (u + 1) : Nat) : Int) = z % ((u : Int) + 1) := by
    rw [← h5, ← e]
    push_cast
    rfl
  omega
theorem run_slc {a : Option Addr} {n cap m : Nat} (hx : ρ x = .slice a n cap) (hy : ρ y = iN .i64 m) (hm : m ≤ cap) : (execOp ρ ⟨dst, .slice 52 x none (some y) none, ty, pos, aft, gd⟩).run Try.prog w = .ok (.value (.slice a m cap)) w := by
  have ha : a.map (·.add 0) = a := by
    cases a with
    | none => rfl
    | some b => cases b; simp [Addr.add]
  simp only [execOp, hx, iN] at hy ⊢
  simp [Instr.sliceAt, Instr.slice, Instr.sliceBounds, Instr.sliceBound, run_underlying Try.underlying52, Try.sizeOf5, hy, asIntOf, hm, ha]
end
set_option linter.unusedVariables false in
set_option maxRecDepth 100000 in
set_option maxHeartbeats 2000000 in
theorem lose_any {z : Base} {p n sy cf st : Nat} {pf : Option Addr} {k : Int} {T : BL} {w : World} (H0 : HA z ((p, 67, fcell (.slice pf n cf) sy) :: T) w) (hsy : sy ≤ n) (hn : n ≤ 1000000000) (hc : n ≤ cf) (hst : stayN k (n - sy) = st) :
    Calls Try.prog 53 #[pt p, .int .i64 k] w fun e w' => e = .returned (iN .i64 (n - sy - st)) ∧ HA z ((p, 67, fcell (.slice pf (sy + st) cf) (sy + st)) :: T) w' := by
  have hle := stayN_le k (n - sy)
  rw [hst] at hle
  go_enter Try.func53, Try.ntmps53
  refine wp_seq ?_
  refine wl_region ?_
  refine wl_val (iN .i64 0) (by kernel_rfl) (by kernel_rfl) ?_
  refine wl_nil ?_
  refine then_at rfl ?_
  refine wp_seq ?_
  refine wp_region_sure ⟨(pt p :: .int .i64 k :: un :: un :: iN .i64 0 :: iN .i64 ((n - sy) + 1) :: un :: un :: pt p :: pt p :: pt p :: .slice pf n cf :: iN .i64 n :: pt p :: pt p :: .pointer (some ⟨p, 1, none⟩) :: iN .i64 sy :: iN .i64 (n - sy) :: iN .i64 ((n - sy) + 1) :: List.replicate 35 un).toArray, []⟩ (HA z ((p, 67, fcell (.slice pf n cf) sy) :: T)) [.pointer (some ⟨p, 0, none⟩), .pointer (some ⟨p, 0, none⟩), .pointer (some ⟨p, 0, none⟩), .slice pf n cf, iN .i64 n, .pointer (some ⟨p, 0, none⟩), .pointer (some ⟨p, 0, none⟩), .pointer (some ⟨p, 1, none⟩), iN .i64 sy, iN .i64 (n - sy), iN .i64 ((n - sy) + 1), iN .i64 ((n - sy) + 1)] (by kernel_rfl) (by kernel_rfl) (by kernel_rfl) (by kernel_rfl) (fun _ _ _ h => h) H0.drew ?_ ?_
  · refine AllSure.cons (OpSure.take (v := .pointer (some ⟨p, 0, none⟩)) (by kernel_rfl) (by kernel_rfl) (fun _ _ => (by kernel_rfl))) ?_
    refine AllSure.cons (OpSure.take (v := .pointer (some ⟨p, 0, none⟩)) (by kernel_rfl) (by kernel_rfl) (fun _ _ => (by kernel_rfl))) ?_
    refine AllSure.cons (OpSure.take (v := .pointer (some ⟨p, 0, none⟩)) (by kernel_rfl) (by kernel_rfl) (fun _ _ => (by kernel_rfl))) ?_
    refine AllSure.cons (OpSure.take (v := .slice pf n cf) (by kernel_rfl) (by kernel_rfl) (fun w' h' => run_load1 (fun w => Try.isAgg52 w) (by kernel_rfl) (((h'.get 0 rfl).cell 0).trans rfl))) ?_
    refine AllSure.cons (OpSure.take (v := iN .i64 n) (by kernel_rfl) (by kernel_rfl) (fun _ _ => (by kernel_rfl))) ?_
    refine AllSure.cons (OpSure.take (v := .pointer (some ⟨p, 0, none⟩)) (by kernel_rfl) (by kernel_rfl) (fun _ _ => (by kernel_rfl))) ?_
    refine AllSure.cons (OpSure.take (v := .pointer (some ⟨p, 0, none⟩)) (by kernel_rfl) (by kernel_rfl) (fun _ _ => (by kernel_rfl))) ?_
    refine AllSure.cons (OpSure.take (v := .pointer (some ⟨p, 1, none⟩)) (by kernel_rfl) (by kernel_rfl) (fun _ _ => (by kernel_rfl))) ?_
    refine AllSure.cons (OpSure.take (v := iN .i64 sy) (by kernel_rfl) (by kernel_rfl) (fun w' h' => run_load1 (fun w => Try.isAgg3 w) (by kernel_rfl) (((h'.get 0 rfl).cell 1).trans rfl))) ?_
    refine AllSure.cons (OpSure.take (v := iN .i64 (n - sy)) (by kernel_rfl) (by kernel_rfl) (fun _ _ => (run_sub (k := .i64) (a := n) (b := sy) (by kernel_rfl) (by kernel_rfl) (by first | omega | (simp only [top]; omega)) (by first | omega | (simp only [top]; omega))))) ?_
    refine AllSure.cons (OpSure.take (v := iN .i64 ((n - sy) + 1)) (by kernel_rfl) (by kernel_rfl) (fun _ _ => (run_add (k := .i64) (a := n - sy) (b := 1) (by kernel_rfl) (by kernel_rfl) (by first | omega | (simp only [top]; omega))))) ?_
    refine AllSure.cons (OpSure.take (v := iN .i64 ((n - sy) + 1)) (by kernel_rfl) (by kernel_rfl) (fun _ _ => (by kernel_rfl))) ?_
    exact AllSure.nil
  intro w1 h2
  refine then_at rfl ?_
  refine wp_seq ?_
  refine wl_region ?_
  refine wl_val (.int .i64 k) (by kernel_rfl) (by kernel_rfl) ?_
  refine wl_val (iN .i64 ((n - sy) + 1)) (by kernel_rfl) (by kernel_rfl) ?_
  refine wl_val (.int .i64 (k.tmod (((n - sy : Nat) : Int) + 1))) (by kernel_rfl) (run_remz (z := k) (u := n - sy) (by omega) (by kernel_rfl) (by kernel_rfl)) ?_
  refine wl_val (iN .i64 ((n - sy) + 1)) (by kernel_rfl) (by kernel_rfl) ?_
  refine wl_val (iN .i64 (k.tmod (((n - sy : Nat) : Int) + 1) + (((n - sy : Nat) : Int) + 1)).toNat) (by kernel_rfl) (run_addz (z := k) (u := n - sy) (by omega) (by kernel_rfl) (by kernel_rfl)) ?_
  refine wl_val (iN .i64 ((n - sy) + 1)) (by kernel_rfl) (by kernel_rfl) ?_
  refine wl_val (iN .i64 st) (by kernel_rfl) ((run_rem (k := .i64) (a := (k.tmod (((n - sy : Nat) : Int) + 1) + (((n - sy : Nat) : Int) + 1)).toNat) (b := n - sy + 1) (by kernel_rfl) (by kernel_rfl) (by omega)).trans (by rw [stay_eq, hst])) ?_
  refine wl_val (iN .i64 st) (by kernel_rfl) (by kernel_rfl) ?_
  refine wl_nil ?_
  refine then_at rfl ?_
  refine wp_seq ?_
  refine wl_region ?_
  refine wl_val (iN .i64 ((n - sy) + 1)) (by kernel_rfl) (by kernel_rfl) ?_
  refine wl_val (iN .i64 (((n - sy) + 1) - 1)) (by kernel_rfl) (run_sub (k := .i64) (a := (n - sy) + 1) (b := 1) (by kernel_rfl) (by kernel_rfl) (by first | omega | (simp only [top]; omega)) (by first | omega | (simp only [top]; omega))) ?_
  refine wl_val (iN .i64 st) (by kernel_rfl) (by kernel_rfl) ?_
  refine wl_val (iN .i64 ((((n - sy) + 1) - 1) - st)) (by kernel_rfl) (run_sub (k := .i64) (a := ((n - sy) + 1) - 1) (b := st) (by kernel_rfl) (by kernel_rfl) (by first | omega | (simp only [top]; omega)) (by first | omega | (simp only [top]; omega))) ?_
  refine wl_val (iN .i64 ((((n - sy) + 1) - 1) - st)) (by kernel_rfl) (by kernel_rfl) ?_
  refine wl_nil ?_
  refine then_at rfl ?_
  refine wp_seq ?_
  refine wp_region_wx (HA z ((p, 67, fcell (.slice pf n cf) sy) :: T)) (fun AQ w' => AQ = ⟨(pt p :: .int .i64 k :: un :: un :: iN .i64 0 :: iN .i64 ((n - sy) + 1) :: iN .i64 st :: iN .i64 ((((n - sy) + 1) - 1) - st) :: pt p :: pt p :: pt p :: .slice pf n cf :: iN .i64 n :: pt p :: pt p :: .pointer (some ⟨p, 1, none⟩) :: iN .i64 sy :: iN .i64 (n - sy) :: iN .i64 ((n - sy) + 1) :: .int .i64 k :: iN .i64 ((n - sy) + 1) :: .int .i64 (k.tmod (((n - sy : Nat) : Int) + 1)) :: iN .i64 ((n - sy) + 1) :: iN .i64 (k.tmod (((n - sy : Nat) : Int) + 1) + (((n - sy : Nat) : Int) + 1)).toNat :: iN .i64 ((n - sy) + 1) :: iN .i64 st :: iN .i64 ((n - sy) + 1) :: iN .i64 (((n - sy) + 1) - 1) :: iN .i64 st :: iN .i64 ((((n - sy) + 1) - 1) - st) :: pt p :: pt p :: pt p :: pt p :: .slice pf n cf :: pt p :: pt p :: pt p :: .slice pf n cf :: iN .i64 n :: iN .i64 ((((n - sy) + 1) - 1) - st) :: iN .i64 (n - ((((n - sy) + 1) - 1) - st)) :: .slice pf (n - ((((n - sy) + 1) - 1) - st)) cf :: pt p :: pt p :: List.replicate 9 un).toArray, []⟩ ∧ HA z ((p, 67, fcell (.slice pf (n - ((((n - sy) + 1) - 1) - st)) cf) sy) :: T) w') 16 (by kernel_rfl) (by kernel_rfl) (by kernel_rfl) (by kernel_rfl) (by kernel_rfl) (h2.drew) ?_ ?_
  · have h3 := h2.drew
    refine wx_pure (i := 0) (.pointer (some ⟨p, 0, none⟩)) rfl rfl (by kernel_rfl) (by kernel_rfl) (fun _ => (by kernel_rfl)) ?_
    refine wx_pure (i := 1) (.pointer (some ⟨p, 0, none⟩)) rfl rfl (by kernel_rfl) (by kernel_rfl) (fun _ => (by kernel_rfl)) ?_
    refine wx_pure (i := 2) (.pointer (some ⟨p, 0, none⟩)) rfl rfl (by kernel_rfl) (by kernel_rfl) (fun _ => (by kernel_rfl)) ?_
    refine wx_pure (i := 3) (.pointer (some ⟨p, 0, none⟩)) rfl rfl (by kernel_rfl) (by kernel_rfl) (fun _ => (by kernel_rfl)) ?_
    refine wx_val (i := 4) (.slice pf n cf) rfl rfl (by kernel_rfl) (by kernel_rfl) (fun w' h' => run_load1 (fun w => Try.isAgg52 w) (by kernel_rfl) (((h'.get 0 rfl).cell 0).trans rfl)) ?_
    refine wx_pure (i := 5) (.pointer (some ⟨p, 0, none⟩)) rfl rfl (by kernel_rfl) (by kernel_rfl) (fun _ => (by kernel_rfl)) ?_
    refine wx_pure (i := 6) (.pointer (some ⟨p, 0, none⟩)) rfl rfl (by kernel_rfl) (by kernel_rfl) (fun _ => (by kernel_rfl)) ?_
    refine wx_pure (i := 7) (.pointer (some ⟨p, 0, none⟩)) rfl rfl (by kernel_rfl) (by kernel_rfl) (fun _ => (by kernel_rfl)) ?_
    refine wx_val (i := 8) (.slice pf n cf) rfl rfl (by kernel_rfl) (by kernel_rfl) (fun w' h' => run_load1 (fun w => Try.isAgg52 w) (by kernel_rfl) (((h'.get 0 rfl).cell 0).trans rfl)) ?_
    refine wx_pure (i := 9) (iN .i64 n) rfl rfl (by kernel_rfl) (by kernel_rfl) (fun _ => (by kernel_rfl)) ?_
    refine wx_pure (i := 10) (iN .i64 ((((n - sy) + 1) - 1) - st)) rfl rfl (by kernel_rfl) (by kernel_rfl) (fun _ => (by kernel_rfl)) ?_
    refine wx_pure (i := 11) (iN .i64 (n - ((((n - sy) + 1) - 1) - st))) rfl rfl (by kernel_rfl) (by kernel_rfl) (fun _ => (run_sub (k := .i64) (a := n) (b := (((n - sy) + 1) - 1) - st) (by kernel_rfl) (by kernel_rfl) (by first | omega | (simp only [top]; omega)) (by first | omega | (simp only [top]; omega)))) ?_
    refine wx_pure (i := 12) (.slice pf (n - ((((n - sy) + 1) - 1) - st)) cf) rfl rfl (by kernel_rfl) (by kernel_rfl) (fun _ => (run_slc (a := pf) (n := n) (cap := cf) (m := n - ((((n - sy) + 1) - 1) - st)) (by kernel_rfl) (by kernel_rfl) (by omega))) ?_
    refine wx_pure (i := 13) (.pointer (some ⟨p, 0, none⟩)) rfl rfl (by kernel_rfl) (by kernel_rfl) (fun _ => (by kernel_rfl)) ?_
    refine wx_pure (i := 14) (.pointer (some ⟨p, 0, none⟩)) rfl rfl (by kernel_rfl) (by kernel_rfl) (fun _ => (by kernel_rfl)) ?_
    refine wx_one 15 (by kernel_rfl) ?_
    refine ex_skip rfl (by kernel_rfl) (by kernel_rfl) h3 fun w4 h5 => ⟨_, run_storev (v := .slice pf (n - ((((n - sy) + 1) - 1) - st)) cf) (fun w => Try.sizeOf52 w) (by kernel_rfl) (by kernel_rfl) (by kernel_rfl) (by rw [(h5.get 0 rfl).cell]; rfl) ((h5.get 0 rfl).free _ (by show 0 < 2; decide)), _, h5.put 0 rfl 0 _, ?_⟩
    have h6 : HA z ((p, 67, fcell (.slice pf (n - ((((n - sy) + 1) - 1) - st)) cf) sy) :: T) _ := h5.put 0 rfl 0 (.slice pf (n - ((((n - sy) + 1) - 1) - st)) cf)
    refine wx_end fun w7 hbx _ => ?_
    have h8 := HA.keep _ _ h6 hbx
    exact ⟨by kernel_rfl, h8⟩
  · rintro _ w9 ⟨rfl, h10⟩
    refine then_at rfl ?_
    refine wp_seq ?_
    refine wl_region ?_
    refine wl_val (.pointer (some ⟨p, 0, none⟩)) (by kernel_rfl) (by kernel_rfl) ?_
    refine wl_val (.pointer (some ⟨p, 0, none⟩)) (by kernel_rfl) (by kernel_rfl) ?_
    refine wl_val (.pointer (some ⟨p, 0, none⟩)) (by kernel_rfl) (by kernel_rfl) ?_
    refine wl_val (.pointer (some ⟨p, 0, none⟩)) (by kernel_rfl) (by kernel_rfl) ?_
    refine wl_val (.slice pf (n - ((((n - sy) + 1) - 1) - st)) cf) (by kernel_rfl) (run_load1 (fun w => Try.isAgg52 w) (by kernel_rfl) (((h10.get 0 rfl).cell 0).trans rfl)) ?_
    refine wl_val (iN .i64 (n - ((((n - sy) + 1) - 1) - st))) (by kernel_rfl) (by kernel_rfl) ?_
    refine wl_val (.pointer (some ⟨p, 0, none⟩)) (by kernel_rfl) (by kernel_rfl) ?_
    refine wl_val (.pointer (some ⟨p, 1, none⟩)) (by kernel_rfl) (by kernel_rfl) ?_
    refine wl_putv (v := iN .i64 (n - ((((n - sy) + 1) - 1) - st))) h10 0 rfl 1 (by show 1 < 2; decide) (by kernel_rfl) (fun w => Try.sizeOf3 w) (by kernel_rfl) (by kernel_rfl) (by kernel_rfl) ?_
    intro w11 (h12 : HA z ((p, 67, fcell (.slice pf (n - ((((n - sy) + 1) - 1) - st)) cf) (n - ((((n - sy) + 1) - 1) - st))) :: T) w11)
    refine wl_nil ?_
    refine then_at (F := ⟨(pt p :: .int .i64 k :: un :: un :: iN .i64 0 :: iN .i64 ((n - sy) + 1) :: iN .i64 st :: iN .i64 ((((n - sy) + 1) - 1) - st) :: pt p :: pt p :: pt p :: .slice pf n cf :: iN .i64 n :: pt p :: pt p :: .pointer (some ⟨p, 1, none⟩) :: iN .i64 sy :: iN .i64 (n - sy) :: iN .i64 ((n - sy) + 1) :: .int .i64 k :: iN .i64 ((n - sy) + 1) :: .int .i64 (k.tmod (((n - sy : Nat) : Int) + 1)) :: iN .i64 ((n - sy) + 1) :: iN .i64 (k.tmod (((n - sy : Nat) : Int) + 1) + (((n - sy : Nat) : Int) + 1)).toNat :: iN .i64 ((n - sy) + 1) :: iN .i64 st :: iN .i64 ((n - sy) + 1) :: iN .i64 (((n - sy) + 1) - 1) :: iN .i64 st :: iN .i64 ((((n - sy) + 1) - 1) - st) :: pt p :: pt p :: pt p :: pt p :: .slice pf n cf :: pt p :: pt p :: pt p :: .slice pf n cf :: iN .i64 n :: iN .i64 ((((n - sy) + 1) - 1) - st) :: iN .i64 (n - ((((n - sy) + 1) - 1) - st)) :: .slice pf (n - ((((n - sy) + 1) - 1) - st)) cf :: pt p :: pt p :: pt p :: pt p :: pt p :: pt p :: .slice pf (n - ((((n - sy) + 1) - 1) - st)) cf :: iN .i64 (n - ((((n - sy) + 1) - 1) - st)) :: pt p :: .pointer (some ⟨p, 1, none⟩) :: List.replicate 1 un).toArray, []⟩) (by kernel_rfl) ?_
    refine wp_seq ?_
    refine wl_region ?_
    refine wl_val (iN .i64 ((((n - sy) + 1) - 1) - st)) (by kernel_rfl) (by kernel_rfl) ?_
    refine wl_val (iN .i64 ((((n - sy) + 1) - 1) - st)) (by kernel_rfl) (by kernel_rfl) ?_
    refine wl_nil ?_
    refine then_at rfl ?_
    refine wp_ret ?_
    repeat first | refine then_ret ?_ | refine block_ret ?_
    exact bodyPost_ret (v := iN .i64 (n - sy + 1 - 1 - st)) (by kernel_rfl) rfl ⟨by rw [show n - sy + 1 - 1 - st = n - sy - st by omega], by rw [show sy + st = n - (n - sy + 1 - 1 - st) by omega]; exact h12⟩
end Go.Proofs.Ytjedhnjjgmbcbaa
