/-
 made, drop, lose.
-/
import Derived.Test.YtckmlaempffpjaaGreatGB
namespace Go.Proofs.YtckmlaempffpjaaGreat
open Go.RowKit

theorem HA.newfile {z : Base} {q : Nat × TypeId × Array Value} {Lr L : BL} {fl : List Fl} {g : Fl} {w : World} (h : HA z ((g.p, 109, fcell g.v g.sy) :: q :: (Lr ++ (FB fl ++ L))) w) (hg : g.Lr = []) : HA z (q :: (Lr ++ (FB (fl ++ [g]) ++ L))) w := by
 refine h.perm ?_
 rw [FB_app]
 have e : FB [g] = [(g.p, 109, fcell g.v g.sy)] := by simp [FB, fb, hg]
 rw [e]
 have h1 := perm_mv [(g.p, 109, fcell g.v g.sy)] (q :: (Lr ++ FB fl)) L
 simpa [List.append_assoc] using h1
/-- what is told of files: made, where there is none; turned; taken away -/
def mkF (fs : List FA) (nm : ByteArray) : List FA := if ∃ x ∈ fs, x.nm = nm then fs else fs ++ [⟨nm, [], 0⟩]
def updF (fs : List FA) (nm : ByteArray) (g : FA → FA) : List FA := fs.map fun x => if x.nm = nm then g x else x
def delF (fs : List FA) (nm : ByteArray) : List FA := fs.filter fun x => decide (x.nm ≠ nm)
section
variable {A B : List Fl} {f : Fl} {nx : Nat}
theorem FK.apartA (h : FK (A ++ f :: B) nx) : ∀ g ∈ A, g.nm ≠ f.nm := fun g hg e => by
 have := h.nms
 rw [List.map_append, List.nodup_append] at this
 exact this.2.2 g.nm (List.mem_map.2 ⟨g, hg, rfl⟩) f.nm (by simp) e
theorem FK.apartB (h : FK (A ++ f :: B) nx) : ∀ g ∈ B, g.nm ≠ f.nm := fun g hg e => by
 have := h.nms
 rw [List.map_append, List.nodup_append] at this
 have h2 := this.2.1
 rw [List.map_cons, List.nodup_cons] at h2
 exact h2.1 (List.mem_map.2 ⟨g, hg, e⟩)
theorem upd_at (h : FK (A ++ f :: B) nx) (g : Fl) (u : FA → FA) (hg : ab g = u (ab f)) : (A ++ g :: B).map ab = updF ((A ++ f :: B).map ab) f.nm u := by
 have hA := h.apartA
 have hB := h.apartB
 have e : ∀ l : List Fl, (∀ x ∈ l, x.nm ≠ f.nm) → updF (l.map ab) f.nm u = l.map ab := fun l hl => by
  unfold updF
  rw [List.map_map]
  exact List.map_congr_left fun x hx => if_neg (hl x hx)
 have e2 : updF ((A ++ f :: B).map ab) f.nm u = updF (A.map ab) f.nm u ++ (u (ab f) :: updF (B.map ab) f.nm u) := by
  simp [updF, ab]
 rw [e2, e A hA, e B hB]
 simp [hg]
theorem del_at (h : FK (A ++ f :: B) nx) : (A ++ B).map ab = delF ((A ++ f :: B).map ab) f.nm := by
 have hA := h.apartA
 have hB := h.apartB
 have e : ∀ l : List Fl, (∀ x ∈ l, x.nm ≠ f.nm) → delF (l.map ab) f.nm = l.map ab := fun l hl => by
  unfold delF
  refine List.filter_eq_self.2 fun x hx => ?_
  obtain ⟨y, hy, rfl⟩ := List.mem_map.1 hx
  exact decide_eq_true (hl y hy)
 have e2 : delF ((A ++ f :: B).map ab) f.nm = delF (A.map ab) f.nm ++ delF (B.map ab) f.nm := by
  simp [delF, ab]
 rw [e2, e A hA, e B hB, List.map_append]
end
set_option linter.unusedVariables false in
set_option maxRecDepth 100000 in
set_option maxHeartbeats 2000000 in
theorem made_yes {w0 : World} {M : ML} {q r fr lf nx : Nat} {dn : Bool} {v : Value} {Lr L : BL} {w : World} {A B : List Fl} {f : Fl} {s : ByteArray} (hK : FK (A ++ f :: B) nx) (hf : f.nm = s) (H0 : HA ⟨w0, (r, .mp (eF (A ++ f :: B)) nx) :: M⟩ ((q, 78, dcell r fr lf dn v) :: (Lr ++ (FB (A ++ f :: B) ++ L))) w) :
  Calls Tryz.prog 65 #[pt q, .string s] w fun e w' => ∃ A' f' B' nx', e = .returned (pt f'.p) ∧ f'.nm = s ∧ FK (A' ++ f' :: B') nx' ∧ (A' ++ f' :: B').map ab = mkF ((A ++ f :: B).map ab) s ∧ HA ⟨w0, (r, .mp (eF (A' ++ f' :: B')) nx') :: M⟩ ((q, 78, dcell r fr lf dn v) :: (Lr ++ (FB (A' ++ f' :: B') ++ L))) w' := by
 go_enter Tryz.func65, Tryz.ntmps65
 refine wp_seq ?_
 refine wl_region ?_
 refine zwv (.pointer none) ?_
 refine wl_nil ?_
 refine then_at (F := ⟨(pt q :: .string s :: un :: un :: .pointer none :: List.replicate 19 un).toArray, []⟩) (by kernel_rfl) ?_
 refine wp_seq ?_
 refine wl_region ?_
 refine zwv (.pointer (some ⟨q, 0, none⟩)) ?_
 refine zwv (.pointer (some ⟨q, 0, none⟩)) ?_
 refine zwv (.pointer (some ⟨q, 0, none⟩)) ?_
 refine zwx (.map (some r)) (run_load1 (fun w => Tryz.isAgg76 w) (by kernel_rfl) (((H0.get 0 rfl).cell 0).trans rfl)) ?_
 refine zwv (.string s) ?_
 refine zwx (.pointer (some ⟨f.p, 0, none⟩)) (run_look_yes (H0.old.maps _ (List.mem_cons_self ..)) hf (hf ▸ hK.apartA) (by kernel_rfl) (by kernel_rfl)) ?_
 refine zwv (.pointer (some ⟨f.p, 0, none⟩)) ?_
 refine wl_nil ?_
 refine then_at (F := ⟨(pt q :: .string s :: un :: un :: .pointer none :: pt f.p :: pt q :: pt q :: pt q :: .map (some r) :: .string s :: pt f.p :: List.replicate 12 un).toArray, []⟩) (by kernel_rfl) ?_
 refine wp_seq ?_
 refine wp_seq ?_
 refine wl_region ?_
 refine zwv (.pointer (some ⟨f.p, 0, none⟩)) ?_
 refine zwv (.bool false) ?_
 refine wl_nil ?_
 refine then_at (F := ⟨(pt q :: .string s :: un :: un :: .pointer none :: pt f.p :: pt q :: pt q :: pt q :: .map (some r) :: .string s :: pt f.p :: pt f.p :: .bool false :: List.replicate 10 un).toArray, []⟩) (by kernel_rfl) ?_
 refine wp_cond_false (by kernel_rfl) ?_
 refine wp_skip ?_
 refine then_at (F := ⟨(pt q :: .string s :: un :: un :: .pointer none :: pt f.p :: pt q :: pt q :: pt q :: .map (some r) :: .string s :: pt f.p :: pt f.p :: .bool false :: List.replicate 10 un).toArray, []⟩) (by kernel_rfl) ?_
 refine wp_seq ?_
 refine wl_region ?_
 refine zwv (.pointer (some ⟨f.p, 0, none⟩)) ?_
 refine zwv (.pointer (some ⟨f.p, 0, none⟩)) ?_
 refine wl_nil ?_
 refine then_at (F := ⟨(pt q :: .string s :: un :: un :: pt f.p :: pt f.p :: pt q :: pt q :: pt q :: .map (some r) :: .string s :: pt f.p :: pt f.p :: .bool false :: un :: un :: un :: un :: un :: un :: un :: un :: un :: pt f.p :: List.replicate 0 un).toArray, []⟩) (by kernel_rfl) ?_
 refine wp_ret ?_
 repeat first | refine then_ret ?_ | refine block_ret ?_
 exact bodyPost_ret (v := pt f.p) (by kernel_rfl) rfl ⟨A, f, B, nx, rfl, hf, hK, by rw [mkF, if_pos ⟨ab f, by simp, hf⟩], H0⟩
set_option linter.unusedVariables false in
set_option maxRecDepth 100000 in
set_option maxHeartbeats 2000000 in
theorem made_no {w0 : World} {M : ML} {q r fr lf nx : Nat} {dn : Bool} {v : Value} {Lr L : BL} {w : World} {fl : List Fl} {s : ByteArray} (hK : FK fl nx) (hn : ∀ f ∈ fl, f.nm ≠ s) (H0 : HA ⟨w0, (r, .mp (eF fl) nx) :: M⟩ ((q, 78, dcell r fr lf dn v) :: (Lr ++ (FB fl ++ L))) w) (hs : s.size ≤ 1000000000) :
  Calls Tryz.prog 65 #[pt q, .string s] w fun e w' => ∃ A' f' B' nx', e = .returned (pt f'.p) ∧ f'.nm = s ∧ FK (A' ++ f' :: B') nx' ∧ (A' ++ f' :: B').map ab = mkF (fl.map ab) s ∧ HA ⟨w0, (r, .mp (eF (A' ++ f' :: B')) nx') :: M⟩ ((q, 78, dcell r fr lf dn v) :: (Lr ++ (FB (A' ++ f' :: B') ++ L))) w' := by
 go_enter Tryz.func65, Tryz.ntmps65
 refine wp_seq ?_
 refine wl_region ?_
 refine zwv (.pointer none) ?_
 refine wl_nil ?_
 refine then_at (F := ⟨(pt q :: .string s :: un :: un :: .pointer none :: List.replicate 19 un).toArray, []⟩) (by kernel_rfl) ?_
 refine wp_seq ?_
 refine wl_region ?_
 refine zwv (.pointer (some ⟨q, 0, none⟩)) ?_
 refine zwv (.pointer (some ⟨q, 0, none⟩)) ?_
 refine zwv (.pointer (some ⟨q, 0, none⟩)) ?_
 refine zwx (.map (some r)) (run_load1 (fun w => Tryz.isAgg76 w) (by kernel_rfl) (((H0.get 0 rfl).cell 0).trans rfl)) ?_
 refine zwv (.string s) ?_
 refine zwx (.pointer none) (run_look_no (H0.old.maps _ (List.mem_cons_self ..)) hn (by kernel_rfl) (by kernel_rfl)) ?_
 refine zwv (.pointer none) ?_
 refine wl_nil ?_
 refine then_at (F := ⟨(pt q :: .string s :: un :: un :: .pointer none :: .pointer none :: pt q :: pt q :: pt q :: .map (some r) :: .string s :: .pointer none :: List.replicate 12 un).toArray, []⟩) (by kernel_rfl) ?_
 refine wp_seq ?_
 refine wp_seq ?_
 refine wl_region ?_
 refine zwv (.pointer none) ?_
 refine zwv (.bool true) ?_
 refine wl_nil ?_
 refine then_at (F := ⟨(pt q :: .string s :: un :: un :: .pointer none :: .pointer none :: pt q :: pt q :: pt q :: .map (some r) :: .string s :: .pointer none :: .pointer none :: .bool true :: List.replicate 10 un).toArray, []⟩) (by kernel_rfl) ?_
 refine wp_cond_true (by kernel_rfl) ?_
 refine wp_seq ?_
 refine wl_region ?_
 refine zwv (.agg #[.slice none 0 0, iN .i64 0]) ?_
 refine wl_make (c := #[.slice none 0 0, iN .i64 0]) H0 109 (by kernel_rfl) (by kernel_rfl) ?_
 intro q1 w2 (h3 : HA ⟨w0, (r, .mp (eF fl) nx) :: M⟩ ((q1, 109, #[.slice none 0 0, iN .i64 0]) :: (q, 78, dcell r fr lf dn v) :: (Lr ++ (FB fl ++ L))) w2)
 refine zwv (.pointer (some ⟨q1, 0, none⟩)) ?_
 refine wl_nil ?_
 refine then_at (F := ⟨(pt q :: .string s :: un :: un :: .pointer none :: pt q1 :: pt q :: pt q :: pt q :: .map (some r) :: .string s :: .pointer none :: .pointer none :: .bool true :: .agg #[.slice none 0 0, iN .i64 0] :: pt q1 :: List.replicate 8 un).toArray, []⟩) (by kernel_rfl) ?_
 refine wp_region_wx (HA ⟨w0, (r, .mp (eF fl) nx) :: M⟩ ((q1, 109, #[.slice none 0 0, iN .i64 0]) :: (q, 78, dcell r fr lf dn v) :: (Lr ++ (FB fl ++ L)))) (fun AQ w' => AQ = ⟨(pt q :: .string s :: un :: un :: .pointer none :: pt q1 :: pt q :: pt q :: pt q :: .map (some r) :: .string s :: .pointer none :: .pointer none :: .bool true :: .agg #[.slice none 0 0, iN .i64 0] :: pt q1 :: pt q :: pt q :: pt q :: .map (some r) :: .string s :: .string s :: pt q1 :: List.replicate 1 un).toArray, []⟩ ∧ HA ⟨w0, (r, .mp (eF (fl ++ [⟨s, q1, [], 0, .slice none 0 0, [], nx⟩])) (nx + 1)) :: M⟩ ((q1, 109, #[.slice none 0 0, iN .i64 0]) :: (q, 78, dcell r fr lf dn v) :: (Lr ++ (FB fl ++ L))) w') 8 (by kernel_rfl) (by kernel_rfl) (by kernel_rfl) (by kernel_rfl) (by kernel_rfl) (h3.drew) ?_ ?_
 ·have h4 := h3.drew
  refine wx_pure (i := 0) (.pointer (some ⟨q, 0, none⟩)) rfl rfl (by kernel_rfl) (by kernel_rfl) (fun _ => (by kernel_rfl)) ?_
  refine wx_pure (i := 1) (.pointer (some ⟨q, 0, none⟩)) rfl rfl (by kernel_rfl) (by kernel_rfl) (fun _ => (by kernel_rfl)) ?_
  refine wx_pure (i := 2) (.pointer (some ⟨q, 0, none⟩)) rfl rfl (by kernel_rfl) (by kernel_rfl) (fun _ => (by kernel_rfl)) ?_
  refine wx_val (i := 3) (.map (some r)) rfl rfl (by kernel_rfl) (by kernel_rfl) (fun w' h' => run_load1 (fun w => Tryz.isAgg76 w) (by kernel_rfl) (((h'.get 1 rfl).cell 0).trans rfl)) ?_
  refine wx_pure (i := 4) (.string s) rfl rfl (by kernel_rfl) (by kernel_rfl) (fun _ => (by kernel_rfl)) ?_
  refine wx_call (i := 5) (.string s) (fun _ _ h hb => HA.keep _ _ h hb) rfl rfl (by kernel_rfl) (by kernel_rfl) enter61 #[.string s] (by kernel_rfl) (fun w' h' => sclone_any s w' hs) ?_
  refine wx_pure (i := 6) (.pointer (some ⟨q1, 0, none⟩)) rfl rfl (by kernel_rfl) (by kernel_rfl) (fun _ => (by kernel_rfl)) ?_
  refine wx_one 7 (by kernel_rfl) ?_
  refine ex_skip rfl (by kernel_rfl) (by kernel_rfl) h4 fun w5 h6 => ⟨_, run_upd (h6.old.maps _ (List.mem_cons_self ..)) hn (by kernel_rfl) (by kernel_rfl) ⟨s, q1, [], 0, .slice none 0 0, [], nx⟩ rfl rfl (by kernel_rfl), _, h6.setMap 0 rfl, ?_⟩
  have h7 : HA ⟨w0, (r, .mp (eF (fl ++ [⟨s, q1, [], 0, .slice none 0 0, [], nx⟩])) (nx + 1)) :: M⟩ ((q1, 109, #[.slice none 0 0, iN .i64 0]) :: (q, 78, dcell r fr lf dn v) :: (Lr ++ (FB fl ++ L))) _ := h6.setMap 0 rfl
  refine wx_end fun w8 hbx _ => ?_
  have h9 := HA.keep _ _ h7 hbx
  exact ⟨by kernel_rfl, h9⟩
 ·rintro _ w10 ⟨rfl, h11⟩
  refine then_at (F := ⟨(pt q :: .string s :: un :: un :: .pointer none :: pt q1 :: pt q :: pt q :: pt q :: .map (some r) :: .string s :: .pointer none :: .pointer none :: .bool true :: .agg #[.slice none 0 0, iN .i64 0] :: pt q1 :: pt q :: pt q :: pt q :: .map (some r) :: .string s :: .string s :: pt q1 :: List.replicate 1 un).toArray, []⟩) (by kernel_rfl) ?_
  refine wp_seq ?_
  refine wl_region ?_
  refine zwv (.pointer (some ⟨q1, 0, none⟩)) ?_
  refine zwv (.pointer (some ⟨q1, 0, none⟩)) ?_
  refine wl_nil ?_
  refine then_at (F := ⟨(pt q :: .string s :: un :: un :: pt q1 :: pt q1 :: pt q :: pt q :: pt q :: .map (some r) :: .string s :: .pointer none :: .pointer none :: .bool true :: .agg #[.slice none 0 0, iN .i64 0] :: pt q1 :: pt q :: pt q :: pt q :: .map (some r) :: .string s :: .string s :: pt q1 :: pt q1 :: List.replicate 0 un).toArray, []⟩) (by kernel_rfl) ?_
  refine wp_ret ?_
  repeat first | refine then_ret ?_ | refine block_ret ?_
  exact bodyPost_ret (v := pt q1) (by kernel_rfl) rfl ⟨fl, ⟨s, q1, [], 0, .slice none 0 0, [], nx⟩, [], nx + 1, rfl, rfl, hK.more hn rfl RowB.nil (Nat.zero_le _), by rw [mkF, if_neg (by rintro ⟨x, hx, e⟩; obtain ⟨y, hy, rfl⟩ := List.mem_map.1 hx; exact hn y hy e)]; simp [ab], HA.newfile (g := ⟨s, q1, [], 0, .slice none 0 0, [], nx⟩) h11 rfl⟩
set_option linter.unusedVariables false in
set_option maxRecDepth 100000 in
set_option maxHeartbeats 2000000 in
theorem drop_yes {w0 : World} {M : ML} {q r fr lf nx : Nat} {dn : Bool} {v : Value} {Lr L : BL} {w : World} {A B : List Fl} {f : Fl} {s : ByteArray} (hK : FK (A ++ f :: B) nx) (hf : f.nm = s) (H0 : HA ⟨w0, (r, .mp (eF (A ++ f :: B)) nx) :: M⟩ ((q, 78, dcell r fr lf dn v) :: (Lr ++ (FB (A ++ f :: B) ++ L))) w) (hfr : fr + f.da.length ≤ 9223372036854775807) :
  Calls Tryz.prog 101 #[pt q, .string s] w fun e w' => e = .returned (.tuple #[]) ∧ HA ⟨w0, (r, .mp (eF (A ++ B)) nx) :: M⟩ ((q, 78, dcell r (fr + f.da.length) lf dn v) :: (Lr ++ (FB (A ++ B) ++ L))) w' := by
 obtain ⟨pf, cf, hv⟩ := (hK.row f (by simp)).form
 have H0 := H0.file
 rw [hv] at H0
 go_enter Tryz.func101, Tryz.ntmps101
 refine wp_seq ?_
 refine wl_region ?_
 refine zwv (.pointer (some ⟨q, 0, none⟩)) ?_
 refine zwv (.pointer (some ⟨q, 0, none⟩)) ?_
 refine zwv (.pointer (some ⟨q, 0, none⟩)) ?_
 refine zwx (.map (some r)) (run_load1 (fun w => Tryz.isAgg76 w) (by kernel_rfl) (((H0.get 0 rfl).cell 0).trans rfl)) ?_
 refine zwv (.string s) ?_
 refine zwx (.pointer (some ⟨f.p, 0, none⟩)) (run_look_yes (H0.old.maps _ (List.mem_cons_self ..)) hf (hf ▸ hK.apartA) (by kernel_rfl) (by kernel_rfl)) ?_
 refine zwv (.pointer (some ⟨f.p, 0, none⟩)) ?_
 refine wl_nil ?_
 refine then_at (F := ⟨(pt q :: .string s :: un :: un :: pt f.p :: pt q :: pt q :: pt q :: .map (some r) :: .string s :: pt f.p :: List.replicate 19 un).toArray, []⟩) (by kernel_rfl) ?_
 refine wp_seq ?_
 refine wl_region ?_
 refine zwv (.pointer (some ⟨f.p, 0, none⟩)) ?_
 refine zwv (.bool true) ?_
 refine wl_nil ?_
 refine then_at (F := ⟨(pt q :: .string s :: un :: un :: pt f.p :: pt q :: pt q :: pt q :: .map (some r) :: .string s :: pt f.p :: pt f.p :: .bool true :: List.replicate 17 un).toArray, []⟩) (by kernel_rfl) ?_
 refine wp_cond_true (by kernel_rfl) ?_
 refine wp_seq ?_
 refine wp_region_wx (HA ⟨w0, (r, .mp (eF (A ++ f :: B)) nx) :: M⟩ ((q, 78, dcell r fr lf dn v) :: (f.p, 109, fcell (.slice pf f.da.length cf) f.sy) :: (f.Lr ++ (Lr ++ (FB (A ++ B) ++ L))))) (fun AQ w' => AQ = ⟨(pt q :: .string s :: un :: un :: pt f.p :: pt q :: pt q :: pt q :: .map (some r) :: .string s :: pt f.p :: pt f.p :: .bool true :: pt q :: pt q :: .pointer (some ⟨q, 1, none⟩) :: iN .i64 fr :: pt f.p :: pt f.p :: pt f.p :: .slice pf f.da.length cf :: iN .i64 f.da.length :: iN .i64 (fr + f.da.length) :: pt q :: .pointer (some ⟨q, 1, none⟩) :: List.replicate 5 un).toArray, []⟩ ∧ HA ⟨w0, (r, .mp (eF (A ++ f :: B)) nx) :: M⟩ ((q, 78, dcell r (fr + f.da.length) lf dn v) :: (f.p, 109, fcell (.slice pf f.da.length cf) f.sy) :: (f.Lr ++ (Lr ++ (FB (A ++ B) ++ L)))) w') 13 (by kernel_rfl) (by kernel_rfl) (by kernel_rfl) (by kernel_rfl) (by kernel_rfl) (H0.drew) ?_ ?_
 ·have h1 := H0.drew
  refine wx_pure (i := 0) (.pointer (some ⟨q, 0, none⟩)) rfl rfl (by kernel_rfl) (by kernel_rfl) (fun _ => (by kernel_rfl)) ?_
  refine wx_pure (i := 1) (.pointer (some ⟨q, 0, none⟩)) rfl rfl (by kernel_rfl) (by kernel_rfl) (fun _ => (by kernel_rfl)) ?_
  refine wx_pure (i := 2) (.pointer (some ⟨q, 1, none⟩)) rfl rfl (by kernel_rfl) (by kernel_rfl) (fun _ => (by kernel_rfl)) ?_
  refine wx_val (i := 3) (iN .i64 fr) rfl rfl (by kernel_rfl) (by kernel_rfl) (fun w' h' => run_load1 (fun w => Tryz.isAgg3 w) (by kernel_rfl) (((h'.get 0 rfl).cell 1).trans rfl)) ?_
  refine wx_pure (i := 4) (.pointer (some ⟨f.p, 0, none⟩)) rfl rfl (by kernel_rfl) (by kernel_rfl) (fun _ => (by kernel_rfl)) ?_
  refine wx_pure (i := 5) (.pointer (some ⟨f.p, 0, none⟩)) rfl rfl (by kernel_rfl) (by kernel_rfl) (fun _ => (by kernel_rfl)) ?_
  refine wx_pure (i := 6) (.pointer (some ⟨f.p, 0, none⟩)) rfl rfl (by kernel_rfl) (by kernel_rfl) (fun _ => (by kernel_rfl)) ?_
  refine wx_val (i := 7) (.slice pf f.da.length cf) rfl rfl (by kernel_rfl) (by kernel_rfl) (fun w' h' => run_load1 (fun w => Tryz.isAgg62 w) (by kernel_rfl) (((h'.get 1 rfl).cell 0).trans rfl)) ?_
  refine wx_pure (i := 8) (iN .i64 f.da.length) rfl rfl (by kernel_rfl) (by kernel_rfl) (fun _ => (by kernel_rfl)) ?_
  refine wx_pure (i := 9) (iN .i64 (fr + f.da.length)) rfl rfl (by kernel_rfl) (by kernel_rfl) (fun _ => (run_add (k := .i64) (a := fr) (b := f.da.length) (by kernel_rfl) (by kernel_rfl) (by simp only [top]; omega))) ?_
  refine wx_pure (i := 10) (.pointer (some ⟨q, 0, none⟩)) rfl rfl (by kernel_rfl) (by kernel_rfl) (fun _ => (by kernel_rfl)) ?_
  refine wx_pure (i := 11) (.pointer (some ⟨q, 1, none⟩)) rfl rfl (by kernel_rfl) (by kernel_rfl) (fun _ => (by kernel_rfl)) ?_
  refine wx_one 12 (by kernel_rfl) ?_
  refine ex_skip rfl (by kernel_rfl) (by kernel_rfl) h1 fun w2 h3 => ⟨_, run_storev (v := iN .i64 (fr + f.da.length)) (fun w => Tryz.sizeOf3 w) (by kernel_rfl) (by kernel_rfl) (by kernel_rfl) (by rw [(h3.get 0 rfl).cell]; rfl) ((h3.get 0 rfl).free _ (by show 1 < 5; decide)), _, h3.put 0 rfl 1 _, ?_⟩
  have h4 : HA ⟨w0, (r, .mp (eF (A ++ f :: B)) nx) :: M⟩ ((q, 78, dcell r (fr + f.da.length) lf dn v) :: (f.p, 109, fcell (.slice pf f.da.length cf) f.sy) :: (f.Lr ++ (Lr ++ (FB (A ++ B) ++ L)))) _ := h3.put 0 rfl 1 (iN .i64 (fr + f.da.length))
  refine wx_end fun w5 hbx _ => ?_
  have h6 := HA.keep _ _ h4 hbx
  exact ⟨by kernel_rfl, h6⟩
 ·rintro _ w7 ⟨rfl, h8⟩
  refine then_at (F := ⟨(pt q :: .string s :: un :: un :: pt f.p :: pt q :: pt q :: pt q :: .map (some r) :: .string s :: pt f.p :: pt f.p :: .bool true :: pt q :: pt q :: .pointer (some ⟨q, 1, none⟩) :: iN .i64 fr :: pt f.p :: pt f.p :: pt f.p :: .slice pf f.da.length cf :: iN .i64 f.da.length :: iN .i64 (fr + f.da.length) :: pt q :: .pointer (some ⟨q, 1, none⟩) :: List.replicate 5 un).toArray, []⟩) (by kernel_rfl) ?_
  refine wl_region ?_
  refine zwv (.pointer (some ⟨q, 0, none⟩)) ?_
  refine zwv (.pointer (some ⟨q, 0, none⟩)) ?_
  refine zwv (.pointer (some ⟨q, 0, none⟩)) ?_
  refine zwx (.map (some r)) (run_load1 (fun w => Tryz.isAgg76 w) (by kernel_rfl) (((h8.get 0 rfl).cell 0).trans rfl)) ?_
  refine zwv (.string s) ?_
  refine wl_any (by kernel_rfl) (run_del (h8.old.maps _ (List.mem_cons_self ..)) hf (hf ▸ hK.apartA) (by kernel_rfl) (by kernel_rfl)) ?_
  have h9 : HA ⟨w0, (r, .mp (eF (A ++ B)) nx) :: M⟩ ((q, 78, dcell r (fr + f.da.length) lf dn v) :: (f.p, 109, fcell (.slice pf f.da.length cf) f.sy) :: (f.Lr ++ (Lr ++ (FB (A ++ B) ++ L)))) _ := h8.setMap 0 rfl
  generalize World.setMap _ _ _ _ = w10 at h9 ⊢
  refine wl_nil ?_
  exact bodyPost_end (v := .tuple #[]) (by kernel_rfl) rfl ⟨rfl, h9.sub (List.Sublist.cons_cons _ (List.Sublist.cons _ (List.sublist_append_right _ _)))⟩
set_option linter.unusedVariables false in
set_option maxRecDepth 100000 in
set_option maxHeartbeats 2000000 in
theorem drop_no {w0 : World} {M : ML} {q r fr lf nx : Nat} {dn : Bool} {v : Value} {Lr L : BL} {w : World} {fl : List Fl} {s : ByteArray} (hK : FK fl nx) (hn : ∀ f ∈ fl, f.nm ≠ s) (H0 : HA ⟨w0, (r, .mp (eF fl) nx) :: M⟩ ((q, 78, dcell r fr lf dn v) :: (Lr ++ (FB fl ++ L))) w) :
  Calls Tryz.prog 101 #[pt q, .string s] w fun e w' => e = .returned (.tuple #[]) ∧ HA ⟨w0, (r, .mp (eF fl) nx) :: M⟩ ((q, 78, dcell r fr lf dn v) :: (Lr ++ (FB fl ++ L))) w' := by
 go_enter Tryz.func101, Tryz.ntmps101
 refine wp_seq ?_
 refine wl_region ?_
 refine zwv (.pointer (some ⟨q, 0, none⟩)) ?_
 refine zwv (.pointer (some ⟨q, 0, none⟩)) ?_
 refine zwv (.pointer (some ⟨q, 0, none⟩)) ?_
 refine zwx (.map (some r)) (run_load1 (fun w => Tryz.isAgg76 w) (by kernel_rfl) (((H0.get 0 rfl).cell 0).trans rfl)) ?_
 refine zwv (.string s) ?_
 refine zwx (.pointer none) (run_look_no (H0.old.maps _ (List.mem_cons_self ..)) hn (by kernel_rfl) (by kernel_rfl)) ?_
 refine zwv (.pointer none) ?_
 refine wl_nil ?_
 refine then_at (F := ⟨(pt q :: .string s :: un :: un :: .pointer none :: pt q :: pt q :: pt q :: .map (some r) :: .string s :: .pointer none :: List.replicate 19 un).toArray, []⟩) (by kernel_rfl) ?_
 refine wp_seq ?_
 refine wl_region ?_
 refine zwv (.pointer none) ?_
 refine zwv (.bool false) ?_
 refine wl_nil ?_
 refine then_at (F := ⟨(pt q :: .string s :: un :: un :: .pointer none :: pt q :: pt q :: pt q :: .map (some r) :: .string s :: .pointer none :: .pointer none :: .bool false :: List.replicate 17 un).toArray, []⟩) (by kernel_rfl) ?_
 refine wp_cond_false (by kernel_rfl) ?_
 refine wp_skip ?_
 exact bodyPost_end (v := .tuple #[]) (by kernel_rfl) rfl ⟨rfl, H0⟩
/-- of u bytes that are not synced so many stay -/
def stayN (z : Int) (u : Nat) : Nat := (z % ((u : Int) + 1)).toNat
theorem stayN_le (z : Int) (u : Nat) : stayN z u ≤ u := by
 have h1 := Int.emod_nonneg z (show ((u : Int) + 1) ≠ 0 by omega)
 have h2 := Int.emod_lt_of_pos z (show (0 : Int) < (u : Int) + 1 by omega)
 unfold stayN
 omega
section
variable {ρ : Operand → Value} {x y : Operand} {w : World} {dst : Option Tmp} {T T2 ty : TypeId} {pos : String} {aft : Array Edge} {gd : Option (Nat × Bool)} {P : Program}
theorem wrap_id {z : Int} (h1 : -9223372036854775808 ≤ z) (h2 : z ≤ 9223372036854775807) : IntKind.i64.wrap z = z := by
 simp [IntKind.wrap, IntKind.bits, IntKind.signed]
 omega
theorem run_remz {z : Int} {u : Nat} (hu : u + 1 ≤ 9223372036854775807) (hx : ρ x = .int .i64 z) (hy : ρ y = iN .i64 (u + 1)) : (execOp ρ ⟨dst, .binOp .rem T x y T2, ty, pos, aft, gd⟩).run P w = .ok (.value (.int .i64 (z.tmod ((u : Int) + 1)))) w := by
 simp only [execOp, hx, hy, iN]
 have h3 := Int.tmod_lt_of_pos z (show (0 : Int) < (u : Int) + 1 by omega)
 have h4 : -((u : Int) + 1) < z.tmod ((u : Int) + 1) := by
  have := Int.tmod_lt_of_pos (-z) (show (0 : Int) < (u : Int) + 1 by omega)
  rw [Int.neg_tmod] at this
  omega
 simp [binOp, go_sem]
 omega
theorem run_addz {z : Int} {u : Nat} (hu : u ≤ 1099511627776) (hx : ρ x = .int .i64 (z.tmod ((u : Int) + 1))) (hy : ρ y = iN .i64 (u + 1)) : (execOp ρ ⟨dst, .binOp .add T x y T2, ty, pos, aft, gd⟩).run P w = .ok (.value (iN .i64 (z.tmod ((u : Int) + 1) + ((u : Int) + 1)).toNat)) w := by
 simp only [execOp, hx, hy, iN]
 have h3 := Int.tmod_lt_of_pos z (show (0 : Int) < (u : Int) + 1 by omega)
 have h4 : -((u : Int) + 1) < z.tmod ((u : Int) + 1) := by
  have := Int.tmod_lt_of_pos (-z) (show (0 : Int) < (u : Int) + 1 by omega)
  rw [Int.neg_tmod] at this
  omega
 have e : (((z.tmod ((u : Int) + 1) + ((u : Int) + 1)).toNat : Nat) : Int) = z.tmod ((u : Int) + 1) + ((u : Int) + 1) := by omega
 simp [binOp, go_sem]
 rw [wrap_id (by omega) (by omega)]
 omega
theorem stay_eq (z : Int) (u : Nat) : (z.tmod ((u : Int) + 1) + ((u : Int) + 1)).toNat % (u + 1) = stayN z u := by
 have hp : (0 : Int) < (u : Int) + 1 := by omega
 have h3 := Int.tmod_lt_of_pos z hp
 have h4 : -((u : Int) + 1) < z.tmod ((u : Int) + 1) := by
  have := Int.tmod_lt_of_pos (-z) hp
  rw [Int.neg_tmod] at this
  omega
 have e : (((z.tmod ((u : Int) + 1) + ((u : Int) + 1)).toNat : Nat) : Int) = z.tmod ((u : Int) + 1) + ((u : Int) + 1) := by omega
 unfold stayN
 have h5 : (z.tmod ((u : Int) + 1) + ((u : Int) + 1)) % ((u : Int) + 1) = z % ((u : Int) + 1) := by
  rw [Int.add_emod_right]
  have : z = (u + 1 : Int) * z.tdiv (u + 1) + z.tmod (u + 1) := (Int.mul_tdiv_add_tmod z (u + 1)).symm
  conv => rhs; rw [this]
  rw [Int.mul_add_emod_self_left]
 have h6 : (((z.tmod ((u : Int) + 1) + ((u : Int) + 1)).toNat % (u + 1) : Nat) : Int) = z % ((u : Int) + 1) := by
  rw [← h5, ← e]
  push_cast
  rfl
 omega
theorem run_slc {a : Option Addr} {n cap m : Nat} (hx : ρ x = .slice a n cap) (hy : ρ y = iN .i64 m) (hm : m ≤ cap) : (execOp ρ ⟨dst, .slice 62 x none (some y) none, ty, pos, aft, gd⟩).run Tryz.prog w = .ok (.value (.slice a m cap)) w := by
 have ha : a.map (·.add 0) = a := by
  cases a with
  | none => rfl
  | some b => cases b; simp [Addr.add]
 simp only [execOp, hx, iN] at hy ⊢
 simp [Instr.sliceAt, Instr.slice, Instr.sliceBounds, Instr.sliceBound, run_underlying Tryz.underlying62, Tryz.sizeOf5, hy, asIntOf, hm, ha]
end
set_option linter.unusedVariables false in
set_option maxRecDepth 100000 in
set_option maxHeartbeats 2000000 in
theorem lose_any {z : Base} {p n sy cf st : Nat} {pf : Option Addr} {k : Int} {T : BL} {w : World} (H0 : HA z ((p, 109, fcell (.slice pf n cf) sy) :: T) w) (hsy : sy ≤ n) (hn : n ≤ 1000000000) (hc : n ≤ cf) (hst : stayN k (n - sy) = st) :
  Calls Tryz.prog 60 #[pt p, .int .i64 k] w fun e w' => e = .returned (iN .i64 (n - sy - st)) ∧ HA z ((p, 109, fcell (.slice pf (sy + st) cf) (sy + st)) :: T) w' := by
 have hle := stayN_le k (n - sy)
 rw [hst] at hle
 go_enter Tryz.func60, Tryz.ntmps60
 refine wp_seq ?_
 refine wl_region ?_
 refine zwv (iN .i64 0) ?_
 refine wl_nil ?_
 refine then_at (F := ⟨(pt p :: .int .i64 k :: un :: un :: iN .i64 0 :: List.replicate 49 un).toArray, []⟩) (by kernel_rfl) ?_
 refine wp_seq ?_
 refine wp_region_sure ⟨(pt p :: .int .i64 k :: un :: un :: iN .i64 0 :: iN .i64 ((n - sy) + 1) :: un :: un :: pt p :: pt p :: pt p :: .slice pf n cf :: iN .i64 n :: pt p :: pt p :: .pointer (some ⟨p, 1, none⟩) :: iN .i64 sy :: iN .i64 (n - sy) :: iN .i64 ((n - sy) + 1) :: List.replicate 35 un).toArray, []⟩ (HA z ((p, 109, fcell (.slice pf n cf) sy) :: T)) [.pointer (some ⟨p, 0, none⟩), .pointer (some ⟨p, 0, none⟩), .pointer (some ⟨p, 0, none⟩), .slice pf n cf, iN .i64 n, .pointer (some ⟨p, 0, none⟩), .pointer (some ⟨p, 0, none⟩), .pointer (some ⟨p, 1, none⟩), iN .i64 sy, iN .i64 (n - sy), iN .i64 ((n - sy) + 1), iN .i64 ((n - sy) + 1)] (by kernel_rfl) (by kernel_rfl) (by kernel_rfl) (by kernel_rfl) (fun _ _ _ h => h) H0.drew ?_ ?_
 ·refine AllSure.cons (OpSure.take (v := .pointer (some ⟨p, 0, none⟩)) (by kernel_rfl) (by kernel_rfl) (fun _ _ => (by kernel_rfl))) ?_
  refine AllSure.cons (OpSure.take (v := .pointer (some ⟨p, 0, none⟩)) (by kernel_rfl) (by kernel_rfl) (fun _ _ => (by kernel_rfl))) ?_
  refine AllSure.cons (OpSure.take (v := .pointer (some ⟨p, 0, none⟩)) (by kernel_rfl) (by kernel_rfl) (fun _ _ => (by kernel_rfl))) ?_
  refine AllSure.cons (OpSure.take (v := .slice pf n cf) (by kernel_rfl) (by kernel_rfl) (fun w' h' => run_load1 (fun w => Tryz.isAgg62 w) (by kernel_rfl) (((h'.get 0 rfl).cell 0).trans rfl))) ?_
  refine AllSure.cons (OpSure.take (v := iN .i64 n) (by kernel_rfl) (by kernel_rfl) (fun _ _ => (by kernel_rfl))) ?_
  refine AllSure.cons (OpSure.take (v := .pointer (some ⟨p, 0, none⟩)) (by kernel_rfl) (by kernel_rfl) (fun _ _ => (by kernel_rfl))) ?_
  refine AllSure.cons (OpSure.take (v := .pointer (some ⟨p, 0, none⟩)) (by kernel_rfl) (by kernel_rfl) (fun _ _ => (by kernel_rfl))) ?_
  refine AllSure.cons (OpSure.take (v := .pointer (some ⟨p, 1, none⟩)) (by kernel_rfl) (by kernel_rfl) (fun _ _ => (by kernel_rfl))) ?_
  refine AllSure.cons (OpSure.take (v := iN .i64 sy) (by kernel_rfl) (by kernel_rfl) (fun w' h' => run_load1 (fun w => Tryz.isAgg3 w) (by kernel_rfl) (((h'.get 0 rfl).cell 1).trans rfl))) ?_
  refine AllSure.cons (OpSure.take (v := iN .i64 (n - sy)) (by kernel_rfl) (by kernel_rfl) (fun _ _ => (run_sub (k := .i64) (a := n) (b := sy) (by kernel_rfl) (by kernel_rfl) (by first | omega | (simp only [top]; omega)) (by first | omega | (simp only [top]; omega))))) ?_
  refine AllSure.cons (OpSure.take (v := iN .i64 ((n - sy) + 1)) (by kernel_rfl) (by kernel_rfl) (fun _ _ => (run_add (k := .i64) (a := n - sy) (b := 1) (by kernel_rfl) (by kernel_rfl) (by first | omega | (simp only [top]; omega))))) ?_
  refine AllSure.cons (OpSure.take (v := iN .i64 ((n - sy) + 1)) (by kernel_rfl) (by kernel_rfl) (fun _ _ => (by kernel_rfl))) ?_
  exact AllSure.nil
 intro w1 h2
 refine then_at (F := ⟨(pt p :: .int .i64 k :: un :: un :: iN .i64 0 :: iN .i64 ((n - sy) + 1) :: un :: un :: pt p :: pt p :: pt p :: .slice pf n cf :: iN .i64 n :: pt p :: pt p :: .pointer (some ⟨p, 1, none⟩) :: iN .i64 sy :: iN .i64 (n - sy) :: iN .i64 ((n - sy) + 1) :: List.replicate 35 un).toArray, []⟩) (by kernel_rfl) ?_
 refine wp_seq ?_
 refine wl_region ?_
 refine zwv (.int .i64 k) ?_
 refine zwv (iN .i64 ((n - sy) + 1)) ?_
 refine wl_val (.int .i64 (k.tmod (((n - sy : Nat) : Int) + 1))) (by kernel_rfl) (run_remz (z := k) (u := n - sy) (by omega) (by kernel_rfl) (by kernel_rfl)) ?_
 refine zwv (iN .i64 ((n - sy) + 1)) ?_
 refine wl_val (iN .i64 (k.tmod (((n - sy : Nat) : Int) + 1) + (((n - sy : Nat) : Int) + 1)).toNat) (by kernel_rfl) (run_addz (z := k) (u := n - sy) (by omega) (by kernel_rfl) (by kernel_rfl)) ?_
 refine zwv (iN .i64 ((n - sy) + 1)) ?_
 refine zwx (iN .i64 st) ((run_rem (k := .i64) (a := (k.tmod (((n - sy : Nat) : Int) + 1) + (((n - sy : Nat) : Int) + 1)).toNat) (b := n - sy + 1) (by kernel_rfl) (by kernel_rfl) (by omega)).trans (by rw [stay_eq, hst])) ?_
 refine zwv (iN .i64 st) ?_
 refine wl_nil ?_
 refine then_at (F := ⟨(pt p :: .int .i64 k :: un :: un :: iN .i64 0 :: iN .i64 ((n - sy) + 1) :: iN .i64 st :: un :: pt p :: pt p :: pt p :: .slice pf n cf :: iN .i64 n :: pt p :: pt p :: .pointer (some ⟨p, 1, none⟩) :: iN .i64 sy :: iN .i64 (n - sy) :: iN .i64 ((n - sy) + 1) :: .int .i64 k :: iN .i64 ((n - sy) + 1) :: .int .i64 (k.tmod (((n - sy : Nat) : Int) + 1)) :: iN .i64 ((n - sy) + 1) :: iN .i64 (k.tmod (((n - sy : Nat) : Int) + 1) + (((n - sy : Nat) : Int) + 1)).toNat :: iN .i64 ((n - sy) + 1) :: iN .i64 st :: List.replicate 28 un).toArray, []⟩) (by kernel_rfl) ?_
 refine wp_seq ?_
 refine wl_region ?_
 refine zwv (iN .i64 ((n - sy) + 1)) ?_
 refine wl_val (iN .i64 (((n - sy) + 1) - 1)) (by kernel_rfl) (run_sub (k := .i64) (a := (n - sy) + 1) (b := 1) (by kernel_rfl) (by kernel_rfl) (by first | omega | (simp only [top]; omega)) (by first | omega | (simp only [top]; omega))) ?_
 refine zwv (iN .i64 st) ?_
 refine wl_val (iN .i64 ((((n - sy) + 1) - 1) - st)) (by kernel_rfl) (run_sub (k := .i64) (a := ((n - sy) + 1) - 1) (b := st) (by kernel_rfl) (by kernel_rfl) (by first | omega | (simp only [top]; omega)) (by first | omega | (simp only [top]; omega))) ?_
 refine zwv (iN .i64 ((((n - sy) + 1) - 1) - st)) ?_
 refine wl_nil ?_
 refine then_at (F := ⟨(pt p :: .int .i64 k :: un :: un :: iN .i64 0 :: iN .i64 ((n - sy) + 1) :: iN .i64 st :: iN .i64 ((((n - sy) + 1) - 1) - st) :: pt p :: pt p :: pt p :: .slice pf n cf :: iN .i64 n :: pt p :: pt p :: .pointer (some ⟨p, 1, none⟩) :: iN .i64 sy :: iN .i64 (n - sy) :: iN .i64 ((n - sy) + 1) :: .int .i64 k :: iN .i64 ((n - sy) + 1) :: .int .i64 (k.tmod (((n - sy : Nat) : Int) + 1)) :: iN .i64 ((n - sy) + 1) :: iN .i64 (k.tmod (((n - sy : Nat) : Int) + 1) + (((n - sy : Nat) : Int) + 1)).toNat :: iN .i64 ((n - sy) + 1) :: iN .i64 st :: iN .i64 ((n - sy) + 1) :: iN .i64 (((n - sy) + 1) - 1) :: iN .i64 st :: iN .i64 ((((n - sy) + 1) - 1) - st) :: List.replicate 24 un).toArray, []⟩) (by kernel_rfl) ?_
 refine wp_seq ?_
 refine wp_region_wx (HA z ((p, 109, fcell (.slice pf n cf) sy) :: T)) (fun AQ w' => AQ = ⟨(pt p :: .int .i64 k :: un :: un :: iN .i64 0 :: iN .i64 ((n - sy) + 1) :: iN .i64 st :: iN .i64 ((((n - sy) + 1) - 1) - st) :: pt p :: pt p :: pt p :: .slice pf n cf :: iN .i64 n :: pt p :: pt p :: .pointer (some ⟨p, 1, none⟩) :: iN .i64 sy :: iN .i64 (n - sy) :: iN .i64 ((n - sy) + 1) :: .int .i64 k :: iN .i64 ((n - sy) + 1) :: .int .i64 (k.tmod (((n - sy : Nat) : Int) + 1)) :: iN .i64 ((n - sy) + 1) :: iN .i64 (k.tmod (((n - sy : Nat) : Int) + 1) + (((n - sy : Nat) : Int) + 1)).toNat :: iN .i64 ((n - sy) + 1) :: iN .i64 st :: iN .i64 ((n - sy) + 1) :: iN .i64 (((n - sy) + 1) - 1) :: iN .i64 st :: iN .i64 ((((n - sy) + 1) - 1) - st) :: pt p :: pt p :: pt p :: pt p :: .slice pf n cf :: pt p :: pt p :: pt p :: .slice pf n cf :: iN .i64 n :: iN .i64 ((((n - sy) + 1) - 1) - st) :: iN .i64 (n - ((((n - sy) + 1) - 1) - st)) :: .slice pf (n - ((((n - sy) + 1) - 1) - st)) cf :: pt p :: pt p :: List.replicate 9 un).toArray, []⟩ ∧ HA z ((p, 109, fcell (.slice pf (n - ((((n - sy) + 1) - 1) - st)) cf) sy) :: T) w') 16 (by kernel_rfl) (by kernel_rfl) (by kernel_rfl) (by kernel_rfl) (by kernel_rfl) (h2.drew) ?_ ?_
 ·have h3 := h2.drew
  refine wx_pure (i := 0) (.pointer (some ⟨p, 0, none⟩)) rfl rfl (by kernel_rfl) (by kernel_rfl) (fun _ => (by kernel_rfl)) ?_
  refine wx_pure (i := 1) (.pointer (some ⟨p, 0, none⟩)) rfl rfl (by kernel_rfl) (by kernel_rfl) (fun _ => (by kernel_rfl)) ?_
  refine wx_pure (i := 2) (.pointer (some ⟨p, 0, none⟩)) rfl rfl (by kernel_rfl) (by kernel_rfl) (fun _ => (by kernel_rfl)) ?_
  refine wx_pure (i := 3) (.pointer (some ⟨p, 0, none⟩)) rfl rfl (by kernel_rfl) (by kernel_rfl) (fun _ => (by kernel_rfl)) ?_
  refine wx_val (i := 4) (.slice pf n cf) rfl rfl (by kernel_rfl) (by kernel_rfl) (fun w' h' => run_load1 (fun w => Tryz.isAgg62 w) (by kernel_rfl) (((h'.get 0 rfl).cell 0).trans rfl)) ?_
  refine wx_pure (i := 5) (.pointer (some ⟨p, 0, none⟩)) rfl rfl (by kernel_rfl) (by kernel_rfl) (fun _ => (by kernel_rfl)) ?_
  refine wx_pure (i := 6) (.pointer (some ⟨p, 0, none⟩)) rfl rfl (by kernel_rfl) (by kernel_rfl) (fun _ => (by kernel_rfl)) ?_
  refine wx_pure (i := 7) (.pointer (some ⟨p, 0, none⟩)) rfl rfl (by kernel_rfl) (by kernel_rfl) (fun _ => (by kernel_rfl)) ?_
  refine wx_val (i := 8) (.slice pf n cf) rfl rfl (by kernel_rfl) (by kernel_rfl) (fun w' h' => run_load1 (fun w => Tryz.isAgg62 w) (by kernel_rfl) (((h'.get 0 rfl).cell 0).trans rfl)) ?_
  refine wx_pure (i := 9) (iN .i64 n) rfl rfl (by kernel_rfl) (by kernel_rfl) (fun _ => (by kernel_rfl)) ?_
  refine wx_pure (i := 10) (iN .i64 ((((n - sy) + 1) - 1) - st)) rfl rfl (by kernel_rfl) (by kernel_rfl) (fun _ => (by kernel_rfl)) ?_
  refine wx_pure (i := 11) (iN .i64 (n - ((((n - sy) + 1) - 1) - st))) rfl rfl (by kernel_rfl) (by kernel_rfl) (fun _ => (run_sub (k := .i64) (a := n) (b := (((n - sy) + 1) - 1) - st) (by kernel_rfl) (by kernel_rfl) (by first | omega | (simp only [top]; omega)) (by first | omega | (simp only [top]; omega)))) ?_
  refine wx_pure (i := 12) (.slice pf (n - ((((n - sy) + 1) - 1) - st)) cf) rfl rfl (by kernel_rfl) (by kernel_rfl) (fun _ => (run_slc (a := pf) (n := n) (cap := cf) (m := n - ((((n - sy) + 1) - 1) - st)) (by kernel_rfl) (by kernel_rfl) (by omega))) ?_
  refine wx_pure (i := 13) (.pointer (some ⟨p, 0, none⟩)) rfl rfl (by kernel_rfl) (by kernel_rfl) (fun _ => (by kernel_rfl)) ?_
  refine wx_pure (i := 14) (.pointer (some ⟨p, 0, none⟩)) rfl rfl (by kernel_rfl) (by kernel_rfl) (fun _ => (by kernel_rfl)) ?_
  refine wx_one 15 (by kernel_rfl) ?_
  refine ex_skip rfl (by kernel_rfl) (by kernel_rfl) h3 fun w4 h5 => ⟨_, run_storev (v := .slice pf (n - ((((n - sy) + 1) - 1) - st)) cf) (fun w => Tryz.sizeOf62 w) (by kernel_rfl) (by kernel_rfl) (by kernel_rfl) (by rw [(h5.get 0 rfl).cell]; rfl) ((h5.get 0 rfl).free _ (by show 0 < 2; decide)), _, h5.put 0 rfl 0 _, ?_⟩
  have h6 : HA z ((p, 109, fcell (.slice pf (n - ((((n - sy) + 1) - 1) - st)) cf) sy) :: T) _ := h5.put 0 rfl 0 (.slice pf (n - ((((n - sy) + 1) - 1) - st)) cf)
  refine wx_end fun w7 hbx _ => ?_
  have h8 := HA.keep _ _ h6 hbx
  exact ⟨by kernel_rfl, h8⟩
 ·rintro _ w9 ⟨rfl, h10⟩
  refine then_at (F := ⟨(pt p :: .int .i64 k :: un :: un :: iN .i64 0 :: iN .i64 ((n - sy) + 1) :: iN .i64 st :: iN .i64 ((((n - sy) + 1) - 1) - st) :: pt p :: pt p :: pt p :: .slice pf n cf :: iN .i64 n :: pt p :: pt p :: .pointer (some ⟨p, 1, none⟩) :: iN .i64 sy :: iN .i64 (n - sy) :: iN .i64 ((n - sy) + 1) :: .int .i64 k :: iN .i64 ((n - sy) + 1) :: .int .i64 (k.tmod (((n - sy : Nat) : Int) + 1)) :: iN .i64 ((n - sy) + 1) :: iN .i64 (k.tmod (((n - sy : Nat) : Int) + 1) + (((n - sy : Nat) : Int) + 1)).toNat :: iN .i64 ((n - sy) + 1) :: iN .i64 st :: iN .i64 ((n - sy) + 1) :: iN .i64 (((n - sy) + 1) - 1) :: iN .i64 st :: iN .i64 ((((n - sy) + 1) - 1) - st) :: pt p :: pt p :: pt p :: pt p :: .slice pf n cf :: pt p :: pt p :: pt p :: .slice pf n cf :: iN .i64 n :: iN .i64 ((((n - sy) + 1) - 1) - st) :: iN .i64 (n - ((((n - sy) + 1) - 1) - st)) :: .slice pf (n - ((((n - sy) + 1) - 1) - st)) cf :: pt p :: pt p :: List.replicate 9 un).toArray, []⟩) (by kernel_rfl) ?_
  refine wp_seq ?_
  refine wl_region ?_
  refine zwv (.pointer (some ⟨p, 0, none⟩)) ?_
  refine zwv (.pointer (some ⟨p, 0, none⟩)) ?_
  refine zwv (.pointer (some ⟨p, 0, none⟩)) ?_
  refine zwv (.pointer (some ⟨p, 0, none⟩)) ?_
  refine wl_val (.slice pf (n - ((((n - sy) + 1) - 1) - st)) cf) (by kernel_rfl) (run_load1 (fun w => Tryz.isAgg62 w) (by kernel_rfl) (((h10.get 0 rfl).cell 0).trans rfl)) ?_
  refine zwv (iN .i64 (n - ((((n - sy) + 1) - 1) - st))) ?_
  refine zwv (.pointer (some ⟨p, 0, none⟩)) ?_
  refine zwv (.pointer (some ⟨p, 1, none⟩)) ?_
  refine wl_putv (v := iN .i64 (n - ((((n - sy) + 1) - 1) - st))) h10 0 rfl 1 (by show 1 < 2; decide) (by kernel_rfl) (fun w => Tryz.sizeOf3 w) (by kernel_rfl) (by kernel_rfl) (by kernel_rfl) ?_
  intro w11 (h12 : HA z ((p, 109, fcell (.slice pf (n - ((((n - sy) + 1) - 1) - st)) cf) (n - ((((n - sy) + 1) - 1) - st))) :: T) w11)
  refine wl_nil ?_
  refine then_at (F := ⟨(pt p :: .int .i64 k :: un :: un :: iN .i64 0 :: iN .i64 ((n - sy) + 1) :: iN .i64 st :: iN .i64 ((((n - sy) + 1) - 1) - st) :: pt p :: pt p :: pt p :: .slice pf n cf :: iN .i64 n :: pt p :: pt p :: .pointer (some ⟨p, 1, none⟩) :: iN .i64 sy :: iN .i64 (n - sy) :: iN .i64 ((n - sy) + 1) :: .int .i64 k :: iN .i64 ((n - sy) + 1) :: .int .i64 (k.tmod (((n - sy : Nat) : Int) + 1)) :: iN .i64 ((n - sy) + 1) :: iN .i64 (k.tmod (((n - sy : Nat) : Int) + 1) + (((n - sy : Nat) : Int) + 1)).toNat :: iN .i64 ((n - sy) + 1) :: iN .i64 st :: iN .i64 ((n - sy) + 1) :: iN .i64 (((n - sy) + 1) - 1) :: iN .i64 st :: iN .i64 ((((n - sy) + 1) - 1) - st) :: pt p :: pt p :: pt p :: pt p :: .slice pf n cf :: pt p :: pt p :: pt p :: .slice pf n cf :: iN .i64 n :: iN .i64 ((((n - sy) + 1) - 1) - st) :: iN .i64 (n - ((((n - sy) + 1) - 1) - st)) :: .slice pf (n - ((((n - sy) + 1) - 1) - st)) cf :: pt p :: pt p :: pt p :: pt p :: pt p :: pt p :: .slice pf (n - ((((n - sy) + 1) - 1) - st)) cf :: iN .i64 (n - ((((n - sy) + 1) - 1) - st)) :: pt p :: .pointer (some ⟨p, 1, none⟩) :: List.replicate 1 un).toArray, []⟩) (by kernel_rfl) ?_
  refine wp_seq ?_
  refine wl_region ?_
  refine zwv (iN .i64 ((((n - sy) + 1) - 1) - st)) ?_
  refine zwv (iN .i64 ((((n - sy) + 1) - 1) - st)) ?_
  refine wl_nil ?_
  refine then_at (F := ⟨(pt p :: .int .i64 k :: un :: un :: iN .i64 ((((n - sy) + 1) - 1) - st) :: iN .i64 ((n - sy) + 1) :: iN .i64 st :: iN .i64 ((((n - sy) + 1) - 1) - st) :: pt p :: pt p :: pt p :: .slice pf n cf :: iN .i64 n :: pt p :: pt p :: .pointer (some ⟨p, 1, none⟩) :: iN .i64 sy :: iN .i64 (n - sy) :: iN .i64 ((n - sy) + 1) :: .int .i64 k :: iN .i64 ((n - sy) + 1) :: .int .i64 (k.tmod (((n - sy : Nat) : Int) + 1)) :: iN .i64 ((n - sy) + 1) :: iN .i64 (k.tmod (((n - sy : Nat) : Int) + 1) + (((n - sy : Nat) : Int) + 1)).toNat :: iN .i64 ((n - sy) + 1) :: iN .i64 st :: iN .i64 ((n - sy) + 1) :: iN .i64 (((n - sy) + 1) - 1) :: iN .i64 st :: iN .i64 ((((n - sy) + 1) - 1) - st) :: pt p :: pt p :: pt p :: pt p :: .slice pf n cf :: pt p :: pt p :: pt p :: .slice pf n cf :: iN .i64 n :: iN .i64 ((((n - sy) + 1) - 1) - st) :: iN .i64 (n - ((((n - sy) + 1) - 1) - st)) :: .slice pf (n - ((((n - sy) + 1) - 1) - st)) cf :: pt p :: pt p :: pt p :: pt p :: pt p :: pt p :: .slice pf (n - ((((n - sy) + 1) - 1) - st)) cf :: iN .i64 (n - ((((n - sy) + 1) - 1) - st)) :: pt p :: .pointer (some ⟨p, 1, none⟩) :: iN .i64 ((((n - sy) + 1) - 1) - st) :: List.replicate 0 un).toArray, []⟩) (by kernel_rfl) ?_
  refine wp_ret ?_
  repeat first | refine then_ret ?_ | refine block_ret ?_
  exact bodyPost_ret (v := iN .i64 (n - sy + 1 - 1 - st)) (by kernel_rfl) rfl ⟨by rw [show n - sy + 1 - 1 - st = n - sy - st by omega], by rw [show sy + st = n - (n - sy + 1 - 1 - st) by omega]; exact h12⟩
end Go.Proofs.YtckmlaempffpjaaGreat

namespace Go.Proofs.YtckmlaempffpjaaGreat
open Go.RowKit

theorem made_any {w0 : World} {M : ML} {q r fr lf nx : Nat} {dn : Bool} {v : Value} {Lr L : BL} {w : World} {fl : List Fl} {s : ByteArray} (hK : FK fl nx) (hs : s.size ≤ 1000000000) (H0 : HA ⟨w0, (r, .mp (eF fl) nx) :: M⟩ ((q, 78, dcell r fr lf dn v) :: (Lr ++ (FB fl ++ L))) w) :
  Calls Tryz.prog 65 #[pt q, .string s] w fun e w' => ∃ A' f' B' nx', e = .returned (pt f'.p) ∧ f'.nm = s ∧ FK (A' ++ f' :: B') nx' ∧ (A' ++ f' :: B').map ab = mkF (fl.map ab) s ∧ HA ⟨w0, (r, .mp (eF (A' ++ f' :: B')) nx') :: M⟩ ((q, 78, dcell r fr lf dn v) :: (Lr ++ (FB (A' ++ f' :: B') ++ L))) w' := by
 by_cases h : ∃ f ∈ fl, f.nm = s
 ·obtain ⟨A, f, B, rfl, h1, h2⟩ := fl_split h
  exact made_yes hK h1 H0
 ·exact made_no hK (fun f hf e => h ⟨f, hf, e⟩) H0 hs
theorem operate_any {w0 : World} {M : ML} {d : Dk} {D : DS} {L : BL} {w : World} (hD : DH w0 M d D L w) {F : FuncId} {cap : Array Value} {D2 : DS} {put er : Nat} (hF : ∀ args w, (callFunc F args).run Tryz.prog w = .ok (.enter F args) w) (hlf : D.left ≤ 9223372036854775807) (hsz : D2.sizes.length ≤ 1000000000)
  (hdeed : ∀ w, DH w0 M d (spendD D) L w → Calls Tryz.prog F cap w fun e w' => e = .returned (.tuple #[iN .i64 put, iN .i64 er]) ∧ DH w0 M d D2 L w') :
  Calls Tryz.prog 62 #[pt d.q, .func (.func F) #[] cap] w fun e w' => e = .returned (iN .i64 (opD D D2 put er).2) ∧ DH w0 M d (opD D D2 put er).1 L w' := by
 cases hd : (spendD D).down with
 | true => exact operate_d hD hF hlf hsz hd hdeed
 | false =>
  by_cases he : er = 0
  ·subst he
   exact operate_ok hD hF hlf hsz hd hdeed
  ·exact operate_no hD hF hlf hsz hd hdeed he
theorem HA.back {z : Base} {x : Nat × TypeId × Array Value} {Lr F L : BL} {w : World} (A : BL) (h : HA z (A ++ (x :: (Lr ++ (F ++ L)))) w) : HA z (x :: (Lr ++ (F ++ (A ++ L)))) w := by
 refine h.perm ?_
 have := perm_mv A (x :: (Lr ++ F)) L
 simpa [List.append_assoc] using this
theorem run_app_of {ρ : Operand → Value} {x y : Operand} {w w' : World} {dst : Option Tmp} {ty : TypeId} {pos : String} {aft : Array Edge} {gd : Option (Nat × Bool)} {v v' : Value} {s : ByteArray} (hx : ρ x = v) (hy : ρ y = .string s) (hrun : (Builtin.append_ #[62, 9] ty #[v, .string s]).run Tryz.prog w = .ok v' w') :
  (execOp ρ ⟨dst, .call { callee := .builtin .append, args := #[x, y], argTypes := #[62, 9] }, ty, pos, aft, gd⟩).run Tryz.prog w = .ok (.value v') w' := by
 unfold execOp
 simp only [resolve, invoke, builtin, Sem.run_bind, Sem.run_pure, Result.andThen_ok, List.map_toArray, List.map_cons, List.map_nil, hx, hy, hrun]
def used (fs : List FA) : Nat := (fs.map (·.da.length)).sum
/-- how great a disk may be -/
structure DB (D : DS) (U N : Nat) : Prop where
 rm : D.free + used D.fs ≤ 9223372036854775807
 lf : D.left ≤ 9223372036854775807
 us : used D.fs ≤ U
 sz : D.sizes.length ≤ N
 nm : ∀ x ∈ D.fs, x.nm.size ≤ 64
 ct : D.fs.length ≤ N
 nd : (D.fs.map (·.nm)).Nodup
theorem used_mem {fs : List FA} {x : FA} (h : x ∈ fs) : x.da.length ≤ used fs := by
 unfold used
 induction fs with
 | nil => cases h
 | cons y l ih =>
  rcases List.mem_cons.1 h with rfl | h
  ·simp
  ·have := ih h; simp; omega
theorem used_mkF (fs : List FA) (s : ByteArray) : used (mkF fs s) = used fs := by
 unfold mkF
 split
 ·rfl
 ·simp [used]
def appD (D : DS) (nm s : ByteArray) : DS × Nat × Nat :=
 if isNm nm = false then (D, 0, 2) else if D.free < s.size then (D, 0, 7)
 else ({ D with fs := updF (mkF D.fs nm) nm (fun x => { x with da := x.da ++ bl s }), free := D.free - s.size }, s.size, 0)
set_option linter.unusedVariables false in
set_option maxRecDepth 100000 in
set_option maxHeartbeats 2000000 in
theorem app_arg {w0 : World} {M : ML} {d : Dk} {D : DS} {L : BL} {bn bd bq : Nat} {nm s : ByteArray} {w : World} (hD : DH w0 M d D ((bd, 9, #[.string s]) :: (bn, 9, #[.string nm]) :: (bq, 23, #[pt d.q]) :: L) w) (hnm : isNm nm = false)  :
  Calls Tryz.prog 63 #[pt bn, pt bd, pt bq] w fun e w' => e = .returned (.tuple #[iN .i64 (appD D nm s).2.1, iN .i64 (appD D nm s).2.2]) ∧ DH w0 M d (appD D nm s).1 ((bd, 9, #[.string s]) :: (bn, 9, #[.string nm]) :: (bq, 23, #[pt d.q]) :: L) w' := by
 obtain ⟨fl, nx, v, Lr, hfl, hK, hR, H0⟩ := hD
 go_enter Tryz.func63, Tryz.ntmps63
 refine wp_seq ?_
 refine wl_region ?_
 refine zwv (iN .i64 0) ?_
 refine zwv (iN .i64 0) ?_
 refine wl_nil ?_
 refine then_at (F := ⟨(pt bn :: pt bd :: pt bq :: iN .i64 0 :: iN .i64 0 :: List.replicate 36 un).toArray, []⟩) (by kernel_rfl) ?_
 refine wp_seq ?_
 refine wp_block ?_
 refine wp_seq ?_
 refine wl_region ?_
 refine zwx (.string nm) (run_load1 (fun w => Tryz.isAgg9 w) (by kernel_rfl) (((H0.blk (bn, 9, #[.string nm]) (by simp)).cell 0).trans rfl)) ?_
 refine wl_call (v := .bool false) H0 (by kernel_rfl) enter64 #[.string nm] (by kernel_rfl) (by have := isName_any nm w; rw [hnm] at this; exact this) ?_
 intro w1 h2
 refine zwv (.bool true) ?_
 refine zwv (.bool true) ?_
 refine wl_nil ?_
 refine then_at (F := ⟨(pt bn :: pt bd :: pt bq :: iN .i64 0 :: iN .i64 0 :: un :: .bool true :: .string nm :: .bool false :: .bool true :: List.replicate 31 un).toArray, []⟩) (by kernel_rfl) ?_
 refine wp_cond_true (by kernel_rfl) ?_
 refine wp_seq ?_
 refine wl_region ?_
 refine zwv (iN .i64 0) ?_
 refine zwv (iN .i64 2) ?_
 refine wl_nil ?_
 refine then_at (F := ⟨(pt bn :: pt bd :: pt bq :: iN .i64 0 :: iN .i64 2 :: un :: .bool true :: .string nm :: .bool false :: .bool true :: List.replicate 31 un).toArray, []⟩) (by kernel_rfl) ?_
 refine wp_ret ?_
 repeat first | refine then_ret ?_ | refine block_ret ?_
 exact bodyPost_ret (v := .tuple #[iN .i64 0, iN .i64 2]) (by kernel_rfl) rfl ⟨by rw [appD, if_pos hnm], by rw [appD, if_pos hnm]; exact ⟨fl, nx, v, Lr, hfl, hK, hR, h2⟩⟩
set_option linter.unusedVariables false in
set_option maxRecDepth 100000 in
set_option maxHeartbeats 2000000 in
theorem app_full {w0 : World} {M : ML} {d : Dk} {D : DS} {L : BL} {bn bd bq : Nat} {nm s : ByteArray} {w : World} (hD : DH w0 M d D ((bd, 9, #[.string s]) :: (bn, 9, #[.string nm]) :: (bq, 23, #[pt d.q]) :: L) w) (hnm : isNm nm = true) (hfr : D.free < s.size) :
  Calls Tryz.prog 63 #[pt bn, pt bd, pt bq] w fun e w' => e = .returned (.tuple #[iN .i64 (appD D nm s).2.1, iN .i64 (appD D nm s).2.2]) ∧ DH w0 M d (appD D nm s).1 ((bd, 9, #[.string s]) :: (bn, 9, #[.string nm]) :: (bq, 23, #[pt d.q]) :: L) w' := by
 obtain ⟨fl, nx, v, Lr, hfl, hK, hR, H0⟩ := hD
 go_enter Tryz.func63, Tryz.ntmps63
 refine wp_seq ?_
 refine wl_region ?_
 refine zwv (iN .i64 0) ?_
 refine zwv (iN .i64 0) ?_
 refine wl_nil ?_
 refine then_at (F := ⟨(pt bn :: pt bd :: pt bq :: iN .i64 0 :: iN .i64 0 :: List.replicate 36 un).toArray, []⟩) (by kernel_rfl) ?_
 refine wp_seq ?_
 refine wp_block ?_
 refine wp_seq ?_
 refine wl_region ?_
 refine zwx (.string nm) (run_load1 (fun w => Tryz.isAgg9 w) (by kernel_rfl) (((H0.blk (bn, 9, #[.string nm]) (by simp)).cell 0).trans rfl)) ?_
 refine wl_call (v := .bool true) H0 (by kernel_rfl) enter64 #[.string nm] (by kernel_rfl) (by have := isName_any nm w; rw [hnm] at this; exact this) ?_
 intro w1 h2
 refine zwv (.bool false) ?_
 refine zwv (.bool false) ?_
 refine wl_nil ?_
 refine then_at (F := ⟨(pt bn :: pt bd :: pt bq :: iN .i64 0 :: iN .i64 0 :: un :: .bool false :: .string nm :: .bool true :: .bool false :: List.replicate 31 un).toArray, []⟩) (by kernel_rfl) ?_
 refine wp_cond_false (by kernel_rfl) ?_
 refine wp_seq ?_
 refine wp_region_sure ⟨(pt bn :: pt bd :: pt bq :: iN .i64 0 :: iN .i64 0 :: un :: .bool false :: .string nm :: .bool true :: .bool false :: .bool true :: .string s :: iN .i64 s.size :: pt d.q :: pt d.q :: .pointer (some ⟨d.q, 1, none⟩) :: iN .i64 D.free :: .bool true :: List.replicate 23 un).toArray, []⟩ (HA ⟨w0, (d.r, .mp (eF fl) nx) :: M⟩ ((d.q, 78, dcell d.r D.free D.left D.down v) :: (Lr ++ (FB fl ++ ((bd, 9, #[.string s]) :: (bn, 9, #[.string nm]) :: (bq, 23, #[pt d.q]) :: L))))) [.string s, iN .i64 s.size, .pointer (some ⟨d.q, 0, none⟩), .pointer (some ⟨d.q, 0, none⟩), .pointer (some ⟨d.q, 1, none⟩), iN .i64 D.free, .bool true, .bool true] (by kernel_rfl) (by kernel_rfl) (by kernel_rfl) (by kernel_rfl) (fun _ _ _ h => h) h2.drew ?_ ?_
 ·refine AllSure.cons (OpSure.take (v := .string s) (by kernel_rfl) (by kernel_rfl) (fun w' h' => run_load1 (fun w => Tryz.isAgg9 w) (by kernel_rfl) (((h'.blk (bd, 9, #[.string s]) (by simp)).cell 0).trans rfl))) ?_
  refine AllSure.cons (OpSure.take (v := iN .i64 s.size) (by kernel_rfl) (by kernel_rfl) (fun _ _ => (run_len (s := s) (by kernel_rfl)))) ?_
  refine AllSure.cons (OpSure.take (v := .pointer (some ⟨d.q, 0, none⟩)) (by kernel_rfl) (by kernel_rfl) (fun w' h' => run_load1 (fun w => Tryz.isAgg23 w) (by kernel_rfl) (((h'.blk (bq, 23, #[pt d.q]) (by simp)).cell 0).trans rfl))) ?_
  refine AllSure.cons (OpSure.take (v := .pointer (some ⟨d.q, 0, none⟩)) (by kernel_rfl) (by kernel_rfl) (fun _ _ => (by kernel_rfl))) ?_
  refine AllSure.cons (OpSure.take (v := .pointer (some ⟨d.q, 1, none⟩)) (by kernel_rfl) (by kernel_rfl) (fun _ _ => (by kernel_rfl))) ?_
  refine AllSure.cons (OpSure.take (v := iN .i64 D.free) (by kernel_rfl) (by kernel_rfl) (fun w' h' => run_load1 (fun w => Tryz.isAgg3 w) (by kernel_rfl) (((h'.get 0 rfl).cell 1).trans rfl))) ?_
  refine AllSure.cons (OpSure.take (v := .bool true) (by kernel_rfl) (by kernel_rfl) (fun _ _ => (run_gtr (k := .i64) (a := s.size) (b := D.free) (by kernel_rfl) (by kernel_rfl) true (decide_eq_true hfr)))) ?_
  refine AllSure.cons (OpSure.take (v := .bool true) (by kernel_rfl) (by kernel_rfl) (fun _ _ => (by kernel_rfl))) ?_
  exact AllSure.nil
 intro w3 h4
 refine then_at (F := ⟨(pt bn :: pt bd :: pt bq :: iN .i64 0 :: iN .i64 0 :: un :: .bool false :: .string nm :: .bool true :: .bool false :: .bool true :: .string s :: iN .i64 s.size :: pt d.q :: pt d.q :: .pointer (some ⟨d.q, 1, none⟩) :: iN .i64 D.free :: .bool true :: List.replicate 23 un).toArray, []⟩) (by kernel_rfl) ?_
 refine wp_cond_true (by kernel_rfl) ?_
 refine wp_seq ?_
 refine wl_region ?_
 refine zwv (iN .i64 0) ?_
 refine zwv (iN .i64 7) ?_
 refine wl_nil ?_
 refine then_at (F := ⟨(pt bn :: pt bd :: pt bq :: iN .i64 0 :: iN .i64 7 :: un :: .bool false :: .string nm :: .bool true :: .bool false :: .bool true :: .string s :: iN .i64 s.size :: pt d.q :: pt d.q :: .pointer (some ⟨d.q, 1, none⟩) :: iN .i64 D.free :: .bool true :: List.replicate 23 un).toArray, []⟩) (by kernel_rfl) ?_
 refine wp_ret ?_
 repeat first | refine then_ret ?_ | refine block_ret ?_
 exact bodyPost_ret (v := .tuple #[iN .i64 0, iN .i64 7]) (by kernel_rfl) rfl ⟨by rw [appD, if_neg (by rw [hnm]; decide), if_pos hfr], by rw [appD, if_neg (by rw [hnm]; decide), if_pos hfr]; exact ⟨fl, nx, v, Lr, hfl, hK, hR, h4⟩⟩
set_option linter.unusedVariables false in
set_option maxRecDepth 100000 in
set_option maxHeartbeats 2000000 in
theorem app_ok {w0 : World} {M : ML} {d : Dk} {D : DS} {L : BL} {bn bd bq : Nat} {nm s : ByteArray} {w : World} (hD : DH w0 M d D ((bd, 9, #[.string s]) :: (bn, 9, #[.string nm]) :: (bq, 23, #[pt d.q]) :: L) w) (hnm : isNm nm = true) {U N : Nat} (hb : DB D U N) (hU : U + s.size ≤ 1000000000) (hfr : ¬ D.free < s.size) :
  Calls Tryz.prog 63 #[pt bn, pt bd, pt bq] w fun e w' => e = .returned (.tuple #[iN .i64 (appD D nm s).2.1, iN .i64 (appD D nm s).2.2]) ∧ DH w0 M d (appD D nm s).1 ((bd, 9, #[.string s]) :: (bn, 9, #[.string nm]) :: (bq, 23, #[pt d.q]) :: L) w' := by
 obtain ⟨fl, nx, v, Lr, hfl, hK, hR, H0⟩ := hD
 have hnl : nm.size ≤ 1000000000 := by simp [isNm] at hnm; omega
 have hrm := hb.rm
 have hus := hb.us
 go_enter Tryz.func63, Tryz.ntmps63
 refine wp_seq ?_
 refine wl_region ?_
 refine zwv (iN .i64 0) ?_
 refine zwv (iN .i64 0) ?_
 refine wl_nil ?_
 refine then_at (F := ⟨(pt bn :: pt bd :: pt bq :: iN .i64 0 :: iN .i64 0 :: List.replicate 36 un).toArray, []⟩) (by kernel_rfl) ?_
 refine wp_seq ?_
 refine wp_block ?_
 refine wp_seq ?_
 refine wl_region ?_
 refine zwx (.string nm) (run_load1 (fun w => Tryz.isAgg9 w) (by kernel_rfl) (((H0.blk (bn, 9, #[.string nm]) (by simp)).cell 0).trans rfl)) ?_
 refine wl_call (v := .bool true) H0 (by kernel_rfl) enter64 #[.string nm] (by kernel_rfl) (by have := isName_any nm w; rw [hnm] at this; exact this) ?_
 intro w1 h2
 refine zwv (.bool false) ?_
 refine zwv (.bool false) ?_
 refine wl_nil ?_
 refine then_at (F := ⟨(pt bn :: pt bd :: pt bq :: iN .i64 0 :: iN .i64 0 :: un :: .bool false :: .string nm :: .bool true :: .bool false :: List.replicate 31 un).toArray, []⟩) (by kernel_rfl) ?_
 refine wp_cond_false (by kernel_rfl) ?_
 refine wp_seq ?_
 refine wp_region_sure ⟨(pt bn :: pt bd :: pt bq :: iN .i64 0 :: iN .i64 0 :: un :: .bool false :: .string nm :: .bool true :: .bool false :: .bool false :: .string s :: iN .i64 s.size :: pt d.q :: pt d.q :: .pointer (some ⟨d.q, 1, none⟩) :: iN .i64 D.free :: .bool false :: List.replicate 23 un).toArray, []⟩ (HA ⟨w0, (d.r, .mp (eF fl) nx) :: M⟩ ((d.q, 78, dcell d.r D.free D.left D.down v) :: (Lr ++ (FB fl ++ ((bd, 9, #[.string s]) :: (bn, 9, #[.string nm]) :: (bq, 23, #[pt d.q]) :: L))))) [.string s, iN .i64 s.size, .pointer (some ⟨d.q, 0, none⟩), .pointer (some ⟨d.q, 0, none⟩), .pointer (some ⟨d.q, 1, none⟩), iN .i64 D.free, .bool false, .bool false] (by kernel_rfl) (by kernel_rfl) (by kernel_rfl) (by kernel_rfl) (fun _ _ _ h => h) h2.drew ?_ ?_
 ·refine AllSure.cons (OpSure.take (v := .string s) (by kernel_rfl) (by kernel_rfl) (fun w' h' => run_load1 (fun w => Tryz.isAgg9 w) (by kernel_rfl) (((h'.blk (bd, 9, #[.string s]) (by simp)).cell 0).trans rfl))) ?_
  refine AllSure.cons (OpSure.take (v := iN .i64 s.size) (by kernel_rfl) (by kernel_rfl) (fun _ _ => (run_len (s := s) (by kernel_rfl)))) ?_
  refine AllSure.cons (OpSure.take (v := .pointer (some ⟨d.q, 0, none⟩)) (by kernel_rfl) (by kernel_rfl) (fun w' h' => run_load1 (fun w => Tryz.isAgg23 w) (by kernel_rfl) (((h'.blk (bq, 23, #[pt d.q]) (by simp)).cell 0).trans rfl))) ?_
  refine AllSure.cons (OpSure.take (v := .pointer (some ⟨d.q, 0, none⟩)) (by kernel_rfl) (by kernel_rfl) (fun _ _ => (by kernel_rfl))) ?_
  refine AllSure.cons (OpSure.take (v := .pointer (some ⟨d.q, 1, none⟩)) (by kernel_rfl) (by kernel_rfl) (fun _ _ => (by kernel_rfl))) ?_
  refine AllSure.cons (OpSure.take (v := iN .i64 D.free) (by kernel_rfl) (by kernel_rfl) (fun w' h' => run_load1 (fun w => Tryz.isAgg3 w) (by kernel_rfl) (((h'.get 0 rfl).cell 1).trans rfl))) ?_
  refine AllSure.cons (OpSure.take (v := .bool false) (by kernel_rfl) (by kernel_rfl) (fun _ _ => (run_gtr (k := .i64) (a := s.size) (b := D.free) (by kernel_rfl) (by kernel_rfl) false (decide_eq_false hfr)))) ?_
  refine AllSure.cons (OpSure.take (v := .bool false) (by kernel_rfl) (by kernel_rfl) (fun _ _ => (by kernel_rfl))) ?_
  exact AllSure.nil
 intro w3 h4
 refine then_at (F := ⟨(pt bn :: pt bd :: pt bq :: iN .i64 0 :: iN .i64 0 :: un :: .bool false :: .string nm :: .bool true :: .bool false :: .bool false :: .string s :: iN .i64 s.size :: pt d.q :: pt d.q :: .pointer (some ⟨d.q, 1, none⟩) :: iN .i64 D.free :: .bool false :: List.replicate 23 un).toArray, []⟩) (by kernel_rfl) ?_
 refine wp_cond_false (by kernel_rfl) ?_
 refine wp_skip ?_
 refine block_normal ?_
 refine then_at (F := ⟨(pt bn :: pt bd :: pt bq :: iN .i64 0 :: iN .i64 0 :: un :: .bool false :: .string nm :: .bool true :: .bool false :: .bool false :: .string s :: iN .i64 s.size :: pt d.q :: pt d.q :: .pointer (some ⟨d.q, 1, none⟩) :: iN .i64 D.free :: .bool false :: List.replicate 23 un).toArray, []⟩) (by kernel_rfl) ?_
 refine wp_seq ?_
 refine wl_region ?_
 refine zwx (.pointer (some ⟨d.q, 0, none⟩)) (run_load1 (fun w => Tryz.isAgg23 w) (by kernel_rfl) (((h4.blk (bq, 23, #[pt d.q]) (by simp)).cell 0).trans rfl)) ?_
 refine zwx (.string nm) (run_load1 (fun w => Tryz.isAgg9 w) (by kernel_rfl) (((h4.blk (bn, 9, #[.string nm]) (by simp)).cell 0).trans rfl)) ?_
 refine wl_callx (by kernel_rfl) enter65 #[.pointer (some ⟨d.q, 0, none⟩), .string nm] (by kernel_rfl) (made_any hK hnl h4) ?_
 rintro _ w5 ⟨A, f, B, nx', rfl, hf, hK', hab, hm⟩
 refine ⟨_, rfl, ?_⟩
 have hlen : f.da.length + s.size ≤ 1099511627776 := by
  have h1 : ab f ∈ mkF (fl.map ab) nm := by rw [← hab]; simp
  have h2 := used_mem h1
  rw [used_mkF, hfl] at h2
  have h3 : (ab f).da.length = f.da.length := rfl
  omega
 obtain ⟨pf, cf, hv⟩ := (hK'.row f (by simp)).form
 have hrow := hK'.row f (by simp)
 rw [hv] at hrow
 have h6 := HA.file hm
 rw [hv] at h6
 refine zwv (.pointer (some ⟨f.p, 0, none⟩)) ?_
 refine wl_nil ?_
 refine then_at (F := ⟨(pt bn :: pt bd :: pt bq :: iN .i64 0 :: iN .i64 0 :: pt f.p :: .bool false :: .string nm :: .bool true :: .bool false :: .bool false :: .string s :: iN .i64 s.size :: pt d.q :: pt d.q :: .pointer (some ⟨d.q, 1, none⟩) :: iN .i64 D.free :: .bool false :: pt d.q :: .string nm :: pt f.p :: List.replicate 20 un).toArray, []⟩) (by kernel_rfl) ?_
 refine wp_seq ?_
 refine wp_region_wx (HA ⟨w0, (d.r, .mp (eF (A ++ f :: B)) nx') :: M⟩ ((d.q, 78, dcell d.r D.free D.left D.down v) :: (f.p, 109, fcell (.slice pf f.da.length cf) f.sy) :: (f.Lr ++ (Lr ++ (FB (A ++ B) ++ ((bd, 9, #[.string s]) :: (bn, 9, #[.string nm]) :: (bq, 23, #[pt d.q]) :: L)))))) (fun AQ w' => ∃ (p4 : Option Addr) (c4 : Nat) (Lr4 : BL), AQ = ⟨(pt bn :: pt bd :: pt bq :: iN .i64 0 :: iN .i64 0 :: pt f.p :: .bool false :: .string nm :: .bool true :: .bool false :: .bool false :: .string s :: iN .i64 s.size :: pt d.q :: pt d.q :: .pointer (some ⟨d.q, 1, none⟩) :: iN .i64 D.free :: .bool false :: pt d.q :: .string nm :: pt f.p :: pt f.p :: pt f.p :: pt f.p :: pt f.p :: .slice pf f.da.length cf :: .string s :: .slice p4 (f.da ++ bl s).length c4 :: pt f.p :: pt f.p :: List.replicate 11 un).toArray, []⟩ ∧ RowB (.slice p4 (f.da ++ bl s).length c4) (f.da ++ bl s) Lr4 ∧ HA ⟨w0, (d.r, .mp (eF (A ++ f :: B)) nx') :: M⟩ ((d.q, 78, dcell d.r D.free D.left D.down v) :: (f.p, 109, fcell (.slice p4 (f.da ++ bl s).length c4) f.sy) :: (Lr4 ++ (Lr ++ (FB (A ++ B) ++ ((bd, 9, #[.string s]) :: (bn, 9, #[.string nm]) :: (bq, 23, #[pt d.q]) :: L))))) w') 10 (by kernel_rfl) (by kernel_rfl) (by kernel_rfl) (by kernel_rfl) (by kernel_rfl) (h6.drew) ?_ ?_
 ·have h7 := h6.drew
  refine wx_pure (i := 0) (.pointer (some ⟨f.p, 0, none⟩)) rfl rfl (by kernel_rfl) (by kernel_rfl) (fun _ => (by kernel_rfl)) ?_
  refine wx_pure (i := 1) (.pointer (some ⟨f.p, 0, none⟩)) rfl rfl (by kernel_rfl) (by kernel_rfl) (fun _ => (by kernel_rfl)) ?_
  refine wx_pure (i := 2) (.pointer (some ⟨f.p, 0, none⟩)) rfl rfl (by kernel_rfl) (by kernel_rfl) (fun _ => (by kernel_rfl)) ?_
  refine wx_pure (i := 3) (.pointer (some ⟨f.p, 0, none⟩)) rfl rfl (by kernel_rfl) (by kernel_rfl) (fun _ => (by kernel_rfl)) ?_
  refine wx_val (i := 4) (.slice pf f.da.length cf) rfl rfl (by kernel_rfl) (by kernel_rfl) (fun w' h' => run_load1 (fun w => Tryz.isAgg62 w) (by kernel_rfl) (((h'.get 1 rfl).cell 0).trans rfl)) ?_
  refine wx_val (i := 5) (.string s) rfl rfl (by kernel_rfl) (by kernel_rfl) (fun w' h' => run_load1 (fun w => Tryz.isAgg9 w) (by kernel_rfl) (((h'.blk (bd, 9, #[.string s]) (by simp)).cell 0).trans rfl)) ?_
  refine wx_one 6 (by kernel_rfl) ?_
  refine ex_do rfl (by kernel_rfl) (by kernel_rfl) h7 fun w8 h9 => ?_
  obtain ⟨v4, w4, Lr4, hrun4, hrow4, hx4⟩ := RowB.apps hrow (h9.perm (perm_mv [(d.q, 78, dcell d.r D.free D.left D.down v), (f.p, 109, fcell (.slice pf f.da.length cf) f.sy)] f.Lr (Lr ++ (FB (A ++ B) ++ ((bd, 9, #[.string s]) :: (bn, 9, #[.string nm]) :: (bq, 23, #[pt d.q]) :: L))))) s 62 hlen
  obtain ⟨p4, c4, rfl⟩ := hrow4.form
  have h10 : HA ⟨w0, (d.r, .mp (eF (A ++ f :: B)) nx') :: M⟩ ((d.q, 78, dcell d.r D.free D.left D.down v) :: (f.p, 109, fcell (.slice pf f.da.length cf) f.sy) :: (Lr4 ++ (Lr ++ (FB (A ++ B) ++ ((bd, 9, #[.string s]) :: (bn, 9, #[.string nm]) :: (bq, 23, #[pt d.q]) :: L))))) w4 := hx4.perm (perm_mv Lr4 [(d.q, 78, dcell d.r D.free D.left D.down v), (f.p, 109, fcell (.slice pf f.da.length cf) f.sy)] (Lr ++ (FB (A ++ B) ++ ((bd, 9, #[.string s]) :: (bn, 9, #[.string nm]) :: (bq, 23, #[pt d.q]) :: L))))
  refine ⟨_, _, run_app_of (by kernel_rfl) (by kernel_rfl) hrun4, _, h10, ?_⟩
  refine wx_pure (i := 7) (.pointer (some ⟨f.p, 0, none⟩)) rfl rfl (by kernel_rfl) (by kernel_rfl) (fun _ => (by kernel_rfl)) ?_
  refine wx_pure (i := 8) (.pointer (some ⟨f.p, 0, none⟩)) rfl rfl (by kernel_rfl) (by kernel_rfl) (fun _ => (by kernel_rfl)) ?_
  refine wx_one 9 (by kernel_rfl) ?_
  refine ex_skip rfl (by kernel_rfl) (by kernel_rfl) h10 fun w11 h12 => ⟨_, run_storev (v := .slice p4 (f.da ++ bl s).length c4) (fun w => Tryz.sizeOf62 w) (by kernel_rfl) (by kernel_rfl) (by kernel_rfl) (by rw [(h12.get 1 rfl).cell]; rfl) ((h12.get 1 rfl).free _ (by show 0 < 2; decide)), _, h12.put 1 rfl 0 _, ?_⟩
  have h13 : HA ⟨w0, (d.r, .mp (eF (A ++ f :: B)) nx') :: M⟩ ((d.q, 78, dcell d.r D.free D.left D.down v) :: (f.p, 109, fcell (.slice p4 (f.da ++ bl s).length c4) f.sy) :: (Lr4 ++ (Lr ++ (FB (A ++ B) ++ ((bd, 9, #[.string s]) :: (bn, 9, #[.string nm]) :: (bq, 23, #[pt d.q]) :: L))))) _ := h12.put 1 rfl 0 (.slice p4 (f.da ++ bl s).length c4)
  refine wx_end fun w14 hbx _ => ?_
  have h15 := HA.keep _ _ h13 hbx
  exact ⟨p4, c4, Lr4, by kernel_rfl, hrow4, h15⟩
 ·rintro _ w16 ⟨p4, c4, Lr4, rfl, hrow4, h17⟩
  refine then_at (F := ⟨(pt bn :: pt bd :: pt bq :: iN .i64 0 :: iN .i64 0 :: pt f.p :: .bool false :: .string nm :: .bool true :: .bool false :: .bool false :: .string s :: iN .i64 s.size :: pt d.q :: pt d.q :: .pointer (some ⟨d.q, 1, none⟩) :: iN .i64 D.free :: .bool false :: pt d.q :: .string nm :: pt f.p :: pt f.p :: pt f.p :: pt f.p :: pt f.p :: .slice pf f.da.length cf :: .string s :: .slice p4 (f.da ++ bl s).length c4 :: pt f.p :: pt f.p :: List.replicate 11 un).toArray, []⟩) (by kernel_rfl) ?_
  refine wp_seq ?_
  refine wp_region_wx (HA ⟨w0, (d.r, .mp (eF (A ++ f :: B)) nx') :: M⟩ ((d.q, 78, dcell d.r D.free D.left D.down v) :: (f.p, 109, fcell (.slice p4 (f.da ++ bl s).length c4) f.sy) :: (Lr4 ++ (Lr ++ (FB (A ++ B) ++ ((bd, 9, #[.string s]) :: (bn, 9, #[.string nm]) :: (bq, 23, #[pt d.q]) :: L)))))) (fun AQ w' => AQ = ⟨(pt bn :: pt bd :: pt bq :: iN .i64 0 :: iN .i64 0 :: pt f.p :: .bool false :: .string nm :: .bool true :: .bool false :: .bool false :: .string s :: iN .i64 s.size :: pt d.q :: pt d.q :: .pointer (some ⟨d.q, 1, none⟩) :: iN .i64 D.free :: .bool false :: pt d.q :: .string nm :: pt f.p :: pt f.p :: pt f.p :: pt f.p :: pt f.p :: .slice pf f.da.length cf :: .string s :: .slice p4 (f.da ++ bl s).length c4 :: pt f.p :: pt f.p :: pt d.q :: pt d.q :: .pointer (some ⟨d.q, 1, none⟩) :: iN .i64 D.free :: .string s :: iN .i64 s.size :: iN .i64 (D.free - s.size) :: pt d.q :: .pointer (some ⟨d.q, 1, none⟩) :: List.replicate 2 un).toArray, []⟩ ∧ HA ⟨w0, (d.r, .mp (eF (A ++ f :: B)) nx') :: M⟩ ((d.q, 78, dcell d.r (D.free - s.size) D.left D.down v) :: (f.p, 109, fcell (.slice p4 (f.da ++ bl s).length c4) f.sy) :: (Lr4 ++ (Lr ++ (FB (A ++ B) ++ ((bd, 9, #[.string s]) :: (bn, 9, #[.string nm]) :: (bq, 23, #[pt d.q]) :: L))))) w') 10 (by kernel_rfl) (by kernel_rfl) (by kernel_rfl) (by kernel_rfl) (by kernel_rfl) (h17.drew) ?_ ?_
  ·have h18 := h17.drew
   refine wx_val (i := 0) (.pointer (some ⟨d.q, 0, none⟩)) rfl rfl (by kernel_rfl) (by kernel_rfl) (fun w' h' => run_load1 (fun w => Tryz.isAgg23 w) (by kernel_rfl) (((h'.blk (bq, 23, #[pt d.q]) (by simp)).cell 0).trans rfl)) ?_
   refine wx_pure (i := 1) (.pointer (some ⟨d.q, 0, none⟩)) rfl rfl (by kernel_rfl) (by kernel_rfl) (fun _ => (by kernel_rfl)) ?_
   refine wx_pure (i := 2) (.pointer (some ⟨d.q, 1, none⟩)) rfl rfl (by kernel_rfl) (by kernel_rfl) (fun _ => (by kernel_rfl)) ?_
   refine wx_val (i := 3) (iN .i64 D.free) rfl rfl (by kernel_rfl) (by kernel_rfl) (fun w' h' => run_load1 (fun w => Tryz.isAgg3 w) (by kernel_rfl) (((h'.get 0 rfl).cell 1).trans rfl)) ?_
   refine wx_val (i := 4) (.string s) rfl rfl (by kernel_rfl) (by kernel_rfl) (fun w' h' => run_load1 (fun w => Tryz.isAgg9 w) (by kernel_rfl) (((h'.blk (bd, 9, #[.string s]) (by simp)).cell 0).trans rfl)) ?_
   refine wx_pure (i := 5) (iN .i64 s.size) rfl rfl (by kernel_rfl) (by kernel_rfl) (fun _ => (run_len (s := s) (by kernel_rfl))) ?_
   refine wx_pure (i := 6) (iN .i64 (D.free - s.size)) rfl rfl (by kernel_rfl) (by kernel_rfl) (fun _ => (run_sub (k := .i64) (a := D.free) (b := s.size) (by kernel_rfl) (by kernel_rfl) (by first | omega | (simp only [top]; omega)) (by first | omega | (simp only [top]; omega)))) ?_
   refine wx_pure (i := 7) (.pointer (some ⟨d.q, 0, none⟩)) rfl rfl (by kernel_rfl) (by kernel_rfl) (fun _ => (by kernel_rfl)) ?_
   refine wx_pure (i := 8) (.pointer (some ⟨d.q, 1, none⟩)) rfl rfl (by kernel_rfl) (by kernel_rfl) (fun _ => (by kernel_rfl)) ?_
   refine wx_one 9 (by kernel_rfl) ?_
   refine ex_skip rfl (by kernel_rfl) (by kernel_rfl) h18 fun w19 h20 => ⟨_, run_storev (v := iN .i64 (D.free - s.size)) (fun w => Tryz.sizeOf3 w) (by kernel_rfl) (by kernel_rfl) (by kernel_rfl) (by rw [(h20.get 0 rfl).cell]; rfl) ((h20.get 0 rfl).free _ (by show 1 < 5; decide)), _, h20.put 0 rfl 1 _, ?_⟩
   have h21 : HA ⟨w0, (d.r, .mp (eF (A ++ f :: B)) nx') :: M⟩ ((d.q, 78, dcell d.r (D.free - s.size) D.left D.down v) :: (f.p, 109, fcell (.slice p4 (f.da ++ bl s).length c4) f.sy) :: (Lr4 ++ (Lr ++ (FB (A ++ B) ++ ((bd, 9, #[.string s]) :: (bn, 9, #[.string nm]) :: (bq, 23, #[pt d.q]) :: L))))) _ := h20.put 0 rfl 1 (iN .i64 (D.free - s.size))
   refine wx_end fun w22 hbx _ => ?_
   have h23 := HA.keep _ _ h21 hbx
   exact ⟨by kernel_rfl, h23⟩
  ·rintro _ w24 ⟨rfl, h25⟩
   refine then_at (F := ⟨(pt bn :: pt bd :: pt bq :: iN .i64 0 :: iN .i64 0 :: pt f.p :: .bool false :: .string nm :: .bool true :: .bool false :: .bool false :: .string s :: iN .i64 s.size :: pt d.q :: pt d.q :: .pointer (some ⟨d.q, 1, none⟩) :: iN .i64 D.free :: .bool false :: pt d.q :: .string nm :: pt f.p :: pt f.p :: pt f.p :: pt f.p :: pt f.p :: .slice pf f.da.length cf :: .string s :: .slice p4 (f.da ++ bl s).length c4 :: pt f.p :: pt f.p :: pt d.q :: pt d.q :: .pointer (some ⟨d.q, 1, none⟩) :: iN .i64 D.free :: .string s :: iN .i64 s.size :: iN .i64 (D.free - s.size) :: pt d.q :: .pointer (some ⟨d.q, 1, none⟩) :: List.replicate 2 un).toArray, []⟩) (by kernel_rfl) ?_
   refine wp_seq ?_
   refine wl_region ?_
   refine zwx (.string s) (run_load1 (fun w => Tryz.isAgg9 w) (by kernel_rfl) (((h25.blk (bd, 9, #[.string s]) (by simp)).cell 0).trans rfl)) ?_
   refine zwx (iN .i64 s.size) (run_len (s := s) (by kernel_rfl)) ?_
   refine zwv (iN .i64 s.size) ?_
   refine zwv (iN .i64 0) ?_
   refine wl_nil ?_
   refine then_at (F := ⟨(pt bn :: pt bd :: pt bq :: iN .i64 s.size :: iN .i64 0 :: pt f.p :: .bool false :: .string nm :: .bool true :: .bool false :: .bool false :: .string s :: iN .i64 s.size :: pt d.q :: pt d.q :: .pointer (some ⟨d.q, 1, none⟩) :: iN .i64 D.free :: .bool false :: pt d.q :: .string nm :: pt f.p :: pt f.p :: pt f.p :: pt f.p :: pt f.p :: .slice pf f.da.length cf :: .string s :: .slice p4 (f.da ++ bl s).length c4 :: pt f.p :: pt f.p :: pt d.q :: pt d.q :: .pointer (some ⟨d.q, 1, none⟩) :: iN .i64 D.free :: .string s :: iN .i64 s.size :: iN .i64 (D.free - s.size) :: pt d.q :: .pointer (some ⟨d.q, 1, none⟩) :: .string s :: iN .i64 s.size :: List.replicate 0 un).toArray, []⟩) (by kernel_rfl) ?_
   refine wp_ret ?_
   repeat first | refine then_ret ?_ | refine block_ret ?_
   have hup := upd_at hK' ⟨f.nm, f.p, f.da ++ bl s, f.sy, .slice p4 (f.da ++ bl s).length c4, Lr4, f.bn⟩ (fun x => { x with da := x.da ++ bl s }) rfl
   rw [hab, hfl] at hup
   subst hf
   exact bodyPost_ret (v := .tuple #[iN .i64 s.size, iN .i64 0]) (by kernel_rfl) rfl ⟨by rw [appD, if_neg (by rw [hnm]; decide), if_neg hfr], by rw [appD, if_neg (by rw [hnm]; decide), if_neg hfr]; exact ⟨A ++ ⟨f.nm, f.p, f.da ++ bl s, f.sy, .slice p4 (f.da ++ bl s).length c4, Lr4, f.bn⟩ :: B, nx', v, Lr, hup, hK'.turn rfl rfl hrow4 (by have := hK'.syn f (by simp); simp; omega), hR, HA.unfile (f := ⟨f.nm, f.p, f.da ++ bl s, f.sy, .slice p4 (f.da ++ bl s).length c4, Lr4, f.bn⟩) (by rw [eF_same (g := ⟨f.nm, f.p, f.da ++ bl s, f.sy, .slice p4 (f.da ++ bl s).length c4, Lr4, f.bn⟩) (f := f) rfl rfl rfl]; exact h25)⟩⟩
theorem app_any {w0 : World} {M : ML} {d : Dk} {D : DS} {L : BL} {bn bd bq : Nat} {nm s : ByteArray} {w : World} (hD : DH w0 M d D ((bd, 9, #[.string s]) :: (bn, 9, #[.string nm]) :: (bq, 23, #[pt d.q]) :: L) w) {U N : Nat} (hb : DB D U N) (hU : U + s.size ≤ 1000000000) :
  Calls Tryz.prog 63 #[pt bn, pt bd, pt bq] w fun e w' => e = .returned (.tuple #[iN .i64 (appD D nm s).2.1, iN .i64 (appD D nm s).2.2]) ∧ DH w0 M d (appD D nm s).1 ((bd, 9, #[.string s]) :: (bn, 9, #[.string nm]) :: (bq, 23, #[pt d.q]) :: L) w' := by
 cases hnm : isNm nm with
 | false => exact app_arg hD hnm
 | true =>
  by_cases hfr : D.free < s.size
  ·exact app_full hD hnm hfr
  ·exact app_ok hD hnm hb hU hfr
theorem spend_DB {D : DS} {U N : Nat} (h : DB D U N) : DB (spendD D) U N := ⟨h.rm, by have := h.lf; simp only [spendD]; omega, h.us, h.sz, h.nm, h.ct, h.nd⟩
def AppendD (D : DS) (nm s : ByteArray) : DS × Nat := opD D (appD (spendD D) nm s).1 (appD (spendD D) nm s).2.1 (appD (spendD D) nm s).2.2
theorem appD_sz (D : DS) (nm s : ByteArray) : (appD D nm s).1.sizes = D.sizes := by
 unfold appD
 split
 ·rfl
 ·split <;> rfl
set_option linter.unusedVariables false in
set_option maxRecDepth 100000 in
set_option maxHeartbeats 2000000 in
theorem Append_any {w0 : World} {M : ML} {d : Dk} {D : DS} {L : BL} {w : World} (hD : DH w0 M d D L w) (nm s : ByteArray) {U N : Nat} (hb : DB D U N) (hU : U + s.size ≤ 1000000000) (hN : N ≤ 1000000000) :
  Calls Tryz.prog 24 #[pt d.q, .string nm, .string s] w fun e w' => e = .returned (iN .i64 (AppendD D nm s).2) ∧ DH w0 M d (AppendD D nm s).1 L w' := by
 obtain ⟨fl, nx, v, Lr, hfl, hK, hR, H0⟩ := hD
 go_enter Tryz.func24, Tryz.ntmps24
 refine wp_seq ?_
 refine wl_region ?_
 refine wl_make (c := #[.pointer (some ⟨d.q, 0, none⟩)]) H0 23 (by kernel_rfl) (by kernel_rfl) ?_
 intro q1 w2 (h3 : HA ⟨w0, (d.r, .mp (eF fl) nx) :: M⟩ ((q1, 23, #[.pointer (some ⟨d.q, 0, none⟩)]) :: (d.q, 78, dcell d.r D.free D.left D.down v) :: (Lr ++ (FB fl ++ L))) w2)
 refine wl_make (c := #[.string nm]) h3 9 (by kernel_rfl) (by kernel_rfl) ?_
 intro q4 w5 (h6 : HA ⟨w0, (d.r, .mp (eF fl) nx) :: M⟩ ((q4, 9, #[.string nm]) :: (q1, 23, #[.pointer (some ⟨d.q, 0, none⟩)]) :: (d.q, 78, dcell d.r D.free D.left D.down v) :: (Lr ++ (FB fl ++ L))) w5)
 refine wl_make (c := #[.string s]) h6 9 (by kernel_rfl) (by kernel_rfl) ?_
 intro q7 w8 (h9 : HA ⟨w0, (d.r, .mp (eF fl) nx) :: M⟩ ((q7, 9, #[.string s]) :: (q4, 9, #[.string nm]) :: (q1, 23, #[.pointer (some ⟨d.q, 0, none⟩)]) :: (d.q, 78, dcell d.r D.free D.left D.down v) :: (Lr ++ (FB fl ++ L))) w8)
 refine zwv (iN .i64 0) ?_
 refine wl_nil ?_
 refine then_at (F := ⟨(pt d.q :: .string nm :: .string s :: pt q1 :: pt q4 :: pt q7 :: iN .i64 0 :: List.replicate 3 un).toArray, []⟩) (by kernel_rfl) ?_
 refine wp_seq ?_
 refine wl_region ?_
 refine zwx (.pointer (some ⟨d.q, 0, none⟩)) (run_load1 (fun w => Tryz.isAgg23 w) (by kernel_rfl) (((h9.get 2 rfl).cell 0).trans rfl)) ?_
 refine zwv (.func (.func 63) #[] #[.pointer (some ⟨q4, 0, none⟩), .pointer (some ⟨q7, 0, none⟩), .pointer (some ⟨q1, 0, none⟩)]) ?_
 refine wl_callx (by kernel_rfl) enter62 #[.pointer (some ⟨d.q, 0, none⟩), .func (.func 63) #[] #[.pointer (some ⟨q4, 0, none⟩), .pointer (some ⟨q7, 0, none⟩), .pointer (some ⟨q1, 0, none⟩)]] (by kernel_rfl) (operate_any ⟨fl, nx, v, Lr, hfl, hK, hR, HA.back [(q7, 9, #[.string s]), (q4, 9, #[.string nm]), (q1, 23, #[.pointer (some ⟨d.q, 0, none⟩)])] h9⟩ enter63 hb.lf (by rw [appD_sz]; exact Nat.le_trans hb.sz hN) (fun w h => app_any h (spend_DB hb) hU)) ?_
 rintro _ w10 ⟨rfl, hD2⟩
 refine ⟨_, rfl, ?_⟩
 refine zwv (iN .i64 ((AppendD D nm s).2)) ?_
 refine wl_nil ?_
 refine then_at (F := ⟨(pt d.q :: .string nm :: .string s :: pt q1 :: pt q4 :: pt q7 :: iN .i64 ((AppendD D nm s).2) :: pt d.q :: .func (.func 63) #[] #[pt q4, pt q7, pt q1] :: iN .i64 ((AppendD D nm s).2) :: List.replicate 0 un).toArray, []⟩) (by kernel_rfl) ?_
 refine wp_ret ?_
 repeat first | refine then_ret ?_ | refine block_ret ?_
 exact bodyPost_ret (v := iN .i64 (AppendD D nm s).2) (by kernel_rfl) rfl ⟨rfl, DH.drop (A := [(q7, 9, #[.string s]), (q4, 9, #[.string nm]), (q1, 23, #[.pointer (some ⟨d.q, 0, none⟩)])]) hD2⟩
end Go.Proofs.YtckmlaempffpjaaGreat

namespace Go.Proofs.YtckmlaempffpjaaGreat
open Go.RowKit

/-- an operation on a file that must be there -/
def onD (D D2 : DS) (nm : ByteArray) (er : Nat) : DS × Nat × Nat := if ∃ x ∈ D.fs, x.nm = nm then (D2, 0, er) else (D, 0, 5)
theorem ex_ab {fl : List Fl} {D : DS} {nm : ByteArray} (h : fl.map ab = D.fs) : (∃ x ∈ D.fs, x.nm = nm) ↔ ∃ f ∈ fl, f.nm = nm := by
 rw [← h]
 constructor
 ·rintro ⟨x, hx, e⟩
  obtain ⟨f, hf, rfl⟩ := List.mem_map.1 hx
  exact ⟨f, hf, e⟩
 ·rintro ⟨f, hf, e⟩
  exact ⟨ab f, List.mem_map.2 ⟨f, hf, rfl⟩, e⟩
set_option linter.unusedVariables false in
set_option maxRecDepth 100000 in
set_option maxHeartbeats 2000000 in
theorem on_no {w0 : World} {M : ML} {d : Dk} {D : DS} {L : BL} {bn bf bq : Nat} {nm : ByteArray} {F : FuncId} {cap : Array Value} {w : World} (hD : DH w0 M d D ((bf, 129, #[.func (.func F) #[] cap]) :: (bn, 9, #[.string nm]) :: (bq, 23, #[pt d.q]) :: L) w) {D2 : DS} {er : Nat} (hno : ¬ ∃ x ∈ D.fs, x.nm = nm) :
  Calls Tryz.prog 119 #[pt bq, pt bn, pt bf] w fun e w' => e = .returned (.tuple #[iN .i64 (onD D D2 nm er).2.1, iN .i64 (onD D D2 nm er).2.2]) ∧ DH w0 M d (onD D D2 nm er).1 ((bf, 129, #[.func (.func F) #[] cap]) :: (bn, 9, #[.string nm]) :: (bq, 23, #[pt d.q]) :: L) w' := by
 obtain ⟨fl, nx, v, Lr, hfl, hK, hR, H0⟩ := hD
 have hn : ∀ f ∈ fl, f.nm ≠ nm := fun f hf e => hno ((ex_ab hfl).2 ⟨f, hf, e⟩)
 go_enter Tryz.func119, Tryz.ntmps119
 refine wp_seq ?_
 refine wl_region ?_
 refine zwv (iN .i64 0) ?_
 refine zwv (iN .i64 0) ?_
 refine wl_nil ?_
 refine then_at (F := ⟨(pt bq :: pt bn :: pt bf :: iN .i64 0 :: iN .i64 0 :: List.replicate 12 un).toArray, []⟩) (by kernel_rfl) ?_
 refine wp_seq ?_
 refine wp_region_sure ⟨(pt bq :: pt bn :: pt bf :: iN .i64 0 :: iN .i64 0 :: .pointer none :: pt d.q :: pt d.q :: pt d.q :: .map (some d.r) :: .string nm :: .pointer none :: List.replicate 5 un).toArray, []⟩ (HA ⟨w0, (d.r, .mp (eF fl) nx) :: M⟩ ((d.q, 78, dcell d.r D.free D.left D.down v) :: (Lr ++ (FB fl ++ ((bf, 129, #[.func (.func F) #[] cap]) :: (bn, 9, #[.string nm]) :: (bq, 23, #[pt d.q]) :: L))))) [.pointer (some ⟨d.q, 0, none⟩), .pointer (some ⟨d.q, 0, none⟩), .pointer (some ⟨d.q, 0, none⟩), .map (some d.r), .string nm, .pointer none, .pointer none] (by kernel_rfl) (by kernel_rfl) (by kernel_rfl) (by kernel_rfl) (fun _ _ _ h => h) H0.drew ?_ ?_
 ·refine AllSure.cons (OpSure.take (v := .pointer (some ⟨d.q, 0, none⟩)) (by kernel_rfl) (by kernel_rfl) (fun w' h' => run_load1 (fun w => Tryz.isAgg23 w) (by kernel_rfl) (((h'.blk (bq, 23, #[pt d.q]) (by simp)).cell 0).trans rfl))) ?_
  refine AllSure.cons (OpSure.take (v := .pointer (some ⟨d.q, 0, none⟩)) (by kernel_rfl) (by kernel_rfl) (fun _ _ => (by kernel_rfl))) ?_
  refine AllSure.cons (OpSure.take (v := .pointer (some ⟨d.q, 0, none⟩)) (by kernel_rfl) (by kernel_rfl) (fun _ _ => (by kernel_rfl))) ?_
  refine AllSure.cons (OpSure.take (v := .map (some d.r)) (by kernel_rfl) (by kernel_rfl) (fun w' h' => run_load1 (fun w => Tryz.isAgg76 w) (by kernel_rfl) (((h'.get 0 rfl).cell 0).trans rfl))) ?_
  refine AllSure.cons (OpSure.take (v := .string nm) (by kernel_rfl) (by kernel_rfl) (fun w' h' => run_load1 (fun w => Tryz.isAgg9 w) (by kernel_rfl) (((h'.blk (bn, 9, #[.string nm]) (by simp)).cell 0).trans rfl))) ?_
  refine AllSure.cons (OpSure.take (v := .pointer none) (by kernel_rfl) (by kernel_rfl) (fun w' h' => run_look_no (h'.old.maps _ (List.mem_cons_self ..)) hn (by kernel_rfl) (by kernel_rfl))) ?_
  refine AllSure.cons (OpSure.take (v := .pointer none) (by kernel_rfl) (by kernel_rfl) (fun _ _ => (by kernel_rfl))) ?_
  exact AllSure.nil
 intro w1 h2
 refine then_at (F := ⟨(pt bq :: pt bn :: pt bf :: iN .i64 0 :: iN .i64 0 :: .pointer none :: pt d.q :: pt d.q :: pt d.q :: .map (some d.r) :: .string nm :: .pointer none :: List.replicate 5 un).toArray, []⟩) (by kernel_rfl) ?_
 refine wp_seq ?_
 refine wp_seq ?_
 refine wl_region ?_
 refine zwv (.pointer none) ?_
 refine zwv (.bool true) ?_
 refine wl_nil ?_
 refine then_at (F := ⟨(pt bq :: pt bn :: pt bf :: iN .i64 0 :: iN .i64 0 :: .pointer none :: pt d.q :: pt d.q :: pt d.q :: .map (some d.r) :: .string nm :: .pointer none :: .pointer none :: .bool true :: List.replicate 3 un).toArray, []⟩) (by kernel_rfl) ?_
 refine wp_cond_true (by kernel_rfl) ?_
 refine wp_seq ?_
 refine wl_region ?_
 refine zwv (iN .i64 0) ?_
 refine zwv (iN .i64 5) ?_
 refine wl_nil ?_
 refine then_at (F := ⟨(pt bq :: pt bn :: pt bf :: iN .i64 0 :: iN .i64 5 :: .pointer none :: pt d.q :: pt d.q :: pt d.q :: .map (some d.r) :: .string nm :: .pointer none :: .pointer none :: .bool true :: List.replicate 3 un).toArray, []⟩) (by kernel_rfl) ?_
 refine wp_ret ?_
 repeat first | refine then_ret ?_ | refine block_ret ?_
 exact bodyPost_ret (v := .tuple #[iN .i64 0, iN .i64 5]) (by kernel_rfl) rfl ⟨by rw [onD, if_neg hno], by rw [onD, if_neg hno]; exact ⟨fl, nx, v, Lr, hfl, hK, hR, h2⟩⟩
set_option linter.unusedVariables false in
set_option maxRecDepth 100000 in
set_option maxHeartbeats 2000000 in
theorem on_yes {w0 : World} {M : ML} {d : Dk} {D : DS} {L : BL} {bn bf bq : Nat} {nm : ByteArray} {F : FuncId} {cap : Array Value} {w : World} (hD : DH w0 M d D ((bf, 129, #[.func (.func F) #[] cap]) :: (bn, 9, #[.string nm]) :: (bq, 23, #[pt d.q]) :: L) w) {D2 : DS} {er : Nat} (hF : ∀ args w, (callFunc F args).run Tryz.prog w = .ok (.enter F args) w) (hyes : ∃ x ∈ D.fs, x.nm = nm) (hdeed : ∀ (w : World) (A B : List Fl) (f : Fl) (nx : Nat) (v : Value) (Lr : BL), (A ++ f :: B).map ab = D.fs → f.nm = nm → FK (A ++ f :: B) nx → Row 3 1 v D.sizes.length (D.sizes.map (iN .i64 ·)) Lr → HA ⟨w0, (d.r, .mp (eF (A ++ f :: B)) nx) :: M⟩ ((d.q, 78, dcell d.r D.free D.left D.down v) :: (Lr ++ (FB (A ++ f :: B) ++ ((bf, 129, #[.func (.func F) #[] cap]) :: (bn, 9, #[.string nm]) :: (bq, 23, #[pt d.q]) :: L)))) w →
   Calls Tryz.prog F (#[pt f.p] ++ cap) w fun e w' => e = .returned (iN .i64 er) ∧ DH w0 M d D2 ((bf, 129, #[.func (.func F) #[] cap]) :: (bn, 9, #[.string nm]) :: (bq, 23, #[pt d.q]) :: L) w') :
  Calls Tryz.prog 119 #[pt bq, pt bn, pt bf] w fun e w' => e = .returned (.tuple #[iN .i64 (onD D D2 nm er).2.1, iN .i64 (onD D D2 nm er).2.2]) ∧ DH w0 M d (onD D D2 nm er).1 ((bf, 129, #[.func (.func F) #[] cap]) :: (bn, 9, #[.string nm]) :: (bq, 23, #[pt d.q]) :: L) w' := by
 obtain ⟨fl, nx, v, Lr, hfl, hK, hR, H0⟩ := hD
 obtain ⟨A, f, B, rfl, hf, hA⟩ := fl_split ((ex_ab hfl).1 hyes)
 go_enter Tryz.func119, Tryz.ntmps119
 refine wp_seq ?_
 refine wl_region ?_
 refine zwv (iN .i64 0) ?_
 refine zwv (iN .i64 0) ?_
 refine wl_nil ?_
 refine then_at (F := ⟨(pt bq :: pt bn :: pt bf :: iN .i64 0 :: iN .i64 0 :: List.replicate 12 un).toArray, []⟩) (by kernel_rfl) ?_
 refine wp_seq ?_
 refine wp_region_sure ⟨(pt bq :: pt bn :: pt bf :: iN .i64 0 :: iN .i64 0 :: pt f.p :: pt d.q :: pt d.q :: pt d.q :: .map (some d.r) :: .string nm :: pt f.p :: List.replicate 5 un).toArray, []⟩ (HA ⟨w0, (d.r, .mp (eF (A ++ f :: B)) nx) :: M⟩ ((d.q, 78, dcell d.r D.free D.left D.down v) :: (Lr ++ (FB (A ++ f :: B) ++ ((bf, 129, #[.func (.func F) #[] cap]) :: (bn, 9, #[.string nm]) :: (bq, 23, #[pt d.q]) :: L))))) [.pointer (some ⟨d.q, 0, none⟩), .pointer (some ⟨d.q, 0, none⟩), .pointer (some ⟨d.q, 0, none⟩), .map (some d.r), .string nm, .pointer (some ⟨f.p, 0, none⟩), .pointer (some ⟨f.p, 0, none⟩)] (by kernel_rfl) (by kernel_rfl) (by kernel_rfl) (by kernel_rfl) (fun _ _ _ h => h) H0.drew ?_ ?_
 ·refine AllSure.cons (OpSure.take (v := .pointer (some ⟨d.q, 0, none⟩)) (by kernel_rfl) (by kernel_rfl) (fun w' h' => run_load1 (fun w => Tryz.isAgg23 w) (by kernel_rfl) (((h'.blk (bq, 23, #[pt d.q]) (by simp)).cell 0).trans rfl))) ?_
  refine AllSure.cons (OpSure.take (v := .pointer (some ⟨d.q, 0, none⟩)) (by kernel_rfl) (by kernel_rfl) (fun _ _ => (by kernel_rfl))) ?_
  refine AllSure.cons (OpSure.take (v := .pointer (some ⟨d.q, 0, none⟩)) (by kernel_rfl) (by kernel_rfl) (fun _ _ => (by kernel_rfl))) ?_
  refine AllSure.cons (OpSure.take (v := .map (some d.r)) (by kernel_rfl) (by kernel_rfl) (fun w' h' => run_load1 (fun w => Tryz.isAgg76 w) (by kernel_rfl) (((h'.get 0 rfl).cell 0).trans rfl))) ?_
  refine AllSure.cons (OpSure.take (v := .string nm) (by kernel_rfl) (by kernel_rfl) (fun w' h' => run_load1 (fun w => Tryz.isAgg9 w) (by kernel_rfl) (((h'.blk (bn, 9, #[.string nm]) (by simp)).cell 0).trans rfl))) ?_
  refine AllSure.cons (OpSure.take (v := .pointer (some ⟨f.p, 0, none⟩)) (by kernel_rfl) (by kernel_rfl) (fun w' h' => run_look_yes (h'.old.maps _ (List.mem_cons_self ..)) hf (hf ▸ hK.apartA) (by kernel_rfl) (by kernel_rfl))) ?_
  refine AllSure.cons (OpSure.take (v := .pointer (some ⟨f.p, 0, none⟩)) (by kernel_rfl) (by kernel_rfl) (fun _ _ => (by kernel_rfl))) ?_
  exact AllSure.nil
 intro w1 h2
 refine then_at (F := ⟨(pt bq :: pt bn :: pt bf :: iN .i64 0 :: iN .i64 0 :: pt f.p :: pt d.q :: pt d.q :: pt d.q :: .map (some d.r) :: .string nm :: pt f.p :: List.replicate 5 un).toArray, []⟩) (by kernel_rfl) ?_
 refine wp_seq ?_
 refine wp_seq ?_
 refine wl_region ?_
 refine zwv (.pointer (some ⟨f.p, 0, none⟩)) ?_
 refine zwv (.bool false) ?_
 refine wl_nil ?_
 refine then_at (F := ⟨(pt bq :: pt bn :: pt bf :: iN .i64 0 :: iN .i64 0 :: pt f.p :: pt d.q :: pt d.q :: pt d.q :: .map (some d.r) :: .string nm :: pt f.p :: pt f.p :: .bool false :: List.replicate 3 un).toArray, []⟩) (by kernel_rfl) ?_
 refine wp_cond_false (by kernel_rfl) ?_
 refine wp_skip ?_
 refine then_at (F := ⟨(pt bq :: pt bn :: pt bf :: iN .i64 0 :: iN .i64 0 :: pt f.p :: pt d.q :: pt d.q :: pt d.q :: .map (some d.r) :: .string nm :: pt f.p :: pt f.p :: .bool false :: List.replicate 3 un).toArray, []⟩) (by kernel_rfl) ?_
 refine wp_seq ?_
 refine wl_region ?_
 refine zwx (.func (.func F) #[] cap) (run_load1 (fun w => Tryz.isAgg129 w) (by kernel_rfl) (((h2.blk (bf, 129, #[.func (.func F) #[] cap]) (by simp)).cell 0).trans rfl)) ?_
 refine zwv (.pointer (some ⟨f.p, 0, none⟩)) ?_
 refine wl_callvx (cap := cap) (args := #[pt f.p] ++ cap) (by kernel_rfl) hF (by kernel_rfl) (by simp [Act.eval, Act.put]; rfl) (hdeed w1 A B f nx v Lr hfl hf hK hR h2) ?_
 rintro _ w3 ⟨rfl, hD2⟩
 refine ⟨_, rfl, ?_⟩
 refine zwv (iN .i64 0) ?_
 refine zwv (iN .i64 er) ?_
 refine wl_nil ?_
 refine then_at (F := ⟨(pt bq :: pt bn :: pt bf :: iN .i64 0 :: iN .i64 er :: pt f.p :: pt d.q :: pt d.q :: pt d.q :: .map (some d.r) :: .string nm :: pt f.p :: pt f.p :: .bool false :: .func (.func F) #[] cap :: pt f.p :: iN .i64 er :: List.replicate 0 un).toArray, []⟩) (by kernel_rfl) ?_
 refine wp_ret ?_
 repeat first | refine then_ret ?_ | refine block_ret ?_
 exact bodyPost_ret (v := .tuple #[iN .i64 0, iN .i64 er]) (by kernel_rfl) rfl ⟨by rw [onD, if_pos hyes], by rw [onD, if_pos hyes]; exact hD2⟩
theorem on_any {w0 : World} {M : ML} {d : Dk} {D : DS} {L : BL} {bn bf bq : Nat} {nm : ByteArray} {F : FuncId} {cap : Array Value} {w : World} (hD : DH w0 M d D ((bf, 129, #[.func (.func F) #[] cap]) :: (bn, 9, #[.string nm]) :: (bq, 23, #[pt d.q]) :: L) w) {D2 : DS} {er : Nat} (hF : ∀ args w, (callFunc F args).run Tryz.prog w = .ok (.enter F args) w) (hdeed : ∀ (w : World) (A B : List Fl) (f : Fl) (nx : Nat) (v : Value) (Lr : BL), (A ++ f :: B).map ab = D.fs → f.nm = nm → FK (A ++ f :: B) nx → Row 3 1 v D.sizes.length (D.sizes.map (iN .i64 ·)) Lr → HA ⟨w0, (d.r, .mp (eF (A ++ f :: B)) nx) :: M⟩ ((d.q, 78, dcell d.r D.free D.left D.down v) :: (Lr ++ (FB (A ++ f :: B) ++ ((bf, 129, #[.func (.func F) #[] cap]) :: (bn, 9, #[.string nm]) :: (bq, 23, #[pt d.q]) :: L)))) w →
   Calls Tryz.prog F (#[pt f.p] ++ cap) w fun e w' => e = .returned (iN .i64 er) ∧ DH w0 M d D2 ((bf, 129, #[.func (.func F) #[] cap]) :: (bn, 9, #[.string nm]) :: (bq, 23, #[pt d.q]) :: L) w') :
  Calls Tryz.prog 119 #[pt bq, pt bn, pt bf] w fun e w' => e = .returned (.tuple #[iN .i64 (onD D D2 nm er).2.1, iN .i64 (onD D D2 nm er).2.2]) ∧ DH w0 M d (onD D D2 nm er).1 ((bf, 129, #[.func (.func F) #[] cap]) :: (bn, 9, #[.string nm]) :: (bq, 23, #[pt d.q]) :: L) w' := by
 by_cases h : ∃ x ∈ D.fs, x.nm = nm
 ·exact on_yes hD hF h hdeed
 ·exact on_no hD h
def OnD (D D2 : DS) (nm : ByteArray) (er : Nat) : DS × Nat := opD D (onD (spendD D) D2 nm er).1 (onD (spendD D) D2 nm er).2.1 (onD (spendD D) D2 nm er).2.2
theorem onD_sz {D D2 : DS} {nm : ByteArray} {er N : Nat} (h : D.sizes.length ≤ N) (h2 : D2.sizes.length ≤ N) : (onD D D2 nm er).1.sizes.length ≤ N := by
 unfold onD
 split
 ·exact h2
 ·exact h
set_option linter.unusedVariables false in
set_option maxRecDepth 100000 in
set_option maxHeartbeats 2000000 in
theorem operateOn_any {w0 : World} {M : ML} {d : Dk} {D : DS} {L : BL} {w : World} (hD : DH w0 M d D L w) {nm : ByteArray} {F : FuncId} {cap : Array Value} {D2 : DS} {er U N : Nat} (hF : ∀ args w, (callFunc F args).run Tryz.prog w = .ok (.enter F args) w) (hb : DB D U N) (hN : N ≤ 1000000000) (hs2 : D2.sizes.length ≤ 1000000000) (hdeed : ∀ (b3 b4 b5 : Nat) (w : World) (A B : List Fl) (f : Fl) (nx : Nat) (v : Value) (Lr : BL), (A ++ f :: B).map ab = (spendD D).fs → f.nm = nm → FK (A ++ f :: B) nx → Row 3 1 v (spendD D).sizes.length ((spendD D).sizes.map (iN .i64 ·)) Lr → HA ⟨w0, (d.r, .mp (eF (A ++ f :: B)) nx) :: M⟩ ((d.q, 78, dcell d.r (spendD D).free (spendD D).left (spendD D).down v) :: (Lr ++ (FB (A ++ f :: B) ++ ((b5, 129, #[.func (.func F) #[] cap]) :: (b4, 9, #[.string nm]) :: (b3, 23, #[pt d.q]) :: L)))) w →
   Calls Tryz.prog F (#[pt f.p] ++ cap) w fun e w' => e = .returned (iN .i64 er) ∧ DH w0 M d D2 ((b5, 129, #[.func (.func F) #[] cap]) :: (b4, 9, #[.string nm]) :: (b3, 23, #[pt d.q]) :: L) w') :
  Calls Tryz.prog 75 #[pt d.q, .string nm, .func (.func F) #[] cap] w fun e w' => e = .returned (iN .i64 (OnD D D2 nm er).2) ∧ DH w0 M d (OnD D D2 nm er).1 L w' := by
 obtain ⟨fl, nx, v, Lr, hfl, hK, hR, H0⟩ := hD
 go_enter Tryz.func75, Tryz.ntmps75
 refine wp_seq ?_
 refine wl_region ?_
 refine wl_make (c := #[.pointer (some ⟨d.q, 0, none⟩)]) H0 23 (by kernel_rfl) (by kernel_rfl) ?_
 intro q1 w2 (h3 : HA ⟨w0, (d.r, .mp (eF fl) nx) :: M⟩ ((q1, 23, #[.pointer (some ⟨d.q, 0, none⟩)]) :: (d.q, 78, dcell d.r D.free D.left D.down v) :: (Lr ++ (FB fl ++ L))) w2)
 refine wl_make (c := #[.string nm]) h3 9 (by kernel_rfl) (by kernel_rfl) ?_
 intro q4 w5 (h6 : HA ⟨w0, (d.r, .mp (eF fl) nx) :: M⟩ ((q4, 9, #[.string nm]) :: (q1, 23, #[.pointer (some ⟨d.q, 0, none⟩)]) :: (d.q, 78, dcell d.r D.free D.left D.down v) :: (Lr ++ (FB fl ++ L))) w5)
 refine wl_make (c := #[.func (.func F) #[] cap]) h6 129 (by kernel_rfl) (by kernel_rfl) ?_
 intro q7 w8 (h9 : HA ⟨w0, (d.r, .mp (eF fl) nx) :: M⟩ ((q7, 129, #[.func (.func F) #[] cap]) :: (q4, 9, #[.string nm]) :: (q1, 23, #[.pointer (some ⟨d.q, 0, none⟩)]) :: (d.q, 78, dcell d.r D.free D.left D.down v) :: (Lr ++ (FB fl ++ L))) w8)
 refine zwv (iN .i64 0) ?_
 refine wl_nil ?_
 refine then_at (F := ⟨(pt d.q :: .string nm :: .func (.func F) #[] cap :: pt q1 :: pt q4 :: pt q7 :: iN .i64 0 :: List.replicate 3 un).toArray, []⟩) (by kernel_rfl) ?_
 refine wp_seq ?_
 refine wl_region ?_
 refine zwx (.pointer (some ⟨d.q, 0, none⟩)) (run_load1 (fun w => Tryz.isAgg23 w) (by kernel_rfl) (((h9.get 2 rfl).cell 0).trans rfl)) ?_
 refine zwv (.func (.func 119) #[] #[.pointer (some ⟨q1, 0, none⟩), .pointer (some ⟨q4, 0, none⟩), .pointer (some ⟨q7, 0, none⟩)]) ?_
 refine wl_callx (by kernel_rfl) enter62 #[.pointer (some ⟨d.q, 0, none⟩), .func (.func 119) #[] #[.pointer (some ⟨q1, 0, none⟩), .pointer (some ⟨q4, 0, none⟩), .pointer (some ⟨q7, 0, none⟩)]] (by kernel_rfl) (operate_any (D2 := (onD (spendD D) D2 nm er).1) (put := (onD (spendD D) D2 nm er).2.1) (er := (onD (spendD D) D2 nm er).2.2) ⟨fl, nx, v, Lr, hfl, hK, hR, HA.back [(q7, 129, #[.func (.func F) #[] cap]), (q4, 9, #[.string nm]), (q1, 23, #[.pointer (some ⟨d.q, 0, none⟩)])] h9⟩ enter119 hb.lf (onD_sz (Nat.le_trans hb.sz hN) hs2) (fun w h => on_any h hF (hdeed q1 q4 q7))) ?_
 rintro _ w10 ⟨rfl, hD2⟩
 refine ⟨_, rfl, ?_⟩
 refine zwv (iN .i64 ((OnD D D2 nm er).2)) ?_
 refine wl_nil ?_
 refine then_at (F := ⟨(pt d.q :: .string nm :: .func (.func F) #[] cap :: pt q1 :: pt q4 :: pt q7 :: iN .i64 ((OnD D D2 nm er).2) :: pt d.q :: .func (.func 119) #[] #[pt q1, pt q4, pt q7] :: iN .i64 ((OnD D D2 nm er).2) :: List.replicate 0 un).toArray, []⟩) (by kernel_rfl) ?_
 refine wp_ret ?_
 repeat first | refine then_ret ?_ | refine block_ret ?_
 exact bodyPost_ret (v := iN .i64 (OnD D D2 nm er).2) (by kernel_rfl) rfl ⟨rfl, DH.drop (A := [(q7, 129, #[.func (.func F) #[] cap]), (q4, 9, #[.string nm]), (q1, 23, #[.pointer (some ⟨d.q, 0, none⟩)])]) hD2⟩
end Go.Proofs.YtckmlaempffpjaaGreat

namespace Go.Proofs.YtckmlaempffpjaaGreat
open Go.RowKit

def keepF (fs : List FA) (nm : ByteArray) : List FA := fs.filter fun x => decide (x.nm = nm)
def syncF (D : DS) (nm : ByteArray) : DS := { D with fs := updF D.fs nm (fun x => { x with sy := x.da.length }) }
def remF (D : DS) (nm : ByteArray) : DS := { D with fs := delF D.fs nm, free := D.free + used (keepF D.fs nm) }
def renF (D : DS) (a b : ByteArray) : DS := { D with fs := delF (delF D.fs b) a ++ (keepF (delF D.fs b) a).map (fun x => { x with nm := b }), free := D.free + used (keepF D.fs b) }
theorem used_split (fs : List FA) (s : ByteArray) : used (delF fs s) + used (keepF fs s) = used fs := by
 induction fs with
 | nil => rfl
 | cons x l ih =>
  by_cases h : x.nm = s
  ·have e1 : delF (x :: l) s = delF l s := by simp [delF, h]
   have e2 : keepF (x :: l) s = x :: keepF l s := by simp [keepF, h]
   rw [e1, e2]
   simp only [used, List.map_cons, List.sum_cons] at ih ⊢
   omega
  ·have e1 : delF (x :: l) s = x :: delF l s := by simp [delF, h]
   have e2 : keepF (x :: l) s = keepF l s := by simp [keepF, h]
   rw [e1, e2]
   simp only [used, List.map_cons, List.sum_cons] at ih ⊢
   omega
def dlL (fl : List Fl) (s : ByteArray) : List Fl := fl.filter fun f => decide (f.nm ≠ s)
theorem dlL_ab (fl : List Fl) (s : ByteArray) : (dlL fl s).map ab = delF (fl.map ab) s := by
 unfold dlL delF
 rw [List.filter_map]
 rfl
theorem FK.dl {fl : List Fl} {nx : Nat} (h : FK fl nx) (s : ByteArray) : FK (dlL fl s) nx := by
 have sub : (dlL fl s).Sublist fl := List.filter_sublist
 exact ⟨fun x hx => h.row x (sub.subset hx), fun x hx => h.syn x (sub.subset hx), (sub.map _).nodup h.nms, fun x hx => h.old x (sub.subset hx), (sub.map _).nodup h.bns⟩
theorem dl_no {fl : List Fl} {s : ByteArray} (h : ∀ f ∈ fl, f.nm ≠ s) : dlL fl s = fl := List.filter_eq_self.2 fun f hf => decide_eq_true (h f hf)
theorem dl_yes {A B : List Fl} {f : Fl} {nx : Nat} (h : FK (A ++ f :: B) nx) : dlL (A ++ f :: B) f.nm = A ++ B := by
 have e : dlL (A ++ f :: B) f.nm = dlL A f.nm ++ dlL B f.nm := by simp [dlL]
 rw [e, dl_no h.apartA, dl_no h.apartB]
theorem keep_no {fl : List Fl} {s : ByteArray} (h : ∀ f ∈ fl, f.nm ≠ s) : keepF (fl.map ab) s = [] := by
 unfold keepF
 refine List.filter_eq_nil_iff.2 fun x hx => ?_
 obtain ⟨f, hf, rfl⟩ := List.mem_map.1 hx
 simp only [decide_eq_true_eq]
 exact h f hf
theorem keep_yes {A B : List Fl} {f : Fl} {nx : Nat} (h : FK (A ++ f :: B) nx) : keepF ((A ++ f :: B).map ab) f.nm = [ab f] := by
 have e : keepF ((A ++ f :: B).map ab) f.nm = keepF (A.map ab) f.nm ++ (ab f :: keepF (B.map ab) f.nm) := by simp [keepF, ab]
 rw [e, keep_no h.apartA, keep_no h.apartB]
 rfl
theorem drop_any {w0 : World} {M : ML} {q r fr lf nx : Nat} {dn : Bool} {v : Value} {Lr L : BL} {w : World} {fl : List Fl} {s : ByteArray} (hK : FK fl nx) (H0 : HA ⟨w0, (r, .mp (eF fl) nx) :: M⟩ ((q, 78, dcell r fr lf dn v) :: (Lr ++ (FB fl ++ L))) w) (hfr : fr + used (fl.map ab) ≤ 9223372036854775807) :
  Calls Tryz.prog 101 #[pt q, .string s] w fun e w' => e = .returned (.tuple #[]) ∧ HA ⟨w0, (r, .mp (eF (dlL fl s)) nx) :: M⟩ ((q, 78, dcell r (fr + used (keepF (fl.map ab) s)) lf dn v) :: (Lr ++ (FB (dlL fl s) ++ L))) w' := by
 by_cases h : ∃ f ∈ fl, f.nm = s
 ·obtain ⟨A, f, B, rfl, h1, h2⟩ := fl_split h
  subst h1
  rw [dl_yes hK, keep_yes hK]
  have hu := used_mem (fs := (A ++ f :: B).map ab) (x := ab f) (by simp)
  have := drop_yes hK rfl H0 (by have h3 : (ab f).da.length = f.da.length := rfl; omega)
  exact this
 ·have hn : ∀ f ∈ fl, f.nm ≠ s := fun f hf e => h ⟨f, hf, e⟩
  rw [dl_no hn, keep_no hn]
  exact drop_no hK hn H0
set_option linter.unusedVariables false in
set_option maxRecDepth 100000 in
set_option maxHeartbeats 2000000 in
theorem sync_deed {w0 : World} {M : ML} {d : Dk} {D : DS} {X : BL} {A B : List Fl} {f : Fl} {nm : ByteArray} {nx : Nat} {v : Value} {Lr : BL} {w : World} (hfl : (A ++ f :: B).map ab = D.fs) (hf : f.nm = nm) (hK : FK (A ++ f :: B) nx) (hR : Row 3 1 v D.sizes.length (D.sizes.map (iN .i64 ·)) Lr) (H0 : HA ⟨w0, (d.r, .mp (eF (A ++ f :: B)) nx) :: M⟩ ((d.q, 78, dcell d.r D.free D.left D.down v) :: (Lr ++ (FB (A ++ f :: B) ++ X))) w) :
  Calls Tryz.prog 76 #[pt f.p] w fun e w' => e = .returned (iN .i64 0) ∧ DH w0 M d (syncF D nm) X w' := by
 obtain ⟨pf, cf, hv⟩ := (hK.row f (by simp)).form
 have hrow := hK.row f (by simp)
 rw [hv] at hrow
 have H0 := H0.file
 rw [hv] at H0
 go_enter Tryz.func76, Tryz.ntmps76
 refine wp_seq ?_
 refine wl_region ?_
 refine zwv (iN .i64 0) ?_
 refine wl_nil ?_
 refine then_at (F := ⟨(pt f.p :: un :: iN .i64 0 :: List.replicate 8 un).toArray, []⟩) (by kernel_rfl) ?_
 refine wp_seq ?_
 refine wl_region ?_
 refine zwv (.pointer (some ⟨f.p, 0, none⟩)) ?_
 refine zwv (.pointer (some ⟨f.p, 0, none⟩)) ?_
 refine zwv (.pointer (some ⟨f.p, 0, none⟩)) ?_
 refine zwv (.pointer (some ⟨f.p, 0, none⟩)) ?_
 refine zwx (.slice pf f.da.length cf) (run_load1 (fun w => Tryz.isAgg62 w) (by kernel_rfl) (((H0.get 1 rfl).cell 0).trans rfl)) ?_
 refine zwv (iN .i64 f.da.length) ?_
 refine zwv (.pointer (some ⟨f.p, 0, none⟩)) ?_
 refine zwv (.pointer (some ⟨f.p, 1, none⟩)) ?_
 refine wl_putv (v := iN .i64 f.da.length) H0 1 rfl 1 (by show 1 < 2; decide) (by kernel_rfl) (fun w => Tryz.sizeOf3 w) (by kernel_rfl) (by kernel_rfl) (by kernel_rfl) ?_
 intro w1 (h2 : HA ⟨w0, (d.r, .mp (eF (A ++ f :: B)) nx) :: M⟩ ((d.q, 78, dcell d.r D.free D.left D.down v) :: (f.p, 109, fcell (.slice pf f.da.length cf) f.da.length) :: (f.Lr ++ (Lr ++ (FB (A ++ B) ++ X)))) w1)
 refine wl_nil ?_
 refine then_at (F := ⟨(pt f.p :: un :: iN .i64 0 :: pt f.p :: pt f.p :: pt f.p :: pt f.p :: .slice pf f.da.length cf :: iN .i64 f.da.length :: pt f.p :: .pointer (some ⟨f.p, 1, none⟩) :: List.replicate 0 un).toArray, []⟩) (by kernel_rfl) ?_
 refine wp_seq ?_
 refine wl_region ?_
 refine zwv (iN .i64 0) ?_
 refine wl_nil ?_
 refine then_at (F := ⟨(pt f.p :: un :: iN .i64 0 :: pt f.p :: pt f.p :: pt f.p :: pt f.p :: .slice pf f.da.length cf :: iN .i64 f.da.length :: pt f.p :: .pointer (some ⟨f.p, 1, none⟩) :: List.replicate 0 un).toArray, []⟩) (by kernel_rfl) ?_
 refine wp_ret ?_
 repeat first | refine then_ret ?_ | refine block_ret ?_
 have hup := upd_at hK ⟨f.nm, f.p, f.da, f.da.length, .slice pf f.da.length cf, f.Lr, f.bn⟩ (fun x => { x with sy := x.da.length }) rfl
 rw [hfl] at hup
 subst hf
 exact bodyPost_ret (v := iN .i64 0) (by kernel_rfl) rfl ⟨rfl, A ++ ⟨f.nm, f.p, f.da, f.da.length, .slice pf f.da.length cf, f.Lr, f.bn⟩ :: B, nx, v, Lr, hup, hK.turn rfl rfl hrow (Nat.le_refl _), hR, HA.unfile (f := ⟨f.nm, f.p, f.da, f.da.length, .slice pf f.da.length cf, f.Lr, f.bn⟩) (by rw [eF_same (g := ⟨f.nm, f.p, f.da, f.da.length, .slice pf f.da.length cf, f.Lr, f.bn⟩) (f := f) rfl rfl rfl]; exact h2)⟩
def SyncD (D : DS) (nm : ByteArray) : DS × Nat := OnD D (syncF (spendD D) nm) nm 0
def RemoveD (D : DS) (nm : ByteArray) : DS × Nat := OnD D (remF (spendD D) nm) nm 0
def renT (D : DS) (a b : ByteArray) : DS × Nat := if isNm b = false then (D, 2) else if a = b then (D, 0) else (renF D a b, 0)
def RenameD (D : DS) (a b : ByteArray) : DS × Nat := OnD D (renT (spendD D) a b).1 a (renT (spendD D) a b).2
set_option linter.unusedVariables false in
set_option maxRecDepth 100000 in
set_option maxHeartbeats 2000000 in
theorem Sync_any {w0 : World} {M : ML} {d : Dk} {D : DS} {L : BL} {w : World} (hD : DH w0 M d D L w) (nm : ByteArray) {U N : Nat} (hb : DB D U N) (hN : N ≤ 1000000000) :
  Calls Tryz.prog 32 #[pt d.q, .string nm] w fun e w' => e = .returned (iN .i64 (SyncD D nm).2) ∧ DH w0 M d (SyncD D nm).1 L w' := by
 obtain ⟨fl, nx, v, Lr, hfl, hK, hR, H0⟩ := hD
 go_enter Tryz.func32, Tryz.ntmps32
 refine wp_seq ?_
 refine wl_region ?_
 refine zwv (iN .i64 0) ?_
 refine wl_nil ?_
 refine then_at (F := ⟨(pt d.q :: .string nm :: un :: un :: iN .i64 0 :: List.replicate 3 un).toArray, []⟩) (by kernel_rfl) ?_
 refine wp_seq ?_
 refine wl_region ?_
 refine zwv (.pointer (some ⟨d.q, 0, none⟩)) ?_
 refine zwv (.string nm) ?_
 refine wl_callx (by kernel_rfl) enter75 #[.pointer (some ⟨d.q, 0, none⟩), .string nm, .func (.func 76) #[] #[]] (by kernel_rfl) (operateOn_any (D2 := syncF (spendD D) nm) (er := 0) ⟨fl, nx, v, Lr, hfl, hK, hR, H0⟩ enter76 hb hN (Nat.le_trans hb.sz hN) (fun _ _ _ w A B f nx v Lr h1 h2 h3 h4 h5 => sync_deed h1 h2 h3 h4 h5)) ?_
 rintro _ w1 ⟨rfl, hD2⟩
 refine ⟨_, rfl, ?_⟩
 refine zwv (iN .i64 ((SyncD D nm).2)) ?_
 refine wl_nil ?_
 refine then_at (F := ⟨(pt d.q :: .string nm :: un :: un :: iN .i64 ((SyncD D nm).2) :: pt d.q :: .string nm :: iN .i64 ((SyncD D nm).2) :: List.replicate 0 un).toArray, []⟩) (by kernel_rfl) ?_
 refine wp_ret ?_
 repeat first | refine then_ret ?_ | refine block_ret ?_
 exact bodyPost_ret (v := iN .i64 (SyncD D nm).2) (by kernel_rfl) rfl ⟨rfl, hD2⟩
set_option linter.unusedVariables false in
set_option maxRecDepth 100000 in
set_option maxHeartbeats 2000000 in
theorem rem_deed {w0 : World} {M : ML} {d : Dk} {D : DS} {X : BL} {A B : List Fl} {f : Fl} {nm : ByteArray} {nx : Nat} {v : Value} {Lr : BL} {w : World} (hfl : (A ++ f :: B).map ab = D.fs) (hf : f.nm = nm) (hK : FK (A ++ f :: B) nx) (hR : Row 3 1 v D.sizes.length (D.sizes.map (iN .i64 ·)) Lr) (H0 : HA ⟨w0, (d.r, .mp (eF (A ++ f :: B)) nx) :: M⟩ ((d.q, 78, dcell d.r D.free D.left D.down v) :: (Lr ++ (FB (A ++ f :: B) ++ X))) w) {b2 b3 : Nat} (hb2 : (b2, 23, #[pt d.q]) ∈ X) (hb3 : (b3, 9, #[.string nm]) ∈ X) (hrm : D.free + used D.fs ≤ 9223372036854775807) :
  Calls Tryz.prog 100 #[pt f.p, pt b2, pt b3] w fun e w' => e = .returned (iN .i64 0) ∧ DH w0 M d (remF D nm) X w' := by
 go_enter Tryz.func100, Tryz.ntmps100
 refine wp_seq ?_
 refine wl_region ?_
 refine zwv (iN .i64 0) ?_
 refine wl_nil ?_
 refine then_at (F := ⟨(pt f.p :: pt b2 :: pt b3 :: un :: iN .i64 0 :: List.replicate 3 un).toArray, []⟩) (by kernel_rfl) ?_
 refine wp_seq ?_
 refine wl_region ?_
 refine zwx (.pointer (some ⟨d.q, 0, none⟩)) (run_load1 (fun w => Tryz.isAgg23 w) (by kernel_rfl) (((H0.blk (b2, 23, #[pt d.q]) (by simp [hb2])).cell 0).trans rfl)) ?_
 refine zwx (.string nm) (run_load1 (fun w => Tryz.isAgg9 w) (by kernel_rfl) (((H0.blk (b3, 9, #[.string nm]) (by simp [hb3])).cell 0).trans rfl)) ?_
 refine wl_callx (by kernel_rfl) enter101 #[.pointer (some ⟨d.q, 0, none⟩), .string nm] (by kernel_rfl) (drop_any hK H0 (by rw [hfl]; exact hrm)) ?_
 rintro _ w1 ⟨rfl, hdr⟩
 refine ⟨_, rfl, ?_⟩
 refine wl_nil ?_
 refine then_at (F := ⟨(pt f.p :: pt b2 :: pt b3 :: un :: iN .i64 0 :: pt d.q :: .string nm :: .tuple #[] :: List.replicate 0 un).toArray, []⟩) (by kernel_rfl) ?_
 refine wp_seq ?_
 refine wl_region ?_
 refine zwv (iN .i64 0) ?_
 refine wl_nil ?_
 refine then_at (F := ⟨(pt f.p :: pt b2 :: pt b3 :: un :: iN .i64 0 :: pt d.q :: .string nm :: .tuple #[] :: List.replicate 0 un).toArray, []⟩) (by kernel_rfl) ?_
 refine wp_ret ?_
 repeat first | refine then_ret ?_ | refine block_ret ?_
 exact bodyPost_ret (v := iN .i64 0) (by kernel_rfl) rfl ⟨rfl, _, nx, v, Lr, by rw [dlL_ab, hfl]; rfl, hK.dl nm, hR, by rw [hfl] at hdr; exact hdr⟩
set_option linter.unusedVariables false in
set_option maxRecDepth 100000 in
set_option maxHeartbeats 2000000 in
theorem Remove_any {w0 : World} {M : ML} {d : Dk} {D : DS} {L : BL} {w : World} (hD : DH w0 M d D L w) (nm : ByteArray) {U N : Nat} (hb : DB D U N) (hN : N ≤ 1000000000) :
  Calls Tryz.prog 49 #[pt d.q, .string nm] w fun e w' => e = .returned (iN .i64 (RemoveD D nm).2) ∧ DH w0 M d (RemoveD D nm).1 L w' := by
 obtain ⟨fl, nx, v, Lr, hfl, hK, hR, H0⟩ := hD
 go_enter Tryz.func49, Tryz.ntmps49
 refine wp_seq ?_
 refine wl_region ?_
 refine wl_make (c := #[.pointer (some ⟨d.q, 0, none⟩)]) H0 23 (by kernel_rfl) (by kernel_rfl) ?_
 intro q1 w2 (h3 : HA ⟨w0, (d.r, .mp (eF fl) nx) :: M⟩ ((q1, 23, #[.pointer (some ⟨d.q, 0, none⟩)]) :: (d.q, 78, dcell d.r D.free D.left D.down v) :: (Lr ++ (FB fl ++ L))) w2)
 refine wl_make (c := #[.string nm]) h3 9 (by kernel_rfl) (by kernel_rfl) ?_
 intro q4 w5 (h6 : HA ⟨w0, (d.r, .mp (eF fl) nx) :: M⟩ ((q4, 9, #[.string nm]) :: (q1, 23, #[.pointer (some ⟨d.q, 0, none⟩)]) :: (d.q, 78, dcell d.r D.free D.left D.down v) :: (Lr ++ (FB fl ++ L))) w5)
 refine zwv (iN .i64 0) ?_
 refine wl_nil ?_
 refine then_at (F := ⟨(pt d.q :: .string nm :: pt q1 :: pt q4 :: iN .i64 0 :: List.replicate 4 un).toArray, []⟩) (by kernel_rfl) ?_
 refine wp_seq ?_
 refine wl_region ?_
 refine zwx (.pointer (some ⟨d.q, 0, none⟩)) (run_load1 (fun w => Tryz.isAgg23 w) (by kernel_rfl) (((h6.get 1 rfl).cell 0).trans rfl)) ?_
 refine zwx (.string nm) (run_load1 (fun w => Tryz.isAgg9 w) (by kernel_rfl) (((h6.get 0 rfl).cell 0).trans rfl)) ?_
 refine zwv (.func (.func 100) #[] #[.pointer (some ⟨q1, 0, none⟩), .pointer (some ⟨q4, 0, none⟩)]) ?_
 refine wl_callx (by kernel_rfl) enter75 #[.pointer (some ⟨d.q, 0, none⟩), .string nm, .func (.func 100) #[] #[.pointer (some ⟨q1, 0, none⟩), .pointer (some ⟨q4, 0, none⟩)]] (by kernel_rfl) (operateOn_any (D2 := remF (spendD D) nm) (er := 0) ⟨fl, nx, v, Lr, hfl, hK, hR, HA.back [(q4, 9, #[.string nm]), (q1, 23, #[.pointer (some ⟨d.q, 0, none⟩)])] h6⟩ enter100 hb hN (Nat.le_trans hb.sz hN) (fun _ _ _ w A B f nx v Lr h1 h2 h3 h4 h5 => rem_deed h1 h2 h3 h4 h5 (b2 := q1) (b3 := q4) (by simp [pt]) (by simp) hb.rm)) ?_
 rintro _ w7 ⟨rfl, hD2⟩
 refine ⟨_, rfl, ?_⟩
 refine zwv (iN .i64 ((RemoveD D nm).2)) ?_
 refine wl_nil ?_
 refine then_at (F := ⟨(pt d.q :: .string nm :: pt q1 :: pt q4 :: iN .i64 ((RemoveD D nm).2) :: pt d.q :: .string nm :: .func (.func 100) #[] #[pt q1, pt q4] :: iN .i64 ((RemoveD D nm).2) :: List.replicate 0 un).toArray, []⟩) (by kernel_rfl) ?_
 refine wp_ret ?_
 repeat first | refine then_ret ?_ | refine block_ret ?_
 exact bodyPost_ret (v := iN .i64 (RemoveD D nm).2) (by kernel_rfl) rfl ⟨rfl, DH.drop (A := [(q4, 9, #[.string nm]), (q1, 23, #[.pointer (some ⟨d.q, 0, none⟩)])]) hD2⟩
set_option linter.unusedVariables false in
set_option maxRecDepth 100000 in
set_option maxHeartbeats 2000000 in
theorem ren_arg {w0 : World} {M : ML} {d : Dk} {D : DS} {X : BL} {A B : List Fl} {f : Fl} {nm : ByteArray} {nx : Nat} {v : Value} {Lr : BL} {w : World} (hfl : (A ++ f :: B).map ab = D.fs) (hf : f.nm = nm) (hK : FK (A ++ f :: B) nx) (hR : Row 3 1 v D.sizes.length (D.sizes.map (iN .i64 ·)) Lr) (H0 : HA ⟨w0, (d.r, .mp (eF (A ++ f :: B)) nx) :: M⟩ ((d.q, 78, dcell d.r D.free D.left D.down v) :: (Lr ++ (FB (A ++ f :: B) ++ X))) w) {b : ByteArray} {b3 b4 b5 : Nat} (hb3 : (b3, 23, #[pt d.q]) ∈ X) (hb4 : (b4, 9, #[.string nm]) ∈ X) (hb5 : (b5, 9, #[.string b]) ∈ X) (hnm : isNm b = false) :
  Calls Tryz.prog 130 #[pt f.p, pt b5, pt b4, pt b3] w fun e w' => e = .returned (iN .i64 (renT D nm b).2) ∧ DH w0 M d (renT D nm b).1 X w' := by
 go_enter Tryz.func130, Tryz.ntmps130
 refine wp_seq ?_
 refine wl_region ?_
 refine zwv (iN .i64 0) ?_
 refine wl_nil ?_
 refine then_at (F := ⟨(pt f.p :: pt b5 :: pt b4 :: pt b3 :: un :: iN .i64 0 :: List.replicate 23 un).toArray, []⟩) (by kernel_rfl) ?_
 refine wp_seq ?_
 refine wp_block ?_
 refine wp_seq ?_
 refine wl_region ?_
 refine zwx (.string b) (run_load1 (fun w => Tryz.isAgg9 w) (by kernel_rfl) (((H0.blk (b5, 9, #[.string b]) (by simp [hb5])).cell 0).trans rfl)) ?_
 refine wl_call (v := .bool false) H0 (by kernel_rfl) enter64 #[.string b] (by kernel_rfl) (by have := isName_any b w; rw [hnm] at this; exact this) ?_
 intro w1 h2
 refine zwv (.bool true) ?_
 refine zwv (.bool true) ?_
 refine wl_nil ?_
 refine then_at (F := ⟨(pt f.p :: pt b5 :: pt b4 :: pt b3 :: un :: iN .i64 0 :: .bool true :: .string b :: .bool false :: .bool true :: List.replicate 19 un).toArray, []⟩) (by kernel_rfl) ?_
 refine wp_cond_true (by kernel_rfl) ?_
 refine wp_seq ?_
 refine wl_region ?_
 refine zwv (iN .i64 2) ?_
 refine wl_nil ?_
 refine then_at (F := ⟨(pt f.p :: pt b5 :: pt b4 :: pt b3 :: un :: iN .i64 2 :: .bool true :: .string b :: .bool false :: .bool true :: List.replicate 19 un).toArray, []⟩) (by kernel_rfl) ?_
 refine wp_ret ?_
 repeat first | refine then_ret ?_ | refine block_ret ?_
 exact bodyPost_ret (v := iN .i64 2) (by kernel_rfl) rfl ⟨by rw [renT, if_pos hnm], by rw [renT, if_pos hnm]; exact ⟨_, nx, v, Lr, hfl, hK, hR, h2⟩⟩
set_option linter.unusedVariables false in
set_option maxRecDepth 100000 in
set_option maxHeartbeats 2000000 in
theorem ren_same {w0 : World} {M : ML} {d : Dk} {D : DS} {X : BL} {A B : List Fl} {f : Fl} {nm : ByteArray} {nx : Nat} {v : Value} {Lr : BL} {w : World} (hfl : (A ++ f :: B).map ab = D.fs) (hf : f.nm = nm) (hK : FK (A ++ f :: B) nx) (hR : Row 3 1 v D.sizes.length (D.sizes.map (iN .i64 ·)) Lr) (H0 : HA ⟨w0, (d.r, .mp (eF (A ++ f :: B)) nx) :: M⟩ ((d.q, 78, dcell d.r D.free D.left D.down v) :: (Lr ++ (FB (A ++ f :: B) ++ X))) w) {b : ByteArray} {b3 b4 b5 : Nat} (hb3 : (b3, 23, #[pt d.q]) ∈ X) (hb4 : (b4, 9, #[.string nm]) ∈ X) (hb5 : (b5, 9, #[.string b]) ∈ X) (hnm : isNm b = true) (hs : nm = b) :
  Calls Tryz.prog 130 #[pt f.p, pt b5, pt b4, pt b3] w fun e w' => e = .returned (iN .i64 (renT D nm b).2) ∧ DH w0 M d (renT D nm b).1 X w' := by
 go_enter Tryz.func130, Tryz.ntmps130
 refine wp_seq ?_
 refine wl_region ?_
 refine zwv (iN .i64 0) ?_
 refine wl_nil ?_
 refine then_at (F := ⟨(pt f.p :: pt b5 :: pt b4 :: pt b3 :: un :: iN .i64 0 :: List.replicate 23 un).toArray, []⟩) (by kernel_rfl) ?_
 refine wp_seq ?_
 refine wp_block ?_
 refine wp_seq ?_
 refine wl_region ?_
 refine zwx (.string b) (run_load1 (fun w => Tryz.isAgg9 w) (by kernel_rfl) (((H0.blk (b5, 9, #[.string b]) (by simp [hb5])).cell 0).trans rfl)) ?_
 refine wl_call (v := .bool true) H0 (by kernel_rfl) enter64 #[.string b] (by kernel_rfl) (by have := isName_any b w; rw [hnm] at this; exact this) ?_
 intro w1 h2
 refine zwv (.bool false) ?_
 refine zwv (.bool false) ?_
 refine wl_nil ?_
 refine then_at (F := ⟨(pt f.p :: pt b5 :: pt b4 :: pt b3 :: un :: iN .i64 0 :: .bool false :: .string b :: .bool true :: .bool false :: List.replicate 19 un).toArray, []⟩) (by kernel_rfl) ?_
 refine wp_cond_false (by kernel_rfl) ?_
 refine wp_seq ?_
 refine wl_region ?_
 refine zwx (.string nm) (run_load1 (fun w => Tryz.isAgg9 w) (by kernel_rfl) (((h2.blk (b4, 9, #[.string nm]) (by simp [hb4])).cell 0).trans rfl)) ?_
 refine zwx (.string b) (run_load1 (fun w => Tryz.isAgg9 w) (by kernel_rfl) (((h2.blk (b5, 9, #[.string b]) (by simp [hb5])).cell 0).trans rfl)) ?_
 refine zwx (.bool true) (run_eqs (s := nm) (t := b) (by kernel_rfl) (by kernel_rfl) true (decide_eq_true hs)) ?_
 refine zwv (.bool true) ?_
 refine wl_nil ?_
 refine then_at (F := ⟨(pt f.p :: pt b5 :: pt b4 :: pt b3 :: un :: iN .i64 0 :: .bool false :: .string b :: .bool true :: .bool false :: .bool true :: .string nm :: .string b :: .bool true :: List.replicate 15 un).toArray, []⟩) (by kernel_rfl) ?_
 refine wp_cond_true (by kernel_rfl) ?_
 refine wp_seq ?_
 refine wl_region ?_
 refine zwv (iN .i64 0) ?_
 refine wl_nil ?_
 refine then_at (F := ⟨(pt f.p :: pt b5 :: pt b4 :: pt b3 :: un :: iN .i64 0 :: .bool false :: .string b :: .bool true :: .bool false :: .bool true :: .string nm :: .string b :: .bool true :: List.replicate 15 un).toArray, []⟩) (by kernel_rfl) ?_
 refine wp_ret ?_
 repeat first | refine then_ret ?_ | refine block_ret ?_
 exact bodyPost_ret (v := iN .i64 0) (by kernel_rfl) rfl ⟨by rw [renT, if_neg (by rw [hnm]; decide), if_pos hs], by rw [renT, if_neg (by rw [hnm]; decide), if_pos hs]; exact ⟨_, nx, v, Lr, hfl, hK, hR, h2⟩⟩
theorem dl_mid {A B : List Fl} {f : Fl} {s : ByteArray} (h : f.nm ≠ s) : dlL (A ++ f :: B) s = dlL A s ++ f :: dlL B s := by simp [dlL, h]
theorem dlL_ne {fl : List Fl} {s : ByteArray} {f : Fl} (h : f ∈ dlL fl s) : f.nm ≠ s := of_decide_eq_true (List.mem_filter.1 h).2
set_option linter.unusedVariables false in
set_option maxRecDepth 100000 in
set_option maxHeartbeats 2000000 in
theorem ren_go {w0 : World} {M : ML} {d : Dk} {D : DS} {X : BL} {A B : List Fl} {f : Fl} {nm : ByteArray} {nx : Nat} {v : Value} {Lr : BL} {w : World} (hfl : (A ++ f :: B).map ab = D.fs) (hf : f.nm = nm) (hK : FK (A ++ f :: B) nx) (hR : Row 3 1 v D.sizes.length (D.sizes.map (iN .i64 ·)) Lr) (H0 : HA ⟨w0, (d.r, .mp (eF (A ++ f :: B)) nx) :: M⟩ ((d.q, 78, dcell d.r D.free D.left D.down v) :: (Lr ++ (FB (A ++ f :: B) ++ X))) w) {b : ByteArray} {b3 b4 b5 : Nat} (hb3 : (b3, 23, #[pt d.q]) ∈ X) (hb4 : (b4, 9, #[.string nm]) ∈ X) (hb5 : (b5, 9, #[.string b]) ∈ X) (hnm : isNm b = true) (hs : ¬ nm = b) (hrm : D.free + used D.fs ≤ 9223372036854775807) :
  Calls Tryz.prog 130 #[pt f.p, pt b5, pt b4, pt b3] w fun e w' => e = .returned (iN .i64 (renT D nm b).2) ∧ DH w0 M d (renT D nm b).1 X w' := by
 have hnl : b.size ≤ 1000000000 := by simp [isNm] at hnm; omega
 have hK2 := hK.dl b
 rw [dl_mid (hf ▸ hs : f.nm ≠ b)] at hK2
 have hnb : ∀ g ∈ dlL A b ++ dlL B b, g.nm ≠ b := fun g hg => by
  rcases List.mem_append.1 hg with hg | hg
  ·exact dlL_ne hg
  ·exact dlL_ne hg
 have hK3 := hK2.out.more (f := ⟨b, f.p, f.da, f.sy, f.v, f.Lr, nx⟩) hnb rfl (hK.row f (by simp)) (hK.syn f (by simp))
 go_enter Tryz.func130, Tryz.ntmps130
 refine wp_seq ?_
 refine wl_region ?_
 refine zwv (iN .i64 0) ?_
 refine wl_nil ?_
 refine then_at (F := ⟨(pt f.p :: pt b5 :: pt b4 :: pt b3 :: un :: iN .i64 0 :: List.replicate 23 un).toArray, []⟩) (by kernel_rfl) ?_
 refine wp_seq ?_
 refine wp_block ?_
 refine wp_seq ?_
 refine wl_region ?_
 refine zwx (.string b) (run_load1 (fun w => Tryz.isAgg9 w) (by kernel_rfl) (((H0.blk (b5, 9, #[.string b]) (by simp [hb5])).cell 0).trans rfl)) ?_
 refine wl_call (v := .bool true) H0 (by kernel_rfl) enter64 #[.string b] (by kernel_rfl) (by have := isName_any b w; rw [hnm] at this; exact this) ?_
 intro w1 h2
 refine zwv (.bool false) ?_
 refine zwv (.bool false) ?_
 refine wl_nil ?_
 refine then_at (F := ⟨(pt f.p :: pt b5 :: pt b4 :: pt b3 :: un :: iN .i64 0 :: .bool false :: .string b :: .bool true :: .bool false :: List.replicate 19 un).toArray, []⟩) (by kernel_rfl) ?_
 refine wp_cond_false (by kernel_rfl) ?_
 refine wp_seq ?_
 refine wl_region ?_
 refine zwx (.string nm) (run_load1 (fun w => Tryz.isAgg9 w) (by kernel_rfl) (((h2.blk (b4, 9, #[.string nm]) (by simp [hb4])).cell 0).trans rfl)) ?_
 refine zwx (.string b) (run_load1 (fun w => Tryz.isAgg9 w) (by kernel_rfl) (((h2.blk (b5, 9, #[.string b]) (by simp [hb5])).cell 0).trans rfl)) ?_
 refine zwx (.bool false) (run_eqs (s := nm) (t := b) (by kernel_rfl) (by kernel_rfl) false (decide_eq_false hs)) ?_
 refine zwv (.bool false) ?_
 refine wl_nil ?_
 refine then_at (F := ⟨(pt f.p :: pt b5 :: pt b4 :: pt b3 :: un :: iN .i64 0 :: .bool false :: .string b :: .bool true :: .bool false :: .bool false :: .string nm :: .string b :: .bool false :: List.replicate 15 un).toArray, []⟩) (by kernel_rfl) ?_
 refine wp_cond_false (by kernel_rfl) ?_
 refine wp_skip ?_
 refine block_normal ?_
 refine then_at (F := ⟨(pt f.p :: pt b5 :: pt b4 :: pt b3 :: un :: iN .i64 0 :: .bool false :: .string b :: .bool true :: .bool false :: .bool false :: .string nm :: .string b :: .bool false :: List.replicate 15 un).toArray, []⟩) (by kernel_rfl) ?_
 refine wp_seq ?_
 refine wl_region ?_
 refine zwx (.pointer (some ⟨d.q, 0, none⟩)) (run_load1 (fun w => Tryz.isAgg23 w) (by kernel_rfl) (((h2.blk (b3, 23, #[pt d.q]) (by simp [hb3])).cell 0).trans rfl)) ?_
 refine zwx (.string b) (run_load1 (fun w => Tryz.isAgg9 w) (by kernel_rfl) (((h2.blk (b5, 9, #[.string b]) (by simp [hb5])).cell 0).trans rfl)) ?_
 refine wl_callx (by kernel_rfl) enter101 #[.pointer (some ⟨d.q, 0, none⟩), .string b] (by kernel_rfl) (drop_any (s := b) hK h2 (by rw [hfl]; exact hrm)) ?_
 rintro _ w3 ⟨rfl, hdr⟩
 refine ⟨_, rfl, ?_⟩
 rw [dl_mid (hf ▸ hs : f.nm ≠ b)] at hdr
 refine wl_nil ?_
 refine then_at (F := ⟨(pt f.p :: pt b5 :: pt b4 :: pt b3 :: un :: iN .i64 0 :: .bool false :: .string b :: .bool true :: .bool false :: .bool false :: .string nm :: .string b :: .bool false :: pt d.q :: .string b :: .tuple #[] :: List.replicate 12 un).toArray, []⟩) (by kernel_rfl) ?_
 refine wp_seq ?_
 refine wp_region_wx (HA ⟨w0, (d.r, .mp (eF (dlL A b ++ f :: dlL B b)) nx) :: M⟩ ((d.q, 78, dcell d.r (D.free + used (keepF ((A ++ f :: B).map ab) b)) D.left D.down v) :: (Lr ++ (FB (dlL A b ++ f :: dlL B b) ++ X)))) (fun AQ w' => AQ = ⟨(pt f.p :: pt b5 :: pt b4 :: pt b3 :: un :: iN .i64 0 :: .bool false :: .string b :: .bool true :: .bool false :: .bool false :: .string nm :: .string b :: .bool false :: pt d.q :: .string b :: .tuple #[] :: pt d.q :: pt d.q :: pt d.q :: .map (some d.r) :: .string nm :: List.replicate 7 un).toArray, []⟩ ∧ HA ⟨w0, (d.r, .mp (eF (dlL A b ++ dlL B b)) nx) :: M⟩ ((d.q, 78, dcell d.r (D.free + used (keepF ((A ++ f :: B).map ab) b)) D.left D.down v) :: (Lr ++ (FB (dlL A b ++ f :: dlL B b) ++ X))) w') 6 (by kernel_rfl) (by kernel_rfl) (by kernel_rfl) (by kernel_rfl) (by kernel_rfl) (hdr.drew) ?_ ?_
 ·have h4 := hdr.drew
  refine wx_val (i := 0) (.pointer (some ⟨d.q, 0, none⟩)) rfl rfl (by kernel_rfl) (by kernel_rfl) (fun w' h' => run_load1 (fun w => Tryz.isAgg23 w) (by kernel_rfl) (((h'.blk (b3, 23, #[pt d.q]) (by simp [hb3])).cell 0).trans rfl)) ?_
  refine wx_pure (i := 1) (.pointer (some ⟨d.q, 0, none⟩)) rfl rfl (by kernel_rfl) (by kernel_rfl) (fun _ => (by kernel_rfl)) ?_
  refine wx_pure (i := 2) (.pointer (some ⟨d.q, 0, none⟩)) rfl rfl (by kernel_rfl) (by kernel_rfl) (fun _ => (by kernel_rfl)) ?_
  refine wx_val (i := 3) (.map (some d.r)) rfl rfl (by kernel_rfl) (by kernel_rfl) (fun w' h' => run_load1 (fun w => Tryz.isAgg76 w) (by kernel_rfl) (((h'.get 0 rfl).cell 0).trans rfl)) ?_
  refine wx_val (i := 4) (.string nm) rfl rfl (by kernel_rfl) (by kernel_rfl) (fun w' h' => run_load1 (fun w => Tryz.isAgg9 w) (by kernel_rfl) (((h'.blk (b4, 9, #[.string nm]) (by simp [hb4])).cell 0).trans rfl)) ?_
  refine wx_one 5 (by kernel_rfl) ?_
  refine ex_do rfl (by kernel_rfl) (by kernel_rfl) h4 fun w5 h6 => ⟨_, _, run_del (h6.old.maps _ (List.mem_cons_self ..)) hf (hf ▸ hK2.apartA) (by kernel_rfl) (by kernel_rfl), _, h6.setMap 0 rfl, ?_⟩
  have h7 : HA ⟨w0, (d.r, .mp (eF (dlL A b ++ dlL B b)) nx) :: M⟩ ((d.q, 78, dcell d.r (D.free + used (keepF ((A ++ f :: B).map ab) b)) D.left D.down v) :: (Lr ++ (FB (dlL A b ++ f :: dlL B b) ++ X))) _ := h6.setMap 0 rfl
  refine wx_end fun w8 hbx _ => ?_
  have h9 := HA.keep _ _ h7 hbx
  exact ⟨by kernel_rfl, h9⟩
 ·rintro _ w10 ⟨rfl, h11⟩
  refine then_at (F := ⟨(pt f.p :: pt b5 :: pt b4 :: pt b3 :: un :: iN .i64 0 :: .bool false :: .string b :: .bool true :: .bool false :: .bool false :: .string nm :: .string b :: .bool false :: pt d.q :: .string b :: .tuple #[] :: pt d.q :: pt d.q :: pt d.q :: .map (some d.r) :: .string nm :: List.replicate 7 un).toArray, []⟩) (by kernel_rfl) ?_
  refine wp_seq ?_
  refine wp_region_wx (HA ⟨w0, (d.r, .mp (eF (dlL A b ++ dlL B b)) nx) :: M⟩ ((d.q, 78, dcell d.r (D.free + used (keepF ((A ++ f :: B).map ab) b)) D.left D.down v) :: (Lr ++ (FB (dlL A b ++ f :: dlL B b) ++ X)))) (fun AQ w' => AQ = ⟨(pt f.p :: pt b5 :: pt b4 :: pt b3 :: un :: iN .i64 0 :: .bool false :: .string b :: .bool true :: .bool false :: .bool false :: .string nm :: .string b :: .bool false :: pt d.q :: .string b :: .tuple #[] :: pt d.q :: pt d.q :: pt d.q :: .map (some d.r) :: .string nm :: pt d.q :: pt d.q :: pt d.q :: .map (some d.r) :: .string b :: .string b :: pt f.p :: List.replicate 0 un).toArray, []⟩ ∧ HA ⟨w0, (d.r, .mp (eF (dlL A b ++ dlL B b ++ [⟨b, f.p, f.da, f.sy, f.v, f.Lr, nx⟩])) (nx + 1)) :: M⟩ ((d.q, 78, dcell d.r (D.free + used (keepF ((A ++ f :: B).map ab) b)) D.left D.down v) :: (Lr ++ (FB (dlL A b ++ f :: dlL B b) ++ X))) w') 8 (by kernel_rfl) (by kernel_rfl) (by kernel_rfl) (by kernel_rfl) (by kernel_rfl) (h11.drew) ?_ ?_
  ·have h12 := h11.drew
   refine wx_val (i := 0) (.pointer (some ⟨d.q, 0, none⟩)) rfl rfl (by kernel_rfl) (by kernel_rfl) (fun w' h' => run_load1 (fun w => Tryz.isAgg23 w) (by kernel_rfl) (((h'.blk (b3, 23, #[pt d.q]) (by simp [hb3])).cell 0).trans rfl)) ?_
   refine wx_pure (i := 1) (.pointer (some ⟨d.q, 0, none⟩)) rfl rfl (by kernel_rfl) (by kernel_rfl) (fun _ => (by kernel_rfl)) ?_
   refine wx_pure (i := 2) (.pointer (some ⟨d.q, 0, none⟩)) rfl rfl (by kernel_rfl) (by kernel_rfl) (fun _ => (by kernel_rfl)) ?_
   refine wx_val (i := 3) (.map (some d.r)) rfl rfl (by kernel_rfl) (by kernel_rfl) (fun w' h' => run_load1 (fun w => Tryz.isAgg76 w) (by kernel_rfl) (((h'.get 0 rfl).cell 0).trans rfl)) ?_
   refine wx_val (i := 4) (.string b) rfl rfl (by kernel_rfl) (by kernel_rfl) (fun w' h' => run_load1 (fun w => Tryz.isAgg9 w) (by kernel_rfl) (((h'.blk (b5, 9, #[.string b]) (by simp [hb5])).cell 0).trans rfl)) ?_
   refine wx_call (i := 5) (.string b) (fun _ _ h hb => HA.keep _ _ h hb) rfl rfl (by kernel_rfl) (by kernel_rfl) enter61 #[.string b] (by kernel_rfl) (fun w' h' => sclone_any b w' hnl) ?_
   refine wx_pure (i := 6) (.pointer (some ⟨f.p, 0, none⟩)) rfl rfl (by kernel_rfl) (by kernel_rfl) (fun _ => (by kernel_rfl)) ?_
   refine wx_one 7 (by kernel_rfl) ?_
   refine ex_skip rfl (by kernel_rfl) (by kernel_rfl) h12 fun w13 h14 => ⟨_, run_upd (h14.old.maps _ (List.mem_cons_self ..)) hnb (by kernel_rfl) (by kernel_rfl) ⟨b, f.p, f.da, f.sy, f.v, f.Lr, nx⟩ rfl rfl (by kernel_rfl), _, h14.setMap 0 rfl, ?_⟩
   have h15 : HA ⟨w0, (d.r, .mp (eF (dlL A b ++ dlL B b ++ [⟨b, f.p, f.da, f.sy, f.v, f.Lr, nx⟩])) (nx + 1)) :: M⟩ ((d.q, 78, dcell d.r (D.free + used (keepF ((A ++ f :: B).map ab) b)) D.left D.down v) :: (Lr ++ (FB (dlL A b ++ f :: dlL B b) ++ X))) _ := h14.setMap 0 rfl
   refine wx_end fun w16 hbx _ => ?_
   have h17 := HA.keep _ _ h15 hbx
   exact ⟨by kernel_rfl, h17⟩
  ·rintro _ w18 ⟨rfl, h19⟩
   refine then_at (F := ⟨(pt f.p :: pt b5 :: pt b4 :: pt b3 :: un :: iN .i64 0 :: .bool false :: .string b :: .bool true :: .bool false :: .bool false :: .string nm :: .string b :: .bool false :: pt d.q :: .string b :: .tuple #[] :: pt d.q :: pt d.q :: pt d.q :: .map (some d.r) :: .string nm :: pt d.q :: pt d.q :: pt d.q :: .map (some d.r) :: .string b :: .string b :: pt f.p :: List.replicate 0 un).toArray, []⟩) (by kernel_rfl) ?_
   refine wp_seq ?_
   refine wl_region ?_
   refine zwv (iN .i64 0) ?_
   refine wl_nil ?_
   refine then_at (F := ⟨(pt f.p :: pt b5 :: pt b4 :: pt b3 :: un :: iN .i64 0 :: .bool false :: .string b :: .bool true :: .bool false :: .bool false :: .string nm :: .string b :: .bool false :: pt d.q :: .string b :: .tuple #[] :: pt d.q :: pt d.q :: pt d.q :: .map (some d.r) :: .string nm :: pt d.q :: pt d.q :: pt d.q :: .map (some d.r) :: .string b :: .string b :: pt f.p :: List.replicate 0 un).toArray, []⟩) (by kernel_rfl) ?_
   refine wp_ret ?_
   repeat first | refine then_ret ?_ | refine block_ret ?_
   refine bodyPost_ret (v := iN .i64 0) (by kernel_rfl) rfl ?_
   rw [renT, if_neg (by rw [hnm]; decide), if_neg hs]
   refine ⟨rfl, dlL A b ++ dlL B b ++ [⟨b, f.p, f.da, f.sy, f.v, f.Lr, nx⟩], nx + 1, v, Lr, ?_, hK3, hR, ?_⟩
   ·have h1 := del_at hK2
    have h2 := keep_yes hK2
    rw [← dl_mid (hf ▸ hs : f.nm ≠ b), dlL_ab, hfl, hf] at h1 h2
    rw [List.map_append, h1]
    simp only [renF, h2]
    rfl
   ·rw [hfl] at h19
    refine h19.perm (List.Perm.cons _ (List.Perm.append_left Lr (List.Perm.append_right X ?_)))
    rw [FB_app, FB_app, FB_cons, FB_app]
    show (FB (dlL A b) ++ (fb f ++ FB (dlL B b))).Perm ((FB (dlL A b) ++ FB (dlL B b)) ++ (fb f ++ []))
    rw [List.append_nil, List.append_assoc]
    exact List.Perm.append_left _ List.perm_append_comm
theorem ren_deed {w0 : World} {M : ML} {d : Dk} {D : DS} {X : BL} {A B : List Fl} {f : Fl} {nm : ByteArray} {nx : Nat} {v : Value} {Lr : BL} {w : World} (hfl : (A ++ f :: B).map ab = D.fs) (hf : f.nm = nm) (hK : FK (A ++ f :: B) nx) (hR : Row 3 1 v D.sizes.length (D.sizes.map (iN .i64 ·)) Lr) (H0 : HA ⟨w0, (d.r, .mp (eF (A ++ f :: B)) nx) :: M⟩ ((d.q, 78, dcell d.r D.free D.left D.down v) :: (Lr ++ (FB (A ++ f :: B) ++ X))) w) {b : ByteArray} {b3 b4 b5 : Nat} (hb3 : (b3, 23, #[pt d.q]) ∈ X) (hb4 : (b4, 9, #[.string nm]) ∈ X) (hb5 : (b5, 9, #[.string b]) ∈ X) (hrm : D.free + used D.fs ≤ 9223372036854775807) :
  Calls Tryz.prog 130 #[pt f.p, pt b5, pt b4, pt b3] w fun e w' => e = .returned (iN .i64 (renT D nm b).2) ∧ DH w0 M d (renT D nm b).1 X w' := by
 cases hnm : isNm b with
 | false => exact ren_arg hfl hf hK hR H0 hb3 hb4 hb5 hnm
 | true =>
  by_cases hs : nm = b
  ·exact ren_same hfl hf hK hR H0 hb3 hb4 hb5 hnm hs
  ·exact ren_go hfl hf hK hR H0 hb3 hb4 hb5 hnm hs hrm
theorem renT_sz (D : DS) (a b : ByteArray) : (renT D a b).1.sizes = D.sizes := by
 unfold renT
 split
 ·rfl
 ·split <;> rfl
set_option linter.unusedVariables false in
set_option maxRecDepth 100000 in
set_option maxHeartbeats 2000000 in
theorem Rename_any {w0 : World} {M : ML} {d : Dk} {D : DS} {L : BL} {w : World} (hD : DH w0 M d D L w) (nm b : ByteArray) {U N : Nat} (hb : DB D U N) (hN : N ≤ 1000000000) :
  Calls Tryz.prog 95 #[pt d.q, .string nm, .string b] w fun e w' => e = .returned (iN .i64 (RenameD D nm b).2) ∧ DH w0 M d (RenameD D nm b).1 L w' := by
 obtain ⟨fl, nx, v, Lr, hfl, hK, hR, H0⟩ := hD
 go_enter Tryz.func95, Tryz.ntmps95
 refine wp_seq ?_
 refine wl_region ?_
 refine wl_make (c := #[.pointer (some ⟨d.q, 0, none⟩)]) H0 23 (by kernel_rfl) (by kernel_rfl) ?_
 intro q1 w2 (h3 : HA ⟨w0, (d.r, .mp (eF fl) nx) :: M⟩ ((q1, 23, #[.pointer (some ⟨d.q, 0, none⟩)]) :: (d.q, 78, dcell d.r D.free D.left D.down v) :: (Lr ++ (FB fl ++ L))) w2)
 refine wl_make (c := #[.string nm]) h3 9 (by kernel_rfl) (by kernel_rfl) ?_
 intro q4 w5 (h6 : HA ⟨w0, (d.r, .mp (eF fl) nx) :: M⟩ ((q4, 9, #[.string nm]) :: (q1, 23, #[.pointer (some ⟨d.q, 0, none⟩)]) :: (d.q, 78, dcell d.r D.free D.left D.down v) :: (Lr ++ (FB fl ++ L))) w5)
 refine wl_make (c := #[.string b]) h6 9 (by kernel_rfl) (by kernel_rfl) ?_
 intro q7 w8 (h9 : HA ⟨w0, (d.r, .mp (eF fl) nx) :: M⟩ ((q7, 9, #[.string b]) :: (q4, 9, #[.string nm]) :: (q1, 23, #[.pointer (some ⟨d.q, 0, none⟩)]) :: (d.q, 78, dcell d.r D.free D.left D.down v) :: (Lr ++ (FB fl ++ L))) w8)
 refine zwv (iN .i64 0) ?_
 refine wl_nil ?_
 refine then_at (F := ⟨(pt d.q :: .string nm :: .string b :: pt q1 :: pt q4 :: pt q7 :: iN .i64 0 :: List.replicate 4 un).toArray, []⟩) (by kernel_rfl) ?_
 refine wp_seq ?_
 refine wl_region ?_
 refine zwx (.pointer (some ⟨d.q, 0, none⟩)) (run_load1 (fun w => Tryz.isAgg23 w) (by kernel_rfl) (((h9.get 2 rfl).cell 0).trans rfl)) ?_
 refine zwx (.string nm) (run_load1 (fun w => Tryz.isAgg9 w) (by kernel_rfl) (((h9.get 1 rfl).cell 0).trans rfl)) ?_
 refine zwv (.func (.func 130) #[] #[.pointer (some ⟨q7, 0, none⟩), .pointer (some ⟨q4, 0, none⟩), .pointer (some ⟨q1, 0, none⟩)]) ?_
 refine wl_callx (by kernel_rfl) enter75 #[.pointer (some ⟨d.q, 0, none⟩), .string nm, .func (.func 130) #[] #[.pointer (some ⟨q7, 0, none⟩), .pointer (some ⟨q4, 0, none⟩), .pointer (some ⟨q1, 0, none⟩)]] (by kernel_rfl) (operateOn_any (D2 := (renT (spendD D) nm b).1) (er := (renT (spendD D) nm b).2) ⟨fl, nx, v, Lr, hfl, hK, hR, HA.back [(q7, 9, #[.string b]), (q4, 9, #[.string nm]), (q1, 23, #[.pointer (some ⟨d.q, 0, none⟩)])] h9⟩ enter130 hb hN (by rw [renT_sz]; exact Nat.le_trans hb.sz hN) (fun _ _ _ w A B f nx v Lr h1 h2 h3 h4 h5 => ren_deed h1 h2 h3 h4 h5 (b5 := q7) (b4 := q4) (b3 := q1) (by simp [pt]) (by simp) (by simp) hb.rm)) ?_
 rintro _ w10 ⟨rfl, hD2⟩
 refine ⟨_, rfl, ?_⟩
 refine zwv (iN .i64 ((RenameD D nm b).2)) ?_
 refine wl_nil ?_
 refine then_at (F := ⟨(pt d.q :: .string nm :: .string b :: pt q1 :: pt q4 :: pt q7 :: iN .i64 ((RenameD D nm b).2) :: pt d.q :: .string nm :: .func (.func 130) #[] #[pt q7, pt q4, pt q1] :: iN .i64 ((RenameD D nm b).2) :: List.replicate 0 un).toArray, []⟩) (by kernel_rfl) ?_
 refine wp_ret ?_
 repeat first | refine then_ret ?_ | refine block_ret ?_
 exact bodyPost_ret (v := iN .i64 (RenameD D nm b).2) (by kernel_rfl) rfl ⟨rfl, DH.drop (A := [(q7, 9, #[.string b]), (q4, 9, #[.string nm]), (q1, 23, #[.pointer (some ⟨d.q, 0, none⟩)])]) hD2⟩
end Go.Proofs.YtckmlaempffpjaaGreat
