/-
  Read, Synced, Sizes, Free, Down.
-/
import Derived.Test.YtjedhnjjgmbcbaaD8
namespace Go.Proofs.Ytjedhnjjgmbcbaa
open Go.RowKit

def getF (fs : List FA) (nm : ByteArray) : Option FA := fs.find? fun x => decide (x.nm = nm)
theorem get_no {fl : List Fl} {s : ByteArray} (h : ∀ f ∈ fl, f.nm ≠ s) : getF (fl.map ab) s = none := by
  unfold getF
  refine List.find?_eq_none.2 fun x hx => ?_
  obtain ⟨f, hf, rfl⟩ := List.mem_map.1 hx
  simp only [decide_eq_true_eq]
  exact h f hf
theorem get_yes {A B : List Fl} {f : Fl} (h : ∀ g ∈ A, g.nm ≠ f.nm) : getF ((A ++ f :: B).map ab) f.nm = some (ab f) := by
  have := get_no h
  unfold getF at this ⊢
  rw [List.map_append, List.find?_append, this]
  simp [ab]
def readD (D : DS) (nm : ByteArray) : ByteArray × Nat := if D.down = true then ({ data := #[] }, 16) else match getF D.fs nm with | none => ({ data := #[] }, 5) | some x => (⟨x.da.toArray⟩, 0)
def synD (D : DS) (nm : ByteArray) : Nat := if D.down = true then 0 else match getF D.fs nm with | none => 0 | some x => x.sy
def freeD (D : DS) : Nat := if D.down = true then 0 else D.free
set_option linter.unusedVariables false in
set_option maxRecDepth 100000 in
set_option maxHeartbeats 2000000 in
theorem Read_d {w0 : World} {M : ML} {d : Dk} {D : DS} {L : BL} {w : World} (hD : DH w0 M d D L w) (nm : ByteArray) (hd : D.down = true) :
    Calls Try.prog 23 #[pt d.q, .string nm] w fun e w' => e = .returned (.tuple #[.string (readD D nm).1, iN .i64 (readD D nm).2]) ∧ Below w.heap.size w w' := by
  obtain ⟨fl, nx, v, Lr, hfl, hK, hR, HH⟩ := hD
  have hm := HH.old.maps _ (List.mem_cons_self ..)
  have hq := HH.get 0 rfl
  rw [hd] at hq
  have H0 := HA.start w
  go_enter Try.func23, Try.ntmps23
  refine wp_seq ?_
  refine wl_region ?_
  refine wl_val (.string ({ data := #[] })) (by kernel_rfl) (by kernel_rfl) ?_
  refine wl_val (iN .i64 0) (by kernel_rfl) (by kernel_rfl) ?_
  refine wl_nil ?_
  refine then_at (F := ⟨(pt d.q :: .string nm :: un :: un :: .string ({ data := #[] }) :: iN .i64 0 :: List.replicate 20 un).toArray, []⟩) (by kernel_rfl) ?_
  refine wp_seq ?_
  refine wp_seq ?_
  refine wl_region ?_
  refine wl_val (.pointer (some ⟨d.q, 0, none⟩)) (by kernel_rfl) (by kernel_rfl) ?_
  refine wl_call (v := iN .i64 16) H0 (by kernel_rfl) enter49 #[.pointer (some ⟨d.q, 0, none⟩)] (by kernel_rfl) (refused_true (hq.keep H0.old.old)) ?_
  intro w1 h2
  refine wl_val (iN .i64 16) (by kernel_rfl) (by kernel_rfl) ?_
  refine wl_nil ?_
  refine then_at (F := ⟨(pt d.q :: .string nm :: un :: un :: .string ({ data := #[] }) :: iN .i64 0 :: iN .i64 16 :: un :: pt d.q :: iN .i64 16 :: List.replicate 16 un).toArray, []⟩) (by kernel_rfl) ?_
  refine wp_seq ?_
  refine wl_region ?_
  refine wl_val (iN .i64 16) (by kernel_rfl) (by kernel_rfl) ?_
  refine wl_val (.bool true) (by kernel_rfl) (run_nei (k := .i64) (a := 16) (b := 0) (by kernel_rfl) (by kernel_rfl) true (by decide)) ?_
  refine wl_nil ?_
  refine then_at (F := ⟨(pt d.q :: .string nm :: un :: un :: .string ({ data := #[] }) :: iN .i64 0 :: iN .i64 16 :: un :: pt d.q :: iN .i64 16 :: iN .i64 16 :: .bool true :: List.replicate 14 un).toArray, []⟩) (by kernel_rfl) ?_
  refine wp_cond_true (by kernel_rfl) ?_
  refine wp_seq ?_
  refine wl_region ?_
  refine wl_val (iN .i64 16) (by kernel_rfl) (by kernel_rfl) ?_
  refine wl_val (.string ({ data := #[] })) (by kernel_rfl) (by kernel_rfl) ?_
  refine wl_val (iN .i64 16) (by kernel_rfl) (by kernel_rfl) ?_
  refine wl_nil ?_
  refine then_at (F := ⟨(pt d.q :: .string nm :: un :: un :: .string ({ data := #[] }) :: iN .i64 16 :: iN .i64 16 :: un :: pt d.q :: iN .i64 16 :: iN .i64 16 :: .bool true :: iN .i64 16 :: List.replicate 13 un).toArray, []⟩) (by kernel_rfl) ?_
  refine wp_ret ?_
  repeat first | refine then_ret ?_ | refine block_ret ?_
  exact bodyPost_ret (v := .tuple #[.string { data := #[] }, iN .i64 16]) (by kernel_rfl) rfl ⟨by rw [readD, if_pos hd], h2.old.old⟩
set_option linter.unusedVariables false in
set_option maxRecDepth 100000 in
set_option maxHeartbeats 2000000 in
theorem Read_n {w0 : World} {M : ML} {d : Dk} {D : DS} {L : BL} {w : World} (hD : DH w0 M d D L w) (nm : ByteArray) (hd : D.down = false) (h : ¬ ∃ x ∈ D.fs, x.nm = nm) :
    Calls Try.prog 23 #[pt d.q, .string nm] w fun e w' => e = .returned (.tuple #[.string (readD D nm).1, iN .i64 (readD D nm).2]) ∧ Below w.heap.size w w' := by
  obtain ⟨fl, nx, v, Lr, hfl, hK, hR, HH⟩ := hD
  have hm := HH.old.maps _ (List.mem_cons_self ..)
  have hq := HH.get 0 rfl
  rw [hd] at hq
  have hn : ∀ f ∈ fl, f.nm ≠ nm := fun f hf e => h ((ex_ab hfl).2 ⟨f, hf, e⟩)
  have H0 := HA.start w
  go_enter Try.func23, Try.ntmps23
  refine wp_seq ?_
  refine wl_region ?_
  refine wl_val (.string ({ data := #[] })) (by kernel_rfl) (by kernel_rfl) ?_
  refine wl_val (iN .i64 0) (by kernel_rfl) (by kernel_rfl) ?_
  refine wl_nil ?_
  refine then_at (F := ⟨(pt d.q :: .string nm :: un :: un :: .string ({ data := #[] }) :: iN .i64 0 :: List.replicate 20 un).toArray, []⟩) (by kernel_rfl) ?_
  refine wp_seq ?_
  refine wp_seq ?_
  refine wl_region ?_
  refine wl_val (.pointer (some ⟨d.q, 0, none⟩)) (by kernel_rfl) (by kernel_rfl) ?_
  refine wl_call (v := iN .i64 0) H0 (by kernel_rfl) enter49 #[.pointer (some ⟨d.q, 0, none⟩)] (by kernel_rfl) (refused_false (hq.keep H0.old.old)) ?_
  intro w1 h2
  refine wl_val (iN .i64 0) (by kernel_rfl) (by kernel_rfl) ?_
  refine wl_nil ?_
  refine then_at (F := ⟨(pt d.q :: .string nm :: un :: un :: .string ({ data := #[] }) :: iN .i64 0 :: iN .i64 0 :: un :: pt d.q :: iN .i64 0 :: List.replicate 16 un).toArray, []⟩) (by kernel_rfl) ?_
  refine wp_seq ?_
  refine wl_region ?_
  refine wl_val (iN .i64 0) (by kernel_rfl) (by kernel_rfl) ?_
  refine wl_val (.bool false) (by kernel_rfl) (run_nei (k := .i64) (a := 0) (b := 0) (by kernel_rfl) (by kernel_rfl) false (by decide)) ?_
  refine wl_nil ?_
  refine then_at (F := ⟨(pt d.q :: .string nm :: un :: un :: .string ({ data := #[] }) :: iN .i64 0 :: iN .i64 0 :: un :: pt d.q :: iN .i64 0 :: iN .i64 0 :: .bool false :: List.replicate 14 un).toArray, []⟩) (by kernel_rfl) ?_
  refine wp_cond_false (by kernel_rfl) ?_
  refine wp_skip ?_
  refine then_at (F := ⟨(pt d.q :: .string nm :: un :: un :: .string ({ data := #[] }) :: iN .i64 0 :: iN .i64 0 :: un :: pt d.q :: iN .i64 0 :: iN .i64 0 :: .bool false :: List.replicate 14 un).toArray, []⟩) (by kernel_rfl) ?_
  refine wp_seq ?_
  refine wl_region ?_
  refine wl_val (.pointer (some ⟨d.q, 0, none⟩)) (by kernel_rfl) (by kernel_rfl) ?_
  refine wl_val (.pointer (some ⟨d.q, 0, none⟩)) (by kernel_rfl) (by kernel_rfl) ?_
  refine wl_val (.pointer (some ⟨d.q, 0, none⟩)) (by kernel_rfl) (by kernel_rfl) ?_
  refine wl_val (.map (some d.r)) (by kernel_rfl) (run_load1 (fun w => Try.isAgg59 w) (by kernel_rfl) (((hq.keep h2.old.old).cell 0).trans rfl)) ?_
  refine wl_val (.string nm) (by kernel_rfl) (by kernel_rfl) ?_
  refine wl_val (.pointer none) (by kernel_rfl) (run_look_no ((h2.old.old.block _ (lt_of_block hm)).trans hm) hn (by kernel_rfl) (by kernel_rfl)) ?_
  refine wl_val (.pointer none) (by kernel_rfl) (by kernel_rfl) ?_
  refine wl_nil ?_
  refine then_at (F := ⟨(pt d.q :: .string nm :: un :: un :: .string ({ data := #[] }) :: iN .i64 0 :: iN .i64 0 :: .pointer none :: pt d.q :: iN .i64 0 :: iN .i64 0 :: .bool false :: un :: pt d.q :: pt d.q :: pt d.q :: .map (some d.r) :: .string nm :: .pointer none :: List.replicate 7 un).toArray, []⟩) (by kernel_rfl) ?_
  refine wp_seq ?_
  refine wp_seq ?_
  refine wl_region ?_
  refine wl_val (.pointer none) (by kernel_rfl) (by kernel_rfl) ?_
  refine wl_val (.bool true) (by kernel_rfl) (by kernel_rfl) ?_
  refine wl_nil ?_
  refine then_at (F := ⟨(pt d.q :: .string nm :: un :: un :: .string ({ data := #[] }) :: iN .i64 0 :: iN .i64 0 :: .pointer none :: pt d.q :: iN .i64 0 :: iN .i64 0 :: .bool false :: un :: pt d.q :: pt d.q :: pt d.q :: .map (some d.r) :: .string nm :: .pointer none :: .pointer none :: .bool true :: List.replicate 5 un).toArray, []⟩) (by kernel_rfl) ?_
  refine wp_cond_true (by kernel_rfl) ?_
  refine wp_seq ?_
  refine wl_region ?_
  refine wl_val (.string ({ data := #[] })) (by kernel_rfl) (by kernel_rfl) ?_
  refine wl_val (iN .i64 5) (by kernel_rfl) (by kernel_rfl) ?_
  refine wl_nil ?_
  refine then_at (F := ⟨(pt d.q :: .string nm :: un :: un :: .string ({ data := #[] }) :: iN .i64 5 :: iN .i64 0 :: .pointer none :: pt d.q :: iN .i64 0 :: iN .i64 0 :: .bool false :: un :: pt d.q :: pt d.q :: pt d.q :: .map (some d.r) :: .string nm :: .pointer none :: .pointer none :: .bool true :: List.replicate 5 un).toArray, []⟩) (by kernel_rfl) ?_
  refine wp_ret ?_
  repeat first | refine then_ret ?_ | refine block_ret ?_
  exact bodyPost_ret (v := .tuple #[.string { data := #[] }, iN .i64 5]) (by kernel_rfl) rfl ⟨by have hg := get_no hn; rw [hfl] at hg; simp only [readD, hd, hg]; rfl, h2.old.old⟩
set_option linter.unusedVariables false in
set_option maxRecDepth 100000 in
set_option maxHeartbeats 2000000 in
theorem Read_y {w0 : World} {M : ML} {d : Dk} {D : DS} {L : BL} {w : World} (hD : DH w0 M d D L w) (nm : ByteArray) (hd : D.down = false) (h : ∃ x ∈ D.fs, x.nm = nm) :
    Calls Try.prog 23 #[pt d.q, .string nm] w fun e w' => e = .returned (.tuple #[.string (readD D nm).1, iN .i64 (readD D nm).2]) ∧ Below w.heap.size w w' := by
  obtain ⟨fl, nx, v, Lr, hfl, hK, hR, HH⟩ := hD
  have hm := HH.old.maps _ (List.mem_cons_self ..)
  have hq := HH.get 0 rfl
  rw [hd] at hq
  have h := (ex_ab hfl).1 h
  obtain ⟨A, f, B, rfl, hf, hA⟩ := fl_split h
  have hfb : Blk w f.p 67 (fcell f.v f.sy) := HH.blk (f.p, 67, fcell f.v f.sy) (by simp [FB_app, FB_cons, fb])
  have hlr : ∀ y ∈ f.Lr, Blk w y.1 y.2.1 y.2.2 := fun y hy => HH.blk y (by simp [FB_app, FB_cons, fb, hy])
  have hrow := hK.row f (by simp)
  obtain ⟨pf, cf, hv⟩ := hrow.form
  rw [hv] at hfb hrow
  have H0 := HA.start w
  go_enter Try.func23, Try.ntmps23
  refine wp_seq ?_
  refine wl_region ?_
  refine wl_val (.string ({ data := #[] })) (by kernel_rfl) (by kernel_rfl) ?_
  refine wl_val (iN .i64 0) (by kernel_rfl) (by kernel_rfl) ?_
  refine wl_nil ?_
  refine then_at (F := ⟨(pt d.q :: .string nm :: un :: un :: .string ({ data := #[] }) :: iN .i64 0 :: List.replicate 20 un).toArray, []⟩) (by kernel_rfl) ?_
  refine wp_seq ?_
  refine wp_seq ?_
  refine wl_region ?_
  refine wl_val (.pointer (some ⟨d.q, 0, none⟩)) (by kernel_rfl) (by kernel_rfl) ?_
  refine wl_call (v := iN .i64 0) H0 (by kernel_rfl) enter49 #[.pointer (some ⟨d.q, 0, none⟩)] (by kernel_rfl) (refused_false (hq.keep H0.old.old)) ?_
  intro w1 h2
  refine wl_val (iN .i64 0) (by kernel_rfl) (by kernel_rfl) ?_
  refine wl_nil ?_
  refine then_at (F := ⟨(pt d.q :: .string nm :: un :: un :: .string ({ data := #[] }) :: iN .i64 0 :: iN .i64 0 :: un :: pt d.q :: iN .i64 0 :: List.replicate 16 un).toArray, []⟩) (by kernel_rfl) ?_
  refine wp_seq ?_
  refine wl_region ?_
  refine wl_val (iN .i64 0) (by kernel_rfl) (by kernel_rfl) ?_
  refine wl_val (.bool false) (by kernel_rfl) (run_nei (k := .i64) (a := 0) (b := 0) (by kernel_rfl) (by kernel_rfl) false (by decide)) ?_
  refine wl_nil ?_
  refine then_at (F := ⟨(pt d.q :: .string nm :: un :: un :: .string ({ data := #[] }) :: iN .i64 0 :: iN .i64 0 :: un :: pt d.q :: iN .i64 0 :: iN .i64 0 :: .bool false :: List.replicate 14 un).toArray, []⟩) (by kernel_rfl) ?_
  refine wp_cond_false (by kernel_rfl) ?_
  refine wp_skip ?_
  refine then_at (F := ⟨(pt d.q :: .string nm :: un :: un :: .string ({ data := #[] }) :: iN .i64 0 :: iN .i64 0 :: un :: pt d.q :: iN .i64 0 :: iN .i64 0 :: .bool false :: List.replicate 14 un).toArray, []⟩) (by kernel_rfl) ?_
  refine wp_seq ?_
  refine wl_region ?_
  refine wl_val (.pointer (some ⟨d.q, 0, none⟩)) (by kernel_rfl) (by kernel_rfl) ?_
  refine wl_val (.pointer (some ⟨d.q, 0, none⟩)) (by kernel_rfl) (by kernel_rfl) ?_
  refine wl_val (.pointer (some ⟨d.q, 0, none⟩)) (by kernel_rfl) (by kernel_rfl) ?_
  refine wl_val (.map (some d.r)) (by kernel_rfl) (run_load1 (fun w => Try.isAgg59 w) (by kernel_rfl) (((hq.keep h2.old.old).cell 0).trans rfl)) ?_
  refine wl_val (.string nm) (by kernel_rfl) (by kernel_rfl) ?_
  refine wl_val (.pointer (some ⟨f.p, 0, none⟩)) (by kernel_rfl) (run_look_yes ((h2.old.old.block _ (lt_of_block hm)).trans hm) hf hA (by kernel_rfl) (by kernel_rfl)) ?_
  refine wl_val (.pointer (some ⟨f.p, 0, none⟩)) (by kernel_rfl) (by kernel_rfl) ?_
  refine wl_nil ?_
  refine then_at (F := ⟨(pt d.q :: .string nm :: un :: un :: .string ({ data := #[] }) :: iN .i64 0 :: iN .i64 0 :: pt f.p :: pt d.q :: iN .i64 0 :: iN .i64 0 :: .bool false :: un :: pt d.q :: pt d.q :: pt d.q :: .map (some d.r) :: .string nm :: pt f.p :: List.replicate 7 un).toArray, []⟩) (by kernel_rfl) ?_
  refine wp_seq ?_
  refine wp_seq ?_
  refine wl_region ?_
  refine wl_val (.pointer (some ⟨f.p, 0, none⟩)) (by kernel_rfl) (by kernel_rfl) ?_
  refine wl_val (.bool false) (by kernel_rfl) (by kernel_rfl) ?_
  refine wl_nil ?_
  refine then_at (F := ⟨(pt d.q :: .string nm :: un :: un :: .string ({ data := #[] }) :: iN .i64 0 :: iN .i64 0 :: pt f.p :: pt d.q :: iN .i64 0 :: iN .i64 0 :: .bool false :: un :: pt d.q :: pt d.q :: pt d.q :: .map (some d.r) :: .string nm :: pt f.p :: pt f.p :: .bool false :: List.replicate 5 un).toArray, []⟩) (by kernel_rfl) ?_
  refine wp_cond_false (by kernel_rfl) ?_
  refine wp_skip ?_
  refine then_at (F := ⟨(pt d.q :: .string nm :: un :: un :: .string ({ data := #[] }) :: iN .i64 0 :: iN .i64 0 :: pt f.p :: pt d.q :: iN .i64 0 :: iN .i64 0 :: .bool false :: un :: pt d.q :: pt d.q :: pt d.q :: .map (some d.r) :: .string nm :: pt f.p :: pt f.p :: .bool false :: List.replicate 5 un).toArray, []⟩) (by kernel_rfl) ?_
  refine wp_seq ?_
  refine wl_region ?_
  refine wl_val (.pointer (some ⟨f.p, 0, none⟩)) (by kernel_rfl) (by kernel_rfl) ?_
  refine wl_val (.pointer (some ⟨f.p, 0, none⟩)) (by kernel_rfl) (by kernel_rfl) ?_
  refine wl_val (.pointer (some ⟨f.p, 0, none⟩)) (by kernel_rfl) (by kernel_rfl) ?_
  refine wl_val (.slice pf f.da.length cf) (by kernel_rfl) (run_load1 (fun w => Try.isAgg52 w) (by kernel_rfl) (((hfb.keep h2.old.old).cell 0).trans rfl)) ?_
  refine wl_val (.string ⟨f.da.toArray⟩) (by kernel_rfl) (run_textB hrow (fun y hy => (hlr y hy).keep h2.old.old) (by kernel_rfl)) ?_
  refine wl_val (.string ⟨f.da.toArray⟩) (by kernel_rfl) (by kernel_rfl) ?_
  refine wl_val (iN .i64 0) (by kernel_rfl) (by kernel_rfl) ?_
  refine wl_nil ?_
  refine then_at (F := ⟨(pt d.q :: .string nm :: un :: un :: .string ⟨f.da.toArray⟩ :: iN .i64 0 :: iN .i64 0 :: pt f.p :: pt d.q :: iN .i64 0 :: iN .i64 0 :: .bool false :: un :: pt d.q :: pt d.q :: pt d.q :: .map (some d.r) :: .string nm :: pt f.p :: pt f.p :: .bool false :: pt f.p :: pt f.p :: pt f.p :: .slice pf f.da.length cf :: .string ⟨f.da.toArray⟩ :: List.replicate 0 un).toArray, []⟩) (by kernel_rfl) ?_
  refine wp_ret ?_
  repeat first | refine then_ret ?_ | refine block_ret ?_
  exact bodyPost_ret (v := .tuple #[.string ⟨f.da.toArray⟩, iN .i64 0]) (by kernel_rfl) rfl ⟨by have hg := get_yes (f := f) (B := B) (hf ▸ hA); rw [hfl, hf] at hg; simp only [readD, hd, hg]; rfl, h2.old.old⟩
set_option linter.unusedVariables false in
set_option maxRecDepth 100000 in
set_option maxHeartbeats 2000000 in
theorem Synced_d {w0 : World} {M : ML} {d : Dk} {D : DS} {L : BL} {w : World} (hD : DH w0 M d D L w) (nm : ByteArray) (hd : D.down = true) :
    Calls Try.prog 28 #[pt d.q, .string nm] w fun e w' => e = .returned (iN .i64 (synD D nm)) ∧ Below w.heap.size w w' := by
  obtain ⟨fl, nx, v, Lr, hfl, hK, hR, HH⟩ := hD
  have hm := HH.old.maps _ (List.mem_cons_self ..)
  have hq := HH.get 0 rfl
  rw [hd] at hq
  have H0 := HA.start w
  go_enter Try.func28, Try.ntmps28
  refine wp_seq ?_
  refine wl_region ?_
  refine wl_val (iN .i64 0) (by kernel_rfl) (by kernel_rfl) ?_
  refine wl_nil ?_
  refine then_at (F := ⟨(pt d.q :: .string nm :: un :: un :: iN .i64 0 :: List.replicate 20 un).toArray, []⟩) (by kernel_rfl) ?_
  refine wp_seq ?_
  refine wp_seq ?_
  refine wl_region ?_
  refine wl_val (.pointer (some ⟨d.q, 0, none⟩)) (by kernel_rfl) (by kernel_rfl) ?_
  refine wl_call (v := .bool true) H0 (by kernel_rfl) enter59 #[.pointer (some ⟨d.q, 0, none⟩)] (by kernel_rfl) (dark_true (hq.keep H0.old.old)) ?_
  intro w1 h2
  refine wl_val (.bool true) (by kernel_rfl) (by kernel_rfl) ?_
  refine wl_skip (by kernel_rfl) ?_
  refine wl_skip (by kernel_rfl) ?_
  refine wl_skip (by kernel_rfl) ?_
  refine wl_skip (by kernel_rfl) ?_
  refine wl_skip (by kernel_rfl) ?_
  refine wl_skip (by kernel_rfl) ?_
  refine wl_skip (by kernel_rfl) ?_
  refine wl_val (.bool true) (by kernel_rfl) (by kernel_rfl) ?_
  refine wl_nil ?_
  refine then_at (F := ⟨(pt d.q :: .string nm :: un :: un :: iN .i64 0 :: pt d.q :: .bool true :: .bool true :: un :: un :: un :: un :: un :: un :: un :: .bool true :: List.replicate 9 un).toArray, []⟩) (by kernel_rfl) ?_
  refine wp_cond_true (by kernel_rfl) ?_
  refine wp_seq ?_
  refine wl_region ?_
  refine wl_val (iN .i64 0) (by kernel_rfl) (by kernel_rfl) ?_
  refine wl_nil ?_
  refine then_at (F := ⟨(pt d.q :: .string nm :: un :: un :: iN .i64 0 :: pt d.q :: .bool true :: .bool true :: un :: un :: un :: un :: un :: un :: un :: .bool true :: List.replicate 9 un).toArray, []⟩) (by kernel_rfl) ?_
  refine wp_ret ?_
  repeat first | refine then_ret ?_ | refine block_ret ?_
  exact bodyPost_ret (v := iN .i64 0) (by kernel_rfl) rfl ⟨by rw [synD, if_pos hd], h2.old.old⟩
set_option linter.unusedVariables false in
set_option maxRecDepth 100000 in
set_option maxHeartbeats 2000000 in
theorem Synced_n {w0 : World} {M : ML} {d : Dk} {D : DS} {L : BL} {w : World} (hD : DH w0 M d D L w) (nm : ByteArray) (hd : D.down = false) (h : ¬ ∃ x ∈ D.fs, x.nm = nm) :
    Calls Try.prog 28 #[pt d.q, .string nm] w fun e w' => e = .returned (iN .i64 (synD D nm)) ∧ Below w.heap.size w w' := by
  obtain ⟨fl, nx, v, Lr, hfl, hK, hR, HH⟩ := hD
  have hm := HH.old.maps _ (List.mem_cons_self ..)
  have hq := HH.get 0 rfl
  rw [hd] at hq
  have hn : ∀ f ∈ fl, f.nm ≠ nm := fun f hf e => h ((ex_ab hfl).2 ⟨f, hf, e⟩)
  have H0 := HA.start w
  go_enter Try.func28, Try.ntmps28
  refine wp_seq ?_
  refine wl_region ?_
  refine wl_val (iN .i64 0) (by kernel_rfl) (by kernel_rfl) ?_
  refine wl_nil ?_
  refine then_at (F := ⟨(pt d.q :: .string nm :: un :: un :: iN .i64 0 :: List.replicate 20 un).toArray, []⟩) (by kernel_rfl) ?_
  refine wp_seq ?_
  refine wp_seq ?_
  refine wl_region ?_
  refine wl_val (.pointer (some ⟨d.q, 0, none⟩)) (by kernel_rfl) (by kernel_rfl) ?_
  refine wl_call (v := .bool false) H0 (by kernel_rfl) enter59 #[.pointer (some ⟨d.q, 0, none⟩)] (by kernel_rfl) (dark_false (hq.keep H0.old.old)) ?_
  intro w1 h2
  refine wl_val (.bool false) (by kernel_rfl) (by kernel_rfl) ?_
  refine wl_val (.pointer (some ⟨d.q, 0, none⟩)) (by kernel_rfl) (by kernel_rfl) ?_
  refine wl_val (.pointer (some ⟨d.q, 0, none⟩)) (by kernel_rfl) (by kernel_rfl) ?_
  refine wl_val (.pointer (some ⟨d.q, 0, none⟩)) (by kernel_rfl) (by kernel_rfl) ?_
  refine wl_val (.map (some d.r)) (by kernel_rfl) (run_load1 (fun w => Try.isAgg59 w) (by kernel_rfl) (((hq.keep h2.old.old).cell 0).trans rfl)) ?_
  refine wl_val (.string nm) (by kernel_rfl) (by kernel_rfl) ?_
  refine wl_val (.pointer none) (by kernel_rfl) (run_look_no ((h2.old.old.block _ (lt_of_block hm)).trans hm) hn (by kernel_rfl) (by kernel_rfl)) ?_
  refine wl_val (.bool true) (by kernel_rfl) (by kernel_rfl) ?_
  refine wl_val (.bool true) (by kernel_rfl) (by kernel_rfl) ?_
  refine wl_nil ?_
  refine then_at (F := ⟨(pt d.q :: .string nm :: un :: un :: iN .i64 0 :: pt d.q :: .bool false :: .bool false :: pt d.q :: pt d.q :: pt d.q :: .map (some d.r) :: .string nm :: .pointer none :: .bool true :: .bool true :: List.replicate 9 un).toArray, []⟩) (by kernel_rfl) ?_
  refine wp_cond_true (by kernel_rfl) ?_
  refine wp_seq ?_
  refine wl_region ?_
  refine wl_val (iN .i64 0) (by kernel_rfl) (by kernel_rfl) ?_
  refine wl_nil ?_
  refine then_at (F := ⟨(pt d.q :: .string nm :: un :: un :: iN .i64 0 :: pt d.q :: .bool false :: .bool false :: pt d.q :: pt d.q :: pt d.q :: .map (some d.r) :: .string nm :: .pointer none :: .bool true :: .bool true :: List.replicate 9 un).toArray, []⟩) (by kernel_rfl) ?_
  refine wp_ret ?_
  repeat first | refine then_ret ?_ | refine block_ret ?_
  exact bodyPost_ret (v := iN .i64 0) (by kernel_rfl) rfl ⟨by have hg := get_no hn; rw [hfl] at hg; simp only [synD, hd, hg]; rfl, h2.old.old⟩
set_option linter.unusedVariables false in
set_option maxRecDepth 100000 in
set_option maxHeartbeats 2000000 in
theorem Synced_y {w0 : World} {M : ML} {d : Dk} {D : DS} {L : BL} {w : World} (hD : DH w0 M d D L w) (nm : ByteArray) (hd : D.down = false) (h : ∃ x ∈ D.fs, x.nm = nm) :
    Calls Try.prog 28 #[pt d.q, .string nm] w fun e w' => e = .returned (iN .i64 (synD D nm)) ∧ Below w.heap.size w w' := by
  obtain ⟨fl, nx, v, Lr, hfl, hK, hR, HH⟩ := hD
  have hm := HH.old.maps _ (List.mem_cons_self ..)
  have hq := HH.get 0 rfl
  rw [hd] at hq
  have h := (ex_ab hfl).1 h
  obtain ⟨A, f, B, rfl, hf, hA⟩ := fl_split h
  have hfb : Blk w f.p 67 (fcell f.v f.sy) := HH.blk (f.p, 67, fcell f.v f.sy) (by simp [FB_app, FB_cons, fb])
  have hlr : ∀ y ∈ f.Lr, Blk w y.1 y.2.1 y.2.2 := fun y hy => HH.blk y (by simp [FB_app, FB_cons, fb, hy])
  have hrow := hK.row f (by simp)
  obtain ⟨pf, cf, hv⟩ := hrow.form
  rw [hv] at hfb hrow
  have H0 := HA.start w
  go_enter Try.func28, Try.ntmps28
  refine wp_seq ?_
  refine wl_region ?_
  refine wl_val (iN .i64 0) (by kernel_rfl) (by kernel_rfl) ?_
  refine wl_nil ?_
  refine then_at (F := ⟨(pt d.q :: .string nm :: un :: un :: iN .i64 0 :: List.replicate 20 un).toArray, []⟩) (by kernel_rfl) ?_
  refine wp_seq ?_
  refine wp_seq ?_
  refine wl_region ?_
  refine wl_val (.pointer (some ⟨d.q, 0, none⟩)) (by kernel_rfl) (by kernel_rfl) ?_
  refine wl_call (v := .bool false) H0 (by kernel_rfl) enter59 #[.pointer (some ⟨d.q, 0, none⟩)] (by kernel_rfl) (dark_false (hq.keep H0.old.old)) ?_
  intro w1 h2
  refine wl_val (.bool false) (by kernel_rfl) (by kernel_rfl) ?_
  refine wl_val (.pointer (some ⟨d.q, 0, none⟩)) (by kernel_rfl) (by kernel_rfl) ?_
  refine wl_val (.pointer (some ⟨d.q, 0, none⟩)) (by kernel_rfl) (by kernel_rfl) ?_
  refine wl_val (.pointer (some ⟨d.q, 0, none⟩)) (by kernel_rfl) (by kernel_rfl) ?_
  refine wl_val (.map (some d.r)) (by kernel_rfl) (run_load1 (fun w => Try.isAgg59 w) (by kernel_rfl) (((hq.keep h2.old.old).cell 0).trans rfl)) ?_
  refine wl_val (.string nm) (by kernel_rfl) (by kernel_rfl) ?_
  refine wl_val (.pointer (some ⟨f.p, 0, none⟩)) (by kernel_rfl) (run_look_yes ((h2.old.old.block _ (lt_of_block hm)).trans hm) hf hA (by kernel_rfl) (by kernel_rfl)) ?_
  refine wl_val (.bool false) (by kernel_rfl) (by kernel_rfl) ?_
  refine wl_val (.bool false) (by kernel_rfl) (by kernel_rfl) ?_
  refine wl_nil ?_
  refine then_at (F := ⟨(pt d.q :: .string nm :: un :: un :: iN .i64 0 :: pt d.q :: .bool false :: .bool false :: pt d.q :: pt d.q :: pt d.q :: .map (some d.r) :: .string nm :: pt f.p :: .bool false :: .bool false :: List.replicate 9 un).toArray, []⟩) (by kernel_rfl) ?_
  refine wp_cond_false (by kernel_rfl) ?_
  refine wp_skip ?_
  refine then_at (F := ⟨(pt d.q :: .string nm :: un :: un :: iN .i64 0 :: pt d.q :: .bool false :: .bool false :: pt d.q :: pt d.q :: pt d.q :: .map (some d.r) :: .string nm :: pt f.p :: .bool false :: .bool false :: List.replicate 9 un).toArray, []⟩) (by kernel_rfl) ?_
  refine wp_seq ?_
  refine wl_region ?_
  refine wl_val (.pointer (some ⟨d.q, 0, none⟩)) (by kernel_rfl) (by kernel_rfl) ?_
  refine wl_val (.pointer (some ⟨d.q, 0, none⟩)) (by kernel_rfl) (by kernel_rfl) ?_
  refine wl_val (.pointer (some ⟨d.q, 0, none⟩)) (by kernel_rfl) (by kernel_rfl) ?_
  refine wl_val (.map (some d.r)) (by kernel_rfl) (run_load1 (fun w => Try.isAgg59 w) (by kernel_rfl) (((hq.keep h2.old.old).cell 0).trans rfl)) ?_
  refine wl_val (.string nm) (by kernel_rfl) (by kernel_rfl) ?_
  refine wl_val (.pointer (some ⟨f.p, 0, none⟩)) (by kernel_rfl) (run_look_yes ((h2.old.old.block _ (lt_of_block hm)).trans hm) hf hA (by kernel_rfl) (by kernel_rfl)) ?_
  refine wl_val (.pointer (some ⟨f.p, 0, none⟩)) (by kernel_rfl) (by kernel_rfl) ?_
  refine wl_val (.pointer (some ⟨f.p, 1, none⟩)) (by kernel_rfl) (by kernel_rfl) ?_
  refine wl_val (iN .i64 f.sy) (by kernel_rfl) (run_load1 (fun w => Try.isAgg3 w) (by kernel_rfl) (((hfb.keep h2.old.old).cell 1).trans rfl)) ?_
  refine wl_val (iN .i64 f.sy) (by kernel_rfl) (by kernel_rfl) ?_
  refine wl_nil ?_
  refine then_at (F := ⟨(pt d.q :: .string nm :: un :: un :: iN .i64 f.sy :: pt d.q :: .bool false :: .bool false :: pt d.q :: pt d.q :: pt d.q :: .map (some d.r) :: .string nm :: pt f.p :: .bool false :: .bool false :: pt d.q :: pt d.q :: pt d.q :: .map (some d.r) :: .string nm :: pt f.p :: pt f.p :: .pointer (some ⟨f.p, 1, none⟩) :: iN .i64 f.sy :: List.replicate 0 un).toArray, []⟩) (by kernel_rfl) ?_
  refine wp_ret ?_
  repeat first | refine then_ret ?_ | refine block_ret ?_
  exact bodyPost_ret (v := iN .i64 f.sy) (by kernel_rfl) rfl ⟨by have hg := get_yes (f := f) (B := B) (hf ▸ hA); rw [hfl, hf] at hg; simp only [synD, hd, hg]; rfl, h2.old.old⟩
theorem Read_any {w0 : World} {M : ML} {d : Dk} {D : DS} {L : BL} {w : World} (hD : DH w0 M d D L w) (nm : ByteArray) :
    Calls Try.prog 23 #[pt d.q, .string nm] w fun e w' => e = .returned (.tuple #[.string (readD D nm).1, iN .i64 (readD D nm).2]) ∧ Below w.heap.size w w' := by
  cases hd : D.down with
  | true => exact Read_d hD nm hd
  | false =>
    by_cases h : ∃ x ∈ D.fs, x.nm = nm
    · exact Read_y hD nm hd h
    · exact Read_n hD nm hd h
theorem Synced_any {w0 : World} {M : ML} {d : Dk} {D : DS} {L : BL} {w : World} (hD : DH w0 M d D L w) (nm : ByteArray) :
    Calls Try.prog 28 #[pt d.q, .string nm] w fun e w' => e = .returned (iN .i64 (synD D nm)) ∧ Below w.heap.size w w' := by
  cases hd : D.down with
  | true => exact Synced_d hD nm hd
  | false =>
    by_cases h : ∃ x ∈ D.fs, x.nm = nm
    · exact Synced_y hD nm hd h
    · exact Synced_n hD nm hd h
theorem Free_any {w0 : World} {M : ML} {d : Dk} {D : DS} {L : BL} {w : World} (hD : DH w0 M d D L w) :
    Calls Try.prog 31 #[pt d.q] w fun e w' => e = .returned (iN .i64 (freeD D)) ∧ Below w.heap.size w w' := by
  obtain ⟨fl, nx, v, Lr, hfl, hK, hR, HH⟩ := hD
  have hq := HH.get 0 rfl
  cases hd : D.down with
  | true => rw [hd] at hq; rw [show freeD D = 0 by simp [freeD, hd]]; exact Free_true hq
  | false => rw [hd] at hq; rw [show freeD D = D.free by simp [freeD, hd]]; exact Free_false hq
theorem Down_any {w0 : World} {M : ML} {d : Dk} {D : DS} {L : BL} {w : World} (hD : DH w0 M d D L w) :
    Calls Try.prog 27 #[pt d.q] w fun e w' => e = .returned (.bool D.down) ∧ Below w.heap.size w w' := by
  obtain ⟨fl, nx, v, Lr, hfl, hK, hR, HH⟩ := hD
  have hq := HH.get 0 rfl
  cases hd : D.down with
  | true => rw [hd] at hq; exact Down_true hq
  | false => rw [hd] at hq; exact Down_false hq
/-- a row of numbers made anew -/
theorem clone_sz {v : Value} {n : List Nat} {Lr : BL} {w : World} (h : Row 3 1 v n.length (n.map (iN .i64 ·)) Lr) (hB : ∀ y ∈ Lr, Blk w y.1 y.2.1 y.2.2) (hl : n.length ≤ 1000000) :
    Calls Try.prog 54 #[v] w fun e w' => ∃ v', e = .returned v' ∧ w'.ownsRow w.heap.size 3 1 v' n.length (n.map (iN .i64 ·)) ∧ Below w.heap.size w w' := by
  rcases h.2 with ⟨rfl, h2, rfl⟩ | ⟨g, cap, cur, rfl, rfl, k1, k2, k3, k4⟩
  · have hn : n = [] := List.length_eq_zero_iff.1 h2
    subst hn
    refine (Try.slices_Clone_int_nil 0 0 w).mono ?_
    rintro e w' ⟨rfl, rfl⟩
    exact ⟨_, rfl, World.ownsRow_nil _ _ _ _, Below.refl _ _⟩
  · have hb := hB (g, 3, cur) (by simp)
    rw [Nat.mul_one] at k3 k4
    have e1 : (n.map Int.ofNat).length = n.length := List.length_map ..
    have := Try.slices_Clone_int g 0 n.length cap (n.map Int.ofNat) w (by rw [e1]; exact Nat.le_refl _) (by omega) (fun j hj => by
      rw [e1] at hj
      rw [Nat.zero_add, hb.cell j]
      have h1 : (cur.toList.take n.length)[j]? = (n.map (iN .i64 ·))[j]? := by rw [k4]
      rw [List.getElem?_take, if_pos hj, List.getElem?_map, List.getElem?_eq_getElem hj] at h1
      rw [← Array.getElem?_toList, h1]
      simp [hj, iN])
    refine this.mono ?_
    rintro e w' ⟨v', rfl, h1, _, h3⟩
    refine ⟨v', rfl, ?_, h3⟩
    rw [List.take_of_length_le (by rw [e1]; exact Nat.le_refl _), List.map_map] at h1
    exact h1
set_option linter.unusedVariables false in
set_option maxRecDepth 100000 in
set_option maxHeartbeats 2000000 in
theorem Sizes_any {w0 : World} {M : ML} {d : Dk} {D : DS} {L : BL} {w : World} (hD : DH w0 M d D L w) (hl : D.sizes.length ≤ 1000000) :
    Calls Try.prog 30 #[pt d.q] w fun e w' => ∃ v', e = .returned v' ∧ w'.ownsRow w.heap.size 3 1 v' D.sizes.length (D.sizes.map (iN .i64 ·)) ∧ Below w.heap.size w w' := by
  obtain ⟨fl, nx, v, Lr, hfl, hK, hR, HH⟩ := hD
  have hm := HH.old.maps _ (List.mem_cons_self ..)
  have hq := HH.get 0 rfl
  have hlr : ∀ y ∈ Lr, Blk w y.1 y.2.1 y.2.2 := fun y hy => HH.blk y (by simp [hy])
  have H0 := HA.start w
  go_enter Try.func30, Try.ntmps30
  refine wp_seq ?_
  refine wl_region ?_
  refine wl_val (.slice none 0 0) (by kernel_rfl) (by kernel_rfl) ?_
  refine wl_nil ?_
  refine then_at (F := ⟨(pt d.q :: un :: .slice none 0 0 :: List.replicate 7 un).toArray, []⟩) (by kernel_rfl) ?_
  refine wp_seq ?_
  refine wp_seq ?_
  refine wl_region ?_
  refine wl_val (.pointer (some ⟨d.q, 0, none⟩)) (by kernel_rfl) (by kernel_rfl) ?_
  refine wl_call (v := .bool false) H0 (by kernel_rfl) enter50 #[.pointer (some ⟨d.q, 0, none⟩)] (by kernel_rfl) (none_no (hq.keep H0.old.old)) ?_
  intro w1 h2
  refine wl_nil ?_
  refine then_at (F := ⟨(pt d.q :: un :: .slice none 0 0 :: pt d.q :: .bool false :: List.replicate 5 un).toArray, []⟩) (by kernel_rfl) ?_
  refine wp_cond_false (by kernel_rfl) ?_
  refine wp_skip ?_
  refine then_at (F := ⟨(pt d.q :: un :: .slice none 0 0 :: pt d.q :: .bool false :: List.replicate 5 un).toArray, []⟩) (by kernel_rfl) ?_
  refine wp_seq ?_
  refine wl_region ?_
  refine wl_val (.pointer (some ⟨d.q, 0, none⟩)) (by kernel_rfl) (by kernel_rfl) ?_
  refine wl_val (.pointer (some ⟨d.q, 0, none⟩)) (by kernel_rfl) (by kernel_rfl) ?_
  refine wl_val (.pointer (some ⟨d.q, 4, none⟩)) (by kernel_rfl) (by kernel_rfl) ?_
  refine wl_val (v) (by kernel_rfl) (run_load1 (fun w => Try.isAgg26 w) (by kernel_rfl) (((hq.keep h2.old.old).cell 4).trans rfl)) ?_
  refine wl_callx (by kernel_rfl) enter54 #[v] (by kernel_rfl) (clone_sz hR (fun y hy => (hlr y hy).keep h2.old.old) hl) ?_
  rintro _ w3 ⟨v2, rfl, ho2, hb2⟩
  refine ⟨_, rfl, ?_⟩
  have h4 := h2.keep _ _ hb2
  refine wl_val (v2) (by kernel_rfl) (by kernel_rfl) ?_
  refine wl_nil ?_
  refine then_at (F := ⟨(pt d.q :: un :: v2 :: pt d.q :: .bool false :: pt d.q :: pt d.q :: .pointer (some ⟨d.q, 4, none⟩) :: v :: v2 :: List.replicate 0 un).toArray, []⟩) (by kernel_rfl) ?_
  refine wp_ret ?_
  repeat first | refine then_ret ?_ | refine block_ret ?_
  exact bodyPost_ret (v := v2) (by kernel_rfl) rfl ⟨v2, rfl, ownsRow_base_a ho2 h2.size, h4.old.old⟩
end Go.Proofs.Ytjedhnjjgmbcbaa
