/-
 Read, Synced, Sizes, Free, Down.
-/
import Derived.Test.YtckmlaempffpjaaGreatGD7
namespace Go.Proofs.YtckmlaempffpjaaGreat
set_option linter.unusedVariables false
set_option maxRecDepth 100000
set_option maxHeartbeats 2000000
open Go.RowKit Go.Proofs.Tryz
def getF (fs : List FA) (nm : ByteArray) : Option FA := fs.find? fun x => decide (x.nm = nm)
theorem get_no {fl : List Fl} {s : ByteArray} (h : ∀ f ∈ fl, f.nm ≠ s) : getF (fl.map ab) s = none := by
 unfold getF
 refine List.find?_eq_none.2 fun x hx => ?_
 obtain ⟨f, hf, rfl⟩ := List.mem_map.1 hx
 simp only [decide_eq_true_eq]
 exact h f hf
theorem get_yes {A B : List Fl} {f : Fl} (h : ∀ g ∈ A, g.nm ≠ f.nm) : getF ((A ++ f :: B).map ab) f.nm = some (ab f) := by
 have := get_no h
 unfold getF at this ⊢
 rw [List.map_append, List.find?_append, this]
 simp [ab]
def readD (D : DS) (nm : ByteArray) : ByteArray × Nat := if D.down = true then ({ data := #[] }, 16) else match getF D.fs nm with | none => ({ data := #[] }, 5) | some x => (⟨x.da.toArray⟩, 0)
def synD (D : DS) (nm : ByteArray) : Nat := if D.down = true then 0 else match getF D.fs nm with | none => 0 | some x => x.sy
theorem Read_d {w0 : World} {M : ML} {d : Dk} {D : DS} {L : BL} {w : World} (hD : DH w0 M d D L w) (nm : ByteArray) (hd : D.down = true) :
  Calls prog 22 #[pt d.q, .string nm] w fun e w' => e = .returned (.tuple #[.string (readD D nm).1, i6 (readD D nm).2]) ∧ Below w.heap.size w w' := by
 obtain ⟨fl, nx, v, Lr, hfl, hK, hR, HH⟩ := hD;have hm := HH.old.maps _ (List.mem_cons_self ..);have hq := HH.get 0 rfl;rw [hd] at hq;have H0 := HA.start w
 go_enter Tryz.func22, Tryz.ntmps22
 refine zsr (zv (zv (znt (wp_seq (zsr (zv ?_))))));refine wl_call (v := i6 16) H0 enter46 #[pq d.q] (refused_true (hq.keep H0.old.old)) ?_;intro w1 h2;refine zv (znt (zsr (zv ?_)));refine zwu (run_nei (k := .i64) (a := 16) (b := 0) true (by decide)) ?_;refine znt (zct (zsr (zv (zv (zv (znt ?_))))));refine wp_ret ?_
 repeat first|refine zrt ?_|refine block_ret ?_
 exact zb (v := .tuple #[.string { data := #[] }, i6 16]) ⟨by rw [readD, if_pos hd], h2.old.old⟩
theorem Read_n {w0 : World} {M : ML} {d : Dk} {D : DS} {L : BL} {w : World} (hD : DH w0 M d D L w) (nm : ByteArray) (hd : D.down = false) (h : ¬ ∃ x ∈ D.fs, x.nm = nm) :
  Calls prog 22 #[pt d.q, .string nm] w fun e w' => e = .returned (.tuple #[.string (readD D nm).1, i6 (readD D nm).2]) ∧ Below w.heap.size w w' := by
 obtain ⟨fl, nx, v, Lr, hfl, hK, hR, HH⟩ := hD;have hm := HH.old.maps _ (List.mem_cons_self ..);have hq := HH.get 0 rfl;rw [hd] at hq;have hn : ∀ f ∈ fl, f.nm ≠ nm := fun f hf e => h ((ex_ab hfl).2 ⟨f, hf, e⟩)
 have H0 := HA.start w
 go_enter Tryz.func22, Tryz.ntmps22
 refine zsr (zv (zv (znt (wp_seq (zsr (zv ?_))))));refine wl_call (v := i6 0) H0 enter46 #[pq d.q] (refused_false (hq.keep H0.old.old)) ?_;intro w1 h2;refine zv (znt (zsr (zv ?_)));refine zwu (run_nei (k := .i64) (a := 0) (b := 0) false (by decide)) ?_;refine znt (zcf (wp_skip (zt (zsr (zv (zv (zv ?_)))))));refine zwu (v := .map (some d.r)) (run_load1 isAgg76 (((hq.keep h2.old.old).cell 0).trans rfl)) ?_;refine zv ?_;refine zwu (run_look_no ((h2.old.old.block _ (lt_of_block hm)).trans hm) hn) ?_;refine zv (znt (wp_seq (zsr (zv (zv (znt (zct (zsr (zv (zv ?_))))))))));refine znt ?_;refine wp_ret ?_
 repeat first|refine zrt ?_|refine block_ret ?_
 exact zb (v := .tuple #[.string { data := #[] }, i6 5]) ⟨by have hg := get_no hn; rw [hfl] at hg; simp only [readD, hd, hg]; rfl, h2.old.old⟩
theorem Read_y {w0 : World} {M : ML} {d : Dk} {D : DS} {L : BL} {w : World} (hD : DH w0 M d D L w) (nm : ByteArray) (hd : D.down = false) (h : ∃ x ∈ D.fs, x.nm = nm) :
  Calls prog 22 #[pt d.q, .string nm] w fun e w' => e = .returned (.tuple #[.string (readD D nm).1, i6 (readD D nm).2]) ∧ Below w.heap.size w w' := by
 obtain ⟨fl, nx, v, Lr, hfl, hK, hR, HH⟩ := hD;have hm := HH.old.maps _ (List.mem_cons_self ..);have hq := HH.get 0 rfl;rw [hd] at hq;have h := (ex_ab hfl).1 h;obtain ⟨A, f, B, rfl, hf, hA⟩ := fl_split h;have hfb : Blk w f.p 109 (fcell f.v f.sy) := HH.blk (f.p, 109, fcell f.v f.sy) (by simp [FB_app, FB_cons, fb]);have hlr : ∀ y ∈ f.Lr, Blk w y.1 y.2.1 y.2.2 := fun y hy => HH.blk y (by simp [FB_app, FB_cons, fb, hy])
 have hrow := hK.row f (by simp);obtain ⟨pf, cf, hv⟩ := hrow.form;rw [hv] at hfb hrow;have H0 := HA.start w
 go_enter Tryz.func22, Tryz.ntmps22
 refine zsr (zv (zv (znt (wp_seq (zsr (zv ?_))))));refine wl_call (v := i6 0) H0 enter46 #[pq d.q] (refused_false (hq.keep H0.old.old)) ?_;intro w1 h2;refine zv (znt (zsr (zv ?_)));refine zwu (run_nei (k := .i64) (a := 0) (b := 0) false (by decide)) ?_;refine znt (zcf (wp_skip (zt (zsr (zv (zv (zv ?_)))))));refine zwu (v := .map (some d.r)) (run_load1 isAgg76 (((hq.keep h2.old.old).cell 0).trans rfl)) ?_;refine zv ?_;refine zwu (run_look_yes ((h2.old.old.block _ (lt_of_block hm)).trans hm) hf hA) ?_;refine zv (znt (wp_seq (zsr (zv (zv (znt (zcf (wp_skip (zt (zsr ?_))))))))));refine zv (zv (zv ?_));refine zwu (v := .slice pf f.da.length cf) (run_load1 isAgg62 (((hfb.keep h2.old.old).cell 0).trans rfl)) ?_;refine zwu (v := .string ⟨f.da.toArray⟩) (run_textB hrow (fun y hy => (hlr y hy).keep h2.old.old) (by kernel_rfl)) ?_;refine zv (zv (znt ?_));refine wp_ret ?_
 repeat first|refine zrt ?_|refine block_ret ?_
 exact zb (v := .tuple #[.string ⟨f.da.toArray⟩, i6 0]) ⟨by have hg := get_yes (f := f) (B := B) (hf ▸ hA); rw [hfl, hf] at hg; simp only [readD, hd, hg]; rfl, h2.old.old⟩
theorem Synced_d {w0 : World} {M : ML} {d : Dk} {D : DS} {L : BL} {w : World} (hD : DH w0 M d D L w) (nm : ByteArray) (hd : D.down = true) :
  Calls prog 42 #[pt d.q, .string nm] w fun e w' => e = .returned (i6 (synD D nm)) ∧ Below w.heap.size w w' := by
 obtain ⟨fl, nx, v, Lr, hfl, hK, hR, HH⟩ := hD;have hm := HH.old.maps _ (List.mem_cons_self ..);have hq := HH.get 0 rfl;rw [hd] at hq;have H0 := HA.start w
 go_enter Tryz.func42, Tryz.ntmps42
 refine zsr (zv (znt (wp_seq (zsr (zv ?_)))));refine wl_call (v := .bool true) H0 enter89 #[pq d.q] (dark_true (hq.keep H0.old.old)) ?_;intro w1 h2;refine zv ?_;refine wl_skip ?_;refine wl_skip ?_;refine wl_skip ?_;refine wl_skip ?_;refine wl_skip ?_;refine wl_skip ?_;refine wl_skip ?_;refine zv (znt (zct (zsr (zv (znt ?_)))));refine wp_ret ?_
 repeat first|refine zrt ?_|refine block_ret ?_
 exact zb (v := i6 0) ⟨by rw [synD, if_pos hd], h2.old.old⟩
theorem Synced_n {w0 : World} {M : ML} {d : Dk} {D : DS} {L : BL} {w : World} (hD : DH w0 M d D L w) (nm : ByteArray) (hd : D.down = false) (h : ¬ ∃ x ∈ D.fs, x.nm = nm) :
  Calls prog 42 #[pt d.q, .string nm] w fun e w' => e = .returned (i6 (synD D nm)) ∧ Below w.heap.size w w' := by
 obtain ⟨fl, nx, v, Lr, hfl, hK, hR, HH⟩ := hD;have hm := HH.old.maps _ (List.mem_cons_self ..);have hq := HH.get 0 rfl;rw [hd] at hq;have hn : ∀ f ∈ fl, f.nm ≠ nm := fun f hf e => h ((ex_ab hfl).2 ⟨f, hf, e⟩)
 have H0 := HA.start w
 go_enter Tryz.func42, Tryz.ntmps42
 refine zsr (zv (znt (wp_seq (zsr (zv ?_)))));refine wl_call (v := .bool false) H0 enter89 #[pq d.q] (dark_false (hq.keep H0.old.old)) ?_;intro w1 h2;refine zv (zv (zv (zv ?_)));refine zwu (v := .map (some d.r)) (run_load1 isAgg76 (((hq.keep h2.old.old).cell 0).trans rfl)) ?_;refine zv ?_;refine zwu (run_look_no ((h2.old.old.block _ (lt_of_block hm)).trans hm) hn) ?_;refine zv (zv (znt (zct (zsr (zv (znt ?_))))));refine wp_ret ?_
 repeat first|refine zrt ?_|refine block_ret ?_
 exact zb (v := i6 0) ⟨by have hg := get_no hn; rw [hfl] at hg; simp only [synD, hd, hg]; rfl, h2.old.old⟩
theorem Synced_y {w0 : World} {M : ML} {d : Dk} {D : DS} {L : BL} {w : World} (hD : DH w0 M d D L w) (nm : ByteArray) (hd : D.down = false) (h : ∃ x ∈ D.fs, x.nm = nm) :
  Calls prog 42 #[pt d.q, .string nm] w fun e w' => e = .returned (i6 (synD D nm)) ∧ Below w.heap.size w w' := by
 obtain ⟨fl, nx, v, Lr, hfl, hK, hR, HH⟩ := hD;have hm := HH.old.maps _ (List.mem_cons_self ..);have hq := HH.get 0 rfl;rw [hd] at hq;have h := (ex_ab hfl).1 h;obtain ⟨A, f, B, rfl, hf, hA⟩ := fl_split h;have hfb : Blk w f.p 109 (fcell f.v f.sy) := HH.blk (f.p, 109, fcell f.v f.sy) (by simp [FB_app, FB_cons, fb]);have hlr : ∀ y ∈ f.Lr, Blk w y.1 y.2.1 y.2.2 := fun y hy => HH.blk y (by simp [FB_app, FB_cons, fb, hy])
 have hrow := hK.row f (by simp);obtain ⟨pf, cf, hv⟩ := hrow.form;rw [hv] at hfb hrow;have H0 := HA.start w
 go_enter Tryz.func42, Tryz.ntmps42
 refine zsr (zv (znt (wp_seq (zsr (zv ?_)))));refine wl_call (v := .bool false) H0 enter89 #[pq d.q] (dark_false (hq.keep H0.old.old)) ?_;intro w1 h2;refine zv (zv (zv (zv ?_)));refine zwu (v := .map (some d.r)) (run_load1 isAgg76 (((hq.keep h2.old.old).cell 0).trans rfl)) ?_;refine zv ?_;refine zwu (run_look_yes ((h2.old.old.block _ (lt_of_block hm)).trans hm) hf hA) ?_;refine zv (zv (znt (zcf (wp_skip (zt (zsr (zv (zv (zv ?_)))))))));refine zwu (v := .map (some d.r)) (run_load1 isAgg76 (((hq.keep h2.old.old).cell 0).trans rfl)) ?_;refine zv ?_;refine zwu (run_look_yes ((h2.old.old.block _ (lt_of_block hm)).trans hm) hf hA) ?_;refine zv (zv ?_);refine zwu (v := i6 f.sy) (run_load1 isAgg3 (((hfb.keep h2.old.old).cell 1).trans rfl)) ?_;refine zv (znt ?_);refine wp_ret ?_
 repeat first|refine zrt ?_|refine block_ret ?_
 exact zb (v := i6 f.sy) ⟨by have hg := get_yes (f := f) (B := B) (hf ▸ hA); rw [hfl, hf] at hg; simp only [synD, hd, hg]; rfl, h2.old.old⟩
theorem Read_any {w0 : World} {M : ML} {d : Dk} {D : DS} {L : BL} {w : World} (hD : DH w0 M d D L w) (nm : ByteArray) :
  Calls prog 22 #[pt d.q, .string nm] w fun e w' => e = .returned (.tuple #[.string (readD D nm).1, i6 (readD D nm).2]) ∧ Below w.heap.size w w' := by
 cases hd : D.down with
 | true => exact Read_d hD nm hd
 | false =>
  by_cases h : ∃ x ∈ D.fs, x.nm = nm
  ·exact Read_y hD nm hd h
  ·exact Read_n hD nm hd h
theorem Synced_any {w0 : World} {M : ML} {d : Dk} {D : DS} {L : BL} {w : World} (hD : DH w0 M d D L w) (nm : ByteArray) :
  Calls prog 42 #[pt d.q, .string nm] w fun e w' => e = .returned (i6 (synD D nm)) ∧ Below w.heap.size w w' := by
 cases hd : D.down with
 | true => exact Synced_d hD nm hd
 | false =>
  by_cases h : ∃ x ∈ D.fs, x.nm = nm
  ·exact Synced_y hD nm hd h
  ·exact Synced_n hD nm hd h
theorem Down_any {w0 : World} {M : ML} {d : Dk} {D : DS} {L : BL} {w : World} (hD : DH w0 M d D L w) :
  Calls prog 18 #[pt d.q] w fun e w' => e = .returned (.bool D.down) ∧ Below w.heap.size w w' := by
 obtain ⟨fl, nx, v, Lr, hfl, hK, hR, HH⟩ := hD;have hq := HH.get 0 rfl
 cases hd : D.down with
 | true => rw [hd] at hq; exact Down_true hq
 | false => rw [hd] at hq; exact Down_false hq
end Go.Proofs.YtckmlaempffpjaaGreat
namespace Go.Proofs.YtckmlaempffpjaaGreat
open Go.RowKit Go.Proofs.Tryz
def cutA (x : FA) (z : Int) : FA := ⟨x.nm, x.da.take (x.sy + stayN z (x.da.length - x.sy)), x.sy + stayN z (x.da.length - x.sy)⟩
def rankF (fs : List FA) (nm : ByteArray) : Nat := (srtL fs).idxOf (bl nm)
def wkK (fs : List FA) (ks : List Int) (k : Nat) : List FA := fs.map fun x => if rankF fs x.nm < k then cutA x (ks.getD (rankF fs x.nm) 0) else x
theorem wk_zero (fs : List FA) (ks : List Int) : wkK fs ks 0 = fs := by simp [wkK]
theorem srt_perm (fs : List FA) : (srtL fs).Perm (fs.map fun x => bl x.nm) := List.mergeSort_perm _ _
theorem srt_len (fs : List FA) : (srtL fs).length = fs.length := by rw [(srt_perm fs).length_eq, List.length_map]
theorem srt_nodup {fs : List FA} (h : (fs.map (·.nm)).Nodup) : (srtL fs).Nodup := by
 refine (srt_perm fs).nodup_iff.2 ?_;have : (fs.map fun x => bl x.nm) = (fs.map (·.nm)).map bl := by simp
 rw [this];exact List.pairwise_map.2 (h.imp fun hne e => hne (bl_inj e))
theorem rank_at {fs : List FA} (h : (fs.map (·.nm)).Nodup) {k : Nat} {nm : ByteArray} (hk : (srtL fs)[k]? = some (bl nm)) : rankF fs nm = k := by
 obtain ⟨hlt, e⟩ := List.getElem?_eq_some_iff.1 hk
 unfold rankF
 rw [← e];exact (srt_nodup h).idxOf_getElem k hlt
theorem rank_eq {fs : List FA} {k : Nat} {nm nm' : ByteArray} (hk : (srtL fs)[k]? = some (bl nm)) (hm : ∃ x ∈ fs, x.nm = nm') (hr : rankF fs nm' = k) : nm' = nm := by
 obtain ⟨x, hx, rfl⟩ := hm;have hmem : bl x.nm ∈ srtL fs := (srt_perm fs).mem_iff.2 (List.mem_map.2 ⟨x, hx, rfl⟩);have h1 : (srtL fs)[rankF fs x.nm]? = some (bl x.nm) := by
  have hlt := List.idxOf_lt_length_of_mem hmem;rw [rankF, List.getElem?_eq_getElem hlt, List.getElem_idxOf hlt]
 rw [hr, hk] at h1;exact (bl_inj (Option.some.inj h1)).symm
theorem wk_nm (fs : List FA) (ks : List Int) (k : Nat) : (wkK fs ks k).map (·.nm) = fs.map (·.nm) := by
 rw [wkK, List.map_map];refine List.map_congr_left fun x _ => ?_
 simp only [Function.comp_apply]
 split <;> rfl
theorem wk_step {fs : List FA} {ks : List Int} {k : Nat} {nm : ByteArray} {z : Int} (h : (fs.map (·.nm)).Nodup) (hk : (srtL fs)[k]? = some (bl nm)) (hz : z = ks.getD k 0) : updF (wkK fs ks k) nm (fun x => cutA x z) = wkK fs ks (k + 1) := by
 subst hz;have hr := rank_at h hk;rw [updF, wkK, wkK, List.map_map];refine List.map_congr_left fun x hx => ?_
 simp only [Function.comp_apply]
 by_cases e : x.nm = nm
 ·have h1 : rankF fs x.nm = k := by rw [e]; exact hr
  have h2 : (if rankF fs x.nm < k then cutA x (ks.getD (rankF fs x.nm) 0) else x) = x := if_neg (by omega);rw [h2, if_pos e, if_pos (by omega), h1]
 ·have h1 : rankF fs x.nm ≠ k := fun h2 => e (rank_eq hk ⟨x, hx, rfl⟩ h2)
  by_cases h2 : rankF fs x.nm < k
  ·have h3 : (if rankF fs x.nm < k then cutA x (ks.getD (rankF fs x.nm) 0) else x) = cutA x (ks.getD (rankF fs x.nm) 0) := if_pos h2;rw [h3, if_neg (show ¬ (cutA x (ks.getD (rankF fs x.nm) 0)).nm = nm from e), if_pos (by omega)]
  ·have h3 : (if rankF fs x.nm < k then cutA x (ks.getD (rankF fs x.nm) 0) else x) = x := if_neg h2;rw [h3, if_neg e, if_neg (by omega)]
theorem wk_file {fs : List FA} {ks : List Int} {k : Nat} {fl : List Fl} (hk : k < fs.length) (h : fl.map ab = wkK fs ks k) : ∃ A f B, fl = A ++ f :: B ∧ (srtL fs)[k]? = some (bl f.nm) := by
 have hlt : k < (srtL fs).length := by rw [srt_len]; exact hk
 have hmem : (srtL fs)[k] ∈ fs.map fun x => bl x.nm := (srt_perm fs).mem_iff.1 (List.getElem_mem hlt)
 obtain ⟨x, hx, e⟩ := List.mem_map.1 hmem;have h1 : x.nm ∈ fl.map (·.nm) := by
  have : fl.map (·.nm) = (fl.map ab).map (·.nm) := by rw [List.map_map]; rfl
  rw [this, h, wk_nm];exact List.mem_map.2 ⟨x, hx, rfl⟩
 obtain ⟨f, hf, e2⟩ := List.mem_map.1 h1;obtain ⟨A, B, rfl⟩ := List.append_of_mem hf;exact ⟨A, f, B, rfl, by rw [List.getElem?_eq_getElem hlt, ← e, e2]⟩
theorem used_cut {A B : List Fl} {f g : Fl} (h : g.da.length ≤ f.da.length) : used ((A ++ g :: B).map ab) + (f.da.length - g.da.length) = used ((A ++ f :: B).map ab) := by
 have e : ∀ x : Fl, used ((A ++ x :: B).map ab) = used (A.map ab) + x.da.length + used (B.map ab) := fun x => by simp [used, ab]; omega
 rw [e, e]
 omega
theorem Row.at {e : TypeId} {n k c : Nat} {p : Option Addr} {xs : List Value} {Lr : BL} (h : Row e 1 (.slice p n c) n xs Lr) (hk : k < n) : ∃ g cur, p = some ⟨g, 0, none⟩ ∧ Lr = [(g, e, cur)] ∧ cur[k]? = xs[k]? := by
 rcases h.2 with ⟨h1, h2, _⟩ | ⟨g, cap, cur, h1, h2, _, _, h5, h6⟩
 ·omega
 ·refine ⟨g, cur, ?_, h2, ?_⟩
  ·simp only [Value.slice.injEq] at h1
   exact h1.1
  ·rw [Nat.mul_one] at h6;rw [← h6, List.getElem?_take, if_pos hk, Array.getElem?_toList]
theorem RowB.cut' {p : Option Addr} {c : Nat} {da : List UInt8} {Lr : BL} (h : RowB (.slice p da.length c) da Lr) (n : Nat) (hn : n ≤ da.length) : n ≤ c ∧ RowB (.slice p n c) (da.take n) Lr := by
 obtain ⟨a, cap, h1, h2, h3⟩ := h.cut n hn
 simp only [Value.slice.injEq] at h1
 obtain ⟨rfl, _, rfl⟩ := h1;exact ⟨h2, h3⟩
section
variable {ρ : Operand → Value} {x y : Operand} {w : World} {dst : Option Tmp} {ty : TypeId} {pos : String} {aft : Array Edge} {gd : Option (Nat × Bool)}
theorem run_addr_p {p : Option Addr} {g n c i : Nat} (hp : p = some ⟨g, 0, none⟩) (hx : ρ x = .slice p n c) (hy : ρ y = i6 i) (hi : i < n) : (execOp ρ ⟨dst, .indexAddr 39 x y, ty, pos, aft, gd⟩).run prog w = .ok (.value (.pointer (some ⟨g, i, none⟩))) w := by
 subst hp;exact run_addr_slice (q := g) (n := n) (m := c) (a := i) underlying39 sizeOf9 hx hy hi
theorem run_addr_o {p : Option Addr} {b : Addr} {n c i : Nat} (hp : p = some b) (hx : ρ x = .slice p n c) (hy : ρ y = i6 i) (hi : i < n) : (execOp ρ ⟨dst, .indexAddr 27 x y, ty, pos, aft, gd⟩).run prog w = .ok (.value (.pointer (some (b.add i)))) w := by
 subst hp
 simp only [execOp, hx, hy, iN]
 go_simp
theorem run_load_at {T : TypeId} {b : Addr} {v : Value} (hT : ∀ w, (isAgg T).run prog w = .ok false w)  (h : w.cell? b = some v) (hx : ρ x = .pointer (some b) := by kernel_rfl) : (execOp ρ ⟨dst, .load T x, ty, pos, aft, gd⟩).run prog w = .ok (.value v) w := by
 simp only [execOp, hx]
 simp [go_sem, hT, h]
end
def KV (w0 : World) (L : BL) (o : Option Addr) (ks : List Int) : Prop :=
 ks = [] ∨ ∃ b, o = some b ∧ ∀ (M : ML) (A : BL) (w : World), HA ⟨w0, M⟩ (A ++ L) w → ∀ j, j < ks.length → w.cell? (b.add j) = some (.int .i64 (ks.getD j 0))
theorem add_lit (b j : Nat) : (⟨b, 0, none⟩ : Addr).add j = ⟨b, j, none⟩ := by unfold Addr.add; split <;> simp_all
theorem cell_old {W w : World} {a : Addr} {v : Value} (hb : Below W.heap.size W w) (h : W.cell? a = some v) : w.cell? a = some v := by
 have hlt : a.block < W.heap.size := by
  unfold World.cell? at h
  cases hh : W.heap[a.block]? with
  | none => simp [hh] at h
  | some o => exact lt_of_block hh
 have := hb.block a.block hlt
 unfold World.cell? at h ⊢
 rw [this];exact h
theorem enc_nm (s : ByteArray) : encStr (bl s) = .string s := by simp [encStr, bl]
end Go.Proofs.YtckmlaempffpjaaGreat
namespace Go.Proofs.YtckmlaempffpjaaGreat
set_option linter.unusedVariables false
set_option maxRecDepth 100000
set_option maxHeartbeats 2000000
open Go.RowKit Go.Proofs.Tryz
def wakeD (D : DS) (ks : List Int) : DS := ⟨wkK D.fs ks D.fs.length, D.free + used D.fs - used (wkK D.fs ks D.fs.length), 0, false, D.sizes⟩
theorem wk_used (fs : List FA) (ks : List Int) (k : Nat) : used (wkK fs ks k) ≤ used fs := by
 unfold wkK
 generalize rankF fs = r
 induction fs with
 | nil => exact Nat.le_refl _
 | cons x l ih =>
  simp only [used, List.map_cons, List.sum_cons] at ih ⊢
  have : (if r x.nm < k then cutA x (ks.getD (r x.nm) 0) else x).da.length ≤ x.da.length := by
   split
   ·simp only [cutA, List.length_take]; omega
   ·exact Nat.le_refl _
  omega
theorem Wake_any {w0 : World} {M : ML} {d : Dk} {D : DS} {L : BL} {w : World} (hD : DH w0 M d D L w) {o : Option Addr} {c : Nat} {ks : List Int} (hkv : KV w0 L o ks) (hkn : ks.length ≤ 1000000000) {U N : Nat} (hb : DB D U N) (hU : U ≤ 1000000000) (hN0 : N ≤ 1000000000) :
  Calls prog 20 #[pt d.q, .slice o ks.length c] w fun e w' => e = .returned (i6 0) ∧ DH w0 M d (wakeD D ks) L w' := by
 obtain ⟨fl, nx, v, Lr, hfl, hK, hR, H0⟩ := hD;have hfn : fl.length = D.fs.length := by rw [← hfl, List.length_map]
 have hlen : fl.length ≤ 1000000000 := by have := hb.ct; omega
 have hns : ∀ f ∈ fl, f.nm.size ≤ 64 := fun f hf => hb.nm (ab f) (by rw [← hfl]; exact List.mem_map.2 ⟨f, hf, rfl⟩)
 have hnd : (D.fs.map (·.nm)).Nodup := by rw [← hfl, List.map_map]; exact hK.nms
 have hrm := hb.rm;have hus := hb.us
 go_enter Tryz.func20, Tryz.ntmps20
 refine zsr (zv (znt (wp_seq (zsr (zv ?_)))));refine wl_call (v := .bool false) H0 enter57 #[pq d.q] (none_no (H0.get 0 rfl)) ?_;intro w1 h2;refine znt (zcf (wp_skip (zt (wp_seq (zsr (zv (zv (zv ?_))))))));refine zwu (v := .map (some d.r)) (run_load1 isAgg76 (((h2.get 0 rfl).cell 0).trans rfl)) ?_;refine wl_callx enter59 #[.map (some d.r)] (keys_any d.r w1) ?_;rintro _ w3 ⟨rfl, hkw⟩;refine ⟨_, rfl, ?_⟩;subst hkw;have h4 := h2.make 76 #[.map (some d.r)];generalize hkb : w1.heap.size = kb at h4 ⊢;generalize World.alloc w1 _ = w5 at h4 ⊢;refine wl_callx enter58 #[.func (.func 108) #[] #[pq kb]] (sorted_any hK hns hlen (h4.old.maps _ (List.mem_cons_self ..)) (h4.get 0 rfl)) ?_;rintro _ w6 ⟨vN, rfl, hrow, hbs⟩;refine ⟨_, rfl, ?_⟩;obtain ⟨LN, hN, hO⟩ := h4.owned hbs hrow;obtain ⟨pN, cN, rfl⟩ := hN.form;have h7 : HA ⟨w0, (d.r, .mp (eF fl) nx) :: M⟩ ((d.q, 78, dcell d.r D.free D.left D.down v) :: ((LN ++ Lr) ++ (FB fl ++ L))) w6 := by
  refine (hO.sub (List.Sublist.append_left (List.sublist_cons_self _ _) LN)).perm ?_;rw [List.append_assoc];exact perm_mv LN [(d.q, 78, dcell d.r D.free D.left D.down v)] (Lr ++ (FB fl ++ L))
 refine zv (zv (znt ?_));refine wp_block ?_;refine zcn (fun Z0 k A w' => ∃ u8 : Nat → Value, A = pts Z0 [(5, u8 5), (6, u8 6), (7, u8 7), (17, i6 k), (18, u8 18), (19, u8 19), (20, u8 20), (21, u8 21), (22, u8 22), (23, u8 23), (24, u8 24), (25, u8 25), (26, u8 26), (27, u8 27), (28, u8 28), (29, u8 29), (30, u8 30), (31, u8 31), (32, u8 32), (33, u8 33), (34, u8 34), (35, u8 35), (36, u8 36), (37, u8 37), (38, u8 38), (39, u8 39), (40, u8 40), (41, u8 41), (42, u8 42), (43, u8 43), (44, u8 44), (45, u8 45)] ∧ ∃ fl2, fl2.map ab = wkK D.fs ks k ∧ FK fl2 nx ∧ eF fl2 = eF fl ∧ HA ⟨w0, (d.r, .mp (eF fl) nx) :: M⟩ ((d.q, 78, dcell d.r (D.free + used D.fs - used (wkK D.fs ks k)) D.left D.down v) :: ((LN ++ Lr) ++ (FB fl2 ++ L))) w') fl.length ?_ ?_ ?_
 ·exact zey [] ⟨fl, by rw [wk_zero, hfl], hK, rfl, by rw [wk_zero, show D.free + used D.fs - used D.fs = D.free by omega]; exact h7⟩
 ·rintro k hk _ w9 ⟨u8, rfl, fl2, hw2, hK2, hE, hL⟩;rw [← hE] at hL;obtain ⟨A, f, B, rfl, hnk⟩ := wk_file (by rw [← hfn]; exact hk) hw2;obtain ⟨gN, curN, hpN, hLN, hcN⟩ := hN.at hk;have hnm : curN[k]? = some (.string f.nm) := by rw [hcN, List.getElem?_map, hfl, hnk, Option.map_some, enc_nm]
  have hrow2 := hK2.row f (by simp);obtain ⟨pf, cf, hv⟩ := hrow2.form;rw [hv] at hrow2;have hsy := hK2.syn f (by simp);have hfd : f.da.length ≤ used (wkK D.fs ks k) := by rw [← hw2]; exact used_mem (x := ab f) (by simp)
  have hwu := wk_used D.fs ks k;have hL := hL.file;rw [hv] at hL;refine zsr ?_;refine zwu (run_lss (k := .i64) (a := k) (b := fl.length) true (dt (by omega))) ?_;refine znt (zit (wp_seq ?_));refine wp_block ?_;refine zsr (zv ?_);refine zwu (v := .pointer (some ⟨gN, k, none⟩)) (run_addr_p (g := gN) (n := fl.length) (c := cN) (i := k) hpN (by kernel_rfl) (by kernel_rfl) hk) ?_;refine zwu (v := .string f.nm) (run_load1 isAgg9 (((hL.blk (gN, 9, curN) (by simp [hLN])).cell k).trans hnm)) ?_;refine zv (zv (znt (zsr (zv (znt (wp_seq (wp_seq ?_)))))))
  by_cases hkl : k < ks.length
  ·obtain ⟨st, hst⟩ : ∃ st, stayN (ks.getD k 0) (f.da.length - f.sy) = st := ⟨_, rfl⟩;have hle := stayN_le (ks.getD k 0) (f.da.length - f.sy);rw [hst] at hle;obtain ⟨kbb, hko, hkc⟩ := hkv.resolve_left (fun e => by rw [e] at hkl; cases hkl);refine wl_region (zv (zv (zv ?_)));refine zwu (run_lss (k := .i64) (a := k) (b := ks.length) true (dt hkl)) ?_;refine znt (zct (wl_region (zv (zv ?_))));refine zwu (v := .pointer (some (kbb.add k))) (run_addr_o (b := kbb) (n := ks.length) (c := c) (i := k) hko (by kernel_rfl) (by kernel_rfl) hkl) ?_;refine zwu (v := .int .i64 (ks.getD k 0)) (run_load_at (b := kbb.add k) isAgg3 (hkc _ ((d.q, 78, dcell d.r (D.free + used D.fs - used (wkK D.fs ks k)) D.left D.down v) :: (f.p, 109, fcell (.slice pf f.da.length cf) f.sy) :: (f.Lr ++ ((LN ++ Lr) ++ FB (A ++ B)))) _ (by simpa [List.append_assoc] using hL) k hkl)) ?_;refine zv (znt ?_);refine zxr (HA ⟨w0, (d.r, .mp (eF (A ++ f :: B)) nx) :: M⟩ [(d.q, 78, dcell d.r (D.free + used D.fs - used (wkK D.fs ks k)) D.left D.down v)]) (fun Z0 AQ w' => AQ = pts Z0 [(30, pt d.q), (31, pt d.q), (32, .pointer (some ⟨d.q, 1, none⟩)), (33, i6 (D.free + used D.fs - used (wkK D.fs ks k))), (34, pt d.q), (35, pt d.q), (36, pt d.q), (37, .map (some d.r)), (38, .string f.nm), (39, pt f.p), (40, .int .i64 (ks.getD k 0)), (41, i6 (f.da.length - f.sy - st)), (42, i6 ((D.free + used D.fs - used (wkK D.fs ks k)) + (f.da.length - f.sy - st))), (43, pt d.q), (44, .pointer (some ⟨d.q, 1, none⟩))] ∧ HA ⟨w0, (d.r, .mp (eF (A ++ f :: B)) nx) :: M⟩ ((d.q, 78, dcell d.r ((D.free + used D.fs - used (wkK D.fs ks k)) + (f.da.length - f.sy - st)) D.left D.down v) :: (f.p, 109, fcell (.slice pf (f.sy + st) cf) (f.sy + st)) :: (f.Lr ++ ((LN ++ Lr) ++ (FB (A ++ B) ++ L)))) w') 16 (hL.drew.sub (sc (List.nil_sublist _))) ?_ ?_
   ·have h10 := hL.drew;refine zxp 0 rfl ?_;refine zxp 1 rfl ?_;refine zxp 2 rfl ?_;refine wx_val (i := 3) (i6 (D.free + used D.fs - used (wkK D.fs ks k))) rfl rfl (fun w' h' => run_load1 isAgg3 (((h'.get 0 rfl).cell 1).trans rfl)) ?_;refine zxp 4 rfl ?_;refine zxp 5 rfl ?_;refine zxp 6 rfl ?_;refine wx_val (i := 7) (.map (some d.r)) rfl rfl (fun w' h' => run_load1 isAgg76 (((h'.get 0 rfl).cell 0).trans rfl)) ?_;refine zxp 8 rfl ?_;refine wx_val (i := 9) (pq f.p) rfl rfl (fun w' h' => run_look_yes (h'.old.maps _ (List.mem_cons_self ..)) rfl hK2.apartA) ?_;refine zxp 10 rfl ?_;refine wx_one 11 ?_;refine ex_callx rfl h10 enter60 #[pq f.p, .int .i64 (ks.getD k 0)] (fun w11 h12 => lose_any (k := ks.getD k 0) (h12.perm (List.Perm.swap _ _ _)) hsy (by omega) (hrow2.cut' _ (Nat.le_refl _)).1 hst) ?_;rintro w11 h12 _ w13 ⟨rfl, hlo⟩;have h14 : HA ⟨w0, (d.r, .mp (eF (A ++ f :: B)) nx) :: M⟩ ((d.q, 78, dcell d.r (D.free + used D.fs - used (wkK D.fs ks k)) D.left D.down v) :: (f.p, 109, fcell (.slice pf (f.sy + st) cf) (f.sy + st)) :: (f.Lr ++ ((LN ++ Lr) ++ (FB (A ++ B) ++ L)))) w13 := hlo.perm (List.Perm.swap _ _ _);refine ⟨_, rfl, _, .inr rfl, (h14.sub (sc (List.nil_sublist _))), ?_⟩;refine wx_pure (i := 12) (i6 ((D.free + used D.fs - used (wkK D.fs ks k)) + (f.da.length - f.sy - st))) rfl rfl (hr := (fun _ => (run_add (k := .i64) (a := D.free + used D.fs - used (wkK D.fs ks k)) (b := f.da.length - f.sy - st) (by first | omega | (simp only [top]; omega))))) ?_;refine zxp 13 rfl ?_;refine zxp 14 rfl ?_;refine wx_one 15 ?_;refine ex_skip rfl h14 fun w15 h16 => ⟨_, run_storev (v := i6 ((D.free + used D.fs - used (wkK D.fs ks k)) + (f.da.length - f.sy - st))) sizeOf3 (by rw [(h16.get 0 rfl).cell]; rfl) ((h16.get 0 rfl).free _ (by show 1 < 5; decide)), _, h16.put 0 rfl 1 _, ?_⟩
    have h17 : HA ⟨w0, (d.r, .mp (eF (A ++ f :: B)) nx) :: M⟩ ((d.q, 78, dcell d.r ((D.free + used D.fs - used (wkK D.fs ks k)) + (f.da.length - f.sy - st)) D.left D.down v) :: (f.p, 109, fcell (.slice pf (f.sy + st) cf) (f.sy + st)) :: (f.Lr ++ ((LN ++ Lr) ++ (FB (A ++ B) ++ L)))) _ := h16.put 0 rfl 1 (i6 ((D.free + used D.fs - used (wkK D.fs ks k)) + (f.da.length - f.sy - st)));refine wx_end fun w18 hbx _ => ?_
    have h19 := HA.keep _ _ h17 hbx;exact ⟨by kernel_rfl, h19⟩
   ·rintro _ w20 ⟨rfl, h21⟩;refine block_normal ?_;refine zt (wl_region ?_);refine zwu (run_add (k := .i64) (a := k) (b := 1) (by first | omega | (simp only [top]; omega))) ?_;refine zv (wl_nil ?_);have hup := upd_at hK2 ⟨f.nm, f.p, f.da.take (f.sy + st), f.sy + st, .slice pf (f.sy + st) cf, f.Lr, f.bn⟩ (fun x => cutA x (ks.getD k 0)) (by simp only [cutA, ab, hst]);rw [hw2, wk_step hnd hnk rfl] at hup;have huc := used_cut (A := A) (B := B) (f := f) (g := ⟨f.nm, f.p, f.da.take (f.sy + st), f.sy + st, .slice pf (f.sy + st) cf, f.Lr, f.bn⟩) (by simp; omega);rw [hup, hw2] at huc;have hgl : (f.da.take (f.sy + st)).length = f.sy + st := by rw [List.length_take]; omega
    have hK3 := hK2.turn (g := ⟨f.nm, f.p, f.da.take (f.sy + st), f.sy + st, .slice pf (f.sy + st) cf, f.Lr, f.bn⟩) rfl rfl (hrow2.cut' _ (by omega)).2 (by show f.sy + st ≤ (f.da.take (f.sy + st)).length; omega)
    simp only [hgl] at huc
    exact then_I (zey [] ⟨A ++ ⟨f.nm, f.p, f.da.take (f.sy + st), f.sy + st, .slice pf (f.sy + st) cf, f.Lr, f.bn⟩ :: B, hup, hK3, by rw [← hE, eF_same (g := ⟨f.nm, f.p, f.da.take (f.sy + st), f.sy + st, .slice pf (f.sy + st) cf, f.Lr, f.bn⟩) (f := f) rfl rfl rfl], by rw [← hE, show D.free + used D.fs - used (wkK D.fs ks (k + 1)) = D.free + used D.fs - used (wkK D.fs ks k) + (f.da.length - f.sy - st) by omega]; exact HA.unfile (f := ⟨f.nm, f.p, f.da.take (f.sy + st), f.sy + st, .slice pf (f.sy + st) cf, f.Lr, f.bn⟩) h21⟩)
  ·obtain ⟨st, hst⟩ : ∃ st, stayN (0) (f.da.length - f.sy) = st := ⟨_, rfl⟩;have hle := stayN_le (0) (f.da.length - f.sy);rw [hst] at hle;refine wl_region (zv (zv (zv ?_)));refine zwu (run_lss (k := .i64) (a := k) (b := ks.length) false (df hkl)) ?_;refine znt (zcf (wp_skip (zt ?_)));refine zxr (HA ⟨w0, (d.r, .mp (eF (A ++ f :: B)) nx) :: M⟩ [(d.q, 78, dcell d.r (D.free + used D.fs - used (wkK D.fs ks k)) D.left D.down v)]) (fun Z0 AQ w' => AQ = pts Z0 [(30, pt d.q), (31, pt d.q), (32, .pointer (some ⟨d.q, 1, none⟩)), (33, i6 (D.free + used D.fs - used (wkK D.fs ks k))), (34, pt d.q), (35, pt d.q), (36, pt d.q), (37, .map (some d.r)), (38, .string f.nm), (39, pt f.p), (40, i6 0), (41, i6 (f.da.length - f.sy - st)), (42, i6 ((D.free + used D.fs - used (wkK D.fs ks k)) + (f.da.length - f.sy - st))), (43, pt d.q), (44, .pointer (some ⟨d.q, 1, none⟩))] ∧ HA ⟨w0, (d.r, .mp (eF (A ++ f :: B)) nx) :: M⟩ ((d.q, 78, dcell d.r ((D.free + used D.fs - used (wkK D.fs ks k)) + (f.da.length - f.sy - st)) D.left D.down v) :: (f.p, 109, fcell (.slice pf (f.sy + st) cf) (f.sy + st)) :: (f.Lr ++ ((LN ++ Lr) ++ (FB (A ++ B) ++ L)))) w') 16 (hL.drew.sub (sc (List.nil_sublist _))) ?_ ?_
   ·have h22 := hL.drew;refine zxp 0 rfl ?_;refine zxp 1 rfl ?_;refine zxp 2 rfl ?_;refine wx_val (i := 3) (i6 (D.free + used D.fs - used (wkK D.fs ks k))) rfl rfl (fun w' h' => run_load1 isAgg3 (((h'.get 0 rfl).cell 1).trans rfl)) ?_;refine zxp 4 rfl ?_;refine zxp 5 rfl ?_;refine zxp 6 rfl ?_;refine wx_val (i := 7) (.map (some d.r)) rfl rfl (fun w' h' => run_load1 isAgg76 (((h'.get 0 rfl).cell 0).trans rfl)) ?_;refine zxp 8 rfl ?_;refine wx_val (i := 9) (pq f.p) rfl rfl (fun w' h' => run_look_yes (h'.old.maps _ (List.mem_cons_self ..)) rfl hK2.apartA) ?_;refine zxp 10 rfl ?_;refine wx_one 11 ?_;refine ex_callx rfl h22 enter60 #[pq f.p, i6 0] (fun w23 h24 => lose_any (k := 0) (h24.perm (List.Perm.swap _ _ _)) hsy (by omega) (hrow2.cut' _ (Nat.le_refl _)).1 hst) ?_;rintro w23 h24 _ w25 ⟨rfl, hlo⟩;have h26 : HA ⟨w0, (d.r, .mp (eF (A ++ f :: B)) nx) :: M⟩ ((d.q, 78, dcell d.r (D.free + used D.fs - used (wkK D.fs ks k)) D.left D.down v) :: (f.p, 109, fcell (.slice pf (f.sy + st) cf) (f.sy + st)) :: (f.Lr ++ ((LN ++ Lr) ++ (FB (A ++ B) ++ L)))) w25 := hlo.perm (List.Perm.swap _ _ _);refine ⟨_, rfl, _, .inr rfl, (h26.sub (sc (List.nil_sublist _))), ?_⟩;refine wx_pure (i := 12) (i6 ((D.free + used D.fs - used (wkK D.fs ks k)) + (f.da.length - f.sy - st))) rfl rfl (hr := (fun _ => (run_add (k := .i64) (a := D.free + used D.fs - used (wkK D.fs ks k)) (b := f.da.length - f.sy - st) (by first | omega | (simp only [top]; omega))))) ?_;refine zxp 13 rfl ?_;refine zxp 14 rfl ?_;refine wx_one 15 ?_;refine ex_skip rfl h26 fun w27 h28 => ⟨_, run_storev (v := i6 ((D.free + used D.fs - used (wkK D.fs ks k)) + (f.da.length - f.sy - st))) sizeOf3 (by rw [(h28.get 0 rfl).cell]; rfl) ((h28.get 0 rfl).free _ (by show 1 < 5; decide)), _, h28.put 0 rfl 1 _, ?_⟩
    have h29 : HA ⟨w0, (d.r, .mp (eF (A ++ f :: B)) nx) :: M⟩ ((d.q, 78, dcell d.r ((D.free + used D.fs - used (wkK D.fs ks k)) + (f.da.length - f.sy - st)) D.left D.down v) :: (f.p, 109, fcell (.slice pf (f.sy + st) cf) (f.sy + st)) :: (f.Lr ++ ((LN ++ Lr) ++ (FB (A ++ B) ++ L)))) _ := h28.put 0 rfl 1 (i6 ((D.free + used D.fs - used (wkK D.fs ks k)) + (f.da.length - f.sy - st)));refine wx_end fun w30 hbx _ => ?_
    have h31 := HA.keep _ _ h29 hbx;exact ⟨by kernel_rfl, h31⟩
   ·rintro _ w32 ⟨rfl, h33⟩;refine block_normal ?_;refine zt (wl_region ?_);refine zwu (run_add (k := .i64) (a := k) (b := 1) (by first | omega | (simp only [top]; omega))) ?_;refine zv (wl_nil ?_);have hup := upd_at hK2 ⟨f.nm, f.p, f.da.take (f.sy + st), f.sy + st, .slice pf (f.sy + st) cf, f.Lr, f.bn⟩ (fun x => cutA x (0)) (by simp only [cutA, ab, hst]);rw [hw2, wk_step hnd hnk (by rw [List.getD_eq_getElem?_getD, List.getElem?_eq_none (by omega)]; rfl)] at hup;have huc := used_cut (A := A) (B := B) (f := f) (g := ⟨f.nm, f.p, f.da.take (f.sy + st), f.sy + st, .slice pf (f.sy + st) cf, f.Lr, f.bn⟩) (by simp; omega);rw [hup, hw2] at huc;have hgl : (f.da.take (f.sy + st)).length = f.sy + st := by rw [List.length_take]; omega
    have hK3 := hK2.turn (g := ⟨f.nm, f.p, f.da.take (f.sy + st), f.sy + st, .slice pf (f.sy + st) cf, f.Lr, f.bn⟩) rfl rfl (hrow2.cut' _ (by omega)).2 (by show f.sy + st ≤ (f.da.take (f.sy + st)).length; omega)
    simp only [hgl] at huc
    exact then_I (zey [] ⟨A ++ ⟨f.nm, f.p, f.da.take (f.sy + st), f.sy + st, .slice pf (f.sy + st) cf, f.Lr, f.bn⟩ :: B, hup, hK3, by rw [← hE, eF_same (g := ⟨f.nm, f.p, f.da.take (f.sy + st), f.sy + st, .slice pf (f.sy + st) cf, f.Lr, f.bn⟩) (f := f) rfl rfl rfl], by rw [← hE, show D.free + used D.fs - used (wkK D.fs ks (k + 1)) = D.free + used D.fs - used (wkK D.fs ks k) + (f.da.length - f.sy - st) by omega]; exact HA.unfile (f := ⟨f.nm, f.p, f.da.take (f.sy + st), f.sy + st, .slice pf (f.sy + st) cf, f.Lr, f.bn⟩) h33⟩)
 ·rintro _ w34 ⟨u8, rfl, fl2, hw2, hK2, hE, hL⟩;refine zsr ?_;refine zwu (run_lss (k := .i64) (a := fl.length) (b := fl.length) false (df (by omega))) ?_;refine znt (wp_seq (zcf ?_));refine wp_exit ?_
  repeat first | refine then_exit ?_ | refine block_exit ?_ | refine block_exit_ne (by decide) ?_
  refine zt (zsr (zv (zv (zv (zv ?_)))));refine wl_putv (v := i6 0) hL 0 rfl 2 (by show 2 < 5; decide) sizeOf3 ?_;intro w35 h36;refine zv (zv ?_);refine wl_putv (v := .bool false) h36 0 rfl 3 (by show 3 < 5; decide) sizeOf4 ?_;intro w37 h38;refine znt (zsr (zv (znt ?_)));refine wp_ret ?_
  repeat first|refine zrt ?_|refine block_ret ?_
  exact zb ⟨rfl, fl2, nx, v, Lr, by rw [hw2, hfn]; rfl, hK2, hR, by rw [hE, show (wakeD D ks).free = D.free + used D.fs - used (wkK D.fs ks fl.length) by rw [hfn]; rfl]; exact h38.sub (sc (by rw [List.append_assoc]; exact List.sublist_append_right LN _))⟩
end Go.Proofs.YtckmlaempffpjaaGreat
