/-
  How great a disk may be, operation by operation; a disk and what lies beside it.
-/
import Derived.Test.YtjedhnjjgmbcbaaD11
namespace Go.Proofs.Ytjedhnjjgmbcbaa
open Go.RowKit

theorem updF_nm (fs : List FA) (nm : ByteArray) (g : FA → FA) (hg : ∀ x, (g x).nm = x.nm) : (updF fs nm g).map (·.nm) = fs.map (·.nm) := by
  rw [updF, List.map_map]
  refine List.map_congr_left fun x _ => ?_
  simp only [Function.comp_apply]
  split
  · exact hg x
  · rfl
theorem updF_no {fs : List FA} {nm : ByteArray} {g : FA → FA} (h : ∀ x ∈ fs, x.nm ≠ nm) : updF fs nm g = fs := by
  rw [updF]
  conv => rhs; rw [← List.map_id fs]
  exact List.map_congr_left fun x hx => if_neg (h x hx)
theorem used_app {nm : ByteArray} {l : List UInt8} : ∀ {fs : List FA}, (fs.map (·.nm)).Nodup → (∃ x ∈ fs, x.nm = nm) → used (updF fs nm (fun x => { x with da := x.da ++ l })) = used fs + l.length
  | [], _, h => by obtain ⟨x, hx, _⟩ := h; cases hx
  | y :: fs, hn, h => by
    rw [List.map_cons, List.nodup_cons] at hn
    by_cases e : y.nm = nm
    · have hno : ∀ x ∈ fs, x.nm ≠ nm := fun x hx e2 => hn.1 (List.mem_map.2 ⟨x, hx, e2.trans e.symm⟩)
      have h1 : updF (y :: fs) nm (fun x => { x with da := x.da ++ l }) = { y with da := y.da ++ l } :: updF fs nm (fun x => { x with da := x.da ++ l }) := by simp [updF, e]
      rw [h1, updF_no hno]
      simp only [used, List.map_cons, List.sum_cons, List.length_append]
      omega
    · have h1 : updF (y :: fs) nm (fun x => { x with da := x.da ++ l }) = y :: updF fs nm (fun x => { x with da := x.da ++ l }) := by simp [updF, e]
      have hex : ∃ x ∈ fs, x.nm = nm := by
        obtain ⟨x, hx, e2⟩ := h
        rcases List.mem_cons.1 hx with rfl | hx
        · exact absurd e2 e
        · exact ⟨x, hx, e2⟩
      have ih := used_app (l := l) hn.2 hex
      rw [h1]
      simp only [used, List.map_cons, List.sum_cons] at ih ⊢
      omega
theorem mkF_has (fs : List FA) (nm : ByteArray) : ∃ x ∈ mkF fs nm, x.nm = nm := by
  unfold mkF
  split
  · rename_i h; exact h
  · exact ⟨⟨nm, [], 0⟩, by simp, rfl⟩
theorem mkF_nodup {fs : List FA} (h : (fs.map (·.nm)).Nodup) (nm : ByteArray) : ((mkF fs nm).map (·.nm)).Nodup := by
  unfold mkF
  split
  · exact h
  · rename_i hno
    rw [List.map_append, List.nodup_append]
    exact ⟨h, by simp, fun a ha b hb e => by
      obtain ⟨x, hx, rfl⟩ := List.mem_map.1 ha
      exact hno ⟨x, hx, by simpa [e] using hb⟩⟩
theorem mkF_mem {fs : List FA} {nm : ByteArray} {x : FA} (h : x ∈ mkF fs nm) : x ∈ fs ∨ x = ⟨nm, [], 0⟩ := by
  unfold mkF at h
  split at h
  · exact .inl h
  · rcases List.mem_append.1 h with h | h
    · exact .inl h
    · exact .inr (by simpa using h)
theorem mkF_len (fs : List FA) (nm : ByteArray) : (mkF fs nm).length ≤ fs.length + 1 := by
  unfold mkF
  split <;> simp
theorem nm_size {nm : ByteArray} (h : isNm nm = true) : nm.size ≤ 64 := by
  simp only [isNm, decide_eq_true_eq] at h
  exact h.2
theorem DB.mono {D : DS} {U N U' N' : Nat} (h : DB D U N) (hU : U ≤ U') (hN : N ≤ N') : DB D U' N' := ⟨h.rm, h.lf, Nat.le_trans h.us hU, Nat.le_trans h.sz hN, h.nm, Nat.le_trans h.ct hN, h.nd⟩
theorem app_DB {D : DS} {U N : Nat} (h : DB D U N) (nm s : ByteArray) : DB (appD D nm s).1 (U + s.size) (N + 1) ∧ (appD D nm s).1.sizes.length ≤ N := by
  unfold appD
  split
  · exact ⟨h.mono (by omega) (by omega), h.sz⟩
  · rename_i hn
    split
    · exact ⟨h.mono (by omega) (by omega), h.sz⟩
    · rename_i hf
      have hn' : isNm nm = true := by cases h : isNm nm <;> simp_all
      have hu : used (updF (mkF D.fs nm) nm (fun x => { x with da := x.da ++ bl s })) = used D.fs + s.size := by rw [used_app (mkF_nodup h.nd nm) (mkF_has _ _), used_mkF, bl_len]
      have h1 := h.rm
      have h2 := h.us
      refine ⟨⟨?_, h.lf, ?_, Nat.le_succ_of_le h.sz, fun x hx => ?_, ?_, ?_⟩, h.sz⟩
      · show D.free - s.size + used (updF (mkF D.fs nm) nm (fun x => { x with da := x.da ++ bl s })) ≤ _
        rw [hu]; omega
      · show used (updF (mkF D.fs nm) nm (fun x => { x with da := x.da ++ bl s })) ≤ _
        rw [hu]; omega
      · have : x.nm ∈ (mkF D.fs nm).map (·.nm) := by
          rw [← updF_nm (mkF D.fs nm) nm (fun x => { x with da := x.da ++ bl s }) (fun _ => rfl)]
          exact List.mem_map.2 ⟨x, hx, rfl⟩
        obtain ⟨y, hy, e⟩ := List.mem_map.1 this
        rcases mkF_mem hy with hy | rfl
        · rw [← e]; exact h.nm y hy
        · rw [← e]; exact nm_size hn'
      · have := mkF_len D.fs nm
        have h3 := h.ct
        show (updF (mkF D.fs nm) nm _).length ≤ N + 1
        rw [updF, List.length_map]; omega
      · show ((updF (mkF D.fs nm) nm (fun x => { x with da := x.da ++ bl s })).map (·.nm)).Nodup
        rw [updF_nm (mkF D.fs nm) nm (fun x => { x with da := x.da ++ bl s }) (fun _ => rfl)]; exact mkF_nodup h.nd nm
theorem op_DB {D D2 : DS} {U N put er : Nat} (h : DB D U N) (h2 : DB D2 U (N + 1)) (hs : D2.sizes.length ≤ N) : DB (opD D D2 put er).1 U (N + 1) := by
  unfold opD
  split
  · exact (spend_DB h).mono (Nat.le_refl _) (Nat.le_succ _)
  · split
    · exact ⟨h2.rm, h2.lf, h2.us, by simp; omega, h2.nm, h2.ct, h2.nd⟩
    · exact h2
theorem Append_DB {D : DS} {U N : Nat} (h : DB D U N) (nm s : ByteArray) : DB (AppendD D nm s).1 (U + s.size) (N + 1) :=
  op_DB (h.mono (by omega) (Nat.le_refl _)) (app_DB (spend_DB h) nm s).1 (app_DB (spend_DB h) nm s).2
theorem on_DB {D D2 : DS} {U N er : Nat} {nm : ByteArray} (h : DB D U N) (h2 : DB D2 U N) : DB (OnD D D2 nm er).1 U (N + 1) := by
  have h3 : DB (onD (spendD D) D2 nm er).1 U N := by
    unfold onD
    split
    · exact h2
    · exact spend_DB h
  exact op_DB h (h3.mono (Nat.le_refl _) (Nat.le_succ _)) h3.sz
theorem sync_DB {D : DS} {U N : Nat} (h : DB D U N) (nm : ByteArray) : DB (syncF D nm) U N := by
  have e1 : (syncF D nm).fs.map (·.nm) = D.fs.map (·.nm) := updF_nm _ _ _ (fun _ => rfl)
  have e2 : used (syncF D nm).fs = used D.fs := by
    simp only [syncF, used, updF, List.map_map]
    congr 1
    refine List.map_congr_left fun x _ => ?_
    simp only [Function.comp_apply]
    split <;> rfl
  refine ⟨by rw [e2]; exact h.rm, h.lf, by rw [e2]; exact h.us, h.sz, fun x hx => ?_, ?_, by rw [e1]; exact h.nd⟩
  · have : x.nm ∈ D.fs.map (·.nm) := by rw [← e1]; exact List.mem_map.2 ⟨x, hx, rfl⟩
    obtain ⟨y, hy, e⟩ := List.mem_map.1 this
    rw [← e]; exact h.nm y hy
  · have := h.ct
    simpa [syncF, updF] using this
theorem Sync_DB {D : DS} {U N : Nat} (h : DB D U N) (nm : ByteArray) : DB (SyncD D nm).1 U (N + 1) := on_DB h (sync_DB (spend_DB h) nm)
theorem rem_DB {D : DS} {U N : Nat} (h : DB D U N) (nm : ByteArray) : DB (remF D nm) U N := by
  have h1 := used_split D.fs nm
  have h2 := h.rm
  have h3 := h.us
  have sub : (delF D.fs nm).Sublist D.fs := List.filter_sublist
  refine ⟨?_, h.lf, ?_, h.sz, fun x hx => h.nm x (sub.subset hx), Nat.le_trans sub.length_le h.ct, (sub.map _).nodup h.nd⟩
  · show D.free + used (keepF D.fs nm) + used (delF D.fs nm) ≤ _; omega
  · show used (delF D.fs nm) ≤ _; omega
theorem Remove_DB {D : DS} {U N : Nat} (h : DB D U N) (nm : ByteArray) : DB (RemoveD D nm).1 U (N + 1) := on_DB h (rem_DB (spend_DB h) nm)
theorem len_split (fs : List FA) (s : ByteArray) : (delF fs s).length + (keepF fs s).length = fs.length := by
  induction fs with
  | nil => rfl
  | cons x l ih =>
    by_cases h : x.nm = s
    · have e1 : delF (x :: l) s = delF l s := by simp [delF, h]
      have e2 : keepF (x :: l) s = x :: keepF l s := by simp [keepF, h]
      rw [e1, e2, List.length_cons, List.length_cons]
      omega
    · have e1 : delF (x :: l) s = x :: delF l s := by simp [delF, h]
      have e2 : keepF (x :: l) s = keepF l s := by simp [keepF, h]
      rw [e1, e2, List.length_cons, List.length_cons]
      omega
theorem ren_DB {D : DS} {U N : Nat} (h : DB D U N) (a b : ByteArray) : DB (renT D a b).1 U N := by
  unfold renT
  split
  · exact h
  · rename_i hn
    split
    · exact h
    · rename_i hab
      have hn' : isNm b = true := by cases h : isNm b <;> simp_all
      have h1 := used_split D.fs b
      have h4 := used_split (delF D.fs b) a
      have h2 := h.rm
      have h3 := h.us
      have e1 : used ((keepF (delF D.fs b) a).map (fun x : FA => { x with nm := b })) = used (keepF (delF D.fs b) a) := by simp only [used, List.map_map]; rfl
      have e2 : used (delF (delF D.fs b) a ++ (keepF (delF D.fs b) a).map (fun x : FA => { x with nm := b })) = used (delF D.fs b) := by
        rw [← h4, ← e1]; simp [used]
      have sub : (delF D.fs b).Sublist D.fs := List.filter_sublist
      have sub2 : (delF (delF D.fs b) a).Sublist (delF D.fs b) := List.filter_sublist
      have hk : (keepF (delF D.fs b) a).length ≤ 1 := by
        have hnd : ((delF D.fs b).map (·.nm)).Nodup := (sub.map _).nodup h.nd
        have hnd2 : ((keepF (delF D.fs b) a).map (·.nm)).Nodup := (List.Sublist.map _ List.filter_sublist).nodup hnd
        rcases hl : keepF (delF D.fs b) a with _ | ⟨x, _ | ⟨y, l⟩⟩
        · simp
        · simp
        · exfalso
          have hx : x ∈ keepF (delF D.fs b) a := by rw [hl]; simp
          have hy : y ∈ keepF (delF D.fs b) a := by rw [hl]; simp
          have ex : x.nm = a := of_decide_eq_true (List.mem_filter.1 hx).2
          have ey : y.nm = a := of_decide_eq_true (List.mem_filter.1 hy).2
          rw [hl, List.map_cons, List.map_cons, List.nodup_cons] at hnd2
          exact hnd2.1 (by rw [ex, ey]; simp)
      have hlen : (delF (delF D.fs b) a).length + (keepF (delF D.fs b) a).length = (delF D.fs b).length := by
        exact len_split _ _
      refine ⟨?_, h.lf, ?_, h.sz, fun x hx => ?_, ?_, ?_⟩
      · show D.free + used (keepF D.fs b) + used (delF (delF D.fs b) a ++ (keepF (delF D.fs b) a).map (fun x : FA => { x with nm := b })) ≤ _
        rw [e2]; omega
      · show used (delF (delF D.fs b) a ++ (keepF (delF D.fs b) a).map (fun x : FA => { x with nm := b })) ≤ _
        rw [e2]; omega
      · rcases List.mem_append.1 hx with hx | hx
        · exact h.nm x (sub.subset (sub2.subset hx))
        · obtain ⟨y, _, rfl⟩ := List.mem_map.1 hx
          exact nm_size hn'
      · show (delF (delF D.fs b) a ++ (keepF (delF D.fs b) a).map (fun x : FA => { x with nm := b })).length ≤ N
        rw [List.length_append, List.length_map, hlen]
        exact Nat.le_trans sub.length_le h.ct
      · show ((delF (delF D.fs b) a ++ (keepF (delF D.fs b) a).map (fun x : FA => { x with nm := b })).map (fun x : FA => x.nm)).Nodup
        rw [List.map_append, List.nodup_append]
        refine ⟨((sub2.trans sub).map _).nodup h.nd, ?_, fun u hu v hv e => ?_⟩
        · rcases hl : keepF (delF D.fs b) a with _ | ⟨x, _ | ⟨y, l⟩⟩
          · simp
          · simp
          · rw [hl] at hk; simp at hk
        · obtain ⟨x, hx, rfl⟩ := List.mem_map.1 hu
          obtain ⟨y, hy, rfl⟩ := List.mem_map.1 hv
          obtain ⟨y', _, rfl⟩ := List.mem_map.1 hy
          have hx2 := sub2.subset hx
          exact (of_decide_eq_true (List.mem_filter.1 hx2).2 : x.nm ≠ b) e
theorem Rename_DB {D : DS} {U N : Nat} (h : DB D U N) (a b : ByteArray) : DB (RenameD D a b).1 U (N + 1) := on_DB h (ren_DB (spend_DB h) a b)
theorem arm_DB {D : DS} {U N : Nat} (h : DB D U N) {z : Int} (hz : z ≤ 9223372036854775807) : DB (armD D z).1 U N := by
  unfold armD
  split
  · exact h
  · split
    · exact h
    · exact ⟨h.rm, by show z.toNat ≤ _; omega, h.us, h.sz, h.nm, h.ct, h.nd⟩
theorem wake_DB {D : DS} {U N : Nat} (h : DB D U N) (ks : List Int) : DB (wakeD D ks) U N := by
  have h1 := wk_used D.fs ks D.fs.length
  have h2 := h.rm
  have h3 := h.us
  have e := wk_nm D.fs ks D.fs.length
  refine ⟨?_, Nat.zero_le _, Nat.le_trans h1 h3, h.sz, fun x hx => ?_, ?_, by rw [show (wakeD D ks).fs = wkK D.fs ks D.fs.length from rfl, e]; exact h.nd⟩
  · show D.free + used D.fs - used (wkK D.fs ks D.fs.length) + used (wkK D.fs ks D.fs.length) ≤ _; omega
  · have : x.nm ∈ D.fs.map (·.nm) := by rw [← e]; exact List.mem_map.2 ⟨x, hx, rfl⟩
    obtain ⟨y, hy, e2⟩ := List.mem_map.1 this
    rw [← e2]; exact h.nm y hy
  · have := h.ct
    simpa [wakeD, wkK] using this
theorem new_DB {n : Nat} (h : n ≤ 9223372036854775807) : DB ⟨[], n, 0, false, []⟩ 0 0 := ⟨by simpa [used] using h, Nat.zero_le _, Nat.le_refl _, Nat.le_refl _, fun _ h => (by cases h), Nat.le_refl _, List.nodup_nil⟩
/-! a disk, and what lies beside it -/
theorem DH.front {w0 : World} {M : ML} {d : Dk} {D : DS} {L : BL} {w : World} (h : DH w0 M d D L w) : ∃ z X, (∀ L' w', HA z (L' ++ X) w' → DH w0 M d D L' w') ∧ (∀ L' w', HA z L' w' → Below w0.heap.size w0 w') ∧ HA z (L ++ X) w := by
  obtain ⟨fl, nx, v, Lr, h1, h2, h3, H⟩ := h
  refine ⟨⟨w0, (d.r, .mp (eF fl) nx) :: M⟩, (d.q, 61, dcell d.r D.free D.left D.down v) :: (Lr ++ FB fl), fun L' w' H' => ⟨fl, nx, v, Lr, h1, h2, h3, ?_⟩, fun L' w' H' => H'.old.old, ?_⟩
  · refine H'.perm ?_
    have := perm_mv L' ((d.q, 61, dcell d.r D.free D.left D.down v) :: (Lr ++ FB fl)) []
    simpa [List.append_assoc] using this
  · refine H.perm ?_
    have := (perm_mv L ((d.q, 61, dcell d.r D.free D.left D.down v) :: (Lr ++ FB fl)) []).symm
    simpa [List.append_assoc] using this
theorem DH.bel {w0 : World} {M : ML} {d : Dk} {D : DS} {L : BL} {w : World} (h : DH w0 M d D L w) : Below w0.heap.size w0 w := by
  obtain ⟨fl, nx, v, Lr, h1, h2, h3, H⟩ := h
  exact H.old.old
theorem KV.nil (w0 : World) (L : BL) (o : Option Addr) : KV w0 L o [] := .inl rfl
theorem KV.own {w0 : World} {L : BL} {b : Nat} {cu : Array Value} {ks : List Int} (hm : (b, 3, cu) ∈ L) (hc : ∀ j, j < ks.length → cu[j]? = some (.int .i64 (ks.getD j 0))) : KV w0 L (some ⟨b, 0, none⟩) ks :=
  .inr ⟨⟨b, 0, none⟩, rfl, fun M A w H j hj => by rw [add_lit, (H.blk (b, 3, cu) (by simp [hm])).cell j]; exact hc j hj⟩
theorem KV.arg {W : World} {L : BL} {o : Option Addr} {ks : List Int} (h : ∀ j, j < ks.length → ∃ a, o = some a ∧ W.cell? (a.add j) = some (.int .i64 (ks.getD j 0))) : KV W L o ks := by
  rcases ks with _ | ⟨z, l⟩
  · exact .inl rfl
  · obtain ⟨a, rfl, _⟩ := h 0 (by simp)
    refine .inr ⟨a, rfl, fun M A w H j hj => ?_⟩
    obtain ⟨a', e, h2⟩ := h j hj
    cases e
    exact cell_old H.old.old h2
theorem kv_one (n : Nat) : ∀ j, j < [(n : Int)].length → (intc [n])[j]? = some (.int .i64 ([(n : Int)].getD j 0)) := fun j hj => by
  have : j = 0 := by simpa using hj
  subst this
  rfl
end Go.Proofs.Ytjedhnjjgmbcbaa
