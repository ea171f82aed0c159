/-
  Waking, in mathematics: files cut one by one, in the order of their names.
-/
import Derived.Test.YtjedhnjjgmbcbaaD9
namespace Go.Proofs.Ytjedhnjjgmbcbaa
open Go.RowKit

def cutA (x : FA) (z : Int) : FA := ⟨x.nm, x.da.take (x.sy + stayN z (x.da.length - x.sy)), x.sy + stayN z (x.da.length - x.sy)⟩
def rankF (fs : List FA) (nm : ByteArray) : Nat := (srtL fs).idxOf (bl nm)
def wkK (fs : List FA) (ks : List Int) (k : Nat) : List FA := fs.map fun x => if rankF fs x.nm < k then cutA x (ks.getD (rankF fs x.nm) 0) else x
theorem wk_zero (fs : List FA) (ks : List Int) : wkK fs ks 0 = fs := by simp [wkK]
theorem srt_perm (fs : List FA) : (srtL fs).Perm (fs.map fun x => bl x.nm) := List.mergeSort_perm _ _
theorem srt_len (fs : List FA) : (srtL fs).length = fs.length := by rw [(srt_perm fs).length_eq, List.length_map]
theorem srt_nodup {fs : List FA} (h : (fs.map (·.nm)).Nodup) : (srtL fs).Nodup := by
  refine (srt_perm fs).nodup_iff.2 ?_
  have : (fs.map fun x => bl x.nm) = (fs.map (·.nm)).map bl := by simp
  rw [this]
  exact List.pairwise_map.2 (h.imp fun hne e => hne (bl_inj e))
theorem rank_at {fs : List FA} (h : (fs.map (·.nm)).Nodup) {k : Nat} {nm : ByteArray} (hk : (srtL fs)[k]? = some (bl nm)) : rankF fs nm = k := by
  obtain ⟨hlt, e⟩ := List.getElem?_eq_some_iff.1 hk
  unfold rankF
  rw [← e]
  exact (srt_nodup h).idxOf_getElem k hlt
theorem rank_eq {fs : List FA} {k : Nat} {nm nm' : ByteArray} (hk : (srtL fs)[k]? = some (bl nm)) (hm : ∃ x ∈ fs, x.nm = nm') (hr : rankF fs nm' = k) : nm' = nm := by
  obtain ⟨x, hx, rfl⟩ := hm
  have hmem : bl x.nm ∈ srtL fs := (srt_perm fs).mem_iff.2 (List.mem_map.2 ⟨x, hx, rfl⟩)
  have h1 : (srtL fs)[rankF fs x.nm]? = some (bl x.nm) := by
    have hlt := List.idxOf_lt_length_of_mem hmem
    rw [rankF, List.getElem?_eq_getElem hlt, List.getElem_idxOf hlt]
  rw [hr, hk] at h1
  exact (bl_inj (Option.some.inj h1)).symm
theorem wk_nm (fs : List FA) (ks : List Int) (k : Nat) : (wkK fs ks k).map (·.nm) = fs.map (·.nm) := by
  rw [wkK, List.map_map]
  refine List.map_congr_left fun x _ => ?_
  simp only [Function.comp_apply]
  split <;> rfl
theorem wk_step {fs : List FA} {ks : List Int} {k : Nat} {nm : ByteArray} {z : Int} (h : (fs.map (·.nm)).Nodup) (hk : (srtL fs)[k]? = some (bl nm)) (hz : z = ks.getD k 0) : updF (wkK fs ks k) nm (fun x => cutA x z) = wkK fs ks (k + 1) := by
  subst hz
  have hr := rank_at h hk
  rw [updF, wkK, wkK, List.map_map]
  refine List.map_congr_left fun x hx => ?_
  simp only [Function.comp_apply]
  by_cases e : x.nm = nm
  · have h1 : rankF fs x.nm = k := by rw [e]; exact hr
    have h2 : (if rankF fs x.nm < k then cutA x (ks.getD (rankF fs x.nm) 0) else x) = x := if_neg (by omega)
    rw [h2, if_pos e, if_pos (by omega), h1]
  · have h1 : rankF fs x.nm ≠ k := fun h2 => e (rank_eq hk ⟨x, hx, rfl⟩ h2)
    by_cases h2 : rankF fs x.nm < k
    · have h3 : (if rankF fs x.nm < k then cutA x (ks.getD (rankF fs x.nm) 0) else x) = cutA x (ks.getD (rankF fs x.nm) 0) := if_pos h2
      rw [h3, if_neg (show ¬ (cutA x (ks.getD (rankF fs x.nm) 0)).nm = nm from e), if_pos (by omega)]
    · have h3 : (if rankF fs x.nm < k then cutA x (ks.getD (rankF fs x.nm) 0) else x) = x := if_neg h2
      rw [h3, if_neg e, if_neg (by omega)]
theorem wk_file {fs : List FA} {ks : List Int} {k : Nat} {fl : List Fl} (hk : k < fs.length) (h : fl.map ab = wkK fs ks k) : ∃ A f B, fl = A ++ f :: B ∧ (srtL fs)[k]? = some (bl f.nm) := by
  have hlt : k < (srtL fs).length := by rw [srt_len]; exact hk
  have hmem : (srtL fs)[k] ∈ fs.map fun x => bl x.nm := (srt_perm fs).mem_iff.1 (List.getElem_mem hlt)
  obtain ⟨x, hx, e⟩ := List.mem_map.1 hmem
  have h1 : x.nm ∈ fl.map (·.nm) := by
    have : fl.map (·.nm) = (fl.map ab).map (·.nm) := by rw [List.map_map]; rfl
    rw [this, h, wk_nm]
    exact List.mem_map.2 ⟨x, hx, rfl⟩
  obtain ⟨f, hf, e2⟩ := List.mem_map.1 h1
  obtain ⟨A, B, rfl⟩ := List.append_of_mem hf
  exact ⟨A, f, B, rfl, by rw [List.getElem?_eq_getElem hlt, ← e, e2]⟩
theorem used_cut {A B : List Fl} {f g : Fl} (h : g.da.length ≤ f.da.length) : used ((A ++ g :: B).map ab) + (f.da.length - g.da.length) = used ((A ++ f :: B).map ab) := by
  have e : ∀ x : Fl, used ((A ++ x :: B).map ab) = used (A.map ab) + x.da.length + used (B.map ab) := fun x => by simp [used, ab]; omega
  rw [e, e]
  omega
theorem Row.at {e : TypeId} {n k c : Nat} {p : Option Addr} {xs : List Value} {Lr : BL} (h : Row e 1 (.slice p n c) n xs Lr) (hk : k < n) : ∃ g cur, p = some ⟨g, 0, none⟩ ∧ Lr = [(g, e, cur)] ∧ cur[k]? = xs[k]? := by
  rcases h.2 with ⟨h1, h2, _⟩ | ⟨g, cap, cur, h1, h2, _, _, h5, h6⟩
  · omega
  · refine ⟨g, cur, ?_, h2, ?_⟩
    · simp only [Value.slice.injEq] at h1
      exact h1.1
    · rw [Nat.mul_one] at h6
      rw [← h6, List.getElem?_take, if_pos hk, Array.getElem?_toList]
theorem RowB.cut' {p : Option Addr} {c : Nat} {da : List UInt8} {Lr : BL} (h : RowB (.slice p da.length c) da Lr) (n : Nat) (hn : n ≤ da.length) : n ≤ c ∧ RowB (.slice p n c) (da.take n) Lr := by
  obtain ⟨a, cap, h1, h2, h3⟩ := h.cut n hn
  simp only [Value.slice.injEq] at h1
  obtain ⟨rfl, _, rfl⟩ := h1
  exact ⟨h2, h3⟩
section
variable {ρ : Operand → Value} {x y : Operand} {w : World} {dst : Option Tmp} {ty : TypeId} {pos : String} {aft : Array Edge} {gd : Option (Nat × Bool)}
theorem run_addr_p {p : Option Addr} {g n c i : Nat} (hp : p = some ⟨g, 0, none⟩) (hx : ρ x = .slice p n c) (hy : ρ y = iN .i64 i) (hi : i < n) : (execOp ρ ⟨dst, .indexAddr 50 x y, ty, pos, aft, gd⟩).run Try.prog w = .ok (.value (.pointer (some ⟨g, i, none⟩))) w := by
  subst hp
  exact run_addr_slice (q := g) (n := n) (m := c) (a := i) Try.underlying50 (fun w => Try.sizeOf9 w) hx hy hi
theorem run_addr_o {p : Option Addr} {b : Addr} {n c i : Nat} (hp : p = some b) (hx : ρ x = .slice p n c) (hy : ρ y = iN .i64 i) (hi : i < n) : (execOp ρ ⟨dst, .indexAddr 26 x y, ty, pos, aft, gd⟩).run Try.prog w = .ok (.value (.pointer (some (b.add i)))) w := by
  subst hp
  simp only [execOp, hx, hy, iN]
  go_simp
theorem run_addr_s {p : Option Addr} {b : Addr} {n c i : Nat} (hp : p = some b) (hx : ρ x = .slice p n c) (hy : ρ y = iN .i64 i) (hi : i < n) : (execOp ρ ⟨dst, .indexAddr 50 x y, ty, pos, aft, gd⟩).run Try.prog w = .ok (.value (.pointer (some (b.add i)))) w := by
  subst hp
  simp only [execOp, hx, hy, iN]
  go_simp
theorem run_load_at {T : TypeId} {b : Addr} {v : Value} (hT : ∀ w, (isAgg T).run Try.prog w = .ok false w) (hx : ρ x = .pointer (some b)) (h : w.cell? b = some v) : (execOp ρ ⟨dst, .load T x, ty, pos, aft, gd⟩).run Try.prog w = .ok (.value v) w := by
  simp only [execOp, hx]
  simp [go_sem, hT, h]
end
/-- numbers that are only read -/
def KV (w0 : World) (L : BL) (o : Option Addr) (ks : List Int) : Prop :=
  ks = [] ∨ ∃ b, o = some b ∧ ∀ (M : ML) (A : BL) (w : World), HA ⟨w0, M⟩ (A ++ L) w → ∀ j, j < ks.length → w.cell? (b.add j) = some (.int .i64 (ks.getD j 0))
theorem add_lit (b j : Nat) : (⟨b, 0, none⟩ : Addr).add j = ⟨b, j, none⟩ := by unfold Addr.add; split <;> simp_all
theorem cell_old {W w : World} {a : Addr} {v : Value} (hb : Below W.heap.size W w) (h : W.cell? a = some v) : w.cell? a = some v := by
  have hlt : a.block < W.heap.size := by
    unfold World.cell? at h
    cases hh : W.heap[a.block]? with
    | none => simp [hh] at h
    | some o => exact lt_of_block hh
  have := hb.block a.block hlt
  unfold World.cell? at h ⊢
  rw [this]
  exact h
theorem enc_nm (s : ByteArray) : encStr (bl s) = .string s := by simp [encStr, bl]
end Go.Proofs.Ytjedhnjjgmbcbaa
