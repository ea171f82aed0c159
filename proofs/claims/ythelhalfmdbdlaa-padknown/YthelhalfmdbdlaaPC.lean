/-
  pad: Size, the program's and the reference's.
-/
import Derived.Test.YthelhalfmdbdlaaPB
namespace Go.Proofs.Ythelhalfmdbdlaa
open Go.RowKit Go.Shelf Go.Proofs.Ythelhalfmdbdlaa.Wi
attribute [local go_sem] Oper.semAt_some

theorem cell_new_l (w : World) (v : Value) (t : TypeId) : (w.alloc (.cells #[v] t)).cell? ⟨w.heap.size, 0, none⟩ = some v ∧ (w.alloc (.cells #[v] t)).frozen? ⟨w.heap.size, 0, none⟩ = false := by simp
theorem cell_alloc_l {w : World} {p : Addr} {v : Value} (o : Obj) (h : w.cell? p = some v) : (w.alloc o).cell? p = some v := (World.cell?_of_block (w := w) (Below.heap_alloc w o p.block (World.block_lt_of_cell? w p h))).trans h
theorem frozen_alloc_l {w : World} {p : Addr} {v : Value} (o : Obj) (h : w.cell? p = some v) (hf : w.frozen? p = false) : (w.alloc o).frozen? p = false := (World.frozen?_of_block (w := w) (Below.heap_alloc w o p.block (World.block_lt_of_cell? w p h))).trans hf

set_option maxRecDepth 100000 in
set_option maxHeartbeats 4000000 in
theorem Size_any (n : Int) (w : World) :
    Calls Try.prog 11 #[.int .i64 n] w fun e w' => e = .returned (sizeV n) ∧ Below w.heap.size w w' := by
  refine (callsIn_wide (n := 9)).1 ?_
  refine callsIn_of_wp_marks Try.func11 rfl trivial ?_ rfl
  simp only [Try.ntmps11, List.size_toArray, List.length_cons, List.length_nil, Nat.reduceAdd, Nat.reduceSub, Array.replicate_succ, Array.replicate_zero, List.push_toArray, List.append_toArray, List.nil_append, List.cons_append]
  by_cases hneg : n < 0
  · have hv : sizeV n = .tuple #[.int .i64 0, .int .i64 2] := if_pos hneg
    rw [hv]
    gi_wp2
    refine ⟨.tuple #[.int .i64 0, .int .i64 2], ?_, rfl, (((Below.refl _ w).alloc (Nat.le_refl _) _).alloc (by simp) _).alloc (by simp; omega) _⟩
    have k1 := cell_alloc_l (.cells #[.int .i64 2] 22) (cell_new_l (w.alloc (.cells #[.int .i64 n] 3)) (.int .i64 0) 3).1
    have k2 := (cell_new_l ((w.alloc (.cells #[.int .i64 n] 3)).alloc (.cells #[.int .i64 0] 3)) (.int .i64 2) 22).1
    simp only [World.size_alloc] at k1 k2
    simp [results, Try.f11, go_sem, k1, k2]
  gi_wp2
  have c0 := cell_new_l w (.int .i64 n) 3
  have c1 := cell_new_l (w.alloc (.cells #[.int .i64 n] 3)) (.int .i64 0) 3
  have c2 := cell_new_l ((w.alloc (.cells #[.int .i64 n] 3)).alloc (.cells #[.int .i64 0] 3)) (.int .i64 0) 22
  simp only [World.size_alloc] at c1 c2
  have hB0 : Below w.heap.size w (((w.alloc (.cells #[.int .i64 n] 3)).alloc (.cells #[.int .i64 0] 3)).alloc (.cells #[.int .i64 0] 22)) := (((Below.refl _ w).alloc (Nat.le_refl _) _).alloc (by simp) _).alloc (by simp; omega) _
  refine wpIn_rangeFunc_ownF (α := Nat) rfl (by decide) (gf := 22) (lb := #[]) rfl trivial (enters_of Try.func22 (by kernel_rfl) rfl)
    (lengths_stops _ _) (fun _ _ => trivial) (fun _ _ _ _ _ _ _ _ => trivial) (Below.refl _ _) (fun _ => rfl)
    (fun pre W => ((∀ y ∈ pre, (y : Int) < n) ∧ W.cell? ⟨w.heap.size, 0, none⟩ = some (.int .i64 n) ∧ W.cell? ⟨w.heap.size + 1, 0, none⟩ = some (.int .i64 0) ∧ W.frozen? ⟨w.heap.size + 1, 0, none⟩ = false ∧ W.cell? ⟨w.heap.size + 1 + 1, 0, none⟩ = some (.int .i64 0) ∧ W.frozen? ⟨w.heap.size + 1 + 1, 0, none⟩ = false) ∧ Below w.heap.size w W)
    (fun c pre W => (c = .ret ∧ ∃ (pre' : List Nat) (x : Nat), pre = pre' ++ [x] ∧ (∀ y ∈ pre', (y : Int) < n) ∧ n ≤ (x : Int) ∧ W.cell? ⟨w.heap.size + 1, 0, none⟩ = some (.int .i64 (x : Int)) ∧ W.cell? ⟨w.heap.size + 1 + 1, 0, none⟩ = some (.int .i64 0)) ∧ Below w.heap.size w W)
    (OwnFrom.and (Own.from (fun s A B row hs hg hr => ⟨hs.1, cell_kept hs.2.1 hg hr, cell_kept hs.2.2.1 hg hr, (frozen_kept hs.2.2.1 hg hr).trans hs.2.2.2.1, cell_kept hs.2.2.2.2.1 hg hr, (frozen_kept hs.2.2.2.2.1 hg hr).trans hs.2.2.2.2.2⟩) _) (ownFrom_below (Nat.le_refl _) (by simp; omega)))
    (fun c => OwnFrom.and (Own.from (fun s A B row hs hg hr => by
      obtain ⟨h1, p, x, h2, h3, h4, h5, h6⟩ := hs
      exact ⟨h1, p, x, h2, h3, h4, cell_kept h5 hg hr, cell_kept h6 hg hr⟩) _) (ownFrom_below (Nat.le_refl _) (by simp; omega)))
    ⟨⟨by simp, cell_alloc_l _ (cell_alloc_l _ c0.1), cell_alloc_l _ c1.1, frozen_alloc_l _ c1.1 c1.2, c2.1, c2.2⟩, hB0⟩
    (fun x => { tmps := #[.int .i64 n, .pointer (some ⟨w.heap.size, 0, none⟩), .pointer (some ⟨w.heap.size + 1, 0, none⟩), .pointer (some ⟨w.heap.size + 1 + 1, 0, none⟩), .int .i64 (x : Int), .int .i64 n, .bool false, .int .i64 (x : Int), undef, undef, undef, undef], defers := [] }) ?assign ?body ?done ?stop
  case assign =>
    intro l x W K hK
    dsimp only [encL]
    gi_wp2
    exact hK
  case body =>
    rintro l pre x W ⟨⟨hp, h0, h1, f1, h2, f2⟩, hB⟩ _
    by_cases hx : n ≤ (x : Int)
    · gi_wp2
      exact ⟨(KeepsOthers.setCell _ _ _).trans (KeepsOthers.setCell _ _ _), ⟨rfl, pre, x, rfl, hp, hx, by rw [World.cell?_setCell_other _ _ _ _ (by simp)]; exact World.cell?_setCell_same' _ _ _ (by rw [h1]; rfl), World.cell?_setCell_same' _ _ _ (by rw [World.cell?_setCell_other _ _ _ _ (by simp), h2]; rfl)⟩, (hB.setCell (p := ⟨w.heap.size + 1, 0, none⟩) (by simp) _).setCell (p := ⟨w.heap.size + 1 + 1, 0, none⟩) (by simp; omega) _⟩
    · gi_wp2
      exact ⟨KeepsOthers.refl _, trivial, ⟨fun y hy => (List.mem_append.1 hy).elim (hp y) (fun e => by simp at e; subst e; omega), h0, h1, f1, h2, f2⟩, hB⟩
  case done =>
    rintro D ys W hD rfl ⟨⟨hne, h0, h1, f1, h2, f2⟩, hB⟩ hK
    gi_wp2
    have hK' := ((KeepsOthers.setCell W ⟨w.heap.size + 1, 0, none⟩ (.int .i64 0)).trans (KeepsOthers.setCell _ ⟨w.heap.size + 1 + 1, 0, none⟩ (.int .i64 3))).same D _ hK rfl
    have g1 : ((W.setCell ⟨w.heap.size + 1, 0, none⟩ (.int .i64 0)).setCell ⟨w.heap.size + 1 + 1, 0, none⟩ (.int .i64 3)).cell? ⟨w.heap.size + 1, 0, none⟩ = some (.int .i64 0) := by
      rw [World.cell?_setCell_other _ _ _ _ (by simp)]; exact World.cell?_setCell_same' _ _ _ (by rw [h1]; rfl)
    have g2 : ((W.setCell ⟨w.heap.size + 1, 0, none⟩ (.int .i64 0)).setCell ⟨w.heap.size + 1 + 1, 0, none⟩ (.int .i64 3)).cell? ⟨w.heap.size + 1 + 1, 0, none⟩ = some (.int .i64 3) :=
      World.cell?_setCell_same' _ _ _ (by rw [World.cell?_setCell_other _ _ _ _ (by simp), h2]; rfl)
    have gB := (hB.setCell (p := ⟨w.heap.size + 1, 0, none⟩) (by simp) (.int .i64 0)).setCell (p := ⟨w.heap.size + 1 + 1, 0, none⟩) (by simp; omega) (.int .i64 3)
    refine ⟨by simp, .inl ⟨_, _, rfl, run_takeDeferred hK', ?_⟩⟩
    have hc1 := cell_kept g1 (grownBy_putObj' _ D (.deferred none)) (fun r e => by cases e; exact ⟨_, hK', rfl⟩)
    have hc2 := cell_kept g2 (grownBy_putObj' _ D (.deferred none)) (fun r e => by cases e; exact ⟨_, hK', rfl⟩)
    refine ⟨.tuple #[.int .i64 0, .int .i64 3], ?_, ?_, gB.trans (belowK_b (w := w) (Nat.le_refl _) _ D _ _ (by simp at hD; omega) hK' rfl rfl)⟩
    · simp [results, Try.f11, go_sem, hc1, hc2]
    · have := hne _ (lensTo_mem (show 34 < 35 by decide))
      have e : lenAt 34 = 8192 := rfl
      rw [e] at this
      unfold sizeV
      rw [if_neg (by omega), if_neg (by omega)]
  case stop =>
    rintro D c pre W hD hpre ⟨⟨rfl, p, x, hin, hlt, hle, h1, h2⟩, hB⟩ hK
    gi_wp2
    refine ⟨by simp, .inl ⟨_, _, rfl, run_takeDeferred hK, ?_⟩⟩
    have hc1 := cell_kept h1 (grownBy_putObj' _ D (.deferred none)) (fun r e => by cases e; exact ⟨_, hK, rfl⟩)
    have hc2 := cell_kept h2 (grownBy_putObj' _ D (.deferred none)) (fun r e => by cases e; exact ⟨_, hK, rfl⟩)
    refine ⟨.tuple #[.int .i64 (x : Int), .int .i64 0], ?_, ?_, hB.trans (belowK_b (w := w) (Nat.le_refl _) _ D _ _ (by simp at hD; omega) hK rfl rfl)⟩
    · simp [results, Try.f11, go_sem, hc1, hc2]
    · obtain ⟨k, hk, hpk⟩ := hpre
      rw [lensTo_succ] at hpk
      obtain ⟨e1, e2⟩ := List.append_inj' (hpk.symm.trans hin) rfl
      obtain rfl : lenAt k = x := by simpa using e2
      obtain ⟨m, rfl⟩ := Int.eq_ofNat_of_zero_le (show 0 ≤ n by omega)
      have hs := lenAt_first m k hk (fun j hj => by have := hlt _ (e1 ▸ lensTo_mem hj); omega) (by omega)
      have hm : lenAt k ≤ 8192 := by unfold lenAt; split <;> (try split) <;> (try split) <;> omega
      unfold sizeV
      rw [if_neg (by omega), if_pos (by omega), Int.toNat_natCast, hs]

theorem isLen_sz (n : Nat) (h : n ≤ 8192) : isLen (szN n) = true ∧ n ≤ szN n ∧ szN n ≤ 8192 ∧ ∀ k, n ≤ k → isLen k = true → szN n ≤ k := by
  unfold isLen
  simp only [Bool.or_eq_true, Bool.and_eq_true, decide_eq_true_eq]
  unfold szN
  split
  · exact ⟨by omega, by omega, by omega, fun k h1 h2 => by omega⟩
  split
  · exact ⟨by omega, by omega, by omega, fun k h1 h2 => by omega⟩
  split
  · exact ⟨by omega, by omega, by omega, fun k h1 h2 => by omega⟩
  · exact ⟨by omega, by omega, by omega, fun k h1 h2 => by omega⟩

set_option maxRecDepth 100000 in
set_option maxHeartbeats 4000000 in
theorem RSize_any (n : Int) (w : World) :
    Calls Try.prog 12 #[.int .i64 n] w fun e w' => e = .returned (sizeV n) ∧ w' = w := by
  by_cases hneg : n < 0
  · have hv : sizeV n = .tuple #[.int .i64 0, .int .i64 2] := if_pos hneg
    rw [hv]
    clear hv
    go_enter Try.func12, Try.ntmps12
    go_wp2
    go_ret2
    exact ⟨rfl, rfl⟩
  obtain ⟨m, rfl⟩ := Int.eq_ofNat_of_zero_le (show 0 ≤ n by omega)
  have HV : Hid (sizeV m = if m ≤ 8192 then .tuple #[.int .i64 (szN m), .int .i64 0] else .tuple #[.int .i64 0, .int .i64 3]) := by
    show _ = _
    unfold sizeV
    rw [if_neg (by omega)]
    by_cases h : m ≤ 8192
    · rw [if_pos (by omega), if_pos h, Int.toNat_natCast]
    · rw [if_neg (by omega), if_neg h]
  have HS := hide (isLen_sz m)
  go_enter Try.func12, Try.ntmps12
  go_wp2_with fail
  go_loopw [2, 3, 4] (fun a b i wr => ∃ k : Nat, m ≤ k ∧ a = .int .i64 0 ∧ b = .int .i64 0 ∧ i = .int .i64 (k : Int) ∧ (m ≤ 8192 → k ≤ szN m) ∧ wr = w) (fun _ _ i _ => 9000 - (intOf i).toNat)
  case atStart => exact ⟨m, Nat.le_refl _, rfl, rfl, rfl, fun h => (HS.out h).2.1, rfl⟩
  case round =>
    obtain ⟨k, hk, rfl, rfl, rfl, hle, rfl⟩ := hrel
    by_cases hk2 : k ≤ 8192
    · have L := hide (length_any k hk2 wr)
      have hkk : (k : Int) ≤ 8192 := by omega
      have hm : m ≤ 8192 := by omega
      obtain ⟨s1, s2, s3, s4⟩ := HS.out hm
      cases hl : isLen k
      · rw [hl] at L
        have hne : k ≠ szN m := by intro e; rw [e, s1] at hl; cases hl
        have hlt := hle hm
        clear s4 hle
        generalize szN m = z at *
        go_wp2_with fail
        refine L.out.mono ?_
        rintro e w1 ⟨rfl, rfl⟩
        clear L
        go_wp2
        go_roundw
        case rel => exact ⟨k + 1, by omega, rfl, rfl, int_eq (by omega), fun _ => by omega, trivial⟩
        case measure => simp [intOf]; omega
      · rw [hl] at L
        have hkz : szN m = k := by have := s4 k hk hl; have := hle hm; omega
        rw [if_pos hm, hkz] at HV
        clear s4 hle hkz s1 s2 s3 hl
        go_wp2_with fail
        refine L.out.mono ?_
        rintro e w1 ⟨rfl, rfl⟩
        clear L
        go_wp2
        go_ret2
        exact ⟨by rw [HV.out]; rfl, rfl⟩
    · have hm : ¬ m ≤ 8192 := by intro h; have := hle h; have := (HS.out h).2.2.1; omega
      rw [if_neg hm] at HV
      have hkk : ¬ (k : Int) ≤ 8192 := by omega
      clear hle HS
      go_wp2
      go_ret2
      exact ⟨by rw [HV.out]; rfl, rfl⟩
end Go.Proofs.Ythelhalfmdbdlaa
