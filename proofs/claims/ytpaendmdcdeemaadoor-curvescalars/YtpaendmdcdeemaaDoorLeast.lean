/-
  least: the element of a number below twice p.
-/
import Derived.Test.YtpaendmdcdeemaaDoorSum
namespace Go.Proofs.YtpaendmdcdeemaaDoor
open Go.RowKit Num
set_option linter.unusedSimpArgs false

theorem sum_of (a b : Nat) (ha : a < K ^ 4) (hb : b < K ^ 4) (w : World) :
    Calls Tryd.prog 107 #[arr a, arr b] w fun e w' => e = .returned (.tuple #[arr ((a + b) % K ^ 4), .int .u64 ((a + b) / K ^ 4 : Nat)]) ∧ Below w.heap.size w w' := by
  have h := sum_any a b w
  rwa [Nat.mod_eq_of_lt ha, Nat.mod_eq_of_lt hb] at h
theorem difference_of (a b : Nat) (ha : a < K ^ 4) (hb : b < K ^ 4) (w : World) :
    Calls Tryd.prog 77 #[arr a, arr b] w fun e w' => e = .returned (.tuple #[arr ((a + K ^ 4 - b) % K ^ 4), .int .u64 ((if a < b then 1 else 0 : Nat) : Int)]) ∧ Below w.heap.size w w' := by
  have h := difference_any a b w
  unfold bor at h
  rwa [Nat.mod_eq_of_lt ha, Nat.mod_eq_of_lt hb] at h

/-- a variable holds a number's four words -/
def At (w : World) (g n : Nat) : Prop := ∀ i : Nat, i < 4 → w.cell? ⟨g, i, none⟩ = some (.int .u64 (n / K ^ i % K : Nat))
theorem At.four {w : World} {g n a b c d : Nat} (h : At w g n) (e : digs K 4 n = [a, b, c, d]) :
    w.cell? ⟨g, 0, none⟩ = some (.int .u64 a) ∧ w.cell? ⟨g, 1, none⟩ = some (.int .u64 b) ∧ w.cell? ⟨g, 2, none⟩ = some (.int .u64 c) ∧ w.cell? ⟨g, 3, none⟩ = some (.int .u64 d) := by
  have key : ∀ i (hi : i < 4), n / K ^ i % K = (digs K 4 n)[i]'(by rw [digs_length]; exact hi) := fun i hi => (digs_get K 4 n i _).symm
  refine ⟨?_, ?_, ?_, ?_⟩
  · rw [h 0 (by omega), key 0 (by omega)]; simp [e]
  · rw [h 1 (by omega), key 1 (by omega)]; simp [e]
  · rw [h 2 (by omega), key 2 (by omega)]; simp [e]
  · rw [h 3 (by omega), key 3 (by omega)]; simp [e]

/-- the package's variables -/
structure Vars (w : World) : Prop where
  big : 4 ≤ w.heap.size
  p : At w 0 P
  r : At w 2 eighth
  m : At w 3 rootI
  i : At w 1 (P - 2)
theorem At.below {w w' : World} {B g n : Nat} (h : At w g n) (hb : Below B w w') (hg : g < B) : At w' g n := fun i hi => by
  rw [hb.cell (p := ⟨g, i, none⟩) hg]
  exact h i hi
theorem Vars.below {w w' : World} {B : Nat} (h : Vars w) (hb : Below B w w') (hB : 4 ≤ B) : Vars w' :=
  ⟨Nat.le_trans h.big hb.size, h.p.below hb (by omega), h.r.below hb (by omega), h.m.below hb (by omega), h.i.below hb (by omega)⟩

theorem arr_len (n : Nat) : (cl .u64 (digs K 4 n)).size = 4 := rfl

set_option maxHeartbeats 1000000 in
theorem least_any (v : Nat) (hv : v < P + P) (w : World) (V : Vars w) :
    Calls Tryd.prog 111 #[arr v] w fun e w' => e = .returned (arr (v % P)) ∧ Below w.heap.size w w' := by
  have hb := V.big
  have h0 : 0 < w.heap.size := by omega
  have hn0 : ¬ (0 = w.heap.size) := by omega
  obtain ⟨a0, a1, a2, a3, ea, ea'⟩ := arr_open v
  obtain ⟨p0, p1, p2, p3, ep, ep'⟩ := arr_open P
  obtain ⟨d0, d1, d2, d3, ed, ed'⟩ := arr_open ((v + K ^ 4 - P) % K ^ 4)
  have C := fun w => difference_of v P (Nat.lt_trans hv P_two) P_lt w
  rw [ea', ep', ed'] at C
  obtain ⟨g0, g1, g2, g3⟩ := V.p.four ep
  rw [ea']
  have hP4 := P_two
  have HE : Hid (arr (v % P) = if v < P then .agg #[.int .u64 a0, .int .u64 a1, .int .u64 a2, .int .u64 a3] else .agg #[.int .u64 d0, .int .u64 d1, .int .u64 d2, .int .u64 d3]) := by
    show _ = _
    rw [least_of v hv]
    split
    · exact ea'
    · rename_i hlt
      have e : (v + K ^ 4 - P) % K ^ 4 = v - P := by
        rw [Nat.mod_eq_sub_mod (by omega), Nat.mod_eq_of_lt (by omega)]; omega
      rw [← ed', e]
  have C' := hide C
  clear C ea ea' ep ep' ed ed' hP4 V
  go_enter Tryd.func111, Tryd.ntmps111
  go_wp2_with fail
  refine (C'.out _).mono ?_
  rintro e w' ⟨rfl, hbel⟩
  have r1 : Row w' w.heap.size 23 .u64 [a0, a1, a2, a3] := Row.below (by repeat (first | (refine Row.mk ?_ rfl; simp; done) | refine Row.alloc ?_ _)) hbel (by simp; omega)
  have r2 : Row w' (w.heap.size + 1) 25 .u64 [0, 0, 0, 0] := Row.below (by repeat (first | (refine Row.mk ?_ rfl; simp; done) | refine Row.alloc ?_ _)) hbel (by simp)
  have hsz : w.heap.size + 2 ≤ w'.heap.size := by have := hbel.size; simp at this; omega
  have hB : Below w.heap.size w w' := (((Below.refl _ w).alloc (Nat.le_refl _) _).alloc (by simp) _).trans (hbel.mono (by simp; omega))
  have hn1 : w.heap.size < w'.heap.size := by omega
  have hn2 : w.heap.size + 1 < w'.heap.size := by omega
  obtain ⟨c0, c1, c2, c3⟩ := r1.four
  obtain ⟨z0, z1, z2, z3⟩ := r2.four
  have f := fun i => r2.free i
  clear C' g0 g1 g2 g3 hbel r1 r2
  by_cases hlt : v < P
  · rw [if_pos hlt]
    go_wp2
    refine bodyPost_ret (v := .agg #[.int .u64 a0, .int .u64 a1, .int .u64 a2, .int .u64 a3]) (by simp [results, Tryd.results111, go_sem, z0, z1, z2, z3, hn1, hn2]) rfl ⟨by rw [HE.out, if_pos hlt], ?_⟩
    repeat (first | refine put_below ?_ (by omega) | refine new_below ?_ (Nat.le_refl _) | exact hB)
  · rw [if_neg hlt]
    go_wp2
    refine bodyPost_ret (v := .agg #[.int .u64 d0, .int .u64 d1, .int .u64 d2, .int .u64 d3]) (by simp [results, Tryd.results111, go_sem, z0, z1, z2, z3, hn1, hn2]) rfl ⟨by rw [HE.out, if_neg hlt], ?_⟩
    repeat (first | refine put_below ?_ (by omega) | refine new_below ?_ (Nat.le_refl _) | exact hB)
end Go.Proofs.YtpaendmdcdeemaaDoor
