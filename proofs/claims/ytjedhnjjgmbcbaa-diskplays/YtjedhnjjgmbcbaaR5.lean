/-
  The reference's told, without, with.
-/
import Derived.Test.YtjedhnjjgmbcbaaR4
namespace Go.Proofs.Ytjedhnjjgmbcbaa
open Go.RowKit

set_option linter.unusedVariables false in
set_option maxRecDepth 100000 in
set_option maxHeartbeats 2000000 in
theorem told_any {w : World} {rm lf nf cf cz : Nat} {pf pz : Option Addr} {dn : Bool} {zs : List Nat} {N : BL} (hZ : RZL (.slice pz zs.length cz) zs N) (hS : Stand w N) (hzl : zs.length ≤ 100000) (n : Nat) :
    Calls Try.prog 40 #[.agg #[iN .i64 rm, .slice pf nf cf, .bool dn, iN .i64 lf, .slice pz zs.length cz], iN .i64 n] w fun e w' => ∃ p c N', e = .returned (.agg #[iN .i64 rm, .slice pf nf cf, .bool dn, iN .i64 lf, .slice p (zs ++ [n]).length c]) ∧ RZL (.slice p (zs ++ [n]).length c) (zs ++ [n]) N' ∧ Newer w.heap.size w' N' ∧ Below w.heap.size w w' := by
  have H0 := HA.start w
  go_enter Try.func40, Try.ntmps40
  refine wp_seq ?_
  refine wl_region ?_
  refine wl_make (c := #[iN .i64 rm, .slice pf nf cf, .bool dn, iN .i64 lf, .slice pz zs.length cz]) H0 28 (by kernel_rfl) (by kernel_rfl) ?_
  intro q1 w2 (h3 : HA (bs w) [(q1, 28, #[iN .i64 rm, .slice pf nf cf, .bool dn, iN .i64 lf, .slice pz zs.length cz])] w2)
  refine wl_make (c := #[iN .i64 0, .slice none 0 0, .bool false, iN .i64 0, .slice none 0 0]) h3 28 (by kernel_rfl) (by kernel_rfl) ?_
  intro q4 w5 (h6 : HA (bs w) [(q4, 28, #[iN .i64 0, .slice none 0 0, .bool false, iN .i64 0, .slice none 0 0]), (q1, 28, #[iN .i64 rm, .slice pf nf cf, .bool dn, iN .i64 lf, .slice pz zs.length cz])] w5)
  refine wl_nil ?_
  refine then_at (F := ⟨(.agg #[iN .i64 rm, .slice pf nf cf, .bool dn, iN .i64 lf, .slice pz zs.length cz] :: iN .i64 n :: pt q1 :: un :: pt q4 :: List.replicate 11 un).toArray, []⟩) (by kernel_rfl) ?_
  refine wp_seq ?_
  refine wl_region ?_
  refine wl_val (.slice none 0 0) (by kernel_rfl) (by kernel_rfl) ?_
  refine wl_nil ?_
  refine then_at (F := ⟨(.agg #[iN .i64 rm, .slice pf nf cf, .bool dn, iN .i64 lf, .slice pz zs.length cz] :: iN .i64 n :: pt q1 :: un :: pt q4 :: .slice none 0 0 :: List.replicate 10 un).toArray, []⟩) (by kernel_rfl) ?_
  refine wp_seq ?_
  refine wl_region ?_
  refine wl_val (.slice none 0 0) (by kernel_rfl) (by kernel_rfl) ?_
  refine wl_val (.pointer (some ⟨q1, 4, none⟩)) (by kernel_rfl) (by kernel_rfl) ?_
  refine wl_val (.slice pz zs.length cz) (by kernel_rfl) (run_load1 (fun w => Try.isAgg26 w) (by kernel_rfl) (((h6.get 1 rfl).cell 4).trans rfl)) ?_
  refine wl_appZ (c := cz) (m := zs.length) (n := 0) (N := N) (L := [(q4, 28, #[iN .i64 0, .slice none 0 0, .bool false, iN .i64 0, .slice none 0 0]), (q1, 28, #[iN .i64 rm, .slice pf nf cf, .bool dn, iN .i64 lf, .slice pz zs.length cz])]) (Lr := []) (Row.nil 3 1) h6 hZ.src.2 (hS.keep h6.old.old) (by simp) (fun u hu => by obtain ⟨y, _, rfl⟩ := List.mem_map.1 hu; rfl) (by kernel_rfl) (by kernel_rfl) (by kernel_rfl) (by omega) ?_
  intro v1 w7 L1 hR1 h8
  have h9 : HA (bs w) ((q4, 28, #[iN .i64 0, .slice none 0 0, .bool false, iN .i64 0, .slice none 0 0]) :: (q1, 28, #[iN .i64 rm, .slice pf nf cf, .bool dn, iN .i64 lf, .slice pz zs.length cz]) :: L1) w7 := HA.perm h8 (List.perm_append_comm (l₁ := L1) (l₂ := [(q4, 28, #[iN .i64 0, .slice none 0 0, .bool false, iN .i64 0, .slice none 0 0]), (q1, 28, #[iN .i64 rm, .slice pf nf cf, .bool dn, iN .i64 lf, .slice pz zs.length cz])]))
  refine wl_val (v1) (by kernel_rfl) (by kernel_rfl) ?_
  refine wl_nil ?_
  refine then_at (F := ⟨(.agg #[iN .i64 rm, .slice pf nf cf, .bool dn, iN .i64 lf, .slice pz zs.length cz] :: iN .i64 n :: pt q1 :: un :: pt q4 :: v1 :: .slice none 0 0 :: .pointer (some ⟨q1, 4, none⟩) :: .slice pz zs.length cz :: v1 :: List.replicate 6 un).toArray, []⟩) (by kernel_rfl) ?_
  refine wp_seq ?_
  refine wl_region ?_
  refine wl_val (v1) (by kernel_rfl) (by kernel_rfl) ?_
  refine wl_val (iN .i64 n) (by kernel_rfl) (by kernel_rfl) ?_
  refine wl_mks (n := 1) (m := 1) (c := #[iN .i64 n]) h9 3 (by kernel_rfl) (by kernel_rfl) ?_
  intro q10 w11 (h12 : HA (bs w) ((q10, 3, #[iN .i64 n]) :: (q4, 28, #[iN .i64 0, .slice none 0 0, .bool false, iN .i64 0, .slice none 0 0]) :: (q1, 28, #[iN .i64 rm, .slice pf nf cf, .bool dn, iN .i64 lf, .slice pz zs.length cz]) :: L1) w11)
  have h13 : HA (bs w) ((q10, 3, #[iN .i64 n]) :: (L1 ++ [(q4, 28, #[iN .i64 0, .slice none 0 0, .bool false, iN .i64 0, .slice none 0 0]), (q1, 28, #[iN .i64 rm, .slice pf nf cf, .bool dn, iN .i64 lf, .slice pz zs.length cz])])) w11 := HA.perm h12 (List.Perm.cons _ (List.perm_append_comm (l₁ := [(q4, 28, #[iN .i64 0, .slice none 0 0, .bool false, iN .i64 0, .slice none 0 0]), (q1, 28, #[iN .i64 rm, .slice pf nf cf, .bool dn, iN .i64 lf, .slice pz zs.length cz])]) (l₂ := L1)))
  refine wl_append (m := 1) (c := 1) (Lr := L1) hR1 h13 (by decide) _ 8 Try.underlying26 info3 rfl (by decide) (by kernel_rfl) (by kernel_rfl) (by kernel_rfl) rfl (by kernel_rfl) (by unfold maxLen; omega) (by omega) (by decide) ?_
  intro v2 w14 L2 hR2 h15
  have h16 : HA (bs w) ((q4, 28, #[iN .i64 0, .slice none 0 0, .bool false, iN .i64 0, .slice none 0 0]) :: (q1, 28, #[iN .i64 rm, .slice pf nf cf, .bool dn, iN .i64 lf, .slice pz zs.length cz]) :: L2) w14 := HA.perm h15 (List.perm_append_comm (l₁ := L2) (l₂ := [(q4, 28, #[iN .i64 0, .slice none 0 0, .bool false, iN .i64 0, .slice none 0 0]), (q1, 28, #[iN .i64 rm, .slice pf nf cf, .bool dn, iN .i64 lf, .slice pz zs.length cz])]))
  have hR3 : Row 3 1 v2 (zs ++ [n]).length ((zs ++ [n]).map (iN .i64 ·)) L2 := by rw [List.length_append, List.map_append]; simpa using hR2
  obtain ⟨p2, c2, rfl⟩ := hR3.form
  refine wl_val (.pointer (some ⟨q1, 4, none⟩)) (by kernel_rfl) (by kernel_rfl) ?_
  refine wl_putv (v := .slice p2 (zs ++ [n]).length c2) h16 1 rfl 4 (by show 4 < 5; decide) (by kernel_rfl) (fun w => Try.sizeOf26 w) (by kernel_rfl) (by kernel_rfl) (by kernel_rfl) ?_
  intro w17 (h18 : HA (bs w) ((q4, 28, #[iN .i64 0, .slice none 0 0, .bool false, iN .i64 0, .slice none 0 0]) :: (q1, 28, #[iN .i64 rm, .slice pf nf cf, .bool dn, iN .i64 lf, .slice p2 (zs ++ [n]).length c2]) :: L2) w17)
  refine wl_nil ?_
  refine then_at (F := ⟨(.agg #[iN .i64 rm, .slice pf nf cf, .bool dn, iN .i64 lf, .slice pz zs.length cz] :: iN .i64 n :: pt q1 :: un :: pt q4 :: v1 :: .slice none 0 0 :: .pointer (some ⟨q1, 4, none⟩) :: .slice pz zs.length cz :: v1 :: v1 :: iN .i64 n :: .slice (some ⟨q10, 0, none⟩) 1 1 :: .slice p2 (zs ++ [n]).length c2 :: .pointer (some ⟨q1, 4, none⟩) :: List.replicate 1 un).toArray, []⟩) (by kernel_rfl) ?_
  refine wp_seq ?_
  refine wl_region ?_
  refine wl_load h18 1 rfl (by kernel_rfl) (by kernel_rfl) Try.underlying28 rfl (by kernel_rfl) ?_
  refine wl_fill (c' := #[iN .i64 rm, .slice pf nf cf, .bool dn, iN .i64 lf, .slice p2 (zs ++ [n]).length c2]) h18 0 rfl (by kernel_rfl) (by kernel_rfl) (by kernel_rfl) rfl (by kernel_rfl) (by kernel_rfl) ?_
  intro w19 (h20 : HA (bs w) ((q4, 28, #[iN .i64 rm, .slice pf nf cf, .bool dn, iN .i64 lf, .slice p2 (zs ++ [n]).length c2]) :: (q1, 28, #[iN .i64 rm, .slice pf nf cf, .bool dn, iN .i64 lf, .slice p2 (zs ++ [n]).length c2]) :: L2) w19)
  refine wl_nil ?_
  refine then_at (F := ⟨(.agg #[iN .i64 rm, .slice pf nf cf, .bool dn, iN .i64 lf, .slice pz zs.length cz] :: iN .i64 n :: pt q1 :: un :: pt q4 :: v1 :: .slice none 0 0 :: .pointer (some ⟨q1, 4, none⟩) :: .slice pz zs.length cz :: v1 :: v1 :: iN .i64 n :: .slice (some ⟨q10, 0, none⟩) 1 1 :: .slice p2 (zs ++ [n]).length c2 :: .pointer (some ⟨q1, 4, none⟩) :: .agg (#[iN .i64 rm, .slice pf nf cf, .bool dn, iN .i64 lf, .slice p2 (zs ++ [n]).length c2]) :: List.replicate 0 un).toArray, []⟩) (by kernel_rfl) ?_
  refine wp_ret ?_
  repeat first | refine then_ret ?_ | refine block_ret ?_
  exact bodyPost_ret (v := .agg (#[iN .i64 rm, .slice pf nf cf, .bool dn, iN .i64 lf, .slice p2 (zs ++ [n]).length c2])) (res_cell (p := 4) (by kernel_rfl) (by kernel_rfl) (h20.get 0 rfl) Try.underlying28 rfl (by kernel_rfl)) rfl ⟨p2, c2, L2, rfl, Row.rzl rfl hR3, HA.newerN (HA.perm h20 (List.perm_append_comm (l₁ := [(q4, 28, #[iN .i64 rm, .slice pf nf cf, .bool dn, iN .i64 lf, .slice p2 (zs ++ [n]).length c2]), (q1, 28, #[iN .i64 rm, .slice pf nf cf, .bool dn, iN .i64 lf, .slice p2 (zs ++ [n]).length c2])]) (l₂ := L2))), h20.old.old⟩
end Go.Proofs.Ytjedhnjjgmbcbaa
