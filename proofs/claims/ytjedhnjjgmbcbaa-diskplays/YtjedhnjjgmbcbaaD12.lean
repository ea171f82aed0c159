/-
  works: what is synced stays.
-/
import Derived.Test.YtjedhnjjgmbcbaaDX
namespace Go.Proofs.Ytjedhnjjgmbcbaa
open Go.RowKit

theorem srt_one (x : FA) : srtL [x] = [bl x.nm] := by simp [srtL]
theorem wk_one (x : FA) (ks : List Int) : wkK [x] ks 1 = [cutA x (ks.getD 0 0)] := by
  have : rankF [x] x.nm = 0 := by rw [rankF, srt_one]; simp
  simp [wkK, this]
theorem wake_one (x : FA) (n l : Nat) (b : Bool) (sz : List Nat) (ks : List Int) : wakeD ⟨[x], n, l, b, sz⟩ ks = ⟨[cutA x (ks.getD 0 0)], n + x.da.length - (cutA x (ks.getD 0 0)).da.length, 0, false, sz⟩ := by
  unfold wakeD
  rw [show ([x] : List FA).length = 1 from rfl, wk_one]
  simp [used]
theorem works1 : AppendD ⟨[], 9, 0, false, []⟩ { data := #[97] } { data := #[97, 98, 99] } = (⟨[⟨{ data := #[97] }, [97, 98, 99], 0⟩], 6, 0, false, [3]⟩, 0) := by decide +kernel
theorem works2 : SyncD ⟨[⟨{ data := #[97] }, [97, 98, 99], 0⟩], 6, 0, false, [3]⟩ { data := #[97] } = (⟨[⟨{ data := #[97] }, [97, 98, 99], 3⟩], 6, 0, false, [3, 0]⟩, 0) := by decide +kernel
theorem works3 : AppendD ⟨[⟨{ data := #[97] }, [97, 98, 99], 3⟩], 6, 0, false, [3, 0]⟩ { data := #[97] } { data := #[100] } = (⟨[⟨{ data := #[97] }, [97, 98, 99, 100], 3⟩], 5, 0, false, [3, 0, 1]⟩, 0) := by decide +kernel
theorem works4 : wakeD ⟨[⟨{ data := #[97] }, [97, 98, 99, 100], 3⟩], 5, 0, false, [3, 0, 1]⟩ [] = ⟨[⟨{ data := #[97] }, [97, 98, 99], 3⟩], 6, 0, false, [3, 0, 1]⟩ := by
  rw [wake_one]
  decide +kernel
theorem works5 : readD ⟨[⟨{ data := #[97] }, [97, 98, 99], 3⟩], 6, 0, false, [3, 0, 1]⟩ { data := #[97] } = ({ data := #[97, 98, 99] }, 0) := by decide +kernel
set_option linter.unusedVariables false in
set_option maxRecDepth 100000 in
set_option maxHeartbeats 2000000 in
theorem works_any (w : World) :
    Calls Try.prog 26 #[] w fun e w' => e = .returned (.bool true) ∧ Below w.heap.size w w' := by
  have H0 := HA.start w
  go_enter Try.func26, Try.ntmps26
  refine wp_seq ?_
  refine wl_region ?_
  refine wl_val (.bool false) (by kernel_rfl) (by kernel_rfl) ?_
  refine wl_nil ?_
  refine then_at (F := ⟨(.bool false :: List.replicate 42 un).toArray, []⟩) (by kernel_rfl) ?_
  refine wp_seq ?_
  refine wl_region ?_
  refine wl_callx (by kernel_rfl) enter7 #[iN .i64 9] (by kernel_rfl) (New_any (9) H0) ?_
  rintro _ w1 ⟨d, rfl, hD0⟩
  refine ⟨_, rfl, ?_⟩
  have hb0 : DB ⟨[], 9, 0, false, []⟩ 0 0 := new_DB (by decide)
  have hD1 : DH _ _ d ⟨[], 9, 0, false, []⟩ _ _ := hD0
  have hD1 : DH _ _ d (⟨[], 9, 0, false, []⟩) _ _ := hD1
  obtain ⟨z2, X3, hcl4, hbe5, h6⟩ := DH.front hD1
  have h7 : HA z2 X3 w1 := h6
  refine wl_val (.pointer (some ⟨d.q, 0, none⟩)) (by kernel_rfl) (by kernel_rfl) ?_
  refine wl_nil ?_
  refine then_at (F := ⟨(.bool false :: pt d.q :: un :: un :: pt d.q :: List.replicate 38 un).toArray, []⟩) (by kernel_rfl) ?_
  refine wp_seq ?_
  refine wp_seq ?_
  refine wl_region ?_
  refine wl_val (.pointer (some ⟨d.q, 0, none⟩)) (by kernel_rfl) (by kernel_rfl) ?_
  refine wl_val (.bool false) (by kernel_rfl) (by kernel_rfl) ?_
  refine wl_val (.bool false) (by kernel_rfl) (by kernel_rfl) ?_
  refine wl_val (.pointer (some ⟨d.q, 0, none⟩)) (by kernel_rfl) (by kernel_rfl) ?_
  refine wl_callx (by kernel_rfl) enter10 #[.pointer (some ⟨d.q, 0, none⟩), .string ({ data := #[97] }), .string ({ data := #[97, 98, 99] })] (by kernel_rfl) (by have h := Append_any (hcl4 [] _ h7) ({ data := #[97] }) ({ data := #[97, 98, 99] }) hb0 (by decide) (by decide); rw [works1] at h; exact h) ?_
  rintro _ w10 ⟨rfl, hD8⟩
  refine ⟨_, rfl, ?_⟩
  have hb9 := Append_DB hb0 ({ data := #[97] }) ({ data := #[97, 98, 99] })
  rw [works1] at hb9
  have hD8 : DH _ _ d (⟨[⟨{ data := #[97] }, [97, 98, 99], 0⟩], 6, 0, false, [3]⟩) _ _ := hD8
  obtain ⟨z11, X12, hcl13, hbe14, h15⟩ := DH.front hD8
  have h16 : HA z11 X12 w10 := h15
  refine wl_val (.bool false) (by kernel_rfl) (run_nei (k := .i64) (a := 0) (b := 0) (by kernel_rfl) (by kernel_rfl) false (by decide)) ?_
  refine wl_val (.bool false) (by kernel_rfl) (by kernel_rfl) ?_
  refine wl_val (.bool false) (by kernel_rfl) (by kernel_rfl) ?_
  refine wl_val (.pointer (some ⟨d.q, 0, none⟩)) (by kernel_rfl) (by kernel_rfl) ?_
  refine wl_callx (by kernel_rfl) enter12 #[.pointer (some ⟨d.q, 0, none⟩), .string ({ data := #[97] })] (by kernel_rfl) (by have h := Sync_any (hcl13 [] _ h16) { data := #[97] } hb9 (by decide); rw [works2] at h; exact h) ?_
  rintro _ w19 ⟨rfl, hD17⟩
  refine ⟨_, rfl, ?_⟩
  have hb18 := Sync_DB hb9 { data := #[97] }
  rw [works2] at hb18
  have hD17 : DH _ _ d (⟨[⟨{ data := #[97] }, [97, 98, 99], 3⟩], 6, 0, false, [3, 0]⟩) _ _ := hD17
  obtain ⟨z20, X21, hcl22, hbe23, h24⟩ := DH.front hD17
  have h25 : HA z20 X21 w19 := h24
  refine wl_val (.bool false) (by kernel_rfl) (run_nei (k := .i64) (a := 0) (b := 0) (by kernel_rfl) (by kernel_rfl) false (by decide)) ?_
  refine wl_val (.bool false) (by kernel_rfl) (by kernel_rfl) ?_
  refine wl_val (.bool false) (by kernel_rfl) (by kernel_rfl) ?_
  refine wl_val (.pointer (some ⟨d.q, 0, none⟩)) (by kernel_rfl) (by kernel_rfl) ?_
  refine wl_callx (by kernel_rfl) enter10 #[.pointer (some ⟨d.q, 0, none⟩), .string ({ data := #[97] }), .string ({ data := #[100] })] (by kernel_rfl) (by have h := Append_any (hcl22 [] _ h25) ({ data := #[97] }) ({ data := #[100] }) hb18 (by decide) (by decide); rw [works3] at h; exact h) ?_
  rintro _ w28 ⟨rfl, hD26⟩
  refine ⟨_, rfl, ?_⟩
  have hb27 := Append_DB hb18 ({ data := #[97] }) ({ data := #[100] })
  rw [works3] at hb27
  have hD26 : DH _ _ d (⟨[⟨{ data := #[97] }, [97, 98, 99, 100], 3⟩], 5, 0, false, [3, 0, 1]⟩) _ _ := hD26
  obtain ⟨z29, X30, hcl31, hbe32, h33⟩ := DH.front hD26
  have h34 : HA z29 X30 w28 := h33
  refine wl_val (.bool false) (by kernel_rfl) (run_nei (k := .i64) (a := 0) (b := 0) (by kernel_rfl) (by kernel_rfl) false (by decide)) ?_
  refine wl_val (.bool false) (by kernel_rfl) (by kernel_rfl) ?_
  refine wl_val (.bool false) (by kernel_rfl) (by kernel_rfl) ?_
  refine wl_val (.pointer (some ⟨d.q, 0, none⟩)) (by kernel_rfl) (by kernel_rfl) ?_
  refine wl_callx (by kernel_rfl) enter20 #[.pointer (some ⟨d.q, 0, none⟩), .slice none 0 0] (by kernel_rfl) (by have h := Wake_any (o := none) (c := 0) (ks := []) (hcl31 [] _ h34) (KV.nil _ _ _) (by decide) hb27 (by decide) (by decide); rw [works4] at h; exact h) ?_
  rintro _ w36 ⟨rfl, hD35⟩
  refine ⟨_, rfl, ?_⟩
  have hD35 : DH _ _ d (⟨[⟨{ data := #[97] }, [97, 98, 99], 3⟩], 6, 0, false, [3, 0, 1]⟩) _ _ := hD35
  obtain ⟨z37, X38, hcl39, hbe40, h41⟩ := DH.front hD35
  have h42 : HA z37 X38 w36 := h41
  refine wl_val (.bool false) (by kernel_rfl) (run_nei (k := .i64) (a := 0) (b := 0) (by kernel_rfl) (by kernel_rfl) false (by decide)) ?_
  refine wl_val (.bool false) (by kernel_rfl) (by kernel_rfl) ?_
  refine wl_nil ?_
  refine then_at (F := ⟨(.bool false :: pt d.q :: un :: un :: pt d.q :: pt d.q :: .bool false :: .bool false :: pt d.q :: iN .i64 0 :: .bool false :: .bool false :: .bool false :: pt d.q :: iN .i64 0 :: .bool false :: .bool false :: .bool false :: pt d.q :: iN .i64 0 :: .bool false :: .bool false :: .bool false :: pt d.q :: iN .i64 0 :: .bool false :: .bool false :: List.replicate 16 un).toArray, []⟩) (by kernel_rfl) ?_
  refine wp_cond_false (by kernel_rfl) ?_
  refine wp_skip ?_
  refine then_at (F := ⟨(.bool false :: pt d.q :: un :: un :: pt d.q :: pt d.q :: .bool false :: .bool false :: pt d.q :: iN .i64 0 :: .bool false :: .bool false :: .bool false :: pt d.q :: iN .i64 0 :: .bool false :: .bool false :: .bool false :: pt d.q :: iN .i64 0 :: .bool false :: .bool false :: .bool false :: pt d.q :: iN .i64 0 :: .bool false :: .bool false :: List.replicate 16 un).toArray, []⟩) (by kernel_rfl) ?_
  refine wp_seq ?_
  refine wl_region ?_
  refine wl_val (.pointer (some ⟨d.q, 0, none⟩)) (by kernel_rfl) (by kernel_rfl) ?_
  refine wl_call (v := .tuple #[.string ({ data := #[97, 98, 99] }), iN .i64 0]) h42 (by kernel_rfl) enter23 #[.pointer (some ⟨d.q, 0, none⟩), .string ({ data := #[97] })] (by kernel_rfl) (by have h := Read_any (hcl39 [] _ h42) { data := #[97] }; rw [works5] at h; exact h) ?_
  intro w43 h44
  refine wl_val (.tuple #[.string ({ data := #[97, 98, 99] }), iN .i64 0]) (by kernel_rfl) (by kernel_rfl) ?_
  refine wl_val (.string ({ data := #[97, 98, 99] })) (by kernel_rfl) (by kernel_rfl) ?_
  refine wl_val (iN .i64 0) (by kernel_rfl) (by kernel_rfl) ?_
  refine wl_val (.string ({ data := #[97, 98, 99] })) (by kernel_rfl) (by kernel_rfl) ?_
  refine wl_val (iN .i64 0) (by kernel_rfl) (by kernel_rfl) ?_
  refine wl_nil ?_
  refine then_at (F := ⟨(.bool false :: pt d.q :: .string ({ data := #[97, 98, 99] }) :: iN .i64 0 :: pt d.q :: pt d.q :: .bool false :: .bool false :: pt d.q :: iN .i64 0 :: .bool false :: .bool false :: .bool false :: pt d.q :: iN .i64 0 :: .bool false :: .bool false :: .bool false :: pt d.q :: iN .i64 0 :: .bool false :: .bool false :: .bool false :: pt d.q :: iN .i64 0 :: .bool false :: .bool false :: .tuple #[.string ({ data := #[97, 98, 99] }), iN .i64 0] :: pt d.q :: .tuple #[.string ({ data := #[97, 98, 99] }), iN .i64 0] :: .string ({ data := #[97, 98, 99] }) :: iN .i64 0 :: List.replicate 11 un).toArray, []⟩) (by kernel_rfl) ?_
  refine wp_seq ?_
  refine wl_region ?_
  refine wl_val (iN .i64 0) (by kernel_rfl) (by kernel_rfl) ?_
  refine wl_val (.bool true) (by kernel_rfl) (run_eqi (k := .i64) (a := 0) (b := 0) (by kernel_rfl) (by kernel_rfl) true (by decide)) ?_
  refine wl_val (.bool true) (by kernel_rfl) (by kernel_rfl) ?_
  refine wl_val (.string ({ data := #[97, 98, 99] })) (by kernel_rfl) (by kernel_rfl) ?_
  refine wl_val (.bool true) (by kernel_rfl) (run_eqs (s := { data := #[97, 98, 99] }) (t := { data := #[97, 98, 99] }) (by kernel_rfl) (by kernel_rfl) true (by decide)) ?_
  refine wl_val (.bool true) (by kernel_rfl) (by kernel_rfl) ?_
  refine wl_val (.bool true) (by kernel_rfl) (by kernel_rfl) ?_
  refine wl_val (.pointer (some ⟨d.q, 0, none⟩)) (by kernel_rfl) (by kernel_rfl) ?_
  refine wl_call (v := iN .i64 6) h44 (by kernel_rfl) enter31 #[.pointer (some ⟨d.q, 0, none⟩)] (by kernel_rfl) (Free_any (hcl39 [] _ h44)) ?_
  intro w45 h46
  refine wl_val (.bool true) (by kernel_rfl) (run_eqi (k := .i64) (a := 6) (b := 6) (by kernel_rfl) (by kernel_rfl) true (by decide)) ?_
  refine wl_val (.bool true) (by kernel_rfl) (by kernel_rfl) ?_
  refine wl_val (.bool true) (by kernel_rfl) (by kernel_rfl) ?_
  refine wl_nil ?_
  refine then_at (F := ⟨(.bool true :: pt d.q :: .string ({ data := #[97, 98, 99] }) :: iN .i64 0 :: pt d.q :: pt d.q :: .bool false :: .bool false :: pt d.q :: iN .i64 0 :: .bool false :: .bool false :: .bool false :: pt d.q :: iN .i64 0 :: .bool false :: .bool false :: .bool false :: pt d.q :: iN .i64 0 :: .bool false :: .bool false :: .bool false :: pt d.q :: iN .i64 0 :: .bool false :: .bool false :: .tuple #[.string ({ data := #[97, 98, 99] }), iN .i64 0] :: pt d.q :: .tuple #[.string ({ data := #[97, 98, 99] }), iN .i64 0] :: .string ({ data := #[97, 98, 99] }) :: iN .i64 0 :: iN .i64 0 :: .bool true :: .bool true :: .string ({ data := #[97, 98, 99] }) :: .bool true :: .bool true :: .bool true :: pt d.q :: iN .i64 6 :: .bool true :: .bool true :: List.replicate 0 un).toArray, []⟩) (by kernel_rfl) ?_
  refine wp_ret ?_
  repeat first | refine then_ret ?_ | refine block_ret ?_
  exact bodyPost_ret (v := .bool true) (by kernel_rfl) rfl ⟨rfl, hbe40 _ _ h46⟩
end Go.Proofs.Ytjedhnjjgmbcbaa
