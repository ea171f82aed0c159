/-
  Copy.
-/
import Derived.Test.YtjedhnjjgmbcbaaDC
namespace Go.Proofs.Ytjedhnjjgmbcbaa
open Go.RowKit

section
variable {ρ : Operand → Value} {x y : Operand} {w w' : World} {dst : Option Tmp} {ty : TypeId} {pos : String} {aft : Array Edge} {gd : Option (Nat × Bool)}
theorem run_eq52 {a : Addr} {n c : Nat} (hx : ρ x = .slice (some a) n c) (hy : ρ y = .slice none 0 0) : (execOp ρ ⟨dst, .binOp .eql 52 x y 52, ty, pos, aft, gd⟩).run Try.prog w = .ok (.value (.bool false)) w := by
  simp only [execOp, hx, hy]
  go_simp
  rw [Lib.run_eql_slice_nil w 52 5 (some a) n c 0 0 Try.underlying52]
  rfl
theorem run_capp {u v r : Value} (hx : ρ x = u) (hy : ρ y = v) (h : (Builtin.append_ #[52, 52] ty #[u, v]).run Try.prog w = .ok r w') : (execOp ρ ⟨dst, .call { callee := .builtin .append, args := #[x, y], argTypes := #[52, 52] }, ty, pos, aft, gd⟩).run Try.prog w = .ok (.value r) w' := by
  unfold execOp
  simp only [resolve, invoke, builtin, Sem.run_bind, Sem.run_pure, Result.andThen_ok, List.map_toArray, List.map_cons, List.map_nil, hx, hy, h]
end
set_option linter.unusedVariables false in
set_option maxRecDepth 100000 in
set_option maxHeartbeats 2000000 in
theorem cloneB_nil (w : World) :
    Calls Try.prog 55 #[.slice none 0 0] w fun e w' => e = .returned (.slice none 0 0) ∧ HA (bs w) [] w' := by
  have H0 := HA.start w
  go_enter Try.func55, Try.ntmps55
  refine wp_seq ?_
  refine wl_region ?_
  refine wl_val (.slice none 0 0) (by kernel_rfl) (by kernel_rfl) ?_
  refine wl_nil ?_
  refine then_at (F := ⟨(.slice none 0 0 :: un :: .slice none 0 0 :: List.replicate 5 un).toArray, []⟩) (by kernel_rfl) ?_
  refine wp_seq ?_
  refine wp_seq ?_
  refine wl_region ?_
  refine wl_val (.slice none 0 0) (by kernel_rfl) (by kernel_rfl) ?_
  refine wl_val (.bool true) (by kernel_rfl) (by kernel_rfl) ?_
  refine wl_nil ?_
  refine then_at (F := ⟨(.slice none 0 0 :: un :: .slice none 0 0 :: .slice none 0 0 :: .bool true :: List.replicate 3 un).toArray, []⟩) (by kernel_rfl) ?_
  refine wp_cond_true (by kernel_rfl) ?_
  refine wp_seq ?_
  refine wl_region ?_
  refine wl_val (.slice none 0 0) (by kernel_rfl) (by kernel_rfl) ?_
  refine wl_nil ?_
  refine then_at (F := ⟨(.slice none 0 0 :: un :: .slice none 0 0 :: .slice none 0 0 :: .bool true :: List.replicate 3 un).toArray, []⟩) (by kernel_rfl) ?_
  refine wp_ret ?_
  repeat first | refine then_ret ?_ | refine block_ret ?_
  exact bodyPost_ret (v := .slice none 0 0) (by kernel_rfl) rfl ⟨rfl, H0⟩
set_option linter.unusedVariables false in
set_option maxRecDepth 100000 in
set_option maxHeartbeats 2000000 in
theorem cloneB_some {w : World} {g cap : Nat} {cur da : List UInt8} (hb : Blk w g 5 (bc cur)) (k4 : cur.take da.length = da) (hl : da.length ≤ 1000000000) (k0 : 0 < da.length) :
    Calls Try.prog 55 #[.slice (some ⟨g, 0, none⟩) da.length cap] w fun e w' => ∃ v' Lr', e = .returned v' ∧ RowB v' da Lr' ∧ HA (bs w) Lr' w' := by
  have H0 := HA.start w
  go_enter Try.func55, Try.ntmps55
  refine wp_seq ?_
  refine wl_region ?_
  refine wl_val (.slice none 0 0) (by kernel_rfl) (by kernel_rfl) ?_
  refine wl_nil ?_
  refine then_at (F := ⟨(.slice (some ⟨g, 0, none⟩) da.length cap :: un :: .slice none 0 0 :: List.replicate 5 un).toArray, []⟩) (by kernel_rfl) ?_
  refine wp_seq ?_
  refine wp_seq ?_
  refine wl_region ?_
  refine wl_val (.slice (some ⟨g, 0, none⟩) da.length cap) (by kernel_rfl) (by kernel_rfl) ?_
  refine wl_val (.bool false) (by kernel_rfl) (run_eq52 (a := ⟨g, 0, none⟩) (n := da.length) (c := cap) (by kernel_rfl) (by kernel_rfl)) ?_
  refine wl_nil ?_
  refine then_at (F := ⟨(.slice (some ⟨g, 0, none⟩) da.length cap :: un :: .slice none 0 0 :: .slice (some ⟨g, 0, none⟩) da.length cap :: .bool false :: List.replicate 3 un).toArray, []⟩) (by kernel_rfl) ?_
  refine wp_cond_false (by kernel_rfl) ?_
  refine wp_skip ?_
  refine then_at (F := ⟨(.slice (some ⟨g, 0, none⟩) da.length cap :: un :: .slice none 0 0 :: .slice (some ⟨g, 0, none⟩) da.length cap :: .bool false :: List.replicate 3 un).toArray, []⟩) (by kernel_rfl) ?_
  refine wp_seq ?_
  refine wl_region ?_
  refine wl_mks (n := 0) (m := 0) (c := #[]) H0 5 (by kernel_rfl) (by kernel_rfl) ?_
  intro q1 w2 (h3 : HA (bs w) [(q1, 5, #[])] w2)
  refine wl_val (.slice (some ⟨g, 0, none⟩) da.length cap) (by kernel_rfl) (by kernel_rfl) ?_
  refine wl_any (by kernel_rfl) (run_capp (by kernel_rfl) (by kernel_rfl) (run_copyB (g0 := q1) (cap := cap) (hb.keep h3.old.old) k4 hl k0)) ?_
  have h4 := h3.drew.make 5 (bc (da ++ List.replicate (grownCap w2 da.length 0 5 - da.length) 0))
  have hge := grownCap_ge w2 da.length 0 5
  have hgm := grownCap_le_maxLen w2 da.length 0 5 (by unfold maxLen; omega)
  change HA _ ((w2.heap.size, _) :: _) _ at h4
  generalize grownCap w2 da.length 0 5 = cp at h4 hge hgm ⊢
  generalize w2.drew.alloc (.cells (bc (da ++ List.replicate (cp - da.length) 0)) 5) = w5 at h4 ⊢
  generalize w2.heap.size = g2 at h4 ⊢
  refine wl_val (.slice (some ⟨g2, 0, none⟩) da.length cp) (by kernel_rfl) (by kernel_rfl) ?_
  refine wl_nil ?_
  refine then_at (F := ⟨(.slice (some ⟨g, 0, none⟩) da.length cap :: un :: .slice (some ⟨g2, 0, none⟩) da.length cp :: .slice (some ⟨g, 0, none⟩) da.length cap :: .bool false :: .slice (some ⟨q1, 0, none⟩) 0 0 :: .slice (some ⟨g, 0, none⟩) da.length cap :: .slice (some ⟨g2, 0, none⟩) da.length cp :: List.replicate 0 un).toArray, []⟩) (by kernel_rfl) ?_
  refine wp_ret ?_
  repeat first | refine then_ret ?_ | refine block_ret ?_
  exact bodyPost_ret (v := .slice (some ⟨g2, 0, none⟩) da.length cp) (by kernel_rfl) rfl ⟨_, [(g2, 5, bc (da ++ List.replicate (cp - da.length) 0))], rfl, .inr ⟨g2, cp, _, rfl, rfl, hge, hgm, by simp; omega, List.take_left⟩, h4.sub (List.Sublist.cons_cons _ (List.Sublist.cons _ (List.Sublist.refl _)))⟩
set_option linter.unusedVariables false in
set_option maxRecDepth 100000 in
set_option maxHeartbeats 2000000 in
theorem cloneB_zero {w : World} {g cap : Nat} {cur : List UInt8} :
    Calls Try.prog 55 #[.slice (some ⟨g, 0, none⟩) 0 cap] w fun e w' => ∃ v' Lr', e = .returned v' ∧ RowB v' [] Lr' ∧ HA (bs w) Lr' w' := by
  have H0 := HA.start w
  go_enter Try.func55, Try.ntmps55
  refine wp_seq ?_
  refine wl_region ?_
  refine wl_val (.slice none 0 0) (by kernel_rfl) (by kernel_rfl) ?_
  refine wl_nil ?_
  refine then_at (F := ⟨(.slice (some ⟨g, 0, none⟩) 0 cap :: un :: .slice none 0 0 :: List.replicate 5 un).toArray, []⟩) (by kernel_rfl) ?_
  refine wp_seq ?_
  refine wp_seq ?_
  refine wl_region ?_
  refine wl_val (.slice (some ⟨g, 0, none⟩) 0 cap) (by kernel_rfl) (by kernel_rfl) ?_
  refine wl_val (.bool false) (by kernel_rfl) (run_eq52 (a := ⟨g, 0, none⟩) (n := 0) (c := cap) (by kernel_rfl) (by kernel_rfl)) ?_
  refine wl_nil ?_
  refine then_at (F := ⟨(.slice (some ⟨g, 0, none⟩) 0 cap :: un :: .slice none 0 0 :: .slice (some ⟨g, 0, none⟩) 0 cap :: .bool false :: List.replicate 3 un).toArray, []⟩) (by kernel_rfl) ?_
  refine wp_cond_false (by kernel_rfl) ?_
  refine wp_skip ?_
  refine then_at (F := ⟨(.slice (some ⟨g, 0, none⟩) 0 cap :: un :: .slice none 0 0 :: .slice (some ⟨g, 0, none⟩) 0 cap :: .bool false :: List.replicate 3 un).toArray, []⟩) (by kernel_rfl) ?_
  refine wp_seq ?_
  refine wl_region ?_
  refine wl_mks (n := 0) (m := 0) (c := #[]) H0 5 (by kernel_rfl) (by kernel_rfl) ?_
  intro q1 w2 (h3 : HA (bs w) [(q1, 5, #[])] w2)
  refine wl_val (.slice (some ⟨g, 0, none⟩) 0 cap) (by kernel_rfl) (by kernel_rfl) ?_
  refine wl_any (by kernel_rfl) (run_capp (by kernel_rfl) (by kernel_rfl) (run_copyB0 (g0 := q1) (g := g) (cap := cap))) ?_
  refine wl_val (.slice (some ⟨q1, 0, none⟩) 0 0) (by kernel_rfl) (by kernel_rfl) ?_
  refine wl_nil ?_
  refine then_at (F := ⟨(.slice (some ⟨g, 0, none⟩) 0 cap :: un :: .slice (some ⟨q1, 0, none⟩) 0 0 :: .slice (some ⟨g, 0, none⟩) 0 cap :: .bool false :: .slice (some ⟨q1, 0, none⟩) 0 0 :: .slice (some ⟨g, 0, none⟩) 0 cap :: .slice (some ⟨q1, 0, none⟩) 0 0 :: List.replicate 0 un).toArray, []⟩) (by kernel_rfl) ?_
  refine wp_ret ?_
  repeat first | refine then_ret ?_ | refine block_ret ?_
  exact bodyPost_ret (v := .slice (some ⟨q1, 0, none⟩) 0 0) (by kernel_rfl) rfl ⟨_, [(q1, 5, #[])], rfl, .inr ⟨q1, 0, [], rfl, rfl, Nat.le_refl _, Nat.zero_le _, rfl, rfl⟩, h3⟩
theorem cloneB_any {w : World} {v : Value} {da : List UInt8} {Lr : BL} (h : RowB v da Lr) (hB : ∀ y ∈ Lr, Blk w y.1 y.2.1 y.2.2) (hl : da.length ≤ 1000000000) :
    Calls Try.prog 55 #[v] w fun e w' => ∃ v' Lr', e = .returned v' ∧ RowB v' da Lr' ∧ HA (bs w) Lr' w' := by
  rcases h with ⟨rfl, rfl, rfl⟩ | ⟨g, cap, cur, rfl, rfl, k1, k2, k3, k4⟩
  · refine (cloneB_nil w).mono ?_
    rintro e w' ⟨rfl, H⟩
    exact ⟨_, [], rfl, RowB.nil, H⟩
  · rcases Nat.eq_zero_or_pos da.length with h0 | h0
    · have : da = [] := List.length_eq_zero_iff.1 h0
      subst this
      exact cloneB_zero (cur := cur)
    · exact cloneB_some (hB (g, 5, bc cur) (by simp)) k4 hl h0
theorem run_mkM {ρ : Operand → Value} {x : Operand} {w : World} {dst : Option Tmp} {ty : TypeId} {pos : String} {aft : Array Edge} {gd : Option (Nat × Bool)} {n : Nat} (hx : ρ x = iN .i64 n) : (execOp ρ ⟨dst, .makeMap 59 (some x), ty, pos, aft, gd⟩).run Try.prog w = .ok (.value (.map (some w.heap.size))) (w.alloc (.map #[] 0)) := by
  simp [execOp, hx, iN, Instr.makeMap, asInt, asIntOf]
theorem copy_new {pre lft fl flc A B : List Fl} {f g0 : Fl} {nx : Nat} (hp : (pre ++ (g0 :: lft)).Perm fl) (hAB : g0 :: lft = A ++ f :: B) (hK : FK fl nx) (hc : flc.map ab = pre.map ab) : ∀ g ∈ flc, g.nm ≠ f.nm := fun g hg e => by
  have h1 : ((pre ++ (g0 :: lft)).map (·.nm)).Nodup := (hp.map _).nodup_iff.2 hK.nms
  rw [List.map_append, List.nodup_append] at h1
  have h2 : ab g ∈ pre.map ab := by rw [← hc]; exact List.mem_map.2 ⟨g, hg, rfl⟩
  obtain ⟨x, hx, e2⟩ := List.mem_map.1 h2
  have e3 : x.nm = g.nm := congrArg FA.nm e2
  exact h1.2.2 x.nm (List.mem_map.2 ⟨x, hx, rfl⟩) f.nm (List.mem_map.2 ⟨f, by rw [hAB]; simp, rfl⟩) (e3.trans e)
theorem copy_perm {p q : Nat × TypeId × Array Value} (A B C : BL) : (p :: q :: (A ++ (B ++ C))).Perm (q :: (B ++ (C ++ (p :: (A ++ []))))) := by
  rw [List.append_nil]
  refine (List.Perm.swap q p _).trans (List.Perm.cons q ?_)
  have h := List.perm_append_comm (l₁ := p :: A) (l₂ := B ++ C)
  rw [List.append_assoc B C (p :: A)] at h
  exact h
set_option linter.unusedVariables false in
set_option maxRecDepth 100000 in
set_option maxHeartbeats 2000000 in
theorem Copy_new {w0 : World} {M : ML} {d : Dk} {D : DS} {L : BL} {w : World} (hD : DH w0 M d D L w) {U N : Nat} (hb : DB D U N) (hN : N ≤ 1000000) (hU : U ≤ 1000000000) :
    Calls Try.prog 22 #[pt d.q] w fun e w' => ∃ (c : Dk) (D2 : DS), e = .returned (pt c.q) ∧ DB D2 U N ∧ ∃ fl2 nx2 v2 Lr2, fl2.map ab = D2.fs ∧ FK fl2 nx2 ∧ Row 3 1 v2 D2.sizes.length (D2.sizes.map (iN .i64 ·)) Lr2 ∧ HA ⟨w, [(c.r, .mp (eF fl2) nx2)]⟩ ((c.q, 61, dcell c.r D2.free D2.left D2.down v2) :: (Lr2 ++ FB fl2)) w' := by
  obtain ⟨fl, nx, v, Lr, hfl, hK, hR, HH⟩ := hD
  have hm := HH.old.maps _ (List.mem_cons_self ..)
  have hq := HH.get 0 rfl
  have hda : ∀ f ∈ fl, f.da.length ≤ 1000000000 := fun f hf => by
    have h1 : (ab f).da.length ≤ used D.fs := used_mem (by rw [← hfl]; exact List.mem_map.2 ⟨f, hf, rfl⟩)
    have h2 := hb.us
    have h3 : (ab f).da.length = f.da.length := rfl
    omega
  have hsz := hb.sz
  obtain ⟨pv, cv, hvv⟩ := hR.form
  subst hvv
  have H0 := HA.start w
  go_enter Try.func22, Try.ntmps22
  refine wp_seq ?_
  refine wl_region ?_
  refine wl_val (.pointer none) (by kernel_rfl) (by kernel_rfl) ?_
  refine wl_nil ?_
  refine then_at (F := ⟨(pt d.q :: un :: .pointer none :: List.replicate 45 un).toArray, []⟩) (by kernel_rfl) ?_
  refine wp_seq ?_
  refine wp_seq ?_
  refine wl_region ?_
  refine wl_val (.pointer (some ⟨d.q, 0, none⟩)) (by kernel_rfl) (by kernel_rfl) ?_
  refine wl_call (v := .bool false) H0 (by kernel_rfl) enter50 #[.pointer (some ⟨d.q, 0, none⟩)] (by kernel_rfl) (none_no (hq.keep H0.old.old)) ?_
  intro w1 h2
  refine wl_nil ?_
  refine then_at (F := ⟨(pt d.q :: un :: .pointer none :: un :: un :: un :: pt d.q :: .bool false :: List.replicate 40 un).toArray, []⟩) (by kernel_rfl) ?_
  refine wp_cond_false (by kernel_rfl) ?_
  refine wp_skip ?_
  refine then_at (F := ⟨(pt d.q :: un :: .pointer none :: un :: un :: un :: pt d.q :: .bool false :: List.replicate 40 un).toArray, []⟩) (by kernel_rfl) ?_
  refine wp_seq ?_
  refine wl_region ?_
  refine wl_val (.pointer (some ⟨d.q, 0, none⟩)) (by kernel_rfl) (by kernel_rfl) ?_
  refine wl_val (.pointer (some ⟨d.q, 0, none⟩)) (by kernel_rfl) (by kernel_rfl) ?_
  refine wl_val (.agg (dcell d.r D.free D.left D.down (.slice pv D.sizes.length cv))) (by kernel_rfl) (run_load_blk (by kernel_rfl) (hq.keep h2.old.old) Try.underlying61 rfl (by kernel_rfl)) ?_
  refine wl_make (c := #[.map none, iN .i64 0, iN .i64 0, .bool false, .slice none 0 0]) h2 61 (by kernel_rfl) (by kernel_rfl) ?_
  intro q3 w4 (h5 : HA (bs w) [(q3, 61, #[.map none, iN .i64 0, iN .i64 0, .bool false, .slice none 0 0])] w4)
  refine wl_fill (c' := dcell d.r D.free D.left D.down (.slice pv D.sizes.length cv)) h5 0 rfl (by kernel_rfl) (by kernel_rfl) (by kernel_rfl) rfl (by kernel_rfl) (by kernel_rfl) ?_
  intro w6 (h7 : HA (bs w) [(q3, 61, dcell d.r D.free D.left D.down (.slice pv D.sizes.length cv))] w6)
  refine wl_nil ?_
  refine then_at (F := ⟨(pt d.q :: un :: .pointer none :: pt q3 :: un :: un :: pt d.q :: .bool false :: pt d.q :: pt d.q :: .agg (dcell d.r D.free D.left D.down (.slice pv D.sizes.length cv)) :: List.replicate 37 un).toArray, []⟩) (by kernel_rfl) ?_
  refine wp_seq ?_
  refine wl_region ?_
  refine wl_val (.pointer (some ⟨d.q, 0, none⟩)) (by kernel_rfl) (by kernel_rfl) ?_
  refine wl_val (.pointer (some ⟨d.q, 0, none⟩)) (by kernel_rfl) (by kernel_rfl) ?_
  refine wl_val (.pointer (some ⟨d.q, 4, none⟩)) (by kernel_rfl) (by kernel_rfl) ?_
  refine wl_val (.slice pv D.sizes.length cv) (by kernel_rfl) (run_load1 (fun w => Try.isAgg26 w) (by kernel_rfl) (((hq.keep h7.old.old).cell 4).trans rfl)) ?_
  refine wl_callx (by kernel_rfl) enter54 #[.slice pv D.sizes.length cv] (by kernel_rfl) (clone_sz hR (fun y hy => (HH.blk y (by simp [hy])).keep h7.old.old) (by omega)) ?_
  rintro _ w8 ⟨v2, rfl, ho2, hbc⟩
  refine ⟨_, rfl, ?_⟩
  obtain ⟨Lr2, hR2, hh2⟩ := HA.owned h7 hbc ho2
  have h9 : HA (bs w) ((q3, 61, dcell d.r D.free D.left D.down (.slice pv D.sizes.length cv)) :: (Lr2 ++ [])) w8 := hh2.perm List.perm_middle
  obtain ⟨p2, c2, hv2⟩ := hR2.form
  subst hv2
  refine wl_val (.pointer (some ⟨q3, 4, none⟩)) (by kernel_rfl) (by kernel_rfl) ?_
  refine wl_putv (v := .slice p2 D.sizes.length c2) h9 0 rfl 4 (by show 4 < 5; decide) (by kernel_rfl) (fun w => Try.sizeOf26 w) (by kernel_rfl) (by kernel_rfl) (by kernel_rfl) ?_
  intro w10 (h11 : HA (bs w) ((q3, 61, #[.map (some d.r), iN .i64 D.free, iN .i64 D.left, .bool D.down, .slice p2 D.sizes.length c2]) :: (Lr2 ++ [])) w10)
  refine wl_nil ?_
  refine then_at (F := ⟨(pt d.q :: un :: .pointer none :: pt q3 :: un :: un :: pt d.q :: .bool false :: pt d.q :: pt d.q :: .agg (dcell d.r D.free D.left D.down (.slice pv D.sizes.length cv)) :: pt d.q :: pt d.q :: .pointer (some ⟨d.q, 4, none⟩) :: .slice pv D.sizes.length cv :: .slice p2 D.sizes.length c2 :: .pointer (some ⟨q3, 4, none⟩) :: List.replicate 31 un).toArray, []⟩) (by kernel_rfl) ?_
  refine wp_seq ?_
  refine wl_region ?_
  refine wl_val (.pointer (some ⟨d.q, 0, none⟩)) (by kernel_rfl) (by kernel_rfl) ?_
  refine wl_val (.pointer (some ⟨d.q, 0, none⟩)) (by kernel_rfl) (by kernel_rfl) ?_
  refine wl_val (.pointer (some ⟨d.q, 0, none⟩)) (by kernel_rfl) (by kernel_rfl) ?_
  refine wl_val (.map (some d.r)) (by kernel_rfl) (run_load1 (fun w => Try.isAgg59 w) (by kernel_rfl) (((hq.keep h11.old.old).cell 0).trans rfl)) ?_
  refine wl_val (iN .i64 fl.length) (by kernel_rfl) (run_lenM ((h11.old.old.block _ (lt_of_block hm)).trans hm) (by kernel_rfl)) ?_
  refine wl_any (by kernel_rfl) (run_mkM (n := fl.length) (by kernel_rfl)) ?_
  have h12 := h11.newM (.mp #[] 0)
  change HA _ _ (w10.alloc (.map #[] 0)) at h12
  generalize w10.alloc (.map #[] 0) = w13 at h12 ⊢
  generalize w10.heap.size = cr at h12 ⊢
  refine wl_val (.pointer (some ⟨q3, 0, none⟩)) (by kernel_rfl) (by kernel_rfl) ?_
  refine wl_putv (v := .map (some cr)) h12 0 rfl 0 (by show 0 < 5; decide) (by kernel_rfl) (fun w => Try.sizeOf59 w) (by kernel_rfl) (by kernel_rfl) (by kernel_rfl) ?_
  intro w14 (h15 : HA ⟨w, [(cr, .mp #[] 0)]⟩ ((q3, 61, #[.map (some cr), iN .i64 D.free, iN .i64 D.left, .bool D.down, .slice p2 D.sizes.length c2]) :: (Lr2 ++ [])) w14)
  refine wl_nil ?_
  refine then_at (F := ⟨(pt d.q :: un :: .pointer none :: pt q3 :: un :: un :: pt d.q :: .bool false :: pt d.q :: pt d.q :: .agg (dcell d.r D.free D.left D.down (.slice pv D.sizes.length cv)) :: pt d.q :: pt d.q :: .pointer (some ⟨d.q, 4, none⟩) :: .slice pv D.sizes.length cv :: .slice p2 D.sizes.length c2 :: .pointer (some ⟨q3, 4, none⟩) :: pt d.q :: pt d.q :: pt d.q :: .map (some d.r) :: iN .i64 fl.length :: .map (some cr) :: pt q3 :: List.replicate 24 un).toArray, []⟩) (by kernel_rfl) ?_
  refine wp_seq ?_
  refine wp_seq ?_
  have h16 : HA ⟨w, [(cr, .mp (eF []) 0)]⟩ ((q3, 61, dcell cr D.free D.left D.down (.slice p2 D.sizes.length c2)) :: (Lr2 ++ FB [])) w14 := h15
  clear h15
  generalize q3 = cq at h16 ⊢
  refine wl_region ?_
  refine wl_val (.pointer (some ⟨d.q, 0, none⟩)) (by kernel_rfl) (by kernel_rfl) ?_
  refine wl_val (.pointer (some ⟨d.q, 0, none⟩)) (by kernel_rfl) (by kernel_rfl) ?_
  refine wl_val (.pointer (some ⟨d.q, 0, none⟩)) (by kernel_rfl) (by kernel_rfl) ?_
  refine wl_val (.map (some d.r)) (by kernel_rfl) (run_load1 (fun w => Try.isAgg59 w) (by kernel_rfl) (((hq.keep h16.old.old).cell 0).trans rfl)) ?_
  refine wl_any (by kernel_rfl) (run_range ((h16.old.old.block _ (lt_of_block hm)).trans hm) (by kernel_rfl)) ?_
  have h17 := h16.newM (.it d.r nx (bnA []) nx)
  have hge : w.heap.size ≤ w14.heap.size := h16.size
  have hrit : d.r ≠ w14.heap.size := by have := lt_of_block hm; simp only at this; omega
  generalize hit : w14.heap.size = it at h17 hge hrit ⊢
  change HA _ _ (w14.alloc (MO.it d.r nx #[] nx).obj) at h17
  generalize w14.alloc (MO.it d.r nx #[] nx).obj = w18 at h17 ⊢
  refine wl_nil ?_
  refine then_at (F := ⟨(pt d.q :: un :: .pointer none :: pt cq :: un :: un :: pt d.q :: .bool false :: pt d.q :: pt d.q :: .agg (dcell d.r D.free D.left D.down (.slice pv D.sizes.length cv)) :: pt d.q :: pt d.q :: .pointer (some ⟨d.q, 4, none⟩) :: .slice pv D.sizes.length cv :: .slice p2 D.sizes.length c2 :: .pointer (some ⟨cq, 4, none⟩) :: pt d.q :: pt d.q :: pt d.q :: .map (some d.r) :: iN .i64 fl.length :: .map (some cr) :: pt cq :: pt d.q :: pt d.q :: pt d.q :: .map (some d.r) :: pt it :: List.replicate 19 un).toArray, []⟩) (by kernel_rfl) ?_
  refine wp_block ?_
  refine wp_while (fun mq A w' => ∃ (pre lft flc : List Fl) (u19 : Nat → Value), mq = lft.length ∧ A = ⟨(pt d.q :: un :: .pointer none :: pt cq :: u19 4 :: u19 5 :: pt d.q :: .bool false :: pt d.q :: pt d.q :: .agg (dcell d.r D.free D.left D.down (.slice pv D.sizes.length cv)) :: pt d.q :: pt d.q :: .pointer (some ⟨d.q, 4, none⟩) :: .slice pv D.sizes.length cv :: .slice p2 D.sizes.length c2 :: .pointer (some ⟨cq, 4, none⟩) :: pt d.q :: pt d.q :: pt d.q :: .map (some d.r) :: iN .i64 fl.length :: .map (some cr) :: pt cq :: pt d.q :: pt d.q :: pt d.q :: .map (some d.r) :: pt it :: u19 29 :: u19 30 :: u19 31 :: u19 32 :: u19 33 :: u19 34 :: u19 35 :: u19 36 :: u19 37 :: u19 38 :: u19 39 :: u19 40 :: u19 41 :: u19 42 :: u19 43 :: u19 44 :: u19 45 :: u19 46 :: u19 47 :: List.replicate 0 un).toArray, []⟩ ∧ (pre ++ lft).Perm fl ∧ flc.map ab = pre.map ab ∧ FK flc flc.length ∧ HA ⟨w, [(it, .it d.r nx (bnA pre) nx), (cr, .mp (eF flc) flc.length)]⟩ ((cq, 61, dcell cr D.free D.left D.down (.slice p2 D.sizes.length c2)) :: (Lr2 ++ FB flc)) w') fl.length ?_ ?_
  · exact ⟨[], fl, [], fun ii => (([(4, undef), (5, undef), (29, undef), (30, undef), (31, undef), (32, undef), (33, undef), (34, undef), (35, undef), (36, undef), (37, undef), (38, undef), (39, undef), (40, undef), (41, undef), (42, undef), (43, undef), (44, undef), (45, undef), (46, undef), (47, undef)] : List (Nat × Value)).find? (·.1 == ii)).elim undef (·.2), rfl, by kernel_rfl, List.Perm.refl _, rfl, ⟨fun _ h => (by cases h), fun _ h => (by cases h), List.nodup_nil, fun _ h => (by cases h), List.nodup_nil⟩, h17⟩
  rintro _ _ w20 ⟨pre, lft, flc, u19, rfl, rfl, hp, hc, hKc, hL⟩
  rcases lft with _ | ⟨g0, lf⟩
  · skip
    refine wp_seq ?_
    refine wl_region ?_
    refine wl_val (.tuple #[.bool false]) (by kernel_rfl) (run_next_end hp hK hL ((hL.old.old.block _ (lt_of_block hm)).trans hm) (by kernel_rfl)) ?_
    refine wl_val (.bool false) (by kernel_rfl) (by kernel_rfl) ?_
    refine wl_nil ?_
    refine then_at (F := ⟨(pt d.q :: un :: .pointer none :: pt cq :: u19 4 :: u19 5 :: pt d.q :: .bool false :: pt d.q :: pt d.q :: .agg (dcell d.r D.free D.left D.down (.slice pv D.sizes.length cv)) :: pt d.q :: pt d.q :: .pointer (some ⟨d.q, 4, none⟩) :: .slice pv D.sizes.length cv :: .slice p2 D.sizes.length c2 :: .pointer (some ⟨cq, 4, none⟩) :: pt d.q :: pt d.q :: pt d.q :: .map (some d.r) :: iN .i64 fl.length :: .map (some cr) :: pt cq :: pt d.q :: pt d.q :: pt d.q :: .map (some d.r) :: pt it :: .tuple #[.bool false] :: .bool false :: u19 31 :: u19 32 :: u19 33 :: u19 34 :: u19 35 :: u19 36 :: u19 37 :: u19 38 :: u19 39 :: u19 40 :: u19 41 :: u19 42 :: u19 43 :: u19 44 :: u19 45 :: u19 46 :: u19 47 :: List.replicate 0 un).toArray, []⟩) (by kernel_rfl) ?_
    refine wp_seq ?_
    refine wp_cond_false (by kernel_rfl) ?_
    refine wp_exit ?_
    repeat first | refine then_exit ?_ | refine block_exit ?_ | refine block_exit_ne (by decide) ?_
    refine then_at (F := ⟨(pt d.q :: un :: .pointer none :: pt cq :: u19 4 :: u19 5 :: pt d.q :: .bool false :: pt d.q :: pt d.q :: .agg (dcell d.r D.free D.left D.down (.slice pv D.sizes.length cv)) :: pt d.q :: pt d.q :: .pointer (some ⟨d.q, 4, none⟩) :: .slice pv D.sizes.length cv :: .slice p2 D.sizes.length c2 :: .pointer (some ⟨cq, 4, none⟩) :: pt d.q :: pt d.q :: pt d.q :: .map (some d.r) :: iN .i64 fl.length :: .map (some cr) :: pt cq :: pt d.q :: pt d.q :: pt d.q :: .map (some d.r) :: pt it :: .tuple #[.bool false] :: .bool false :: u19 31 :: u19 32 :: u19 33 :: u19 34 :: u19 35 :: u19 36 :: u19 37 :: u19 38 :: u19 39 :: u19 40 :: u19 41 :: u19 42 :: u19 43 :: u19 44 :: u19 45 :: u19 46 :: u19 47 :: List.replicate 0 un).toArray, []⟩) (by kernel_rfl) ?_
    refine wp_seq ?_
    refine wl_region ?_
    refine wl_val (.pointer (some ⟨cq, 0, none⟩)) (by kernel_rfl) (by kernel_rfl) ?_
    refine wl_nil ?_
    refine then_at (F := ⟨(pt d.q :: un :: pt cq :: pt cq :: u19 4 :: u19 5 :: pt d.q :: .bool false :: pt d.q :: pt d.q :: .agg (dcell d.r D.free D.left D.down (.slice pv D.sizes.length cv)) :: pt d.q :: pt d.q :: .pointer (some ⟨d.q, 4, none⟩) :: .slice pv D.sizes.length cv :: .slice p2 D.sizes.length c2 :: .pointer (some ⟨cq, 4, none⟩) :: pt d.q :: pt d.q :: pt d.q :: .map (some d.r) :: iN .i64 fl.length :: .map (some cr) :: pt cq :: pt d.q :: pt d.q :: pt d.q :: .map (some d.r) :: pt it :: .tuple #[.bool false] :: .bool false :: u19 31 :: u19 32 :: u19 33 :: u19 34 :: u19 35 :: u19 36 :: u19 37 :: u19 38 :: u19 39 :: u19 40 :: u19 41 :: u19 42 :: u19 43 :: u19 44 :: u19 45 :: u19 46 :: u19 47 :: List.replicate 0 un).toArray, []⟩) (by kernel_rfl) ?_
    refine wp_ret ?_
    repeat first | refine then_ret ?_ | refine block_ret ?_
    exact bodyPost_ret (v := pt cq) (by kernel_rfl) rfl ⟨⟨cq, cr⟩, ⟨flc.map ab, D.free, D.left, D.down, D.sizes⟩, rfl, hb.perm (by rw [← hfl]; show (fl.map ab).Perm (flc.map ab); rw [hc]; rw [List.append_nil] at hp; exact (hp.map ab).symm) rfl rfl rfl, flc, flc.length, _, Lr2, rfl, hKc, hR2, HA.dropM (M := [_]) hL⟩
  · skip
    refine wp_seq ?_
    refine wl_region ?_
    obtain ⟨A, f, B, wn, hAB, hrn, hn2, hmn⟩ := run_next_some (ρ := _) (x := _) (dst := _) (ty := _) (pos := _) (aft := _) (gd := _) hp hK hL ((hL.old.old.block _ (lt_of_block hm)).trans hm) hrit (by kernel_rfl)
    refine wl_any (by kernel_rfl) hrn ?_
    have hff : f ∈ fl := hp.mem_iff.1 (by rw [hAB]; simp)
    have hfb : Blk w f.p 67 (fcell f.v f.sy) := HH.blk (f.p, 67, fcell f.v f.sy) (by obtain ⟨F1, F2, rfl⟩ := List.append_of_mem hff; simp [FB_app, FB_cons, fb])
    have hlr : ∀ y ∈ f.Lr, Blk w y.1 y.2.1 y.2.2 := fun y hy => HH.blk y (by obtain ⟨F1, F2, rfl⟩ := List.append_of_mem hff; simp [FB_app, FB_cons, fb, hy])
    refine wl_val (.bool true) (by kernel_rfl) (by kernel_rfl) ?_
    refine wl_nil ?_
    refine then_at (F := ⟨(pt d.q :: un :: .pointer none :: pt cq :: u19 4 :: u19 5 :: pt d.q :: .bool false :: pt d.q :: pt d.q :: .agg (dcell d.r D.free D.left D.down (.slice pv D.sizes.length cv)) :: pt d.q :: pt d.q :: .pointer (some ⟨d.q, 4, none⟩) :: .slice pv D.sizes.length cv :: .slice p2 D.sizes.length c2 :: .pointer (some ⟨cq, 4, none⟩) :: pt d.q :: pt d.q :: pt d.q :: .map (some d.r) :: iN .i64 fl.length :: .map (some cr) :: pt cq :: pt d.q :: pt d.q :: pt d.q :: .map (some d.r) :: pt it :: .tuple #[.bool true, .string f.nm, pt f.p] :: .bool true :: u19 31 :: u19 32 :: u19 33 :: u19 34 :: u19 35 :: u19 36 :: u19 37 :: u19 38 :: u19 39 :: u19 40 :: u19 41 :: u19 42 :: u19 43 :: u19 44 :: u19 45 :: u19 46 :: u19 47 :: List.replicate 0 un).toArray, []⟩) (by kernel_rfl) ?_
    refine wp_seq ?_
    refine wp_cond_true (by kernel_rfl) ?_
    refine wp_skip ?_
    refine then_at (F := ⟨(pt d.q :: un :: .pointer none :: pt cq :: u19 4 :: u19 5 :: pt d.q :: .bool false :: pt d.q :: pt d.q :: .agg (dcell d.r D.free D.left D.down (.slice pv D.sizes.length cv)) :: pt d.q :: pt d.q :: .pointer (some ⟨d.q, 4, none⟩) :: .slice pv D.sizes.length cv :: .slice p2 D.sizes.length c2 :: .pointer (some ⟨cq, 4, none⟩) :: pt d.q :: pt d.q :: pt d.q :: .map (some d.r) :: iN .i64 fl.length :: .map (some cr) :: pt cq :: pt d.q :: pt d.q :: pt d.q :: .map (some d.r) :: pt it :: .tuple #[.bool true, .string f.nm, pt f.p] :: .bool true :: u19 31 :: u19 32 :: u19 33 :: u19 34 :: u19 35 :: u19 36 :: u19 37 :: u19 38 :: u19 39 :: u19 40 :: u19 41 :: u19 42 :: u19 43 :: u19 44 :: u19 45 :: u19 46 :: u19 47 :: List.replicate 0 un).toArray, []⟩) (by kernel_rfl) ?_
    refine wp_block ?_
    refine wp_seq ?_
    refine wl_region ?_
    refine wl_val (.tuple #[.string f.nm, .pointer (some ⟨f.p, 0, none⟩)]) (by kernel_rfl) (run_entry_f hff hK hn2 ((hn2.old.old.block _ (lt_of_block hm)).trans hm) (by kernel_rfl)) ?_
    refine wl_val (.string f.nm) (by kernel_rfl) (by kernel_rfl) ?_
    refine wl_val (.pointer (some ⟨f.p, 0, none⟩)) (by kernel_rfl) (by kernel_rfl) ?_
    refine wl_val (.string f.nm) (by kernel_rfl) (by kernel_rfl) ?_
    refine wl_val (.pointer (some ⟨f.p, 0, none⟩)) (by kernel_rfl) (by kernel_rfl) ?_
    refine wl_nil ?_
    refine then_at (F := ⟨(pt d.q :: un :: .pointer none :: pt cq :: .string f.nm :: pt f.p :: pt d.q :: .bool false :: pt d.q :: pt d.q :: .agg (dcell d.r D.free D.left D.down (.slice pv D.sizes.length cv)) :: pt d.q :: pt d.q :: .pointer (some ⟨d.q, 4, none⟩) :: .slice pv D.sizes.length cv :: .slice p2 D.sizes.length c2 :: .pointer (some ⟨cq, 4, none⟩) :: pt d.q :: pt d.q :: pt d.q :: .map (some d.r) :: iN .i64 fl.length :: .map (some cr) :: pt cq :: pt d.q :: pt d.q :: pt d.q :: .map (some d.r) :: pt it :: .tuple #[.bool true, .string f.nm, pt f.p] :: .bool true :: .tuple #[.string f.nm, pt f.p] :: .string f.nm :: pt f.p :: u19 34 :: u19 35 :: u19 36 :: u19 37 :: u19 38 :: u19 39 :: u19 40 :: u19 41 :: u19 42 :: u19 43 :: u19 44 :: u19 45 :: u19 46 :: u19 47 :: List.replicate 0 un).toArray, []⟩) (by kernel_rfl) ?_
    have hnc := copy_new hp hAB hK hc
    refine wp_region_wx (HA (bs w) [(cq, 61, dcell cr D.free D.left D.down (.slice p2 D.sizes.length c2))]) (fun AQ w' => ∃ (p4 : Option Addr) (c4 : Nat) (Lr3 : BL) (p3 : Nat), AQ = ⟨(pt d.q :: un :: .pointer none :: pt cq :: .string f.nm :: pt f.p :: pt d.q :: .bool false :: pt d.q :: pt d.q :: .agg (dcell d.r D.free D.left D.down (.slice pv D.sizes.length cv)) :: pt d.q :: pt d.q :: .pointer (some ⟨d.q, 4, none⟩) :: .slice pv D.sizes.length cv :: .slice p2 D.sizes.length c2 :: .pointer (some ⟨cq, 4, none⟩) :: pt d.q :: pt d.q :: pt d.q :: .map (some d.r) :: iN .i64 fl.length :: .map (some cr) :: pt cq :: pt d.q :: pt d.q :: pt d.q :: .map (some d.r) :: pt it :: .tuple #[.bool true, .string f.nm, pt f.p] :: .bool true :: .tuple #[.string f.nm, pt f.p] :: .string f.nm :: pt f.p :: pt cq :: .map (some cr) :: .string f.nm :: pt f.p :: pt f.p :: pt f.p :: f.v :: .slice p4 f.da.length c4 :: pt f.p :: pt f.p :: .pointer (some ⟨f.p, 1, none⟩) :: iN .i64 f.sy :: .agg #[.slice p4 f.da.length c4, iN .i64 f.sy] :: pt p3 :: List.replicate 0 un).toArray, []⟩ ∧ RowB (.slice p4 f.da.length c4) f.da Lr3 ∧ HA ⟨w, [(it, .it d.r nx (bnA (pre ++ [f])) nx), (cr, .mp (eF (flc ++ [(⟨f.nm, p3, f.da, f.sy, .slice p4 f.da.length c4, Lr3, flc.length⟩ : Fl)])) (flc.length + 1))]⟩ ((p3, 67, fcell (.slice p4 f.da.length c4) f.sy) :: (cq, 61, dcell cr D.free D.left D.down (.slice p2 D.sizes.length c2)) :: (Lr3 ++ (Lr2 ++ FB flc))) w') 15 (by kernel_rfl) (by kernel_rfl) (by kernel_rfl) (by kernel_rfl) (by kernel_rfl) (hn2.drew.sub (List.Sublist.cons_cons _ (List.nil_sublist _)) |>.noM) ?_ ?_
    · have h21 := hn2.drew
      refine wx_pure (i := 0) (.pointer (some ⟨cq, 0, none⟩)) rfl rfl (by kernel_rfl) (by kernel_rfl) (fun _ => (by kernel_rfl)) ?_
      refine wx_val (i := 1) (.map (some cr)) rfl rfl (by kernel_rfl) (by kernel_rfl) (fun w' h' => run_load1 (fun w => Try.isAgg59 w) (by kernel_rfl) (((h'.get 0 rfl).cell 0).trans rfl)) ?_
      refine wx_pure (i := 2) (.string f.nm) rfl rfl (by kernel_rfl) (by kernel_rfl) (fun _ => (by kernel_rfl)) ?_
      refine wx_pure (i := 3) (.pointer (some ⟨f.p, 0, none⟩)) rfl rfl (by kernel_rfl) (by kernel_rfl) (fun _ => (by kernel_rfl)) ?_
      refine wx_pure (i := 4) (.pointer (some ⟨f.p, 0, none⟩)) rfl rfl (by kernel_rfl) (by kernel_rfl) (fun _ => (by kernel_rfl)) ?_
      refine wx_pure (i := 5) (.pointer (some ⟨f.p, 0, none⟩)) rfl rfl (by kernel_rfl) (by kernel_rfl) (fun _ => (by kernel_rfl)) ?_
      refine wx_val (i := 6) (f.v) rfl rfl (by kernel_rfl) (by kernel_rfl) (fun w' h' => run_load1 (fun w => Try.isAgg52 w) (by kernel_rfl) (((hfb.keep h'.old.old).cell 0).trans rfl)) ?_
      refine wx_pure (i := 8) (.pointer (some ⟨f.p, 0, none⟩)) rfl rfl (by kernel_rfl) (by kernel_rfl) (fun _ => (by kernel_rfl)) ?_
      refine wx_pure (i := 9) (.pointer (some ⟨f.p, 0, none⟩)) rfl rfl (by kernel_rfl) (by kernel_rfl) (fun _ => (by kernel_rfl)) ?_
      refine wx_pure (i := 10) (.pointer (some ⟨f.p, 1, none⟩)) rfl rfl (by kernel_rfl) (by kernel_rfl) (fun _ => (by kernel_rfl)) ?_
      refine wx_val (i := 11) (iN .i64 f.sy) rfl rfl (by kernel_rfl) (by kernel_rfl) (fun w' h' => run_load1 (fun w => Try.isAgg3 w) (by kernel_rfl) (((hfb.keep h'.old.old).cell 1).trans rfl)) ?_
      refine wx_one 7 (by kernel_rfl) ?_
      refine ex_callx rfl (by kernel_rfl) h21 enter55 #[f.v] (by kernel_rfl) (fun w22 h23 => cloneB_any (hK.row f hff) (fun y hy => (hlr y hy).keep h23.old.old) (hda f hff)) ?_
      rintro w22 h23 _ w24 ⟨v3, Lr3, rfl, hR3, hC3⟩
      have h25 := (HA.join h23 hC3).perm List.perm_middle
      obtain ⟨p4, c4, hv4⟩ := hR3.form
      subst hv4
      refine ⟨_, rfl, _, .inr rfl, HA.noM (HA.sub h25 (List.Sublist.cons_cons _ (List.nil_sublist _))), ?_⟩
      refine wx_pure (i := 12) (.agg #[.slice p4 f.da.length c4, iN .i64 f.sy]) rfl rfl (by kernel_rfl) (by kernel_rfl) (fun _ => (by kernel_rfl)) ?_
      refine wx_one 13 (by kernel_rfl) ?_
      refine ex_makeS (c := fcell (.slice p4 f.da.length c4) f.sy) rfl (by kernel_rfl) h25 67 (fun _ => (by kernel_rfl)) ?_
      intro p3 w26 h27
      refine ⟨HA.noM (HA.sub h27 (List.Sublist.cons _ (List.Sublist.cons_cons _ (List.nil_sublist _)))), ?_⟩
      refine wx_one 14 (by kernel_rfl) ?_
      refine ex_skipT rfl (by kernel_rfl) h27 fun w28 h29 => ⟨_, run_upd (fl := flc) (nx := flc.length) (h29.old.maps _ (List.mem_cons_of_mem _ (List.mem_cons_self ..))) hnc (by kernel_rfl) (by kernel_rfl) (⟨f.nm, p3, f.da, f.sy, .slice p4 f.da.length c4, Lr3, flc.length⟩ : Fl) rfl rfl (by kernel_rfl), ?_⟩
      have h30 := h29.setMap 1 (es' := eF (flc ++ [(⟨f.nm, p3, f.da, f.sy, .slice p4 f.da.length c4, Lr3, flc.length⟩ : Fl)])) (c' := flc.length + 1) rfl
      refine ⟨HA.noM (HA.sub h30 (List.Sublist.cons _ (List.Sublist.cons_cons _ (List.nil_sublist _)))), ?_⟩
      refine wx_end fun w31 hbx _ => ?_
      have h32 := HA.keep _ _ h30 hbx
      exact ⟨p4, c4, Lr3, p3, by kernel_rfl, hR3, h32⟩
    · rintro _ w33 ⟨p4, c4, Lr3, p3, rfl, hR3, h34⟩
      refine block_normal ?_
      exact then_I ⟨(A ++ B).length, (by rw [show (g0 :: lf).length = (A ++ f :: B).length by rw [hAB]]; simp), pre ++ [f], A ++ B, flc ++ [(⟨f.nm, p3, f.da, f.sy, .slice p4 f.da.length c4, Lr3, flc.length⟩ : Fl)], fun ii => (([(4, .string f.nm), (5, .pointer (some ⟨f.p, 0, none⟩)), (29, .tuple #[.bool true, .string f.nm, .pointer (some ⟨f.p, 0, none⟩)]), (30, .bool true), (31, .tuple #[.string f.nm, .pointer (some ⟨f.p, 0, none⟩)]), (32, .string f.nm), (33, .pointer (some ⟨f.p, 0, none⟩)), (34, .pointer (some ⟨cq, 0, none⟩)), (35, .map (some cr)), (36, .string f.nm), (37, .pointer (some ⟨f.p, 0, none⟩)), (38, .pointer (some ⟨f.p, 0, none⟩)), (39, .pointer (some ⟨f.p, 0, none⟩)), (40, f.v), (41, .slice p4 f.da.length c4), (42, .pointer (some ⟨f.p, 0, none⟩)), (43, .pointer (some ⟨f.p, 0, none⟩)), (44, .pointer (some ⟨f.p, 1, none⟩)), (45, iN .i64 f.sy), (46, .agg #[.slice p4 f.da.length c4, iN .i64 f.sy]), (47, .pointer (some ⟨p3, 0, none⟩))] : List (Nat × Value)).find? (·.1 == ii)).elim undef (·.2), rfl, by kernel_rfl, by rw [hAB] at hp; rw [List.append_assoc]; refine List.Perm.trans (List.Perm.append_left pre ?_) hp; show (f :: (A ++ B)).Perm (A ++ f :: B); exact List.perm_middle.symm, by rw [List.map_append, List.map_append, hc]; rfl, by rw [List.length_append]; exact hKc.moreN hR3 (hK.syn f hff) hnc rfl, by rw [List.length_append, FB_app]; exact h34.perm (copy_perm Lr3 Lr2 (FB flc))⟩
/-- both disks beside one another -/
theorem Copy_any {w0 : World} {M : ML} {d : Dk} {D : DS} {L : BL} {w : World} (hD : DH w0 M d D L w) {U N : Nat} (hb : DB D U N) (hN : N ≤ 1000000) (hU : U ≤ 1000000000) :
    Calls Try.prog 22 #[pt d.q] w fun e w' => ∃ (c : Dk) (D2 : DS) (M2 : ML) (X : BL), e = .returned (pt c.q) ∧ DB D2 U N ∧ DH w0 M2 c D2 X w' ∧ ∀ D3 w3, DH w0 M2 c D3 X w3 → DH w0 M d D L w3 := by
  have hD' := hD
  refine (Copy_new hD hb hN hU).mono ?_
  obtain ⟨fl, nx, v, Lr, hfl, hK, hR, HH⟩ := hD'
  rintro e w' ⟨c, D2, rfl, hb2, fl2, nx2, v2, Lr2, h1, h2, h3, K⟩
  refine ⟨c, D2, (d.r, .mp (eF fl) nx) :: M, _, rfl, hb2, ⟨fl2, nx2, v2, Lr2, h1, h2, h3, by simpa [List.append_assoc] using HA.join HH K⟩, ?_⟩
  rintro D3 w3 ⟨fl3, nx3, v3, Lr3, _, _, _, H3⟩
  refine ⟨fl, nx, v, Lr, hfl, hK, hR, HA.dropM (M := [_]) (H3.sub ?_)⟩
  refine List.Sublist.cons _ ?_
  exact (List.sublist_append_right (FB fl3) _).trans (List.sublist_append_right Lr3 _)
end Go.Proofs.Ytjedhnjjgmbcbaa
