/-
  Steps that are kept; texts laid; the key of a hello, the keys.
-/
import Derived.Test.YtcjjbpbehapjpaaGreatP5
import Derived.Test.YtcjjbpbehapjpaaGreatRS
set_option linter.unusedVariables false
namespace Go.Proofs.YtcjjbpbehapjpaaGreat
open Go.RowKit

set_option maxRecDepth 100000 in
set_option maxHeartbeats 2000000 in
theorem keep_s {w0 w : World} {M : ML} {p : Pr} {A A' : List Ent} {n n' : Nat} {L : BL} {fb kb : Nat} {f : FuncId} {cap : Array Value} {s : ByteArray} {er : Nat} (hent : ∀ args w, (callFunc f args).run Tryz.prog w = .ok (.enter f args) w) (H : PH w0 M p A n ((fb, 29, #[iN .i64 0]) :: (kb, 107, #[pt fb]) :: L) w)
    (hst : ∀ (w : World) (Lx : BL), (∀ x ∈ L, x ∈ Lx) → PH w0 M p A n Lx w → Calls Tryz.prog f cap w fun e w' => e = .returned (.tuple #[.string s, iN .i64 er]) ∧ PH w0 M p A' n' Lx w') :
    Calls Tryz.prog 92 #[.func (.func f) #[] cap, pt kb] w fun e w' => e = .returned (.string s) ∧ PH w0 M p A' n' ((fb, 29, #[iN .i64 er]) :: (kb, 107, #[pt fb]) :: L) w' := by
  obtain ⟨z0, X0, hcl0, hbe0, H0⟩ := PH.front H
  go_enter Tryz.func92, Tryz.ntmps92
  refine wp_seq (wl_region ?_)
  refine zv (.string ({ data := #[] })) ?_
  refine wl_nil ?_
  refine then_at (F := ⟨(.func (.func f) #[] cap :: pt kb :: un :: .string ({ data := #[] }) :: List.replicate 12 un).toArray, []⟩) ky ?_
  refine wp_seq (wp_seq (wl_region ?_))
  refine zu (.pointer (some ⟨fb, 0, none⟩)) (run_load1 (fun w => Tryz.isAgg107 w) ky (((H0.get 1 rfl).cell 0).trans rfl)) ?_
  refine zv (.pointer (some ⟨fb, 0, none⟩)) ?_
  refine zu (iN .i64 0) (run_load1 (fun w => Tryz.isAgg29 w) ky (((H0.get 0 rfl).cell 0).trans rfl)) ?_
  refine zu (.bool true) (run_eqi (k := .i64) (a := 0) (b := 0) ky ky true (by decide)) ?_
  refine wl_nil ?_
  refine then_at (F := ⟨(.func (.func f) #[] cap :: pt kb :: un :: .string ({ data := #[] }) :: pt fb :: pt fb :: iN .i64 0 :: .bool true :: List.replicate 8 un).toArray, []⟩) ky ?_
  refine wp_cond_true ky ?_
  refine wp_region_wx (fun w' => Blk w' kb 107 #[pt fb]) (fun AQ w' => ∃ (z7 : Base) (X8 : BL), AQ = ⟨(.func (.func f) #[] cap :: pt kb :: un :: .string s :: pt fb :: pt fb :: iN .i64 0 :: .bool true :: .tuple #[.string s, iN .i64 er] :: pt fb :: .func (.func f) #[] cap :: .tuple #[.string s, iN .i64 er] :: .string s :: iN .i64 er :: pt fb :: List.replicate 1 un).toArray, []⟩ ∧ (∀ (L' : BL) (w' : World), HA z7 (L' ++ X8) w' → PH w0 M p A' n' L' w') ∧ (∀ (L' : BL) (w' : World), HA z7 L' w' → Below w0.heap.size w0 w') ∧ HA z7 ((fb, 29, #[iN .i64 er]) :: (kb, 107, #[pt fb]) :: (L ++ X8)) w') 9 ky ky ky ky ky ((H0.drew).get 1 rfl) ?_ ?_
  · have h1 := H0.drew
    refine wx_val (i := 0) (.pointer (some ⟨fb, 0, none⟩)) rfl rfl ky ky (fun w' h' => run_load1 (fun w => Tryz.isAgg107 w) ky ((h'.cell 0).trans rfl)) ?_
    refine zp 1 (.func (.func f) #[] cap) ?_
    refine wx_one 2 ky ?_
    refine ex_callvx (cap := cap) (args := cap) rfl ky h1 hent ky (by simp) (fun w4 h5 => hst _ ((fb, 29, #[iN .i64 0]) :: (kb, 107, #[pt fb]) :: L) (fun x hx => by simp [hx]) (hcl0 ((fb, 29, #[iN .i64 0]) :: (kb, 107, #[pt fb]) :: L) _ h5)) ?_
    rintro w4 h5 _ w6 ⟨rfl, hD3⟩
    obtain ⟨z7, X8, hcl9, hbe10, h11⟩ := PH.front hD3
    have h12 : HA z7 ((fb, 29, #[iN .i64 0]) :: (kb, 107, #[pt fb]) :: (L ++ X8)) w6 := h11
    refine ⟨_, rfl, _, .inr rfl, (h12.get 1 rfl), ?_⟩
    refine zp 3 (.tuple #[.string s, iN .i64 er]) ?_
    refine zp 4 (.string s) ?_
    refine zp 5 (iN .i64 er) ?_
    refine zp 6 (.string s) ?_
    refine zp 7 (.pointer (some ⟨fb, 0, none⟩)) ?_
    refine wx_one 8 ky ?_
    refine ex_skipT rfl ky h12 fun w13 h14 => ⟨_, run_storev (q := fb) (i := 0) (v := iN .i64 er) (fun w => Tryz.sizeOf29 w) ky ky ky (by rw [(h14.get 0 rfl).cell]; rfl) ((h14.get 0 rfl).free _ (by show 0 < 1; decide)), ?_⟩
    have h15 : HA z7 ((fb, 29, #[iN .i64 er]) :: (kb, 107, #[pt fb]) :: (L ++ X8)) _ := h14.put 0 rfl 0 (iN .i64 er)
    refine ⟨_, .inr rfl, (h15.get 1 rfl), ?_⟩
    refine wx_end fun w16 hbx _ => ?_
    have h17 := HA.keep _ _ h15 hbx
    exact ⟨z7, X8, by kernel_rfl, hcl9, hbe10, h17⟩
  · rintro _ w18 ⟨z7, X8, rfl, hcl9, hbe10, h19⟩
    refine then_at (F := ⟨(.func (.func f) #[] cap :: pt kb :: un :: .string s :: pt fb :: pt fb :: iN .i64 0 :: .bool true :: .tuple #[.string s, iN .i64 er] :: pt fb :: .func (.func f) #[] cap :: .tuple #[.string s, iN .i64 er] :: .string s :: iN .i64 er :: pt fb :: List.replicate 1 un).toArray, []⟩) ky ?_
    refine wp_seq (wl_region ?_)
    refine zv (.string s) ?_
    refine zv (.string s) ?_
    refine wl_nil ?_
    refine then_at (F := ⟨(.func (.func f) #[] cap :: pt kb :: un :: .string s :: pt fb :: pt fb :: iN .i64 0 :: .bool true :: .tuple #[.string s, iN .i64 er] :: pt fb :: .func (.func f) #[] cap :: .tuple #[.string s, iN .i64 er] :: .string s :: iN .i64 er :: pt fb :: .string s :: List.replicate 0 un).toArray, []⟩) ky ?_
    refine wp_ret ?_
    repeat first | refine then_ret ?_ | refine block_ret ?_
    exact bodyPost_ret (v := .string s) ky rfl ⟨rfl, (hcl9 ((fb, 29, #[iN .i64 er]) :: (kb, 107, #[pt fb]) :: L) _ h19)⟩
set_option maxRecDepth 100000 in
set_option maxHeartbeats 2000000 in
theorem keep_k {w0 w : World} {M : ML} {p : Pr} {A A' : List Ent} {n n' : Nat} {L : BL} {fb kb : Nat} {f : FuncId} {cap : Array Value} {k1 k2 k3 : ByteArray} {er : Nat} (hent : ∀ args w, (callFunc f args).run Tryz.prog w = .ok (.enter f args) w) (H : PH w0 M p A n ((fb, 29, #[iN .i64 0]) :: (kb, 107, #[pt fb]) :: L) w)
    (hst : ∀ (w : World) (Lx : BL), (∀ x ∈ L, x ∈ Lx) → PH w0 M p A n Lx w → Calls Tryz.prog f cap w fun e w' => e = .returned (.tuple #[.agg #[.string k1, .string k2, .string k3], iN .i64 er]) ∧ PH w0 M p A' n' Lx w') :
    Calls Tryz.prog 122 #[.func (.func f) #[] cap, pt kb] w fun e w' => e = .returned (.agg #[.string k1, .string k2, .string k3]) ∧ PH w0 M p A' n' ((fb, 29, #[iN .i64 er]) :: (kb, 107, #[pt fb]) :: L) w' := by
  obtain ⟨z0, X0, hcl0, hbe0, H0⟩ := PH.front H
  go_enter Tryz.func122, Tryz.ntmps122
  refine wp_seq (wl_region ?_)
  refine wl_make (c := #[.string ({ data := #[] }), .string ({ data := #[] }), .string ({ data := #[] })]) H0 126 ky ky ?_
  intro q1 w2 (h3 : HA z0 ((q1, 126, #[.string ({ data := #[] }), .string ({ data := #[] }), .string ({ data := #[] })]) :: (fb, 29, #[iN .i64 0]) :: (kb, 107, #[pt fb]) :: (L ++ X0)) w2)
  refine wl_nil ?_
  refine then_at (F := ⟨(.func (.func f) #[] cap :: pt kb :: un :: pt q1 :: List.replicate 12 un).toArray, []⟩) ky ?_
  refine wp_seq (wp_seq (wl_region ?_))
  refine zu (.pointer (some ⟨fb, 0, none⟩)) (run_load1 (fun w => Tryz.isAgg107 w) ky (((h3.get 2 rfl).cell 0).trans rfl)) ?_
  refine zv (.pointer (some ⟨fb, 0, none⟩)) ?_
  refine zu (iN .i64 0) (run_load1 (fun w => Tryz.isAgg29 w) ky (((h3.get 1 rfl).cell 0).trans rfl)) ?_
  refine zu (.bool true) (run_eqi (k := .i64) (a := 0) (b := 0) ky ky true (by decide)) ?_
  refine wl_nil ?_
  refine then_at (F := ⟨(.func (.func f) #[] cap :: pt kb :: un :: pt q1 :: pt fb :: pt fb :: iN .i64 0 :: .bool true :: List.replicate 8 un).toArray, []⟩) ky ?_
  refine wp_cond_true ky ?_
  refine wp_region_wx (fun w' => Blk w' kb 107 #[pt fb]) (fun AQ w' => ∃ (z10 : Base) (X11 : BL), AQ = ⟨(.func (.func f) #[] cap :: pt kb :: un :: pt q1 :: pt fb :: pt fb :: iN .i64 0 :: .bool true :: .tuple #[.agg #[.string k1, .string k2, .string k3], iN .i64 er] :: pt fb :: .func (.func f) #[] cap :: .tuple #[.agg #[.string k1, .string k2, .string k3], iN .i64 er] :: .agg #[.string k1, .string k2, .string k3] :: iN .i64 er :: pt fb :: List.replicate 1 un).toArray, []⟩ ∧ (∀ (L' : BL) (w' : World), HA z10 (L' ++ X11) w' → PH w0 M p A' n' L' w') ∧ (∀ (L' : BL) (w' : World), HA z10 L' w' → Below w0.heap.size w0 w') ∧ HA z10 ((q1, 126, #[.string k1, .string k2, .string k3]) :: (fb, 29, #[iN .i64 er]) :: (kb, 107, #[pt fb]) :: (L ++ X11)) w') 9 ky ky ky ky ky ((h3.drew).get 2 rfl) ?_ ?_
  · have h4 := h3.drew
    refine wx_val (i := 0) (.pointer (some ⟨fb, 0, none⟩)) rfl rfl ky ky (fun w' h' => run_load1 (fun w => Tryz.isAgg107 w) ky ((h'.cell 0).trans rfl)) ?_
    refine zp 1 (.func (.func f) #[] cap) ?_
    refine wx_one 2 ky ?_
    refine ex_callvx (cap := cap) (args := cap) rfl ky h4 hent ky (by simp) (fun w7 h8 => hst _ ((q1, 126, #[.string ({ data := #[] }), .string ({ data := #[] }), .string ({ data := #[] })]) :: (fb, 29, #[iN .i64 0]) :: (kb, 107, #[pt fb]) :: L) (fun x hx => by simp [hx]) (hcl0 ((q1, 126, #[.string ({ data := #[] }), .string ({ data := #[] }), .string ({ data := #[] })]) :: (fb, 29, #[iN .i64 0]) :: (kb, 107, #[pt fb]) :: L) _ h8)) ?_
    rintro w7 h8 _ w9 ⟨rfl, hD6⟩
    obtain ⟨z10, X11, hcl12, hbe13, h14⟩ := PH.front hD6
    have h15 : HA z10 ((q1, 126, #[.string ({ data := #[] }), .string ({ data := #[] }), .string ({ data := #[] })]) :: (fb, 29, #[iN .i64 0]) :: (kb, 107, #[pt fb]) :: (L ++ X11)) w9 := h14
    refine ⟨_, rfl, _, .inr rfl, (h15.get 2 rfl), ?_⟩
    refine zp 3 (.tuple #[.agg #[.string k1, .string k2, .string k3], iN .i64 er]) ?_
    refine zp 4 (.agg #[.string k1, .string k2, .string k3]) ?_
    refine zp 5 (iN .i64 er) ?_
    refine wx_one 6 ky ?_
    refine ex_skipT rfl ky h15 fun w16 h17 => ⟨_, run_store_blk (c' := #[.string k1, .string k2, .string k3]) ky ky (h17.get 0 rfl) rfl ky ky, ?_⟩
    have h18 : HA z10 ((q1, 126, #[.string k1, .string k2, .string k3]) :: (fb, 29, #[iN .i64 0]) :: (kb, 107, #[pt fb]) :: (L ++ X11)) _ := h17.fill 0 rfl (c' := #[.string k1, .string k2, .string k3]) rfl
    refine ⟨_, .inr rfl, (h18.get 2 rfl), ?_⟩
    refine zp 7 (.pointer (some ⟨fb, 0, none⟩)) ?_
    refine wx_one 8 ky ?_
    refine ex_skipT rfl ky h18 fun w19 h20 => ⟨_, run_storev (q := fb) (i := 0) (v := iN .i64 er) (fun w => Tryz.sizeOf29 w) ky ky ky (by rw [(h20.get 1 rfl).cell]; rfl) ((h20.get 1 rfl).free _ (by show 0 < 1; decide)), ?_⟩
    have h21 : HA z10 ((q1, 126, #[.string k1, .string k2, .string k3]) :: (fb, 29, #[iN .i64 er]) :: (kb, 107, #[pt fb]) :: (L ++ X11)) _ := h20.put 1 rfl 0 (iN .i64 er)
    refine ⟨_, .inr rfl, (h21.get 2 rfl), ?_⟩
    refine wx_end fun w22 hbx _ => ?_
    have h23 := HA.keep _ _ h21 hbx
    exact ⟨z10, X11, by kernel_rfl, hcl12, hbe13, h23⟩
  · rintro _ w24 ⟨z10, X11, rfl, hcl12, hbe13, h25⟩
    refine then_at (F := ⟨(.func (.func f) #[] cap :: pt kb :: un :: pt q1 :: pt fb :: pt fb :: iN .i64 0 :: .bool true :: .tuple #[.agg #[.string k1, .string k2, .string k3], iN .i64 er] :: pt fb :: .func (.func f) #[] cap :: .tuple #[.agg #[.string k1, .string k2, .string k3], iN .i64 er] :: .agg #[.string k1, .string k2, .string k3] :: iN .i64 er :: pt fb :: List.replicate 1 un).toArray, []⟩) ky ?_
    refine wp_seq (wl_region ?_)
    refine wl_load h25 0 rfl ky ky Tryz.underlying126 rfl ky ?_
    refine wl_fill (c' := #[.string k1, .string k2, .string k3]) h25 0 rfl ky ky ky rfl ky ky ?_
    intro w26 (h27 : HA z10 ((q1, 126, #[.string k1, .string k2, .string k3]) :: (fb, 29, #[iN .i64 er]) :: (kb, 107, #[pt fb]) :: (L ++ X11)) w26)
    refine wl_nil ?_
    refine then_at (F := ⟨(.func (.func f) #[] cap :: pt kb :: un :: pt q1 :: pt fb :: pt fb :: iN .i64 0 :: .bool true :: .tuple #[.agg #[.string k1, .string k2, .string k3], iN .i64 er] :: pt fb :: .func (.func f) #[] cap :: .tuple #[.agg #[.string k1, .string k2, .string k3], iN .i64 er] :: .agg #[.string k1, .string k2, .string k3] :: iN .i64 er :: pt fb :: .agg (#[.string k1, .string k2, .string k3]) :: List.replicate 0 un).toArray, []⟩) ky ?_
    refine wp_ret ?_
    repeat first | refine then_ret ?_ | refine block_ret ?_
    exact bodyPost_ret (v := .agg #[.string k1, .string k2, .string k3]) (res_cell (p := 3) ky ky (h27.get 0 rfl) Tryz.underlying126 rfl ky) rfl ⟨rfl, PH.sub (hcl12 ((q1, 126, #[.string k1, .string k2, .string k3]) :: (fb, 29, #[iN .i64 er]) :: (kb, 107, #[pt fb]) :: L) _ h27) (List.Sublist.cons _ (List.Sublist.cons_cons _ (List.Sublist.cons_cons _ (List.Sublist.refl _))))⟩
end Go.Proofs.YtcjjbpbehapjpaaGreat
