/-
  A prim, two secrets, their public keys; the chapter's rows.
-/
import Derived.Test.YtcjjbpbehapjpaaGreatLT
namespace Go.Proofs.YtcjjbpbehapjpaaGreat
open Go.RowKit

theorem tx_ne (k : Nat) : ¬ txt k = { data := #[] } := fun h => by
  have h2 := congrArg ByteArray.size h
  rw [txt_size] at h2
  cases h2
theorem perm_new (a c : Nat × TypeId × Array Value) (R B L' : BL) : (c :: (a :: (R ++ (B ++ L')))).Perm (a :: (R ++ (B ++ (c :: ([] ++ L'))))) := by
  have e : c :: (a :: (R ++ (B ++ L'))) = [c] ++ ((a :: (R ++ B)) ++ L') := by simp
  have e2 : a :: (R ++ (B ++ (c :: ([] ++ L')))) = (a :: (R ++ B)) ++ ([c] ++ L') := by simp
  rw [e, e2, ← List.append_assoc, ← List.append_assoc]
  exact List.Perm.append_right _ List.perm_append_comm
theorem Secret_E {w0 w : World} {M : ML} {p : Pr} {A A' : List Ent} {n : Nat} {L : BL} (H : PH w0 M p A n L w) (d : ByteArray) (hf : A.length < 58000) (hm : frA A = A') {x : Nat} (hx : A.length = x) :
    Calls Tryz.prog 11 #[pt p.q, .string d] w fun e w' => e = .returned (.string (txt x)) ∧ PH w0 M p A' n L w' := by
  have h := Secret_P H d hf
  rw [hm, hx] at h
  exact h
theorem res_tcc {w : World} {P : Program} {fn : Func} {p r a : Tmp} {t t2 ty ty2 : TypeId} {ts : Array Value} {q q2 : Nat} {c c2 : Array Value} {D D2 : TypeDesc} {u : Value} (hf : fn.results = #[.tmp a, .cell p ty, .cell r ty2]) (hu' : ts.getD a undef = u) (ht : ts.getD p undef = .pointer (some ⟨q, 0, none⟩)) (h : Blk w q t c) (hu : P.underlying ty = some D) (hd : D.isRow = true) (hi : (P.info? ty).map (·.size) = some c.size) (ht2 : ts.getD r undef = .pointer (some ⟨q2, 0, none⟩)) (h2 : Blk w q2 t2 c2) (hu2 : P.underlying ty2 = some D2) (hd2 : D2.isRow = true) (hi2 : (P.info? ty2).map (·.size) = some c2.size) :
    (results fn ts).run P w = .ok (.tuple #[u, .agg c, .agg c2]) w := by
  have e1 := run_loadVar_mid (P := P) w q 0 ty c.toList D h.range hu hd (by simpa using hi)
  have e2 := run_loadVar_mid (P := P) w q2 0 ty2 c2.toList D2 h2.range hu2 hd2 (by simpa using hi2)
  have k1 : ts[p]?.getD undef = .pointer (some ⟨q, 0, none⟩) := by simpa using ht
  have k2 : ts[r]?.getD undef = .pointer (some ⟨q2, 0, none⟩) := by simpa using ht2
  have k3 : ts[a]?.getD undef = u := by simpa using hu'
  simp [results, hf, Result.andThen_ok, asAddr, k1, k2, k3, e1, e2]
set_option linter.unusedVariables false in
set_option maxRecDepth 100000 in
set_option maxHeartbeats 2000000 in
theorem New_P {w0 w : World} {M : ML} {L : BL} (H0 : HA ⟨w0, M⟩ L w) :
    Calls Tryz.prog 8 #[iN .i64 1] w fun e w' => ∃ p : Pr, e = .returned (.tuple #[pt p.q, iN .i64 0]) ∧ PH w0 M p [] 0 L w' := by
  go_enter Tryz.func8, Tryz.ntmps8
  refine wp_seq (wl_region ?_)
  refine zv (.pointer none) ?_
  refine zv (iN .i64 0) ?_
  refine wl_nil (then_at rfl (wp_seq (wp_seq (wl_region ?_))))
  refine zv (iN .i64 1) ?_
  refine wl_nil (then_at rfl (wp_block (wp_seq (wl_region ?_))))
  refine zu (.bool false) (run_eqi (k := .i64) (a := 1) (b := 0) (by kernel_rfl) (by kernel_rfl) false (by decide)) ?_
  refine zv (.bool false) ?_
  refine wl_nil (then_at rfl ?_)
  refine wp_cond_false (by kernel_rfl) ?_
  refine wp_seq (wl_region ?_)
  refine zu (.bool true) (run_eqi (k := .i64) (a := 1) (b := 1) (by kernel_rfl) (by kernel_rfl) true (by decide)) ?_
  refine zv (.bool true) ?_
  refine wl_nil (then_at rfl ?_)
  refine wp_cond_true (by kernel_rfl) ?_
  refine wp_seq (wl_region ?_)
  refine wl_callx (by kernel_rfl) enter28 #[] (by kernel_rfl) (New_ok H0) ?_
  rintro _ w7 ⟨tb1, rfl, hT2⟩
  refine ⟨_, rfl, ?_⟩
  obtain ⟨v3, Lr4, hr5, h6⟩ := hT2
  refine zv (.agg #[.pointer (some ⟨tb1.q, 0, none⟩)]) ?_
  refine zv (.iface 97 (.agg #[.pointer (some ⟨tb1.q, 0, none⟩)])) ?_
  refine zv (.agg #[.iface 97 (.agg #[.pointer (some ⟨tb1.q, 0, none⟩)]), .slice none 0 0]) ?_
  refine wl_make (c := #[.iface 97 (.agg #[.pointer (some ⟨tb1.q, 0, none⟩)]), .slice none 0 0]) h6 95 (by kernel_rfl) (by kernel_rfl) ?_
  intro q8 w9 (h10 : HA (zb w0 M tb1 []) ((q8, 95, #[.iface 97 (.agg #[.pointer (some ⟨tb1.q, 0, none⟩)]), .slice none 0 0]) :: ((tb1.q, 154, tcell tb1 (nms []) v3) :: (Lr4 ++ (PB [] ++ L)))) w9)
  refine zv (.pointer (some ⟨q8, 0, none⟩)) ?_
  refine zv (iN .i64 0) ?_
  refine wl_nil (then_at rfl ?_)
  refine wp_ret ?_
  repeat first | refine then_ret ?_ | refine block_ret ?_
  exact bodyPost_ret (v := .tuple #[pt q8, iN .i64 0]) (by kernel_rfl) rfl ⟨⟨q8, tb1⟩, rfl, [], .slice none 0 0, [], [], rfl, OkT.nil, Row.nil 68 6, v3, Lr4, hr5, h10.perm (perm_new _ _ Lr4 (PB []) L)⟩
set_option linter.unusedVariables false in
set_option maxRecDepth 100000 in
set_option maxHeartbeats 2000000 in
theorem made_P {w0 w : World} {M : ML} {L : BL} (H0 : HA ⟨w0, M⟩ L w) :
    Calls Tryz.prog 24 #[iN .i64 1, .string { data := #[] }, .string { data := #[] }] w fun e w' => ∃ p : Pr, e = .returned (.tuple #[pt p.q, .agg #[.string (txt 0), .string (txt 1)], .agg #[.string (txt 2), .string (txt 3)]]) ∧ PH w0 M p (tk 4) 0 L w' := by
  go_enter Tryz.func24, Tryz.ntmps24
  refine wp_seq (wl_region ?_)
  refine zv (.pointer none) ?_
  refine wl_make (c := #[.string ({ data := #[] }), .string ({ data := #[] })]) H0 22 (by kernel_rfl) (by kernel_rfl) ?_
  intro q1 w2 (h3 : HA ⟨w0, M⟩ ((q1, 22, #[.string ({ data := #[] }), .string ({ data := #[] })]) :: L) w2)
  refine wl_make (c := #[.string ({ data := #[] }), .string ({ data := #[] })]) h3 22 (by kernel_rfl) (by kernel_rfl) ?_
  intro q4 w5 (h6 : HA ⟨w0, M⟩ ((q4, 22, #[.string ({ data := #[] }), .string ({ data := #[] })]) :: (q1, 22, #[.string ({ data := #[] }), .string ({ data := #[] })]) :: L) w5)
  refine wl_nil (then_at rfl (wp_seq (wl_region ?_)))
  refine zv (iN .i64 1) ?_
  refine wl_callx (by kernel_rfl) enter8 #[iN .i64 1] (by kernel_rfl) (New_P h6) ?_
  rintro _ w9 ⟨p7, rfl, hD8⟩
  refine ⟨_, rfl, ?_⟩
  obtain ⟨z10, X11, hcl12, hbe13, h14⟩ := PH.front hD8
  have h15 : HA z10 ((q4, 22, #[.string ({ data := #[] }), .string ({ data := #[] })]) :: (q1, 22, #[.string ({ data := #[] }), .string ({ data := #[] })]) :: (L ++ X11)) w9 := h14
  refine zv (.tuple #[.pointer (some ⟨p7.q, 0, none⟩), iN .i64 0]) ?_
  refine zv (.pointer (some ⟨p7.q, 0, none⟩)) ?_
  refine zv (iN .i64 0) ?_
  refine zv (.pointer (some ⟨p7.q, 0, none⟩)) ?_
  refine zv (iN .i64 0) ?_
  refine wl_nil (then_at rfl (wp_seq (wp_seq (wl_region ?_))))
  refine zv (iN .i64 0) ?_
  refine zu (.bool false) (run_nei (k := .i64) (a := 0) (b := 0) (by kernel_rfl) (by kernel_rfl) false (by decide)) ?_
  refine wl_nil (then_at rfl ?_)
  refine wp_cond_false (by kernel_rfl) ?_
  refine wp_skip (then_at rfl (wp_seq (wl_region ?_)))
  refine zv (.pointer (some ⟨p7.q, 0, none⟩)) ?_
  refine zv (.string ({ data := #[] })) ?_
  refine wl_callx (by kernel_rfl) enter11 #[.pointer (some ⟨p7.q, 0, none⟩), .string ({ data := #[] })] (by kernel_rfl) (Secret_E (A' := tk 1) (x := 0) (hcl12 ((q4, 22, #[.string ({ data := #[] }), .string ({ data := #[] })]) :: (q1, 22, #[.string ({ data := #[] }), .string ({ data := #[] })]) :: L) _ h15) { data := #[] } (by decide) (by kernel_rfl) (by kernel_rfl)) ?_
  rintro _ w17 ⟨rfl, hD16⟩
  refine ⟨_, rfl, ?_⟩
  obtain ⟨z18, X19, hcl20, hbe21, h22⟩ := PH.front hD16
  have h23 : HA z18 ((q4, 22, #[.string ({ data := #[] }), .string ({ data := #[] })]) :: (q1, 22, #[.string ({ data := #[] }), .string ({ data := #[] })]) :: (L ++ X19)) w17 := h22
  refine zv (.pointer (some ⟨p7.q, 0, none⟩)) ?_
  refine zv (.string ({ data := #[] })) ?_
  refine wl_callx (by kernel_rfl) enter11 #[.pointer (some ⟨p7.q, 0, none⟩), .string ({ data := #[] })] (by kernel_rfl) (Secret_E (A' := tk 2) (x := 1) (hcl20 ((q4, 22, #[.string ({ data := #[] }), .string ({ data := #[] })]) :: (q1, 22, #[.string ({ data := #[] }), .string ({ data := #[] })]) :: L) _ h23) { data := #[] } (Nat.lt_of_lt_of_le (tk_lt 1) (by decide)) (by kernel_rfl) (by kernel_rfl)) ?_
  rintro _ w25 ⟨rfl, hD24⟩
  refine ⟨_, rfl, ?_⟩
  obtain ⟨z26, X27, hcl28, hbe29, h30⟩ := PH.front hD24
  have h31 : HA z26 ((q4, 22, #[.string ({ data := #[] }), .string ({ data := #[] })]) :: (q1, 22, #[.string ({ data := #[] }), .string ({ data := #[] })]) :: (L ++ X27)) w25 := h30
  refine zv (.agg #[.string (txt 0), .string (txt 1)]) ?_
  refine wl_make (c := #[.string ({ data := #[] }), .string ({ data := #[] })]) h31 22 (by kernel_rfl) (by kernel_rfl) ?_
  intro q32 w33 (h34 : HA z26 ((q32, 22, #[.string ({ data := #[] }), .string ({ data := #[] })]) :: (q4, 22, #[.string ({ data := #[] }), .string ({ data := #[] })]) :: (q1, 22, #[.string ({ data := #[] }), .string ({ data := #[] })]) :: (L ++ X27)) w33)
  refine wl_fill (c' := #[.string (txt 0), .string (txt 1)]) h34 0 rfl (by kernel_rfl) (by kernel_rfl) (by kernel_rfl) rfl (by kernel_rfl) (by kernel_rfl) ?_
  intro w35 (h36 : HA z26 ((q32, 22, #[.string (txt 0), .string (txt 1)]) :: (q4, 22, #[.string ({ data := #[] }), .string ({ data := #[] })]) :: (q1, 22, #[.string ({ data := #[] }), .string ({ data := #[] })]) :: (L ++ X27)) w35)
  refine wl_nil (then_at rfl (wp_seq (wl_region ?_)))
  refine zv (.pointer (some ⟨p7.q, 0, none⟩)) ?_
  refine zu (.pointer (some ⟨q32, 0, none⟩)) (run_addr_arr (q := q32) (a := 0) Tryz.underlying22 (fun w => Tryz.sizeOf9 w) (by kernel_rfl) (by kernel_rfl) (by decide)) ?_
  refine zu (.string (txt 0)) (run_load1 (fun w => Tryz.isAgg9 w) (by kernel_rfl) (((h36.get 0 rfl).cell 0).trans rfl)) ?_
  refine wl_callx (by kernel_rfl) enter13 #[.pointer (some ⟨p7.q, 0, none⟩), .string (txt 0)] (by kernel_rfl) (Public_E (A' := tk 3) (x := 2) (hcl28 ((q32, 22, #[.string (txt 0), .string (txt 1)]) :: (q4, 22, #[.string ({ data := #[] }), .string ({ data := #[] })]) :: (q1, 22, #[.string ({ data := #[] }), .string ({ data := #[] })]) :: L) _ h36) (txt 0) (by rw [txt_size]; decide) (Nat.lt_of_lt_of_le (tk_lt 2) (by decide)) (by kernel_rfl)) ?_
  rintro _ w38 ⟨rfl, hD37⟩
  refine ⟨_, rfl, ?_⟩
  obtain ⟨z39, X40, hcl41, hbe42, h43⟩ := PH.front hD37
  have h44 : HA z39 ((q32, 22, #[.string (txt 0), .string (txt 1)]) :: (q4, 22, #[.string ({ data := #[] }), .string ({ data := #[] })]) :: (q1, 22, #[.string ({ data := #[] }), .string ({ data := #[] })]) :: (L ++ X40)) w38 := h43
  refine zv (.tuple #[.string (txt 2), iN .i64 0]) ?_
  refine zv (.string (txt 2)) ?_
  refine zv (iN .i64 0) ?_
  refine zv (.string (txt 2)) ?_
  refine zv (iN .i64 0) ?_
  refine wl_nil (then_at rfl (wp_seq (wl_region ?_)))
  refine zv (.pointer (some ⟨p7.q, 0, none⟩)) ?_
  refine zu (.pointer (some ⟨q32, 1, none⟩)) (run_addr_arr (q := q32) (a := 1) Tryz.underlying22 (fun w => Tryz.sizeOf9 w) (by kernel_rfl) (by kernel_rfl) (by decide)) ?_
  refine zu (.string (txt 1)) (run_load1 (fun w => Tryz.isAgg9 w) (by kernel_rfl) (((h44.get 0 rfl).cell 1).trans rfl)) ?_
  refine wl_callx (by kernel_rfl) enter13 #[.pointer (some ⟨p7.q, 0, none⟩), .string (txt 1)] (by kernel_rfl) (Public_E (A' := tk 4) (x := 3) (hcl41 ((q32, 22, #[.string (txt 0), .string (txt 1)]) :: (q4, 22, #[.string ({ data := #[] }), .string ({ data := #[] })]) :: (q1, 22, #[.string ({ data := #[] }), .string ({ data := #[] })]) :: L) _ h44) (txt 1) (by rw [txt_size]; decide) (Nat.lt_of_lt_of_le (tk_lt 3) (by decide)) (by kernel_rfl)) ?_
  rintro _ w46 ⟨rfl, hD45⟩
  refine ⟨_, rfl, ?_⟩
  obtain ⟨z47, X48, hcl49, hbe50, h51⟩ := PH.front hD45
  have h52 : HA z47 ((q32, 22, #[.string (txt 0), .string (txt 1)]) :: (q4, 22, #[.string ({ data := #[] }), .string ({ data := #[] })]) :: (q1, 22, #[.string ({ data := #[] }), .string ({ data := #[] })]) :: (L ++ X48)) w46 := h51
  refine zv (.tuple #[.string (txt 3), iN .i64 0]) ?_
  refine zv (.string (txt 3)) ?_
  refine zv (iN .i64 0) ?_
  refine zv (.string (txt 3)) ?_
  refine zv (iN .i64 0) ?_
  refine wl_nil (then_at rfl (wp_seq ?_))
  refine wp_region_wx (HA z47 ((q32, 22, #[.string (txt 0), .string (txt 1)]) :: (q4, 22, #[.string ({ data := #[] }), .string ({ data := #[] })]) :: (q1, 22, #[.string ({ data := #[] }), .string ({ data := #[] })]) :: (L ++ X48))) (fun AQ w' => AQ = ⟨(iN .i64 1 :: .string ({ data := #[] }) :: .string ({ data := #[] }) :: un :: un :: un :: pt p7.q :: pt q1 :: pt q4 :: pt p7.q :: iN .i64 0 :: pt q32 :: .string (txt 2) :: iN .i64 0 :: .string (txt 3) :: iN .i64 0 :: .tuple #[pt p7.q, iN .i64 0] :: iN .i64 1 :: .tuple #[pt p7.q, iN .i64 0] :: pt p7.q :: iN .i64 0 :: iN .i64 0 :: .bool false :: un :: un :: pt p7.q :: .string ({ data := #[] }) :: .string (txt 0) :: pt p7.q :: .string ({ data := #[] }) :: .string (txt 1) :: .agg #[.string (txt 0), .string (txt 1)] :: .tuple #[.string (txt 2), iN .i64 0] :: pt p7.q :: pt q32 :: .string (txt 0) :: .tuple #[.string (txt 2), iN .i64 0] :: .string (txt 2) :: iN .i64 0 :: .tuple #[.string (txt 3), iN .i64 0] :: pt p7.q :: .pointer (some ⟨q32, 1, none⟩) :: .string (txt 1) :: .tuple #[.string (txt 3), iN .i64 0] :: .string (txt 3) :: iN .i64 0 :: pt p7.q :: .agg (#[.string (txt 0), .string (txt 1)]) :: .string (txt 2) :: .string (txt 3) :: .agg #[.string (txt 2), .string (txt 3)] :: List.replicate 0 un).toArray, []⟩ ∧ HA z47 ((q32, 22, #[.string (txt 0), .string (txt 1)]) :: (q4, 22, #[.string (txt 2), .string (txt 3)]) :: (q1, 22, #[.string (txt 0), .string (txt 1)]) :: (L ++ X48)) w') 8 (by kernel_rfl) (by kernel_rfl) (by kernel_rfl) (by kernel_rfl) (by kernel_rfl) (h52.drew) ?_ ?_
  · have h53 := h52.drew
    refine zp 0 (.pointer (some ⟨p7.q, 0, none⟩)) ?_
    refine wx_val (i := 1) (.agg (#[.string (txt 0), .string (txt 1)])) rfl rfl (by kernel_rfl) (by kernel_rfl) (fun w' h' => run_load_blk (by kernel_rfl) (h'.get 0 rfl) Tryz.underlying22 rfl (by kernel_rfl)) ?_
    refine zp 2 (.string (txt 2)) ?_
    refine zp 3 (.string (txt 3)) ?_
    refine zp 4 (.agg #[.string (txt 2), .string (txt 3)]) ?_
    refine zp 5 (.pointer (some ⟨p7.q, 0, none⟩)) ?_
    refine wx_one 6 (by kernel_rfl) ?_
    refine ex_skipT rfl (by kernel_rfl) h53 fun w54 h55 => ⟨_, run_store_blk (c' := #[.string (txt 0), .string (txt 1)]) (by kernel_rfl) (by kernel_rfl) (h55.get 2 rfl) rfl (by kernel_rfl) (by kernel_rfl), ?_⟩
    have h56 : HA z47 ((q32, 22, #[.string (txt 0), .string (txt 1)]) :: (q4, 22, #[.string ({ data := #[] }), .string ({ data := #[] })]) :: (q1, 22, #[.string (txt 0), .string (txt 1)]) :: (L ++ X48)) _ := h55.fill 2 rfl (c' := #[.string (txt 0), .string (txt 1)]) rfl
    refine ⟨_, .inl (by kernel_rfl), h56, ?_⟩
    refine wx_one 7 (by kernel_rfl) ?_
    refine ex_skipT rfl (by kernel_rfl) h56 fun w57 h58 => ⟨_, run_store_blk (c' := #[.string (txt 2), .string (txt 3)]) (by kernel_rfl) (by kernel_rfl) (h58.get 1 rfl) rfl (by kernel_rfl) (by kernel_rfl), ?_⟩
    have h59 : HA z47 ((q32, 22, #[.string (txt 0), .string (txt 1)]) :: (q4, 22, #[.string (txt 2), .string (txt 3)]) :: (q1, 22, #[.string (txt 0), .string (txt 1)]) :: (L ++ X48)) _ := h58.fill 1 rfl (c' := #[.string (txt 2), .string (txt 3)]) rfl
    refine ⟨_, .inl (by kernel_rfl), h59, ?_⟩
    refine wx_end fun w60 hbx _ => ?_
    have h61 := HA.keep _ _ h59 hbx
    exact ⟨by kernel_rfl, h61⟩
  · rintro _ w62 ⟨rfl, h63⟩
    refine then_at rfl ?_
    refine wp_ret ?_
    repeat first | refine then_ret ?_ | refine block_ret ?_
    exact bodyPost_ret (v := .tuple #[pt p7.q, .agg #[.string (txt 0), .string (txt 1)], .agg #[.string (txt 2), .string (txt 3)]]) (res_tcc (p := 7) (r := 8) (a := 6) (by kernel_rfl) (by kernel_rfl) (by kernel_rfl) (h63.get 2 rfl) Tryz.underlying22 rfl (by kernel_rfl) (by kernel_rfl) (h63.get 1 rfl) Tryz.underlying22 rfl (by kernel_rfl)) rfl ⟨p7, rfl, PH.sub (hcl49 ((q32, 22, #[.string (txt 0), .string (txt 1)]) :: (q4, 22, #[.string (txt 2), .string (txt 3)]) :: (q1, 22, #[.string (txt 0), .string (txt 1)]) :: L) _ h63) (List.Sublist.cons _ (List.Sublist.cons _ (List.Sublist.cons _ (List.Sublist.refl _))))⟩
set_option linter.unusedVariables false in
set_option maxRecDepth 100000 in
set_option maxHeartbeats 2000000 in
theorem works_P (w : World) :
    Calls Tryz.prog 10 #[] w fun e w' => e = .returned (.bool true) ∧ Below w.heap.size w w' := by
  have H0 : HA ⟨w, []⟩ [] w := HA.start w
  go_enter Tryz.func10, Tryz.ntmps10
  refine wp_seq (wl_region ?_)
  refine zv (.bool false) ?_
  refine wl_nil (then_at rfl (wp_seq (wl_region ?_)))
  refine wl_callx (by kernel_rfl) enter24 #[iN .i64 1, .string ({ data := #[] }), .string ({ data := #[] })] (by kernel_rfl) (made_P H0) ?_
  rintro _ w3 ⟨p1, rfl, hD2⟩
  refine ⟨_, rfl, ?_⟩
  obtain ⟨z4, X5, hcl6, hbe7, h8⟩ := PH.front hD2
  have h9 : HA z4 X5 w3 := h8
  refine zv (.tuple #[.pointer (some ⟨p1.q, 0, none⟩), .agg #[.string (txt 0), .string (txt 1)], .agg #[.string (txt 2), .string (txt 3)]]) ?_
  refine zv (.pointer (some ⟨p1.q, 0, none⟩)) ?_
  refine zv (.agg #[.string (txt 0), .string (txt 1)]) ?_
  refine zv (.agg #[.string (txt 2), .string (txt 3)]) ?_
  refine wl_make (c := #[.string ({ data := #[] }), .string ({ data := #[] })]) h9 22 (by kernel_rfl) (by kernel_rfl) ?_
  intro q10 w11 (h12 : HA z4 ((q10, 22, #[.string ({ data := #[] }), .string ({ data := #[] })]) :: X5) w11)
  refine wl_make (c := #[.string ({ data := #[] }), .string ({ data := #[] })]) h12 22 (by kernel_rfl) (by kernel_rfl) ?_
  intro q13 w14 (h15 : HA z4 ((q13, 22, #[.string ({ data := #[] }), .string ({ data := #[] })]) :: (q10, 22, #[.string ({ data := #[] }), .string ({ data := #[] })]) :: X5) w14)
  refine zv (.pointer (some ⟨p1.q, 0, none⟩)) ?_
  refine wl_fill (c' := #[.string (txt 0), .string (txt 1)]) h15 1 rfl (by kernel_rfl) (by kernel_rfl) (by kernel_rfl) rfl (by kernel_rfl) (by kernel_rfl) ?_
  intro w16 (h17 : HA z4 ((q13, 22, #[.string ({ data := #[] }), .string ({ data := #[] })]) :: (q10, 22, #[.string (txt 0), .string (txt 1)]) :: X5) w16)
  refine wl_fill (c' := #[.string (txt 2), .string (txt 3)]) h17 0 rfl (by kernel_rfl) (by kernel_rfl) (by kernel_rfl) rfl (by kernel_rfl) (by kernel_rfl) ?_
  intro w18 (h19 : HA z4 ((q13, 22, #[.string (txt 2), .string (txt 3)]) :: (q10, 22, #[.string (txt 0), .string (txt 1)]) :: X5) w18)
  refine wl_nil (then_at rfl (wp_seq (wp_seq (wl_region ?_))))
  refine zv (.pointer (some ⟨p1.q, 0, none⟩)) ?_
  refine zv (.bool false) ?_
  refine wl_nil (then_at rfl ?_)
  refine wp_cond_false (by kernel_rfl) ?_
  refine wp_skip (then_at rfl (wp_seq (wl_region ?_)))
  refine zv (.pointer (some ⟨p1.q, 0, none⟩)) ?_
  refine zu (.pointer (some ⟨q10, 0, none⟩)) (run_addr_arr (q := q10) (a := 0) Tryz.underlying22 (fun w => Tryz.sizeOf9 w) (by kernel_rfl) (by kernel_rfl) (by decide)) ?_
  refine zu (.string (txt 0)) (run_load1 (fun w => Tryz.isAgg9 w) (by kernel_rfl) (((h19.get 1 rfl).cell 0).trans rfl)) ?_
  refine zu (.pointer (some ⟨q13, 1, none⟩)) (run_addr_arr (q := q13) (a := 1) Tryz.underlying22 (fun w => Tryz.sizeOf9 w) (by kernel_rfl) (by kernel_rfl) (by decide)) ?_
  refine zu (.string (txt 3)) (run_load1 (fun w => Tryz.isAgg9 w) (by kernel_rfl) (((h19.get 0 rfl).cell 1).trans rfl)) ?_
  refine wl_callx (by kernel_rfl) enter15 #[.pointer (some ⟨p1.q, 0, none⟩), iN .i64 4, .string (txt 0), .string (txt 3), .string ({ data := #[] })] (by kernel_rfl) (Begin_P (hcl6 ((q13, 22, #[.string (txt 2), .string (txt 3)]) :: (q10, 22, #[.string (txt 0), .string (txt 1)]) :: []) _ h19) 4 (txt 0) (txt 3) { data := #[] } (by decide) (tx_l6 _) (tx_l6 _) (tk_lt 4) (by decide) (tx_l6 _) b1 (tk_lt 6) b2 (tk_lt 7) b3 (tk_lt 8) b4 (tk_lt 11) b5) ?_
  rintro _ w22 ⟨qc20, rfl, hD21⟩
  refine ⟨_, rfl, ?_⟩
  obtain ⟨z23, X24, hcl25, hbe26, h27⟩ := PH.front hD21
  have h28 : HA z23 ((qc20, 89, #[.pointer (some ⟨p1.q, 0, none⟩), .string (txt 0), .string (txt (tk 4).length), .string hello0, .string (txt 6), .string (txt 7)]) :: (q13, 22, #[.string (txt 2), .string (txt 3)]) :: (q10, 22, #[.string (txt 0), .string (txt 1)]) :: X24) w22 := h27
  refine zv (.tuple #[.pointer (some ⟨qc20, 0, none⟩), .string hello0, iN .i64 0]) ?_
  refine zv (.pointer (some ⟨qc20, 0, none⟩)) ?_
  refine zv (.string hello0) ?_
  refine zv (iN .i64 0) ?_
  refine zv (.pointer (some ⟨qc20, 0, none⟩)) ?_
  refine zv (.string hello0) ?_
  refine zv (iN .i64 0) ?_
  refine wl_nil (then_at rfl (wp_seq (wp_seq (wl_region ?_))))
  refine zv (iN .i64 0) ?_
  refine zu (.bool false) (run_nei (k := .i64) (a := 0) (b := 0) (by kernel_rfl) (by kernel_rfl) false (by decide)) ?_
  refine zv (.bool false) ?_
  refine zv (.pointer (some ⟨qc20, 0, none⟩)) ?_
  refine zv (.bool false) ?_
  refine zv (.bool false) ?_
  refine wl_nil (then_at rfl ?_)
  refine wp_cond_false (by kernel_rfl) ?_
  refine wp_skip (then_at rfl (wp_seq (wl_region ?_)))
  refine zv (.pointer (some ⟨p1.q, 0, none⟩)) ?_
  refine zu (.pointer (some ⟨q10, 1, none⟩)) (run_addr_arr (q := q10) (a := 1) Tryz.underlying22 (fun w => Tryz.sizeOf9 w) (by kernel_rfl) (by kernel_rfl) (by decide)) ?_
  refine zu (.string (txt 1)) (run_load1 (fun w => Tryz.isAgg9 w) (by kernel_rfl) (((h28.get 2 rfl).cell 1).trans rfl)) ?_
  refine zu (.pointer (some ⟨q13, 0, none⟩)) (run_addr_arr (q := q13) (a := 0) Tryz.underlying22 (fun w => Tryz.sizeOf9 w) (by kernel_rfl) (by kernel_rfl) (by decide)) ?_
  refine zu (.string (txt 2)) (run_load1 (fun w => Tryz.isAgg9 w) (by kernel_rfl) (((h28.get 1 rfl).cell 0).trans rfl)) ?_
  refine wl_mks (n := 5) (m := 5) (c := #[.string ({ data := #[] }), .string ({ data := #[] }), .string ({ data := #[] }), .string ({ data := #[] }), .string (txt 2)]) h28 9 (by kernel_rfl) (by kernel_rfl) ?_
  intro q29 w30 (h31 : HA z23 ((q29, 9, #[.string ({ data := #[] }), .string ({ data := #[] }), .string ({ data := #[] }), .string ({ data := #[] }), .string (txt 2)]) :: (qc20, 89, #[.pointer (some ⟨p1.q, 0, none⟩), .string (txt 0), .string (txt (tk 4).length), .string hello0, .string (txt 6), .string (txt 7)]) :: (q13, 22, #[.string (txt 2), .string (txt 3)]) :: (q10, 22, #[.string (txt 0), .string (txt 1)]) :: X24) w30)
  refine zv (.string hello0) ?_
  refine wl_callx (by kernel_rfl) enter18 #[.pointer (some ⟨p1.q, 0, none⟩), .string (txt 1), .slice (some ⟨q29, 0, none⟩) 5 5, .string hello0, .string ({ data := #[] })] (by kernel_rfl) (Accept_y (hcl25 ((q29, 9, #[.string ({ data := #[] }), .string ({ data := #[] }), .string ({ data := #[] }), .string ({ data := #[] }), .string (txt 2)]) :: (qc20, 89, #[.pointer (some ⟨p1.q, 0, none⟩), .string (txt 0), .string (txt (tk 4).length), .string hello0, .string (txt 6), .string (txt 7)]) :: (q13, 22, #[.string (txt 2), .string (txt 3)]) :: (q10, 22, #[.string (txt 0), .string (txt 1)]) :: []) _ h31) (txt 1) [{ data := #[] }, { data := #[] }, { data := #[] }, { data := #[] }, txt 2] q29 5 (List.mem_of_getElem? (i := 0) rfl) hello0 { data := #[] } (by rw [h0_size]; decide) r1 (by decide) (by decide) (client := txt 2) rfl (tx_ne 2) (tx_l6 _) (tx_l6 _) (by rw [txt_size]; decide) (by rw [txt_size]; decide) (tk_lt 13) (tx_l6 _) c1_13 (tk_lt 13) c2_13 (tk_lt 13) c3_13 (tk_lt 13) c4_13 (by decide) (by decide) (tx_l6 _) a1_13 (tk_lt 15) a2_13 (tk_lt 16) a3_13 (tk_lt 17) a4_13 (tk_lt 20) a5_13 (tk_lt 24) a6_13) ?_
  rintro _ w33 ⟨rfl, hD32⟩
  refine ⟨_, rfl, ?_⟩
  obtain ⟨z34, X35, hcl36, hbe37, h38⟩ := PH.front hD32
  have h39 : HA z34 ((q29, 9, #[.string ({ data := #[] }), .string ({ data := #[] }), .string ({ data := #[] }), .string ({ data := #[] }), .string (txt 2)]) :: (qc20, 89, #[.pointer (some ⟨p1.q, 0, none⟩), .string (txt 0), .string (txt (tk 4).length), .string hello0, .string (txt 6), .string (txt 7)]) :: (q13, 22, #[.string (txt 2), .string (txt 3)]) :: (q10, 22, #[.string (txt 0), .string (txt 1)]) :: X35) w33 := h38
  refine zv (.tuple #[iN .i64 4, .string reply0, .string (txt 22), .string (txt 21), iN .i64 0]) ?_
  refine zv (iN .i64 4) ?_
  refine zv (.string reply0) ?_
  refine zv (.string (txt 22)) ?_
  refine zv (.string (txt 21)) ?_
  refine zv (iN .i64 0) ?_
  refine zv (iN .i64 4) ?_
  refine zv (.string reply0) ?_
  refine zv (.string (txt 22)) ?_
  refine zv (.string (txt 21)) ?_
  refine zv (iN .i64 0) ?_
  refine wl_nil (then_at rfl (wp_seq (wl_region ?_)))
  refine zv (.pointer (some ⟨qc20, 0, none⟩)) ?_
  refine zv (.string reply0) ?_
  refine wl_callx (by kernel_rfl) enter21 #[.pointer (some ⟨qc20, 0, none⟩), .string reply0] (by kernel_rfl) (Finish_y (hcl36 ((q29, 9, #[.string ({ data := #[] }), .string ({ data := #[] }), .string ({ data := #[] }), .string ({ data := #[] }), .string (txt 2)]) :: (qc20, 89, #[.pointer (some ⟨p1.q, 0, none⟩), .string (txt 0), .string (txt (tk 4).length), .string hello0, .string (txt 6), .string (txt 7)]) :: (q13, 22, #[.string (txt 2), .string (txt 3)]) :: (q10, 22, #[.string (txt 0), .string (txt 1)]) :: []) _ h39) reply0 (by rw [y0_size]; decide) (xc := qc20) (sc := txt 0) (fr := txt (tk 4).length) (hl := hello0) (es0 := txt 6) (ss0 := txt 7) (List.mem_of_getElem? (i := 1) rfl) (tx_l6 _) (tx_l6 _) (by rw [h0_size]; decide) (tx_le _) (tx_le _) (tk_lt 25) r2 (by rw [txt_size]; decide) (by rw [txt_size]; decide) (tx_l6 _) f1_25 (tk_lt 25) f2_25 (tk_lt 25) f3_25 (tk_lt 25) f4_25 (tk_lt 25) f5_25 (by decide) (by decide)) ?_
  rintro _ w41 ⟨rfl, hD40⟩
  refine ⟨_, rfl, ?_⟩
  obtain ⟨z42, X43, hcl44, hbe45, h46⟩ := PH.front hD40
  have h47 : HA z42 ((q29, 9, #[.string ({ data := #[] }), .string ({ data := #[] }), .string ({ data := #[] }), .string ({ data := #[] }), .string (txt 2)]) :: (qc20, 89, #[.pointer (some ⟨p1.q, 0, none⟩), .string (txt 0), .string (txt (tk 4).length), .string hello0, .string (txt 6), .string (txt 7)]) :: (q13, 22, #[.string (txt 2), .string (txt 3)]) :: (q10, 22, #[.string (txt 0), .string (txt 1)]) :: X43) w41 := h46
  refine zv (.tuple #[.string (txt 21), .string (txt 22), iN .i64 0]) ?_
  refine zv (.string (txt 21)) ?_
  refine zv (.string (txt 22)) ?_
  refine zv (iN .i64 0) ?_
  refine zv (.string (txt 21)) ?_
  refine zv (.string (txt 22)) ?_
  refine zv (iN .i64 0) ?_
  refine wl_nil (then_at rfl (wp_seq (wl_region ?_)))
  refine zv (iN .i64 0) ?_
  refine zu (.bool true) (run_eqi (k := .i64) (a := 0) (b := 0) (by kernel_rfl) (by kernel_rfl) true (by decide)) ?_
  refine zv (.bool true) ?_
  refine zv (iN .i64 0) ?_
  refine zu (.bool true) (run_eqi (k := .i64) (a := 0) (b := 0) (by kernel_rfl) (by kernel_rfl) true (by decide)) ?_
  refine zv (.bool true) ?_
  refine zv (.bool true) ?_
  refine zv (iN .i64 4) ?_
  refine zu (.bool true) (run_eqi (k := .i64) (a := 4) (b := 4) (by kernel_rfl) (by kernel_rfl) true (by decide)) ?_
  refine zv (.bool true) ?_
  refine zv (.bool true) ?_
  refine zv (.string (txt 22)) ?_
  refine zv (.string (txt 22)) ?_
  refine zu (.bool true) (run_eqs (s := txt 22) (t := txt 22) (by kernel_rfl) (by kernel_rfl) true (decide_eq_true rfl)) ?_
  refine zv (.bool true) ?_
  refine zv (.bool true) ?_
  refine zv (.string (txt 21)) ?_
  refine zv (.string (txt 21)) ?_
  refine zu (.bool true) (run_eqs (s := txt 21) (t := txt 21) (by kernel_rfl) (by kernel_rfl) true (decide_eq_true rfl)) ?_
  refine zv (.bool true) ?_
  refine zv (.bool true) ?_
  refine zv (.string (txt 22)) ?_
  refine zv (.string (txt 21)) ?_
  refine zu (.bool true) (run_nes (s := txt 22) (t := txt 21) (by kernel_rfl) (by kernel_rfl) true (decide_eq_false (by decide))) ?_
  refine zv (.bool true) ?_
  refine zv (.bool true) ?_
  refine zv (.string (txt 22)) ?_
  refine zu (.bool true) (run_nes (s := txt 22) (t := { data := #[] }) (by kernel_rfl) (by kernel_rfl) true (decide_eq_false (by decide))) ?_
  refine zv (.bool true) ?_
  refine zv (.bool true) ?_
  refine zv (.string hello0) ?_
  refine zu (iN .i64 hello0.size) (run_len (s := hello0) (by kernel_rfl)) ?_
  refine zu (.bool true) (run_eqi (k := .i64) (a := hello0.size) (b := 26) (by kernel_rfl) (by kernel_rfl) true (decide_eq_true h0_size)) ?_
  refine zv (.bool true) ?_
  refine zv (.bool true) ?_
  refine wl_nil (then_at rfl ?_)
  refine wp_ret ?_
  repeat first | refine then_ret ?_ | refine block_ret ?_
  exact bodyPost_ret (v := .bool true) (by kernel_rfl) rfl ⟨rfl, hbe45 _ _ h47⟩
end Go.Proofs.YtcjjbpbehapjpaaGreat
