/-
  The tables of a hello, a reply (address 4).
-/
import Derived.Test.YtcjjbpbehapjpaaGreatS6
set_option linter.unusedVariables false
namespace Go.Proofs.YtcjjbpbehapjpaaGreat
open Go.RowKit

def tT : List Ent := [.nm 0,
  .nm 1,
  .mk 3 0 { data := #[] } [0] 0,
  .mk 3 0 { data := #[] } [1] 0,
  .nm 2,
  .mk 3 0 { data := #[] } [4] 0,
  .mk 4 0 { data := #[] } [1, 4] 0,
  .mk 4 0 { data := #[] } [0, 1] 0,
  .dt { data := #[0, 0, 0, 8, 240, 84, 82, 77, 0, 0, 0, 6, 0, 0, 0, 8, 240, 84, 82, 77, 0, 0, 0, 7] },
  .dt { data := #[] },
  .mk 5 0 { data := #[115, 104, 97, 107, 101, 32, 104, 101, 108, 108, 111, 0] } [8, 9] 0,
  .dt { data := #[0, 4, 0, 0, 0, 8, 240, 84, 82, 77, 0, 0, 0, 5] },
  .mk 6 0 { data := #[] } [10, 9, 11, 9] 0,
  .nm 3,
  .mk 3 0 { data := #[] } [13] 0,
  .mk 4 0 { data := #[] } [4, 13] 0,
  .mk 4 0 { data := #[] } [0, 13] 0,
  .dt { data := #[0, 4, 0, 0, 0, 8, 240, 84, 82, 77, 0, 0, 0, 5, 0, 0, 0, 8, 240, 84, 82, 77, 0, 0, 0, 12] },
  .dt { data := #[0, 0, 0, 8, 240, 84, 82, 77, 0, 0, 0, 14] },
  .mk 5 0 { data := #[100, 105, 103, 101, 115, 116] } [17, 18] 0,
  .dt { data := #[0, 0, 0, 8, 240, 84, 82, 77, 0, 0, 0, 6, 0, 0, 0, 8, 240, 84, 82, 77, 0, 0, 0, 7, 0, 0, 0, 8, 240, 84, 82, 77, 0, 0, 0, 15, 0, 0, 0, 8, 240, 84, 82, 77, 0, 0, 0, 16] },
  .mk 5 0 { data := #[115, 104, 97, 107, 101, 32, 107, 101, 121, 115, 0] } [20, 19] 0,
  .mk 5 0 { data := #[115, 104, 97, 107, 101, 32, 107, 101, 121, 115, 1] } [20, 19] 0,
  .mk 5 0 { data := #[115, 104, 97, 107, 101, 32, 107, 101, 121, 115, 2] } [20, 19] 0,
  .mk 6 0 { data := #[] } [23, 9, 18, 9] 0,
  .nm 4,
  .mk 3 0 { data := #[] } [25] 0,
  .mk 4 0 { data := #[] } [4, 25] 0,
  .mk 4 0 { data := #[] } [0, 25] 0,
  .dt { data := #[0, 0, 0, 8, 240, 84, 82, 77, 0, 0, 0, 26] },
  .mk 5 0 { data := #[100, 105, 103, 101, 115, 116] } [17, 29] 0,
  .dt { data := #[0, 0, 0, 8, 240, 84, 82, 77, 0, 0, 0, 6, 0, 0, 0, 8, 240, 84, 82, 77, 0, 0, 0, 7, 0, 0, 0, 8, 240, 84, 82, 77, 0, 0, 0, 27, 0, 0, 0, 8, 240, 84, 82, 77, 0, 0, 0, 28] },
  .mk 5 0 { data := #[115, 104, 97, 107, 101, 32, 107, 101, 121, 115, 0] } [31, 30] 0,
  .mk 5 0 { data := #[115, 104, 97, 107, 101, 32, 107, 101, 121, 115, 1] } [31, 30] 0,
  .mk 5 0 { data := #[115, 104, 97, 107, 101, 32, 107, 101, 121, 115, 2] } [31, 30] 0,
  .mk 6 0 { data := #[] } [34, 9, 29, 9] 0]
def tk (k : Nat) : List Ent := tT.take k
theorem tk_lt (k : Nat) : (tk k).length < 50000 := Nat.lt_of_le_of_lt (List.length_take_le' _ _) (by decide)
theorem tx_le (k : Nat) : (txt k).size ≤ 10000 := by rw [txt_size]; decide
theorem tx_l6 (k : Nat) : (txt k).size ≤ 60000 := by rw [txt_size]; decide
theorem b1 : mkA (frA (tk 4)) 3 { data := #[] } [txt (tk 4).length] = (tk 6, 5) := by kernel_rfl
theorem b2 : mkA (tk 6) 4 { data := #[] } [txt (tk 4).length, txt 3] = (tk 7, 6) := by kernel_rfl
theorem b3 : mkA (tk 7) 4 { data := #[] } [txt 0, txt 3] = (tk 8, 7) := by kernel_rfl
theorem b4 : dv (tk 8) (layT [txt 6, txt 7] 2) { data := #[] } hI 1 = (tk 11, [txt 10]) := by kernel_rfl
theorem b5 : mkA (tk 11) 6 { data := #[] } [txt 10, { data := #[] }, adrT 4 ++ layT [txt 5] 1, { data := #[] }] = (tk 13, 12) := by kernel_rfl
def hello0 : ByteArray := (adrT 4 ++ layT [txt 5] 1) ++ layT [txt 12] 1
def reply0 : ByteArray := layT [txt 14] 1 ++ layT [txt 24] 1
theorem r1 : rdHello hello0 = some (4, txt 5, txt 12) := by kernel_rfl
theorem r2 : rdTold (bl reply0) = some (txt 14, txt 24) := by kernel_rfl
theorem h0_size : hello0.size = 26 := by kernel_rfl
theorem y0_size : reply0.size = 24 := by kernel_rfl
theorem c1_13 : mkA (tk 13) 4 { data := #[] } [txt 1, txt 5] = (tk 13, 6) := by kernel_rfl
theorem c2_13 : mkA (tk 13) 4 { data := #[] } [txt 1, txt 2] = (tk 13, 7) := by kernel_rfl
theorem c3_13 : dv (tk 13) (layT [txt 6, txt 7] 2) { data := #[] } hI 1 = (tk 13, [txt 10]) := by kernel_rfl
theorem c4_13 : opnA (tk 13) (txt 10) { data := #[] } (adrT 4 ++ layT [txt 5] 1) (txt 12) = some { data := #[] } := by kernel_rfl
theorem a1_13 : mkA (frA (tk 13)) 3 { data := #[] } [txt (tk 13).length] = (tk 15, 14) := by kernel_rfl
theorem a2_13 : mkA (tk 15) 4 { data := #[] } [txt (tk 13).length, txt 5] = (tk 16, 15) := by kernel_rfl
theorem a3_13 : mkA (tk 16) 4 { data := #[] } [txt (tk 13).length, txt 2] = (tk 17, 16) := by kernel_rfl
theorem a4_13 : mkA (tk 17) 5 { data := #[100, 105, 103, 101, 115, 116] } [hello0, layT [txt 14] 1] = (tk 20, 19) := by kernel_rfl
theorem a5_13 : dv (tk 20) (layT [txt 6, txt 7, txt 15, txt 16] 4) (txt 19) kI 3 = (tk 24, [txt 21, txt 22, txt 23]) := by kernel_rfl
theorem a6_13 : mkA (tk 24) 6 { data := #[] } [txt 23, { data := #[] }, layT [txt 14] 1, { data := #[] }] = (tk 25, 24) := by kernel_rfl
theorem f1_25 : mkA (tk 25) 4 { data := #[] } [txt (tk 4).length, txt 14] = (tk 25, 15) := by kernel_rfl
theorem f2_25 : mkA (tk 25) 4 { data := #[] } [txt 0, txt 14] = (tk 25, 16) := by kernel_rfl
theorem f3_25 : mkA (tk 25) 5 { data := #[100, 105, 103, 101, 115, 116] } [hello0, layT [txt 14] 1] = (tk 25, 19) := by kernel_rfl
theorem f4_25 : dv (tk 25) (layT [txt 6, txt 7, txt 15, txt 16] 4) (txt 19) kI 3 = (tk 25, [txt 21, txt 22, txt 23]) := by kernel_rfl
theorem f5_25 : opnA (tk 25) (txt 23) { data := #[] } (layT [txt 14] 1) (txt 24) = some { data := #[] } := by kernel_rfl
end Go.Proofs.YtcjjbpbehapjpaaGreat

namespace Go.Proofs.YtcjjbpbehapjpaaGreat
open Go.RowKit

theorem tx_ne (k : Nat) : ¬ txt k = { data := #[] } := fun h => by
  have h2 := congrArg ByteArray.size h
  rw [txt_size] at h2
  cases h2
theorem perm_new (a c : Nat × TypeId × Array Value) (R B L' : BL) : (c :: (a :: (R ++ (B ++ L')))).Perm (a :: (R ++ (B ++ (c :: ([] ++ L'))))) := by
  have e : c :: (a :: (R ++ (B ++ L'))) = [c] ++ ((a :: (R ++ B)) ++ L') := by simp
  have e2 : a :: (R ++ (B ++ (c :: ([] ++ L')))) = (a :: (R ++ B)) ++ ([c] ++ L') := by simp
  rw [e, e2, ← List.append_assoc, ← List.append_assoc]
  exact List.Perm.append_right _ List.perm_append_comm
theorem Secret_E {w0 w : World} {M : ML} {p : Pr} {A A' : List Ent} {n : Nat} {L : BL} (H : PH w0 M p A n L w) (d : ByteArray) (hf : A.length < 58000) (hm : frA A = A') {x : Nat} (hx : A.length = x) :
    Calls Tryz.prog 11 #[pt p.q, .string d] w fun e w' => e = .returned (.string (txt x)) ∧ PH w0 M p A' n L w' := by
  have h := Secret_P H d hf
  rw [hm, hx] at h
  exact h
theorem res_tcc {w : World} {P : Program} {fn : Func} {p r a : Tmp} {t t2 ty ty2 : TypeId} {ts : Array Value} {q q2 : Nat} {c c2 : Array Value} {D D2 : TypeDesc} {u : Value} (hf : fn.results = #[.tmp a, .cell p ty, .cell r ty2]) (hu' : ts.getD a undef = u) (ht : ts.getD p undef = .pointer (some ⟨q, 0, none⟩)) (h : Blk w q t c) (hu : P.underlying ty = some D) (hd : D.isRow = true) (hi : (P.info? ty).map (·.size) = some c.size) (ht2 : ts.getD r undef = .pointer (some ⟨q2, 0, none⟩)) (h2 : Blk w q2 t2 c2) (hu2 : P.underlying ty2 = some D2) (hd2 : D2.isRow = true) (hi2 : (P.info? ty2).map (·.size) = some c2.size) :
    (results fn ts).run P w = .ok (.tuple #[u, .agg c, .agg c2]) w := by
  have e1 := run_loadVar_mid (P := P) w q 0 ty c.toList D h.range hu hd (by simpa using hi)
  have e2 := run_loadVar_mid (P := P) w q2 0 ty2 c2.toList D2 h2.range hu2 hd2 (by simpa using hi2)
  have k1 : ts[p]?.getD undef = .pointer (some ⟨q, 0, none⟩) := by simpa using ht
  have k2 : ts[r]?.getD undef = .pointer (some ⟨q2, 0, none⟩) := by simpa using ht2
  have k3 : ts[a]?.getD undef = u := by simpa using hu'
  simp [results, hf, Result.andThen_ok, asAddr, k1, k2, k3, e1, e2]
set_option maxRecDepth 100000 in
set_option maxHeartbeats 2000000 in
theorem New_P {w0 w : World} {M : ML} {L : BL} (H0 : HA ⟨w0, M⟩ L w) :
    Calls Tryz.prog 8 #[iN .i64 1] w fun e w' => ∃ p : Pr, e = .returned (.tuple #[pt p.q, iN .i64 0]) ∧ PH w0 M p [] 0 L w' := by
  go_enter Tryz.func8, Tryz.ntmps8
  refine wp_seq (wl_region ?_)
  refine zv (.pointer none) ?_
  refine zv (iN .i64 0) ?_
  refine wl_nil (then_at rfl (wp_seq (wp_seq (wl_region ?_))))
  refine zv (iN .i64 1) ?_
  refine wl_nil (then_at rfl (wp_block (wp_seq (wl_region ?_))))
  refine zu (.bool false) (run_eqi (k := .i64) (a := 1) (b := 0) ky ky false (by decide)) ?_
  refine zv (.bool false) ?_
  refine wl_nil (then_at rfl ?_)
  refine wp_cond_false ky ?_
  refine wp_seq (wl_region ?_)
  refine zu (.bool true) (run_eqi (k := .i64) (a := 1) (b := 1) ky ky true (by decide)) ?_
  refine zv (.bool true) ?_
  refine wl_nil (then_at rfl ?_)
  refine wp_cond_true ky ?_
  refine wp_seq (wl_region ?_)
  refine wl_callx ky enter28 #[] ky (New_ok H0) ?_
  rintro _ w7 ⟨tb1, rfl, hT2⟩
  refine ⟨_, rfl, ?_⟩
  obtain ⟨v3, Lr4, hr5, h6⟩ := hT2
  refine zv (.agg #[.pointer (some ⟨tb1.q, 0, none⟩)]) ?_
  refine zv (.iface 97 (.agg #[.pointer (some ⟨tb1.q, 0, none⟩)])) ?_
  refine zv (.agg #[.iface 97 (.agg #[.pointer (some ⟨tb1.q, 0, none⟩)]), .slice none 0 0]) ?_
  refine wl_make (c := #[.iface 97 (.agg #[.pointer (some ⟨tb1.q, 0, none⟩)]), .slice none 0 0]) h6 95 ky ky ?_
  intro q8 w9 (h10 : HA (zb w0 M tb1 []) ((q8, 95, #[.iface 97 (.agg #[.pointer (some ⟨tb1.q, 0, none⟩)]), .slice none 0 0]) :: ((tb1.q, 154, tcell tb1 (nms []) v3) :: (Lr4 ++ (PB [] ++ L)))) w9)
  refine zv (.pointer (some ⟨q8, 0, none⟩)) ?_
  refine zv (iN .i64 0) ?_
  refine wl_nil (then_at rfl ?_)
  refine wp_ret ?_
  repeat first | refine then_ret ?_ | refine block_ret ?_
  exact bodyPost_ret (v := .tuple #[pt q8, iN .i64 0]) ky rfl ⟨⟨q8, tb1⟩, rfl, [], .slice none 0 0, [], [], rfl, OkT.nil, Row.nil 68 6, v3, Lr4, hr5, h10.perm (perm_new _ _ Lr4 (PB []) L)⟩
set_option maxRecDepth 100000 in
set_option maxHeartbeats 2000000 in
theorem made_P {w0 w : World} {M : ML} {L : BL} (H0 : HA ⟨w0, M⟩ L w) :
    Calls Tryz.prog 24 #[iN .i64 1, .string { data := #[] }, .string { data := #[] }] w fun e w' => ∃ p : Pr, e = .returned (.tuple #[pt p.q, .agg #[.string (txt 0), .string (txt 1)], .agg #[.string (txt 2), .string (txt 3)]]) ∧ PH w0 M p (tk 4) 0 L w' := by
  go_enter Tryz.func24, Tryz.ntmps24
  refine wp_seq (wl_region ?_)
  refine zv (.pointer none) ?_
  refine wl_make (c := #[.string ({ data := #[] }), .string ({ data := #[] })]) H0 22 ky ky ?_
  intro q1 w2 (h3 : HA ⟨w0, M⟩ ((q1, 22, #[.string ({ data := #[] }), .string ({ data := #[] })]) :: L) w2)
  refine wl_make (c := #[.string ({ data := #[] }), .string ({ data := #[] })]) h3 22 ky ky ?_
  intro q4 w5 (h6 : HA ⟨w0, M⟩ ((q4, 22, #[.string ({ data := #[] }), .string ({ data := #[] })]) :: (q1, 22, #[.string ({ data := #[] }), .string ({ data := #[] })]) :: L) w5)
  refine wl_nil (then_at rfl (wp_seq (wl_region ?_)))
  refine zv (iN .i64 1) ?_
  refine wl_callx ky enter8 #[iN .i64 1] ky (New_P h6) ?_
  rintro _ w9 ⟨p7, rfl, hD8⟩
  refine ⟨_, rfl, ?_⟩
  obtain ⟨z10, X11, hcl12, hbe13, h14⟩ := PH.front hD8
  have h15 : HA z10 ((q4, 22, #[.string ({ data := #[] }), .string ({ data := #[] })]) :: (q1, 22, #[.string ({ data := #[] }), .string ({ data := #[] })]) :: (L ++ X11)) w9 := h14
  refine zv (.tuple #[.pointer (some ⟨p7.q, 0, none⟩), iN .i64 0]) ?_
  refine zv (.pointer (some ⟨p7.q, 0, none⟩)) ?_
  refine zv (iN .i64 0) ?_
  refine zv (.pointer (some ⟨p7.q, 0, none⟩)) ?_
  refine zv (iN .i64 0) ?_
  refine wl_nil (then_at rfl (wp_seq (wp_seq (wl_region ?_))))
  refine zv (iN .i64 0) ?_
  refine zu (.bool false) (run_nei (k := .i64) (a := 0) (b := 0) ky ky false (by decide)) ?_
  refine wl_nil (then_at rfl ?_)
  refine wp_cond_false ky ?_
  refine wp_skip (then_at rfl (wp_seq (wl_region ?_)))
  refine zv (.pointer (some ⟨p7.q, 0, none⟩)) ?_
  refine zv (.string ({ data := #[] })) ?_
  refine wl_callx ky enter11 #[.pointer (some ⟨p7.q, 0, none⟩), .string ({ data := #[] })] ky (Secret_E (A' := tk 1) (x := 0) (hcl12 ((q4, 22, #[.string ({ data := #[] }), .string ({ data := #[] })]) :: (q1, 22, #[.string ({ data := #[] }), .string ({ data := #[] })]) :: L) _ h15) { data := #[] } (by decide) ky ky) ?_
  rintro _ w17 ⟨rfl, hD16⟩
  refine ⟨_, rfl, ?_⟩
  obtain ⟨z18, X19, hcl20, hbe21, h22⟩ := PH.front hD16
  have h23 : HA z18 ((q4, 22, #[.string ({ data := #[] }), .string ({ data := #[] })]) :: (q1, 22, #[.string ({ data := #[] }), .string ({ data := #[] })]) :: (L ++ X19)) w17 := h22
  refine zv (.pointer (some ⟨p7.q, 0, none⟩)) ?_
  refine zv (.string ({ data := #[] })) ?_
  refine wl_callx ky enter11 #[.pointer (some ⟨p7.q, 0, none⟩), .string ({ data := #[] })] ky (Secret_E (A' := tk 2) (x := 1) (hcl20 ((q4, 22, #[.string ({ data := #[] }), .string ({ data := #[] })]) :: (q1, 22, #[.string ({ data := #[] }), .string ({ data := #[] })]) :: L) _ h23) { data := #[] } (Nat.lt_of_lt_of_le (tk_lt 1) (by decide)) ky ky) ?_
  rintro _ w25 ⟨rfl, hD24⟩
  refine ⟨_, rfl, ?_⟩
  obtain ⟨z26, X27, hcl28, hbe29, h30⟩ := PH.front hD24
  have h31 : HA z26 ((q4, 22, #[.string ({ data := #[] }), .string ({ data := #[] })]) :: (q1, 22, #[.string ({ data := #[] }), .string ({ data := #[] })]) :: (L ++ X27)) w25 := h30
  refine zv (.agg #[.string (txt 0), .string (txt 1)]) ?_
  refine wl_make (c := #[.string ({ data := #[] }), .string ({ data := #[] })]) h31 22 ky ky ?_
  intro q32 w33 (h34 : HA z26 ((q32, 22, #[.string ({ data := #[] }), .string ({ data := #[] })]) :: (q4, 22, #[.string ({ data := #[] }), .string ({ data := #[] })]) :: (q1, 22, #[.string ({ data := #[] }), .string ({ data := #[] })]) :: (L ++ X27)) w33)
  refine wl_fill (c' := #[.string (txt 0), .string (txt 1)]) h34 0 rfl ky ky ky rfl ky ky ?_
  intro w35 (h36 : HA z26 ((q32, 22, #[.string (txt 0), .string (txt 1)]) :: (q4, 22, #[.string ({ data := #[] }), .string ({ data := #[] })]) :: (q1, 22, #[.string ({ data := #[] }), .string ({ data := #[] })]) :: (L ++ X27)) w35)
  refine wl_nil (then_at rfl (wp_seq (wl_region ?_)))
  refine zv (.pointer (some ⟨p7.q, 0, none⟩)) ?_
  refine zu (.pointer (some ⟨q32, 0, none⟩)) (run_addr_arr (q := q32) (a := 0) Tryz.underlying22 (fun w => Tryz.sizeOf9 w) ky ky (by decide)) ?_
  refine zu (.string (txt 0)) (run_load1 (fun w => Tryz.isAgg9 w) ky (((h36.get 0 rfl).cell 0).trans rfl)) ?_
  refine wl_callx ky enter13 #[.pointer (some ⟨p7.q, 0, none⟩), .string (txt 0)] ky (Public_E (A' := tk 3) (x := 2) (hcl28 ((q32, 22, #[.string (txt 0), .string (txt 1)]) :: (q4, 22, #[.string ({ data := #[] }), .string ({ data := #[] })]) :: (q1, 22, #[.string ({ data := #[] }), .string ({ data := #[] })]) :: L) _ h36) (txt 0) (by rw [txt_size]; decide) (Nat.lt_of_lt_of_le (tk_lt 2) (by decide)) ky) ?_
  rintro _ w38 ⟨rfl, hD37⟩
  refine ⟨_, rfl, ?_⟩
  obtain ⟨z39, X40, hcl41, hbe42, h43⟩ := PH.front hD37
  have h44 : HA z39 ((q32, 22, #[.string (txt 0), .string (txt 1)]) :: (q4, 22, #[.string ({ data := #[] }), .string ({ data := #[] })]) :: (q1, 22, #[.string ({ data := #[] }), .string ({ data := #[] })]) :: (L ++ X40)) w38 := h43
  refine zv (.tuple #[.string (txt 2), iN .i64 0]) ?_
  refine zv (.string (txt 2)) ?_
  refine zv (iN .i64 0) ?_
  refine zv (.string (txt 2)) ?_
  refine zv (iN .i64 0) ?_
  refine wl_nil (then_at rfl (wp_seq (wl_region ?_)))
  refine zv (.pointer (some ⟨p7.q, 0, none⟩)) ?_
  refine zu (.pointer (some ⟨q32, 1, none⟩)) (run_addr_arr (q := q32) (a := 1) Tryz.underlying22 (fun w => Tryz.sizeOf9 w) ky ky (by decide)) ?_
  refine zu (.string (txt 1)) (run_load1 (fun w => Tryz.isAgg9 w) ky (((h44.get 0 rfl).cell 1).trans rfl)) ?_
  refine wl_callx ky enter13 #[.pointer (some ⟨p7.q, 0, none⟩), .string (txt 1)] ky (Public_E (A' := tk 4) (x := 3) (hcl41 ((q32, 22, #[.string (txt 0), .string (txt 1)]) :: (q4, 22, #[.string ({ data := #[] }), .string ({ data := #[] })]) :: (q1, 22, #[.string ({ data := #[] }), .string ({ data := #[] })]) :: L) _ h44) (txt 1) (by rw [txt_size]; decide) (Nat.lt_of_lt_of_le (tk_lt 3) (by decide)) ky) ?_
  rintro _ w46 ⟨rfl, hD45⟩
  refine ⟨_, rfl, ?_⟩
  obtain ⟨z47, X48, hcl49, hbe50, h51⟩ := PH.front hD45
  have h52 : HA z47 ((q32, 22, #[.string (txt 0), .string (txt 1)]) :: (q4, 22, #[.string ({ data := #[] }), .string ({ data := #[] })]) :: (q1, 22, #[.string ({ data := #[] }), .string ({ data := #[] })]) :: (L ++ X48)) w46 := h51
  refine zv (.tuple #[.string (txt 3), iN .i64 0]) ?_
  refine zv (.string (txt 3)) ?_
  refine zv (iN .i64 0) ?_
  refine zv (.string (txt 3)) ?_
  refine zv (iN .i64 0) ?_
  refine wl_nil (then_at rfl (wp_seq ?_))
  refine wp_region_wx (HA z47 ((q32, 22, #[.string (txt 0), .string (txt 1)]) :: (q4, 22, #[.string ({ data := #[] }), .string ({ data := #[] })]) :: (q1, 22, #[.string ({ data := #[] }), .string ({ data := #[] })]) :: (L ++ X48))) (fun AQ w' => AQ = ⟨(iN .i64 1 :: .string ({ data := #[] }) :: .string ({ data := #[] }) :: un :: un :: un :: pt p7.q :: pt q1 :: pt q4 :: pt p7.q :: iN .i64 0 :: pt q32 :: .string (txt 2) :: iN .i64 0 :: .string (txt 3) :: iN .i64 0 :: .tuple #[pt p7.q, iN .i64 0] :: iN .i64 1 :: .tuple #[pt p7.q, iN .i64 0] :: pt p7.q :: iN .i64 0 :: iN .i64 0 :: .bool false :: un :: un :: pt p7.q :: .string ({ data := #[] }) :: .string (txt 0) :: pt p7.q :: .string ({ data := #[] }) :: .string (txt 1) :: .agg #[.string (txt 0), .string (txt 1)] :: .tuple #[.string (txt 2), iN .i64 0] :: pt p7.q :: pt q32 :: .string (txt 0) :: .tuple #[.string (txt 2), iN .i64 0] :: .string (txt 2) :: iN .i64 0 :: .tuple #[.string (txt 3), iN .i64 0] :: pt p7.q :: .pointer (some ⟨q32, 1, none⟩) :: .string (txt 1) :: .tuple #[.string (txt 3), iN .i64 0] :: .string (txt 3) :: iN .i64 0 :: pt p7.q :: .agg (#[.string (txt 0), .string (txt 1)]) :: .string (txt 2) :: .string (txt 3) :: .agg #[.string (txt 2), .string (txt 3)] :: List.replicate 0 un).toArray, []⟩ ∧ HA z47 ((q32, 22, #[.string (txt 0), .string (txt 1)]) :: (q4, 22, #[.string (txt 2), .string (txt 3)]) :: (q1, 22, #[.string (txt 0), .string (txt 1)]) :: (L ++ X48)) w') 8 ky ky ky ky ky (h52.drew) ?_ ?_
  · have h53 := h52.drew
    refine zp 0 (.pointer (some ⟨p7.q, 0, none⟩)) ?_
    refine wx_val (i := 1) (.agg (#[.string (txt 0), .string (txt 1)])) rfl rfl ky ky (fun w' h' => run_load_blk ky (h'.get 0 rfl) Tryz.underlying22 rfl ky) ?_
    refine zp 2 (.string (txt 2)) ?_
    refine zp 3 (.string (txt 3)) ?_
    refine zp 4 (.agg #[.string (txt 2), .string (txt 3)]) ?_
    refine zp 5 (.pointer (some ⟨p7.q, 0, none⟩)) ?_
    refine wx_one 6 ky ?_
    refine ex_skipT rfl ky h53 fun w54 h55 => ⟨_, run_store_blk (c' := #[.string (txt 0), .string (txt 1)]) ky ky (h55.get 2 rfl) rfl ky ky, ?_⟩
    have h56 : HA z47 ((q32, 22, #[.string (txt 0), .string (txt 1)]) :: (q4, 22, #[.string ({ data := #[] }), .string ({ data := #[] })]) :: (q1, 22, #[.string (txt 0), .string (txt 1)]) :: (L ++ X48)) _ := h55.fill 2 rfl (c' := #[.string (txt 0), .string (txt 1)]) rfl
    refine ⟨_, .inl ky, h56, ?_⟩
    refine wx_one 7 ky ?_
    refine ex_skipT rfl ky h56 fun w57 h58 => ⟨_, run_store_blk (c' := #[.string (txt 2), .string (txt 3)]) ky ky (h58.get 1 rfl) rfl ky ky, ?_⟩
    have h59 : HA z47 ((q32, 22, #[.string (txt 0), .string (txt 1)]) :: (q4, 22, #[.string (txt 2), .string (txt 3)]) :: (q1, 22, #[.string (txt 0), .string (txt 1)]) :: (L ++ X48)) _ := h58.fill 1 rfl (c' := #[.string (txt 2), .string (txt 3)]) rfl
    refine ⟨_, .inl ky, h59, ?_⟩
    refine wx_end fun w60 hbx _ => ?_
    have h61 := HA.keep _ _ h59 hbx
    exact ⟨by kernel_rfl, h61⟩
  · rintro _ w62 ⟨rfl, h63⟩
    refine then_at rfl ?_
    refine wp_ret ?_
    repeat first | refine then_ret ?_ | refine block_ret ?_
    exact bodyPost_ret (v := .tuple #[pt p7.q, .agg #[.string (txt 0), .string (txt 1)], .agg #[.string (txt 2), .string (txt 3)]]) (res_tcc (p := 7) (r := 8) (a := 6) ky ky ky (h63.get 2 rfl) Tryz.underlying22 rfl ky ky (h63.get 1 rfl) Tryz.underlying22 rfl ky) rfl ⟨p7, rfl, PH.sub (hcl49 ((q32, 22, #[.string (txt 0), .string (txt 1)]) :: (q4, 22, #[.string (txt 2), .string (txt 3)]) :: (q1, 22, #[.string (txt 0), .string (txt 1)]) :: L) _ h63) (List.Sublist.cons _ (List.Sublist.cons _ (List.Sublist.cons _ (List.Sublist.refl _))))⟩
set_option maxRecDepth 100000 in
set_option maxHeartbeats 2000000 in
theorem works_P (w : World) :
    Calls Tryz.prog 10 #[] w fun e w' => e = .returned (.bool true) ∧ Below w.heap.size w w' := by
  have H0 : HA ⟨w, []⟩ [] w := HA.start w
  go_enter Tryz.func10, Tryz.ntmps10
  refine wp_seq (wl_region ?_)
  refine zv (.bool false) ?_
  refine wl_nil (then_at rfl (wp_seq (wl_region ?_)))
  refine wl_callx ky enter24 #[iN .i64 1, .string ({ data := #[] }), .string ({ data := #[] })] ky (made_P H0) ?_
  rintro _ w3 ⟨p1, rfl, hD2⟩
  refine ⟨_, rfl, ?_⟩
  obtain ⟨z4, X5, hcl6, hbe7, h8⟩ := PH.front hD2
  have h9 : HA z4 X5 w3 := h8
  refine zv (.tuple #[.pointer (some ⟨p1.q, 0, none⟩), .agg #[.string (txt 0), .string (txt 1)], .agg #[.string (txt 2), .string (txt 3)]]) ?_
  refine zv (.pointer (some ⟨p1.q, 0, none⟩)) ?_
  refine zv (.agg #[.string (txt 0), .string (txt 1)]) ?_
  refine zv (.agg #[.string (txt 2), .string (txt 3)]) ?_
  refine wl_make (c := #[.string ({ data := #[] }), .string ({ data := #[] })]) h9 22 ky ky ?_
  intro q10 w11 (h12 : HA z4 ((q10, 22, #[.string ({ data := #[] }), .string ({ data := #[] })]) :: X5) w11)
  refine wl_make (c := #[.string ({ data := #[] }), .string ({ data := #[] })]) h12 22 ky ky ?_
  intro q13 w14 (h15 : HA z4 ((q13, 22, #[.string ({ data := #[] }), .string ({ data := #[] })]) :: (q10, 22, #[.string ({ data := #[] }), .string ({ data := #[] })]) :: X5) w14)
  refine zv (.pointer (some ⟨p1.q, 0, none⟩)) ?_
  refine wl_fill (c' := #[.string (txt 0), .string (txt 1)]) h15 1 rfl ky ky ky rfl ky ky ?_
  intro w16 (h17 : HA z4 ((q13, 22, #[.string ({ data := #[] }), .string ({ data := #[] })]) :: (q10, 22, #[.string (txt 0), .string (txt 1)]) :: X5) w16)
  refine wl_fill (c' := #[.string (txt 2), .string (txt 3)]) h17 0 rfl ky ky ky rfl ky ky ?_
  intro w18 (h19 : HA z4 ((q13, 22, #[.string (txt 2), .string (txt 3)]) :: (q10, 22, #[.string (txt 0), .string (txt 1)]) :: X5) w18)
  refine wl_nil (then_at rfl (wp_seq (wp_seq (wl_region ?_))))
  refine zv (.pointer (some ⟨p1.q, 0, none⟩)) ?_
  refine zv (.bool false) ?_
  refine wl_nil (then_at rfl ?_)
  refine wp_cond_false ky ?_
  refine wp_skip (then_at rfl (wp_seq (wl_region ?_)))
  refine zv (.pointer (some ⟨p1.q, 0, none⟩)) ?_
  refine zu (.pointer (some ⟨q10, 0, none⟩)) (run_addr_arr (q := q10) (a := 0) Tryz.underlying22 (fun w => Tryz.sizeOf9 w) ky ky (by decide)) ?_
  refine zu (.string (txt 0)) (run_load1 (fun w => Tryz.isAgg9 w) ky (((h19.get 1 rfl).cell 0).trans rfl)) ?_
  refine zu (.pointer (some ⟨q13, 1, none⟩)) (run_addr_arr (q := q13) (a := 1) Tryz.underlying22 (fun w => Tryz.sizeOf9 w) ky ky (by decide)) ?_
  refine zu (.string (txt 3)) (run_load1 (fun w => Tryz.isAgg9 w) ky (((h19.get 0 rfl).cell 1).trans rfl)) ?_
  refine wl_callx ky enter15 #[.pointer (some ⟨p1.q, 0, none⟩), iN .i64 4, .string (txt 0), .string (txt 3), .string ({ data := #[] })] ky (Begin_P (hcl6 ((q13, 22, #[.string (txt 2), .string (txt 3)]) :: (q10, 22, #[.string (txt 0), .string (txt 1)]) :: []) _ h19) 4 (txt 0) (txt 3) { data := #[] } (by decide) (tx_l6 _) (tx_l6 _) (tk_lt 4) (by decide) (tx_l6 _) b1 (tk_lt 6) b2 (tk_lt 7) b3 (tk_lt 8) b4 (tk_lt 11) b5) ?_
  rintro _ w22 ⟨qc20, rfl, hD21⟩
  refine ⟨_, rfl, ?_⟩
  obtain ⟨z23, X24, hcl25, hbe26, h27⟩ := PH.front hD21
  have h28 : HA z23 ((qc20, 89, #[.pointer (some ⟨p1.q, 0, none⟩), .string (txt 0), .string (txt (tk 4).length), .string hello0, .string (txt 6), .string (txt 7)]) :: (q13, 22, #[.string (txt 2), .string (txt 3)]) :: (q10, 22, #[.string (txt 0), .string (txt 1)]) :: X24) w22 := h27
  refine zv (.tuple #[.pointer (some ⟨qc20, 0, none⟩), .string hello0, iN .i64 0]) ?_
  refine zv (.pointer (some ⟨qc20, 0, none⟩)) ?_
  refine zv (.string hello0) ?_
  refine zv (iN .i64 0) ?_
  refine zv (.pointer (some ⟨qc20, 0, none⟩)) ?_
  refine zv (.string hello0) ?_
  refine zv (iN .i64 0) ?_
  refine wl_nil (then_at rfl (wp_seq (wp_seq (wl_region ?_))))
  refine zv (iN .i64 0) ?_
  refine zu (.bool false) (run_nei (k := .i64) (a := 0) (b := 0) ky ky false (by decide)) ?_
  refine zv (.bool false) ?_
  refine zv (.pointer (some ⟨qc20, 0, none⟩)) ?_
  refine zv (.bool false) ?_
  refine zv (.bool false) ?_
  refine wl_nil (then_at rfl ?_)
  refine wp_cond_false ky ?_
  refine wp_skip (then_at rfl (wp_seq (wl_region ?_)))
  refine zv (.pointer (some ⟨p1.q, 0, none⟩)) ?_
  refine zu (.pointer (some ⟨q10, 1, none⟩)) (run_addr_arr (q := q10) (a := 1) Tryz.underlying22 (fun w => Tryz.sizeOf9 w) ky ky (by decide)) ?_
  refine zu (.string (txt 1)) (run_load1 (fun w => Tryz.isAgg9 w) ky (((h28.get 2 rfl).cell 1).trans rfl)) ?_
  refine zu (.pointer (some ⟨q13, 0, none⟩)) (run_addr_arr (q := q13) (a := 0) Tryz.underlying22 (fun w => Tryz.sizeOf9 w) ky ky (by decide)) ?_
  refine zu (.string (txt 2)) (run_load1 (fun w => Tryz.isAgg9 w) ky (((h28.get 1 rfl).cell 0).trans rfl)) ?_
  refine wl_mks (n := 5) (m := 5) (c := #[.string ({ data := #[] }), .string ({ data := #[] }), .string ({ data := #[] }), .string ({ data := #[] }), .string (txt 2)]) h28 9 ky ky ?_
  intro q29 w30 (h31 : HA z23 ((q29, 9, #[.string ({ data := #[] }), .string ({ data := #[] }), .string ({ data := #[] }), .string ({ data := #[] }), .string (txt 2)]) :: (qc20, 89, #[.pointer (some ⟨p1.q, 0, none⟩), .string (txt 0), .string (txt (tk 4).length), .string hello0, .string (txt 6), .string (txt 7)]) :: (q13, 22, #[.string (txt 2), .string (txt 3)]) :: (q10, 22, #[.string (txt 0), .string (txt 1)]) :: X24) w30)
  refine zv (.string hello0) ?_
  refine wl_callx ky enter18 #[.pointer (some ⟨p1.q, 0, none⟩), .string (txt 1), .slice (some ⟨q29, 0, none⟩) 5 5, .string hello0, .string ({ data := #[] })] ky (Accept_y (hcl25 ((q29, 9, #[.string ({ data := #[] }), .string ({ data := #[] }), .string ({ data := #[] }), .string ({ data := #[] }), .string (txt 2)]) :: (qc20, 89, #[.pointer (some ⟨p1.q, 0, none⟩), .string (txt 0), .string (txt (tk 4).length), .string hello0, .string (txt 6), .string (txt 7)]) :: (q13, 22, #[.string (txt 2), .string (txt 3)]) :: (q10, 22, #[.string (txt 0), .string (txt 1)]) :: []) _ h31) (txt 1) [{ data := #[] }, { data := #[] }, { data := #[] }, { data := #[] }, txt 2] q29 5 (List.mem_of_getElem? (i := 0) rfl) hello0 { data := #[] } (by rw [h0_size]; decide) r1 (by decide) (by decide) (client := txt 2) rfl (tx_ne 2) (tx_l6 _) (tx_l6 _) (by rw [txt_size]; decide) (by rw [txt_size]; decide) (tk_lt 13) (tx_l6 _) c1_13 (tk_lt 13) c2_13 (tk_lt 13) c3_13 (tk_lt 13) c4_13 (by decide) (by decide) (tx_l6 _) a1_13 (tk_lt 15) a2_13 (tk_lt 16) a3_13 (tk_lt 17) a4_13 (tk_lt 20) a5_13 (tk_lt 24) a6_13) ?_
  rintro _ w33 ⟨rfl, hD32⟩
  refine ⟨_, rfl, ?_⟩
  obtain ⟨z34, X35, hcl36, hbe37, h38⟩ := PH.front hD32
  have h39 : HA z34 ((q29, 9, #[.string ({ data := #[] }), .string ({ data := #[] }), .string ({ data := #[] }), .string ({ data := #[] }), .string (txt 2)]) :: (qc20, 89, #[.pointer (some ⟨p1.q, 0, none⟩), .string (txt 0), .string (txt (tk 4).length), .string hello0, .string (txt 6), .string (txt 7)]) :: (q13, 22, #[.string (txt 2), .string (txt 3)]) :: (q10, 22, #[.string (txt 0), .string (txt 1)]) :: X35) w33 := h38
  refine zv (.tuple #[iN .i64 4, .string reply0, .string (txt 22), .string (txt 21), iN .i64 0]) ?_
  refine zv (iN .i64 4) ?_
  refine zv (.string reply0) ?_
  refine zv (.string (txt 22)) ?_
  refine zv (.string (txt 21)) ?_
  refine zv (iN .i64 0) ?_
  refine zv (iN .i64 4) ?_
  refine zv (.string reply0) ?_
  refine zv (.string (txt 22)) ?_
  refine zv (.string (txt 21)) ?_
  refine zv (iN .i64 0) ?_
  refine wl_nil (then_at rfl (wp_seq (wl_region ?_)))
  refine zv (.pointer (some ⟨qc20, 0, none⟩)) ?_
  refine zv (.string reply0) ?_
  refine wl_callx ky enter21 #[.pointer (some ⟨qc20, 0, none⟩), .string reply0] ky (Finish_y (hcl36 ((q29, 9, #[.string ({ data := #[] }), .string ({ data := #[] }), .string ({ data := #[] }), .string ({ data := #[] }), .string (txt 2)]) :: (qc20, 89, #[.pointer (some ⟨p1.q, 0, none⟩), .string (txt 0), .string (txt (tk 4).length), .string hello0, .string (txt 6), .string (txt 7)]) :: (q13, 22, #[.string (txt 2), .string (txt 3)]) :: (q10, 22, #[.string (txt 0), .string (txt 1)]) :: []) _ h39) reply0 (by rw [y0_size]; decide) (xc := qc20) (sc := txt 0) (fr := txt (tk 4).length) (hl := hello0) (es0 := txt 6) (ss0 := txt 7) (List.mem_of_getElem? (i := 1) rfl) (tx_l6 _) (tx_l6 _) (by rw [h0_size]; decide) (tx_le _) (tx_le _) (tk_lt 25) r2 (by rw [txt_size]; decide) (by rw [txt_size]; decide) (tx_l6 _) f1_25 (tk_lt 25) f2_25 (tk_lt 25) f3_25 (tk_lt 25) f4_25 (tk_lt 25) f5_25 (by decide) (by decide)) ?_
  rintro _ w41 ⟨rfl, hD40⟩
  refine ⟨_, rfl, ?_⟩
  obtain ⟨z42, X43, hcl44, hbe45, h46⟩ := PH.front hD40
  have h47 : HA z42 ((q29, 9, #[.string ({ data := #[] }), .string ({ data := #[] }), .string ({ data := #[] }), .string ({ data := #[] }), .string (txt 2)]) :: (qc20, 89, #[.pointer (some ⟨p1.q, 0, none⟩), .string (txt 0), .string (txt (tk 4).length), .string hello0, .string (txt 6), .string (txt 7)]) :: (q13, 22, #[.string (txt 2), .string (txt 3)]) :: (q10, 22, #[.string (txt 0), .string (txt 1)]) :: X43) w41 := h46
  refine zv (.tuple #[.string (txt 21), .string (txt 22), iN .i64 0]) ?_
  refine zv (.string (txt 21)) ?_
  refine zv (.string (txt 22)) ?_
  refine zv (iN .i64 0) ?_
  refine zv (.string (txt 21)) ?_
  refine zv (.string (txt 22)) ?_
  refine zv (iN .i64 0) ?_
  refine wl_nil (then_at rfl (wp_seq (wl_region ?_)))
  refine zv (iN .i64 0) ?_
  refine zu (.bool true) (run_eqi (k := .i64) (a := 0) (b := 0) ky ky true (by decide)) ?_
  refine zv (.bool true) ?_
  refine zv (iN .i64 0) ?_
  refine zu (.bool true) (run_eqi (k := .i64) (a := 0) (b := 0) ky ky true (by decide)) ?_
  refine zv (.bool true) ?_
  refine zv (.bool true) ?_
  refine zv (iN .i64 4) ?_
  refine zu (.bool true) (run_eqi (k := .i64) (a := 4) (b := 4) ky ky true (by decide)) ?_
  refine zv (.bool true) ?_
  refine zv (.bool true) ?_
  refine zv (.string (txt 22)) ?_
  refine zv (.string (txt 22)) ?_
  refine zu (.bool true) (run_eqs (s := txt 22) (t := txt 22) ky ky true (decide_eq_true rfl)) ?_
  refine zv (.bool true) ?_
  refine zv (.bool true) ?_
  refine zv (.string (txt 21)) ?_
  refine zv (.string (txt 21)) ?_
  refine zu (.bool true) (run_eqs (s := txt 21) (t := txt 21) ky ky true (decide_eq_true rfl)) ?_
  refine zv (.bool true) ?_
  refine zv (.bool true) ?_
  refine zv (.string (txt 22)) ?_
  refine zv (.string (txt 21)) ?_
  refine zu (.bool true) (run_nes (s := txt 22) (t := txt 21) ky ky true (decide_eq_false (by decide))) ?_
  refine zv (.bool true) ?_
  refine zv (.bool true) ?_
  refine zv (.string (txt 22)) ?_
  refine zu (.bool true) (run_nes (s := txt 22) (t := { data := #[] }) ky ky true (decide_eq_false (by decide))) ?_
  refine zv (.bool true) ?_
  refine zv (.bool true) ?_
  refine zv (.string hello0) ?_
  refine zu (iN .i64 hello0.size) (run_len (s := hello0) ky) ?_
  refine zu (.bool true) (run_eqi (k := .i64) (a := hello0.size) (b := 26) ky ky true (decide_eq_true h0_size)) ?_
  refine zv (.bool true) ?_
  refine zv (.bool true) ?_
  refine wl_nil (then_at rfl ?_)
  refine wp_ret ?_
  repeat first | refine then_ret ?_ | refine block_ret ?_
  exact bodyPost_ret (v := .bool true) ky rfl ⟨rfl, hbe45 _ _ h47⟩
end Go.Proofs.YtcjjbpbehapjpaaGreat

namespace Go.Proofs.YtcjjbpbehapjpaaGreat
open Go.RowKit

def hT : List Ent := [.nm 0,
  .nm 1,
  .mk 3 0 { data := #[] } [0] 0,
  .mk 3 0 { data := #[] } [1] 0,
  .nm 2,
  .mk 3 0 { data := #[] } [4] 0,
  .mk 4 0 { data := #[] } [1, 4] 0,
  .mk 4 0 { data := #[] } [0, 1] 0,
  .dt { data := #[0, 0, 0, 8, 240, 84, 82, 77, 0, 0, 0, 6, 0, 0, 0, 8, 240, 84, 82, 77, 0, 0, 0, 7] },
  .dt { data := #[] },
  .mk 5 0 { data := #[115, 104, 97, 107, 101, 32, 104, 101, 108, 108, 111, 0] } [8, 9] 0,
  .dt { data := #[0, 0, 0, 0, 0, 8, 240, 84, 82, 77, 0, 0, 0, 5] },
  .mk 6 0 { data := #[] } [10, 9, 11, 9] 0,
  .nm 3,
  .mk 3 0 { data := #[] } [13] 0,
  .mk 4 0 { data := #[] } [4, 13] 0,
  .mk 4 0 { data := #[] } [0, 13] 0,
  .dt { data := #[0, 0, 0, 0, 0, 8, 240, 84, 82, 77, 0, 0, 0, 5, 0, 0, 0, 8, 240, 84, 82, 77, 0, 0, 0, 12] },
  .dt { data := #[0, 0, 0, 8, 240, 84, 82, 77, 0, 0, 0, 14] },
  .mk 5 0 { data := #[100, 105, 103, 101, 115, 116] } [17, 18] 0,
  .dt { data := #[0, 0, 0, 8, 240, 84, 82, 77, 0, 0, 0, 6, 0, 0, 0, 8, 240, 84, 82, 77, 0, 0, 0, 7, 0, 0, 0, 8, 240, 84, 82, 77, 0, 0, 0, 15, 0, 0, 0, 8, 240, 84, 82, 77, 0, 0, 0, 16] },
  .mk 5 0 { data := #[115, 104, 97, 107, 101, 32, 107, 101, 121, 115, 0] } [20, 19] 0,
  .mk 5 0 { data := #[115, 104, 97, 107, 101, 32, 107, 101, 121, 115, 1] } [20, 19] 0,
  .mk 5 0 { data := #[115, 104, 97, 107, 101, 32, 107, 101, 121, 115, 2] } [20, 19] 0,
  .mk 6 0 { data := #[] } [23, 9, 18, 9] 0,
  .nm 4,
  .mk 3 0 { data := #[] } [25] 0,
  .mk 4 0 { data := #[] } [1, 25] 0,
  .dt { data := #[0, 0, 0, 8, 240, 84, 82, 77, 0, 0, 0, 27, 0, 0, 0, 8, 240, 84, 82, 77, 0, 0, 0, 7] },
  .mk 5 0 { data := #[115, 104, 97, 107, 101, 32, 104, 101, 108, 108, 111, 0] } [28, 9] 0,
  .dt { data := #[0, 0, 0, 0, 0, 8, 240, 84, 82, 77, 0, 0, 0, 26] },
  .mk 6 0 { data := #[] } [29, 9, 30, 9] 0,
  .nm 5,
  .mk 3 0 { data := #[] } [32] 0,
  .mk 4 0 { data := #[] } [25, 32] 0,
  .mk 4 0 { data := #[] } [0, 32] 0,
  .dt { data := #[0, 0, 0, 0, 0, 8, 240, 84, 82, 77, 0, 0, 0, 26, 0, 0, 0, 8, 240, 84, 82, 77, 0, 0, 0, 31] },
  .dt { data := #[0, 0, 0, 8, 240, 84, 82, 77, 0, 0, 0, 33] },
  .mk 5 0 { data := #[100, 105, 103, 101, 115, 116] } [36, 37] 0,
  .dt { data := #[0, 0, 0, 8, 240, 84, 82, 77, 0, 0, 0, 27, 0, 0, 0, 8, 240, 84, 82, 77, 0, 0, 0, 7, 0, 0, 0, 8, 240, 84, 82, 77, 0, 0, 0, 34, 0, 0, 0, 8, 240, 84, 82, 77, 0, 0, 0, 35] },
  .mk 5 0 { data := #[115, 104, 97, 107, 101, 32, 107, 101, 121, 115, 0] } [39, 38] 0,
  .mk 5 0 { data := #[115, 104, 97, 107, 101, 32, 107, 101, 121, 115, 1] } [39, 38] 0,
  .mk 5 0 { data := #[115, 104, 97, 107, 101, 32, 107, 101, 121, 115, 2] } [39, 38] 0,
  .mk 6 0 { data := #[] } [42, 9, 37, 9] 0,
  .nm 6,
  .mk 3 0 { data := #[] } [44] 0,
  .mk 4 0 { data := #[] } [1, 44] 0,
  .dt { data := #[0, 0, 0, 8, 240, 84, 82, 77, 0, 0, 0, 46, 0, 0, 0, 8, 240, 84, 82, 77, 0, 0, 0, 7] },
  .mk 5 0 { data := #[115, 104, 97, 107, 101, 32, 104, 101, 108, 108, 111, 0] } [47, 9] 0,
  .dt { data := #[0, 0, 0, 0, 0, 8, 240, 84, 82, 77, 0, 0, 0, 45] },
  .mk 6 0 { data := #[] } [48, 9, 49, 9] 0,
  .nm 7,
  .mk 3 0 { data := #[] } [51] 0,
  .mk 4 0 { data := #[] } [44, 51] 0,
  .mk 4 0 { data := #[] } [0, 51] 0,
  .dt { data := #[0, 0, 0, 0, 0, 8, 240, 84, 82, 77, 0, 0, 0, 45, 0, 0, 0, 8, 240, 84, 82, 77, 0, 0, 0, 50] },
  .dt { data := #[0, 0, 0, 8, 240, 84, 82, 77, 0, 0, 0, 52] },
  .mk 5 0 { data := #[100, 105, 103, 101, 115, 116] } [55, 56] 0,
  .dt { data := #[0, 0, 0, 8, 240, 84, 82, 77, 0, 0, 0, 46, 0, 0, 0, 8, 240, 84, 82, 77, 0, 0, 0, 7, 0, 0, 0, 8, 240, 84, 82, 77, 0, 0, 0, 53, 0, 0, 0, 8, 240, 84, 82, 77, 0, 0, 0, 54] },
  .mk 5 0 { data := #[115, 104, 97, 107, 101, 32, 107, 101, 121, 115, 0] } [58, 57] 0,
  .mk 5 0 { data := #[115, 104, 97, 107, 101, 32, 107, 101, 121, 115, 1] } [58, 57] 0,
  .mk 5 0 { data := #[115, 104, 97, 107, 101, 32, 107, 101, 121, 115, 2] } [58, 57] 0,
  .mk 6 0 { data := #[] } [61, 9, 56, 9] 0,
  .nm 8,
  .mk 3 0 { data := #[] } [63] 0,
  .mk 4 0 { data := #[] } [1, 63] 0,
  .dt { data := #[0, 0, 0, 8, 240, 84, 82, 77, 0, 0, 0, 65, 0, 0, 0, 8, 240, 84, 82, 77, 0, 0, 0, 7] },
  .mk 5 0 { data := #[115, 104, 97, 107, 101, 32, 104, 101, 108, 108, 111, 0] } [66, 9] 0,
  .dt { data := #[0, 0, 0, 0, 0, 8, 240, 84, 82, 77, 0, 0, 0, 64] },
  .mk 6 0 { data := #[] } [67, 9, 68, 9] 0,
  .nm 9,
  .mk 3 0 { data := #[] } [70] 0,
  .mk 4 0 { data := #[] } [63, 70] 0,
  .mk 4 0 { data := #[] } [0, 70] 0,
  .dt { data := #[0, 0, 0, 0, 0, 8, 240, 84, 82, 77, 0, 0, 0, 64, 0, 0, 0, 8, 240, 84, 82, 77, 0, 0, 0, 69] },
  .dt { data := #[0, 0, 0, 8, 240, 84, 82, 77, 0, 0, 0, 71] },
  .mk 5 0 { data := #[100, 105, 103, 101, 115, 116] } [74, 75] 0,
  .dt { data := #[0, 0, 0, 8, 240, 84, 82, 77, 0, 0, 0, 65, 0, 0, 0, 8, 240, 84, 82, 77, 0, 0, 0, 7, 0, 0, 0, 8, 240, 84, 82, 77, 0, 0, 0, 72, 0, 0, 0, 8, 240, 84, 82, 77, 0, 0, 0, 73] },
  .mk 5 0 { data := #[115, 104, 97, 107, 101, 32, 107, 101, 121, 115, 0] } [77, 76] 0,
  .mk 5 0 { data := #[115, 104, 97, 107, 101, 32, 107, 101, 121, 115, 1] } [77, 76] 0,
  .mk 5 0 { data := #[115, 104, 97, 107, 101, 32, 107, 101, 121, 115, 2] } [77, 76] 0,
  .mk 6 0 { data := #[] } [80, 9, 75, 9] 0]
def oF (k : Nat) : Nat := 6 + 19 * k
def frF (k : Nat) : Nat := if k = 0 then 4 else 6 + 19 * k
def lnF (k : Nat) : Nat := if k = 0 then 4 else 6 + 19 * k
def hk (k : Nat) : List Ent := hT.take (lnF k)
def ht (k : Nat) : List Ent := hT.take k
theorem ht_lt (k : Nat) : (ht k).length < 50000 := Nat.lt_of_le_of_lt (List.length_take_le' _ _) (by decide)
theorem hk_lt (k : Nat) : (hk k).length < 50000 := Nat.lt_of_le_of_lt (List.length_take_le' _ _) (by decide)
def heF (k : Nat) : ByteArray := (adrT 0 ++ layT [txt (frF k + 1)] 1) ++ layT [txt (oF k + 6)] 1
def reF (k : Nat) : ByteArray := layT [txt (oF k + 8)] 1 ++ layT [txt (oF k + 18)] 1
theorem lay1_eq' (s : ByteArray) : (layT [s] 1).size = s.size + 4 := by
  show (((layT [s] 0).data.toList ++ Wi.pt ([s].getD 0 ByteArray.empty).data.toList).toArray).size = _
  rw [List.size_toArray, List.length_append, Wi.pt, List.length_append, Wi.be_length, Array.length_toList, Array.length_toList]
  show 0 + (4 + s.data.size) = s.data.size + 4
  omega
theorem heF_size (k : Nat) : (heF k).size = 26 := by
  unfold heF
  rw [ByteArray.size_append, ByteArray.size_append, adrT_size, lay1_eq', lay1_eq', txt_size, txt_size]
theorem reF_size (k : Nat) : (reF k).size = 24 := by
  unfold reF
  rw [ByteArray.size_append, lay1_eq', lay1_eq', txt_size, txt_size]
theorem hb1_0 : mkA (frA (hk 0)) 3 { data := #[] } [txt (hk 0).length] = (ht 6, 5) := by kernel_rfl
theorem hb2_0 : mkA (ht 6) 4 { data := #[] } [txt (hk 0).length, txt 3] = (ht 7, 6) := by kernel_rfl
theorem hb3_0 : mkA (ht 7) 4 { data := #[] } [txt 0, txt 3] = (ht 8, 7) := by kernel_rfl
theorem hb4_0 : dv (ht 8) (layT [txt 6, txt 7] 2) { data := #[] } hI 1 = (ht 11, [txt 10]) := by kernel_rfl
theorem hb5_0 : mkA (ht 11) 6 { data := #[] } [txt 10, { data := #[] }, adrT 0 ++ layT [txt 5] 1, { data := #[] }] = (ht 13, 12) := by kernel_rfl
theorem hr1_0 : rdHello (heF 0) = some (0, txt 5, txt 12) := by kernel_rfl
theorem hr2_0 : rdTold (bl (reF 0)) = some (txt 14, txt 24) := by kernel_rfl
theorem hc1_0 : mkA (ht 13) 4 { data := #[] } [txt 1, txt 5] = (ht 13, 6) := by kernel_rfl
theorem hc2_0 : mkA (ht 13) 4 { data := #[] } [txt 1, txt 2] = (ht 13, 7) := by kernel_rfl
theorem hc3_0 : dv (ht 13) (layT [txt 6, txt 7] 2) { data := #[] } hI 1 = (ht 13, [txt 10]) := by kernel_rfl
theorem hc4_0 : opnA (ht 13) (txt 10) { data := #[] } (adrT 0 ++ layT [txt 5] 1) (txt 12) = some { data := #[] } := by kernel_rfl
theorem ha1_0 : mkA (frA (ht 13)) 3 { data := #[] } [txt (ht 13).length] = (ht 15, 14) := by kernel_rfl
theorem ha2_0 : mkA (ht 15) 4 { data := #[] } [txt (ht 13).length, txt 5] = (ht 16, 15) := by kernel_rfl
theorem ha3_0 : mkA (ht 16) 4 { data := #[] } [txt (ht 13).length, txt 2] = (ht 17, 16) := by kernel_rfl
theorem ha4_0 : mkA (ht 17) 5 { data := #[100, 105, 103, 101, 115, 116] } [heF 0, layT [txt 14] 1] = (ht 20, 19) := by kernel_rfl
theorem ha5_0 : dv (ht 20) (layT [txt 6, txt 7, txt 15, txt 16] 4) (txt 19) kI 3 = (ht 24, [txt 21, txt 22, txt 23]) := by kernel_rfl
theorem ha6_0 : mkA (ht 24) 6 { data := #[] } [txt 23, { data := #[] }, layT [txt 14] 1, { data := #[] }] = (ht 25, 24) := by kernel_rfl
theorem hf1_0 : mkA (ht 25) 4 { data := #[] } [txt (hk 0).length, txt 14] = (ht 25, 15) := by kernel_rfl
theorem hf2_0 : mkA (ht 25) 4 { data := #[] } [txt 0, txt 14] = (ht 25, 16) := by kernel_rfl
theorem hf3_0 : mkA (ht 25) 5 { data := #[100, 105, 103, 101, 115, 116] } [heF 0, layT [txt 14] 1] = (ht 25, 19) := by kernel_rfl
theorem hf4_0 : dv (ht 25) (layT [txt 6, txt 7, txt 15, txt 16] 4) (txt 19) kI 3 = (ht 25, [txt 21, txt 22, txt 23]) := by kernel_rfl
theorem hf5_0 : opnA (ht 25) (txt 23) { data := #[] } (layT [txt 14] 1) (txt 24) = some { data := #[] } := by kernel_rfl
theorem hb1_1 : mkA (frA (hk 1)) 3 { data := #[] } [txt (hk 1).length] = (ht 27, 26) := by kernel_rfl
theorem hb2_1 : mkA (ht 27) 4 { data := #[] } [txt (hk 1).length, txt 3] = (ht 28, 27) := by kernel_rfl
theorem hb3_1 : mkA (ht 28) 4 { data := #[] } [txt 0, txt 3] = (ht 28, 7) := by kernel_rfl
theorem hb4_1 : dv (ht 28) (layT [txt 27, txt 7] 2) { data := #[] } hI 1 = (ht 30, [txt 29]) := by kernel_rfl
theorem hb5_1 : mkA (ht 30) 6 { data := #[] } [txt 29, { data := #[] }, adrT 0 ++ layT [txt 26] 1, { data := #[] }] = (ht 32, 31) := by kernel_rfl
theorem hr1_1 : rdHello (heF 1) = some (0, txt 26, txt 31) := by kernel_rfl
theorem hr2_1 : rdTold (bl (reF 1)) = some (txt 33, txt 43) := by kernel_rfl
theorem hc1_1 : mkA (ht 32) 4 { data := #[] } [txt 1, txt 26] = (ht 32, 27) := by kernel_rfl
theorem hc2_1 : mkA (ht 32) 4 { data := #[] } [txt 1, txt 2] = (ht 32, 7) := by kernel_rfl
theorem hc3_1 : dv (ht 32) (layT [txt 27, txt 7] 2) { data := #[] } hI 1 = (ht 32, [txt 29]) := by kernel_rfl
theorem hc4_1 : opnA (ht 32) (txt 29) { data := #[] } (adrT 0 ++ layT [txt 26] 1) (txt 31) = some { data := #[] } := by kernel_rfl
theorem ha1_1 : mkA (frA (ht 32)) 3 { data := #[] } [txt (ht 32).length] = (ht 34, 33) := by kernel_rfl
theorem ha2_1 : mkA (ht 34) 4 { data := #[] } [txt (ht 32).length, txt 26] = (ht 35, 34) := by kernel_rfl
theorem ha3_1 : mkA (ht 35) 4 { data := #[] } [txt (ht 32).length, txt 2] = (ht 36, 35) := by kernel_rfl
theorem ha4_1 : mkA (ht 36) 5 { data := #[100, 105, 103, 101, 115, 116] } [heF 1, layT [txt 33] 1] = (ht 39, 38) := by kernel_rfl
theorem ha5_1 : dv (ht 39) (layT [txt 27, txt 7, txt 34, txt 35] 4) (txt 38) kI 3 = (ht 43, [txt 40, txt 41, txt 42]) := by kernel_rfl
theorem ha6_1 : mkA (ht 43) 6 { data := #[] } [txt 42, { data := #[] }, layT [txt 33] 1, { data := #[] }] = (ht 44, 43) := by kernel_rfl
theorem hf1_1 : mkA (ht 44) 4 { data := #[] } [txt (hk 1).length, txt 33] = (ht 44, 34) := by kernel_rfl
theorem hf2_1 : mkA (ht 44) 4 { data := #[] } [txt 0, txt 33] = (ht 44, 35) := by kernel_rfl
theorem hf3_1 : mkA (ht 44) 5 { data := #[100, 105, 103, 101, 115, 116] } [heF 1, layT [txt 33] 1] = (ht 44, 38) := by kernel_rfl
theorem hf4_1 : dv (ht 44) (layT [txt 27, txt 7, txt 34, txt 35] 4) (txt 38) kI 3 = (ht 44, [txt 40, txt 41, txt 42]) := by kernel_rfl
theorem hf5_1 : opnA (ht 44) (txt 42) { data := #[] } (layT [txt 33] 1) (txt 43) = some { data := #[] } := by kernel_rfl
theorem hb1_2 : mkA (frA (hk 2)) 3 { data := #[] } [txt (hk 2).length] = (ht 46, 45) := by kernel_rfl
theorem hb2_2 : mkA (ht 46) 4 { data := #[] } [txt (hk 2).length, txt 3] = (ht 47, 46) := by kernel_rfl
theorem hb3_2 : mkA (ht 47) 4 { data := #[] } [txt 0, txt 3] = (ht 47, 7) := by kernel_rfl
theorem hb4_2 : dv (ht 47) (layT [txt 46, txt 7] 2) { data := #[] } hI 1 = (ht 49, [txt 48]) := by kernel_rfl
theorem hb5_2 : mkA (ht 49) 6 { data := #[] } [txt 48, { data := #[] }, adrT 0 ++ layT [txt 45] 1, { data := #[] }] = (ht 51, 50) := by kernel_rfl
theorem hr1_2 : rdHello (heF 2) = some (0, txt 45, txt 50) := by kernel_rfl
theorem hr2_2 : rdTold (bl (reF 2)) = some (txt 52, txt 62) := by kernel_rfl
theorem hc1_2 : mkA (ht 51) 4 { data := #[] } [txt 1, txt 45] = (ht 51, 46) := by kernel_rfl
theorem hc2_2 : mkA (ht 51) 4 { data := #[] } [txt 1, txt 2] = (ht 51, 7) := by kernel_rfl
theorem hc3_2 : dv (ht 51) (layT [txt 46, txt 7] 2) { data := #[] } hI 1 = (ht 51, [txt 48]) := by kernel_rfl
theorem hc4_2 : opnA (ht 51) (txt 48) { data := #[] } (adrT 0 ++ layT [txt 45] 1) (txt 50) = some { data := #[] } := by kernel_rfl
theorem ha1_2 : mkA (frA (ht 51)) 3 { data := #[] } [txt (ht 51).length] = (ht 53, 52) := by kernel_rfl
theorem ha2_2 : mkA (ht 53) 4 { data := #[] } [txt (ht 51).length, txt 45] = (ht 54, 53) := by kernel_rfl
theorem ha3_2 : mkA (ht 54) 4 { data := #[] } [txt (ht 51).length, txt 2] = (ht 55, 54) := by kernel_rfl
theorem ha4_2 : mkA (ht 55) 5 { data := #[100, 105, 103, 101, 115, 116] } [heF 2, layT [txt 52] 1] = (ht 58, 57) := by kernel_rfl
theorem ha5_2 : dv (ht 58) (layT [txt 46, txt 7, txt 53, txt 54] 4) (txt 57) kI 3 = (ht 62, [txt 59, txt 60, txt 61]) := by kernel_rfl
theorem ha6_2 : mkA (ht 62) 6 { data := #[] } [txt 61, { data := #[] }, layT [txt 52] 1, { data := #[] }] = (ht 63, 62) := by kernel_rfl
theorem hf1_2 : mkA (ht 63) 4 { data := #[] } [txt (hk 2).length, txt 52] = (ht 63, 53) := by kernel_rfl
theorem hf2_2 : mkA (ht 63) 4 { data := #[] } [txt 0, txt 52] = (ht 63, 54) := by kernel_rfl
theorem hf3_2 : mkA (ht 63) 5 { data := #[100, 105, 103, 101, 115, 116] } [heF 2, layT [txt 52] 1] = (ht 63, 57) := by kernel_rfl
theorem hf4_2 : dv (ht 63) (layT [txt 46, txt 7, txt 53, txt 54] 4) (txt 57) kI 3 = (ht 63, [txt 59, txt 60, txt 61]) := by kernel_rfl
theorem hf5_2 : opnA (ht 63) (txt 61) { data := #[] } (layT [txt 52] 1) (txt 62) = some { data := #[] } := by kernel_rfl
theorem hb1_3 : mkA (frA (hk 3)) 3 { data := #[] } [txt (hk 3).length] = (ht 65, 64) := by kernel_rfl
theorem hb2_3 : mkA (ht 65) 4 { data := #[] } [txt (hk 3).length, txt 3] = (ht 66, 65) := by kernel_rfl
theorem hb3_3 : mkA (ht 66) 4 { data := #[] } [txt 0, txt 3] = (ht 66, 7) := by kernel_rfl
theorem hb4_3 : dv (ht 66) (layT [txt 65, txt 7] 2) { data := #[] } hI 1 = (ht 68, [txt 67]) := by kernel_rfl
theorem hb5_3 : mkA (ht 68) 6 { data := #[] } [txt 67, { data := #[] }, adrT 0 ++ layT [txt 64] 1, { data := #[] }] = (ht 70, 69) := by kernel_rfl
theorem hr1_3 : rdHello (heF 3) = some (0, txt 64, txt 69) := by kernel_rfl
theorem hr2_3 : rdTold (bl (reF 3)) = some (txt 71, txt 81) := by kernel_rfl
theorem hc1_3 : mkA (ht 70) 4 { data := #[] } [txt 1, txt 64] = (ht 70, 65) := by kernel_rfl
theorem hc2_3 : mkA (ht 70) 4 { data := #[] } [txt 1, txt 2] = (ht 70, 7) := by kernel_rfl
theorem hc3_3 : dv (ht 70) (layT [txt 65, txt 7] 2) { data := #[] } hI 1 = (ht 70, [txt 67]) := by kernel_rfl
theorem hc4_3 : opnA (ht 70) (txt 67) { data := #[] } (adrT 0 ++ layT [txt 64] 1) (txt 69) = some { data := #[] } := by kernel_rfl
theorem ha1_3 : mkA (frA (ht 70)) 3 { data := #[] } [txt (ht 70).length] = (ht 72, 71) := by kernel_rfl
theorem ha2_3 : mkA (ht 72) 4 { data := #[] } [txt (ht 70).length, txt 64] = (ht 73, 72) := by kernel_rfl
theorem ha3_3 : mkA (ht 73) 4 { data := #[] } [txt (ht 70).length, txt 2] = (ht 74, 73) := by kernel_rfl
theorem ha4_3 : mkA (ht 74) 5 { data := #[100, 105, 103, 101, 115, 116] } [heF 3, layT [txt 71] 1] = (ht 77, 76) := by kernel_rfl
theorem ha5_3 : dv (ht 77) (layT [txt 65, txt 7, txt 72, txt 73] 4) (txt 76) kI 3 = (ht 81, [txt 78, txt 79, txt 80]) := by kernel_rfl
theorem ha6_3 : mkA (ht 81) 6 { data := #[] } [txt 80, { data := #[] }, layT [txt 71] 1, { data := #[] }] = (ht 82, 81) := by kernel_rfl
theorem hf1_3 : mkA (ht 82) 4 { data := #[] } [txt (hk 3).length, txt 71] = (ht 82, 72) := by kernel_rfl
theorem hf2_3 : mkA (ht 82) 4 { data := #[] } [txt 0, txt 71] = (ht 82, 73) := by kernel_rfl
theorem hf3_3 : mkA (ht 82) 5 { data := #[100, 105, 103, 101, 115, 116] } [heF 3, layT [txt 71] 1] = (ht 82, 76) := by kernel_rfl
theorem hf4_3 : dv (ht 82) (layT [txt 65, txt 7, txt 72, txt 73] 4) (txt 76) kI 3 = (ht 82, [txt 78, txt 79, txt 80]) := by kernel_rfl
theorem hf5_3 : opnA (ht 82) (txt 80) { data := #[] } (layT [txt 71] 1) (txt 81) = some { data := #[] } := by kernel_rfl
theorem Begin_H {w0 w : World} {M : ML} {p : Pr} {n : Nat} {L : BL} {k : Nat} (hk4 : k < 4) (H : PH w0 M p (hk k) n L w) (hn : n < 1000) :
    Calls Tryz.prog 15 #[pt p.q, iN .i64 0, .string (txt 0), .string (txt 3), .string { data := #[] }] w fun e w' => ∃ q, e = .returned (.tuple #[pt q, .string (heF k), iN .i64 0]) ∧ PH w0 M p (ht (oF k + 7)) (n + 1) ((q, 89, #[pt p.q, .string (txt 0), .string (txt (hk k).length), .string (heF k), .string (txt (frF k + 2)), .string (txt 7)]) :: L) w' := by
  match k, hk4, H with
  | 0, _, H => exact Begin_P H 0 (txt 0) (txt 3) { data := #[] } (by decide) (tx_l6 _) (tx_l6 _) (hk_lt 0) (by omega) (tx_l6 _) hb1_0 (ht_lt 6) hb2_0 (ht_lt 7) hb3_0 (ht_lt 8) hb4_0 (ht_lt 11) hb5_0
  | 1, _, H => exact Begin_P H 0 (txt 0) (txt 3) { data := #[] } (by decide) (tx_l6 _) (tx_l6 _) (hk_lt 1) (by omega) (tx_l6 _) hb1_1 (ht_lt 27) hb2_1 (ht_lt 28) hb3_1 (ht_lt 28) hb4_1 (ht_lt 30) hb5_1
  | 2, _, H => exact Begin_P H 0 (txt 0) (txt 3) { data := #[] } (by decide) (tx_l6 _) (tx_l6 _) (hk_lt 2) (by omega) (tx_l6 _) hb1_2 (ht_lt 46) hb2_2 (ht_lt 47) hb3_2 (ht_lt 47) hb4_2 (ht_lt 49) hb5_2
  | 3, _, H => exact Begin_P H 0 (txt 0) (txt 3) { data := #[] } (by decide) (tx_l6 _) (tx_l6 _) (hk_lt 3) (by omega) (tx_l6 _) hb1_3 (ht_lt 65) hb2_3 (ht_lt 66) hb3_3 (ht_lt 66) hb4_3 (ht_lt 68) hb5_3
theorem Accept_H {w0 w : World} {M : ML} {p : Pr} {n : Nat} {L : BL} {k : Nat} (hk4 : k < 4) (H : PH w0 M p (ht (oF k + 7)) n L w) (hn : n < 1000) (pb cc : Nat) (hpb : (pb, 9, strc [txt 2]) ∈ L) :
    Calls Tryz.prog 18 #[pt p.q, .string (txt 1), .slice (some ⟨pb, 0, none⟩) 1 cc, .string (heF k), .string { data := #[] }] w fun e w' => e = .returned (.tuple #[iN .i64 0, .string (reF k), .string (txt (oF k + 16)), .string (txt (oF k + 15)), iN .i64 0]) ∧ PH w0 M p (hk (k + 1)) (n + 1 + 1) L w' := by
  match k, hk4, H with
  | 0, _, H => exact Accept_y H (txt 1) [txt 2] pb cc hpb (heF 0) { data := #[] } (by rw [heF_size]; decide) hr1_0 (by decide) (by decide) (client := txt 2) rfl (tx_ne 2) (tx_l6 _) (tx_l6 _) (by rw [txt_size]; decide) (by rw [txt_size]; decide) (ht_lt 13) (tx_l6 _) hc1_0 (ht_lt 13) hc2_0 (ht_lt 13) hc3_0 (ht_lt 13) hc4_0 (by decide) (by omega) (tx_l6 _) ha1_0 (ht_lt 15) ha2_0 (ht_lt 16) ha3_0 (ht_lt 17) ha4_0 (ht_lt 20) ha5_0 (ht_lt 24) ha6_0
  | 1, _, H => exact Accept_y H (txt 1) [txt 2] pb cc hpb (heF 1) { data := #[] } (by rw [heF_size]; decide) hr1_1 (by decide) (by decide) (client := txt 2) rfl (tx_ne 2) (tx_l6 _) (tx_l6 _) (by rw [txt_size]; decide) (by rw [txt_size]; decide) (ht_lt 32) (tx_l6 _) hc1_1 (ht_lt 32) hc2_1 (ht_lt 32) hc3_1 (ht_lt 32) hc4_1 (by decide) (by omega) (tx_l6 _) ha1_1 (ht_lt 34) ha2_1 (ht_lt 35) ha3_1 (ht_lt 36) ha4_1 (ht_lt 39) ha5_1 (ht_lt 43) ha6_1
  | 2, _, H => exact Accept_y H (txt 1) [txt 2] pb cc hpb (heF 2) { data := #[] } (by rw [heF_size]; decide) hr1_2 (by decide) (by decide) (client := txt 2) rfl (tx_ne 2) (tx_l6 _) (tx_l6 _) (by rw [txt_size]; decide) (by rw [txt_size]; decide) (ht_lt 51) (tx_l6 _) hc1_2 (ht_lt 51) hc2_2 (ht_lt 51) hc3_2 (ht_lt 51) hc4_2 (by decide) (by omega) (tx_l6 _) ha1_2 (ht_lt 53) ha2_2 (ht_lt 54) ha3_2 (ht_lt 55) ha4_2 (ht_lt 58) ha5_2 (ht_lt 62) ha6_2
  | 3, _, H => exact Accept_y H (txt 1) [txt 2] pb cc hpb (heF 3) { data := #[] } (by rw [heF_size]; decide) hr1_3 (by decide) (by decide) (client := txt 2) rfl (tx_ne 2) (tx_l6 _) (tx_l6 _) (by rw [txt_size]; decide) (by rw [txt_size]; decide) (ht_lt 70) (tx_l6 _) hc1_3 (ht_lt 70) hc2_3 (ht_lt 70) hc3_3 (ht_lt 70) hc4_3 (by decide) (by omega) (tx_l6 _) ha1_3 (ht_lt 72) ha2_3 (ht_lt 73) ha3_3 (ht_lt 74) ha4_3 (ht_lt 77) ha5_3 (ht_lt 81) ha6_3
theorem Finish_H {w0 w : World} {M : ML} {p : Pr} {n : Nat} {L : BL} {k q : Nat} (hk4 : k < 4) (H : PH w0 M p (hk (k + 1)) n L w) (hn : n < 1000) (hxc : (q, 89, #[pt p.q, .string (txt 0), .string (txt (hk k).length), .string (heF k), .string (txt (frF k + 2)), .string (txt 7)]) ∈ L) :
    Calls Tryz.prog 21 #[pt q, .string (reF k)] w fun e w' => e = .returned (.tuple #[.string (txt (oF k + 15)), .string (txt (oF k + 16)), iN .i64 0]) ∧ PH w0 M p (hk (k + 1)) (n + 1) L w' := by
  match k, hk4, H, hxc with
  | 0, _, H, hxc => exact Finish_y H (reF 0) (by rw [reF_size]; decide) hxc (tx_l6 _) (tx_l6 _) (by rw [heF_size]; decide) (tx_le _) (tx_le _) (ht_lt 25) hr2_0 (by rw [txt_size]; decide) (by rw [txt_size]; decide) (tx_l6 _) hf1_0 (ht_lt 25) hf2_0 (ht_lt 25) hf3_0 (ht_lt 25) hf4_0 (ht_lt 25) hf5_0 (by decide) (by omega)
  | 1, _, H, hxc => exact Finish_y H (reF 1) (by rw [reF_size]; decide) hxc (tx_l6 _) (tx_l6 _) (by rw [heF_size]; decide) (tx_le _) (tx_le _) (ht_lt 44) hr2_1 (by rw [txt_size]; decide) (by rw [txt_size]; decide) (tx_l6 _) hf1_1 (ht_lt 44) hf2_1 (ht_lt 44) hf3_1 (ht_lt 44) hf4_1 (ht_lt 44) hf5_1 (by decide) (by omega)
  | 2, _, H, hxc => exact Finish_y H (reF 2) (by rw [reF_size]; decide) hxc (tx_l6 _) (tx_l6 _) (by rw [heF_size]; decide) (tx_le _) (tx_le _) (ht_lt 63) hr2_2 (by rw [txt_size]; decide) (by rw [txt_size]; decide) (tx_l6 _) hf1_2 (ht_lt 63) hf2_2 (ht_lt 63) hf3_2 (ht_lt 63) hf4_2 (ht_lt 63) hf5_2 (by decide) (by omega)
  | 3, _, H, hxc => exact Finish_y H (reF 3) (by rw [reF_size]; decide) hxc (tx_l6 _) (tx_l6 _) (by rw [heF_size]; decide) (tx_le _) (tx_le _) (ht_lt 82) hr2_3 (by rw [txt_size]; decide) (by rw [txt_size]; decide) (tx_l6 _) hf1_3 (ht_lt 82) hf2_3 (ht_lt 82) hf3_3 (ht_lt 82) hf4_3 (ht_lt 82) hf5_3 (by decide) (by omega)
end Go.Proofs.YtcjjbpbehapjpaaGreat
