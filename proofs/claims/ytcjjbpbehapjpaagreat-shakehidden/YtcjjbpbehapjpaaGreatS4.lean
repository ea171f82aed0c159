/-
  What a hello, a reply tells.
-/
import Derived.Test.YtcjjbpbehapjpaaGreatS3
set_option linter.unusedVariables false
namespace Go.Proofs.YtcjjbpbehapjpaaGreat
open Go.RowKit

namespace Rs
theorem Text_E {z : Base} {L : BL} {w : World} {b d : Nat} {cur : List UInt8} {v : Value} {bs : List UInt8} (hS : RdS d cur v bs) (H : HA z ((b, 200, #[.bool true, v]) :: (d, 5, bc cur) :: L) w) {m : Nat} (hmm : m ≤ 9223372036854775807) {x : ByteArray} {o : Bool} {r : List UInt8} (h : nxt m bs = (x, o, r)) :
    Calls Tryz.prog 120 #[pt b, iN .i64 m] w fun e w' => e = .returned (.tuple #[.string x, .bool o]) ∧ ∃ v', RdS d cur v' r ∧ HA z ((b, 200, #[.bool true, v']) :: (d, 5, bc cur) :: L) w' := by
  have h2 := Text_any hS H m hmm
  rw [h] at h2
  exact h2
theorem Number_E {z : Base} {L : BL} {w : World} {b d : Nat} {cur : List UInt8} {v : Value} {bs : List UInt8} (hS : RdS d cur v bs) (H : HA z ((b, 200, #[.bool true, v]) :: (d, 5, bc cur) :: L) w) {m : Nat} (h1 : 1 ≤ m) (h8 : m ≤ 8) {x : Nat} {o : Bool} {r : List UInt8} (h : nxn m bs = (x, o, r)) :
    Calls Tryz.prog 105 #[pt b, iN .i64 m] w fun e w' => e = .returned (.tuple #[iN .u64 x, .bool o]) ∧ ∃ v', RdS d cur v' r ∧ HA z ((b, 200, #[.bool true, v']) :: (d, 5, bc cur) :: L) w' := by
  have h2 := Number_any hS H m h1 h8
  rw [h] at h2
  exact h2
theorem nxt_le {m : Nat} {bs r : List UInt8} {x : ByteArray} {o : Bool} (h : nxt m bs = (x, o, r)) : x.size ≤ m := by
  unfold nxt at h
  split at h
  · next hc =>
    obtain ⟨rfl, _⟩ := Prod.mk.inj h
    rw [txt_size hc.2.2]
    exact hc.2.1
  · obtain ⟨rfl, _⟩ := Prod.mk.inj h
    exact Nat.zero_le _
theorem nxn_lt {bs r : List UInt8} {x : Nat} {o : Bool} (h : nxn 2 bs = (x, o, r)) : x < 65536 := by
  unfold nxn at h
  split at h
  · obtain ⟨rfl, _⟩ := Prod.mk.inj h
    have h1 := Wi.val_lt (bs.take 2)
    have h2 : (bs.take 2).length ≤ 2 := List.length_take_le _ _
    have h3 : 256 ^ (bs.take 2).length ≤ 256 ^ 2 := Nat.pow_le_pow_right (by decide) h2
    omega
  · obtain ⟨rfl, _⟩ := Prod.mk.inj h
    decide
end Rs
open Rs
/-- what stands behind an address: a public key, a proof, and nothing else -/
def rdTold (bs : List UInt8) : Option (ByteArray × ByteArray) :=
  if (nxt 16384 bs).2.1 = true ∧ (nxt 16384 (nxt 16384 bs).2.2).2.1 = true ∧ (nxt 16384 (nxt 16384 bs).2.2).2.2.length = 0 then some ((nxt 16384 bs).1, (nxt 16384 (nxt 16384 bs).2.2).1) else none
def rdHello (s : ByteArray) : Option (Nat × ByteArray × ByteArray) :=
  if (nxn 2 (bl s)).2.1 = true then (rdTold (nxn 2 (bl s)).2.2).map (fun q => ((nxn 2 (bl s)).1, q)) else none
set_option maxRecDepth 100000 in
set_option maxHeartbeats 2000000 in
theorem rt_y {z : Base} {L : BL} {w : World} {b d : Nat} {cur : List UInt8} {v : Value} {bs : List UInt8} (hS : Rs.RdS d cur v bs) (H0 : HA z ((b, 200, #[.bool true, v]) :: (d, 5, bc cur) :: L) w) (ahead : ByteArray) (hah : ahead.size ≤ 60000) {x1 x2 : ByteArray} {r1 : List UInt8} (h1 : Rs.nxt 16384 bs = (x1, true, r1)) (h2 : Rs.nxt 16384 r1 = (x2, true, [])) :
    Calls Tryz.prog 63 #[.string ahead, pt b] w fun e w' => e = .returned (.tuple #[.agg #[.string (ahead ++ layT [x1] 1), .string x1, .string x2], .bool true]) ∧ HA z L w' := by
  go_enter Tryz.func63, Tryz.ntmps63
  refine wp_seq (wl_region ?_)
  refine wl_make (c := #[.string ({ data := #[] }), .string ({ data := #[] }), .string ({ data := #[] })]) H0 120 ky ky ?_
  intro q1 w2 (h3 : HA z ((q1, 120, #[.string ({ data := #[] }), .string ({ data := #[] }), .string ({ data := #[] })]) :: (b, 200, #[.bool true, v]) :: (d, 5, bc cur) :: L) w2)
  refine zv (.bool false) ?_
  refine wl_nil (then_at rfl (wp_seq (wl_region ?_)))
  refine zv (.pointer (some ⟨b, 0, none⟩)) ?_
  refine wl_callx ky enter120 #[.pointer (some ⟨b, 0, none⟩), iN .i64 16384] ky (Rs.Text_E hS (HA.perm h3 (List.Perm.trans (List.Perm.swap _ _ _) (List.Perm.cons _ (List.Perm.swap _ _ _)))) (by decide) h1) ?_
  rintro _ w7 ⟨rfl, v4, hS6, h5⟩
  refine ⟨_, rfl, ?_⟩
  have h8 : HA z ((b, 200, #[.bool true, v4]) :: (d, 5, bc cur) :: (q1, 120, #[.string ({ data := #[] }), .string ({ data := #[] }), .string ({ data := #[] })]) :: L) w7 := h5
  refine zv (.tuple #[.string x1, .bool true]) ?_
  refine zv (.string x1) ?_
  refine zv (.bool true) ?_
  refine zv (.string x1) ?_
  refine zv (.bool true) ?_
  refine wl_nil (then_at rfl (wp_seq (wl_region ?_)))
  refine zv (.pointer (some ⟨b, 0, none⟩)) ?_
  refine wl_callx ky enter120 #[.pointer (some ⟨b, 0, none⟩), iN .i64 16384] ky (Rs.Text_E hS6 h8 (by decide) h2) ?_
  rintro _ w12 ⟨rfl, v9, hS11, h10⟩
  refine ⟨_, rfl, ?_⟩
  have h13 : HA z ((b, 200, #[.bool true, v9]) :: (d, 5, bc cur) :: (q1, 120, #[.string ({ data := #[] }), .string ({ data := #[] }), .string ({ data := #[] })]) :: L) w12 := h10
  refine zv (.tuple #[.string x2, .bool true]) ?_
  refine zv (.string x2) ?_
  refine zv (.bool true) ?_
  refine zv (.string x2) ?_
  refine zv (.bool true) ?_
  refine wl_nil (then_at rfl (wp_seq (wp_seq (wl_region ?_))))
  refine zv (.bool true) ?_
  refine zv (.bool false) ?_
  refine zv (.bool false) ?_
  refine zv (.bool true) ?_
  refine zv (.bool false) ?_
  refine zv (.bool false) ?_
  refine zv (.bool false) ?_
  refine zv (.pointer (some ⟨b, 0, none⟩)) ?_
  refine wl_call (v := iN .i64 0) h13 ky enter121 #[.pointer (some ⟨b, 0, none⟩)] ky (Rs.Left_h hS11 h13) ?_
  intro w14 h15
  refine zu (.bool false) (run_nei (k := .i64) (a := 0) (b := 0) ky ky false (by decide)) ?_
  refine zv (.bool false) ?_
  refine wl_nil (then_at rfl ?_)
  refine wp_cond_false ky ?_
  refine wp_skip (then_at rfl (wp_seq (wl_region ?_)))
  refine zv (.string ahead) ?_
  refine zv (.string x1) ?_
  refine wl_mks (n := 1) (m := 1) (c := #[.string x1]) h15 9 ky ky ?_
  intro q16 w17 (h18 : HA z ((q16, 9, #[.string x1]) :: (b, 200, #[.bool true, v9]) :: (d, 5, bc cur) :: (q1, 120, #[.string ({ data := #[] }), .string ({ data := #[] }), .string ({ data := #[] })]) :: L) w17)
  refine wl_call (v := .string (layT [x1] 1)) h18 ky enter44 #[.slice (some ⟨q16, 0, none⟩) 1 1] ky (laid_any [x1] _ _ (.inr ⟨q16, _, rfl, PreS.strc [x1], h18.get 0 rfl⟩) (m := 16384) (by decide) (ss1 (Rs.nxt_le h1)) (by simp)) ?_
  intro w19 h20
  refine zu (.string (ahead ++ layT [x1] 1)) (run_cat (s := ahead) (t := layT [x1] 1) ky ky (by have := lay1_le (Rs.nxt_le h1); omega)) ?_
  refine zv (.string x1) ?_
  refine zv (.string x2) ?_
  refine zv (.agg #[.string (ahead ++ layT [x1] 1), .string x1, .string x2]) ?_
  refine wl_fill (c' := #[.string (ahead ++ layT [x1] 1), .string x1, .string x2]) h20 3 rfl ky ky ky rfl ky ky ?_
  intro w21 (h22 : HA z ((q16, 9, #[.string x1]) :: (b, 200, #[.bool true, v9]) :: (d, 5, bc cur) :: (q1, 120, #[.string (ahead ++ layT [x1] 1), .string x1, .string x2]) :: L) w21)
  refine zv (.bool true) ?_
  refine wl_nil (then_at rfl ?_)
  refine wp_ret ?_
  repeat first | refine then_ret ?_ | refine block_ret ?_
  exact bodyPost_ret (v := .tuple #[.agg #[.string (ahead ++ layT [x1] 1), .string x1, .string x2], .bool true]) (res_cell_tmp (p := 4) (r := 5) ky ky ky (h22.get 3 rfl) Tryz.underlying120 rfl ky) rfl ⟨rfl, HA.sub h22 (List.Sublist.cons _ (List.Sublist.cons _ (List.Sublist.cons _ (List.Sublist.cons _ (List.Sublist.refl _)))))⟩
theorem rt_yes {z : Base} {L : BL} {w : World} {b d : Nat} {cur : List UInt8} {v : Value} {bs : List UInt8} (hS : Rs.RdS d cur v bs) (H0 : HA z ((b, 200, #[.bool true, v]) :: (d, 5, bc cur) :: L) w) (ahead : ByteArray) (hah : ahead.size ≤ 60000) {pu pf : ByteArray} (h : rdTold bs = some (pu, pf)) :
    Calls Tryz.prog 63 #[.string ahead, pt b] w fun e w' => e = .returned (.tuple #[.agg #[.string (ahead ++ layT [pu] 1), .string pu, .string pf], .bool true]) ∧ HA z L w' := by
  unfold rdTold at h
  obtain ⟨x1, o1, r1, h1⟩ : ∃ x o r, nxt 16384 bs = (x, o, r) := ⟨_, _, _, rfl⟩
  obtain ⟨x2, o2, r2, h2⟩ : ∃ x o r, nxt 16384 r1 = (x, o, r) := ⟨_, _, _, rfl⟩
  simp only [h1, h2] at h
  split at h
  · next hc =>
    obtain ⟨rfl, rfl⟩ := Prod.mk.inj (Option.some.inj h)
    obtain ⟨c1, c2, c3⟩ := hc
    have c4 := List.length_eq_zero_iff.1 c3
    rw [c1] at h1
    rw [c2, c4] at h2
    exact rt_y hS H0 ahead hah h1 h2
  · cases h
theorem res_tct {w : World} {P : Program} {fn : Func} {p a b : Tmp} {t ty : TypeId} {ts : Array Value} {q : Nat} {c : Array Value} {D : TypeDesc} {u v : Value} (hf : fn.results = #[.tmp a, .cell p ty, .tmp b]) (ht : ts.getD p undef = .pointer (some ⟨q, 0, none⟩)) (hu' : ts.getD a undef = u) (hv : ts.getD b undef = v) (h : Blk w q t c) (hu : P.underlying ty = some D) (hd : D.isRow = true) (hi : (P.info? ty).map (·.size) = some c.size) :
    (results fn ts).run P w = .ok (.tuple #[u, .agg c, v]) w := by
  have := run_loadVar_mid (P := P) w q 0 ty c.toList D h.range hu hd (by simpa using hi)
  have ht2 : ts[p]?.getD undef = .pointer (some ⟨q, 0, none⟩) := by simpa using ht
  have hv2 : ts[b]?.getD undef = v := by simpa using hv
  have hu2 : ts[a]?.getD undef = u := by simpa using hu'
  simp [results, hf, Result.andThen_ok, asAddr, ht2, hv2, hu2, this]
set_option maxRecDepth 100000 in
set_option maxHeartbeats 2000000 in
theorem rh_y {w : World} (s : ByteArray) (hs : s.size ≤ 1000000) {fr : Nat} {r0 : List UInt8} {pu pf : ByteArray} (h0 : Rs.nxn 2 (bl s) = (fr, true, r0)) (hfr : fr < 65536) (h1 : rdTold r0 = some (pu, pf)) :
    Calls Tryz.prog 54 #[.string s] w fun e w' => e = .returned (.tuple #[iN .i64 fr, .agg #[.string (adrT fr ++ layT [pu] 1), .string pu, .string pf], .bool true]) ∧ Below w.heap.size w w' := by
  have H0 := HA.start w
  go_enter Tryz.func54, Tryz.ntmps54
  refine wp_seq (wl_region ?_)
  refine zv (iN .i64 0) ?_
  refine wl_make (c := #[.string ({ data := #[] }), .string ({ data := #[] }), .string ({ data := #[] })]) H0 120 ky ky ?_
  intro q1 w2 (h3 : HA (bs w) [(q1, 120, #[.string ({ data := #[] }), .string ({ data := #[] }), .string ({ data := #[] })])] w2)
  refine zv (.bool false) ?_
  refine wl_nil (then_at rfl (wp_seq (wl_region ?_)))
  refine zv (.string s) ?_
  refine wl_callx ky enter64 #[.string s] ky (Rs.New_h h3 s (by omega)) ?_
  rintro _ w10 ⟨b4, d5, cur6, v7, rfl, hS8, h9⟩
  refine ⟨_, rfl, ?_⟩
  have h11 : HA (bs w) [(b4, 200, #[.bool true, v7]), (d5, 5, bc cur6), (q1, 120, #[.string ({ data := #[] }), .string ({ data := #[] }), .string ({ data := #[] })])] w10 := h9
  refine zv (.pointer (some ⟨b4, 0, none⟩)) ?_
  refine wl_nil (then_at rfl (wp_seq (wl_region ?_)))
  refine zv (.pointer (some ⟨b4, 0, none⟩)) ?_
  refine wl_callx ky enter105 #[.pointer (some ⟨b4, 0, none⟩), iN .i64 2] ky (Rs.Number_E hS8 h11 (by decide) (by decide) h0) ?_
  rintro _ w15 ⟨rfl, v12, hS14, h13⟩
  refine ⟨_, rfl, ?_⟩
  have h16 : HA (bs w) [(b4, 200, #[.bool true, v12]), (d5, 5, bc cur6), (q1, 120, #[.string ({ data := #[] }), .string ({ data := #[] }), .string ({ data := #[] })])] w15 := h13
  refine zv (.tuple #[iN .u64 fr, .bool true]) ?_
  refine zv (iN .u64 fr) ?_
  refine zv (.bool true) ?_
  refine zv (iN .u64 fr) ?_
  refine zv (.bool true) ?_
  refine wl_nil (then_at rfl (wp_seq (wp_seq (wl_region ?_))))
  refine zv (.bool true) ?_
  refine zv (.bool false) ?_
  refine wl_nil (then_at rfl ?_)
  refine wp_cond_false ky ?_
  refine wp_skip (then_at rfl (wp_seq (wl_region ?_)))
  refine zv (iN .u64 fr) ?_
  refine zu (iN .i64 fr) (run_conv .i64 Tryz.underlying117 Tryz.underlying3 ky (by first | omega | (simp only [top]; omega))) ?_
  refine wl_call (v := .string (adrT fr)) h16 ky enter43 #[iN .i64 fr] ky (adr_any fr (by omega)) ?_
  intro w17 h18
  refine zv (.pointer (some ⟨b4, 0, none⟩)) ?_
  refine wl_callx ky enter63 #[.string (adrT fr), .pointer (some ⟨b4, 0, none⟩)] ky (rt_yes hS14 h18 (adrT fr) (by rw [adrT_size]; decide) h1) ?_
  rintro _ w20 ⟨rfl, h19⟩
  refine ⟨_, rfl, ?_⟩
  have h21 : HA (bs w) [(q1, 120, #[.string ({ data := #[] }), .string ({ data := #[] }), .string ({ data := #[] })])] w20 := h19
  refine zv (.tuple #[.agg #[.string ((adrT fr ++ layT [pu] 1)), .string pu, .string pf], .bool true]) ?_
  refine zv (.agg #[.string ((adrT fr ++ layT [pu] 1)), .string pu, .string pf]) ?_
  refine zv (.bool true) ?_
  refine wl_make (c := #[.string ({ data := #[] }), .string ({ data := #[] }), .string ({ data := #[] })]) h21 120 ky ky ?_
  intro q22 w23 (h24 : HA (bs w) [(q22, 120, #[.string ({ data := #[] }), .string ({ data := #[] }), .string ({ data := #[] })]), (q1, 120, #[.string ({ data := #[] }), .string ({ data := #[] }), .string ({ data := #[] })])] w23)
  refine wl_fill (c' := #[.string ((adrT fr ++ layT [pu] 1)), .string pu, .string pf]) h24 0 rfl ky ky ky rfl ky ky ?_
  intro w25 (h26 : HA (bs w) [(q22, 120, #[.string ((adrT fr ++ layT [pu] 1)), .string pu, .string pf]), (q1, 120, #[.string ({ data := #[] }), .string ({ data := #[] }), .string ({ data := #[] })])] w25)
  refine zv (.bool true) ?_
  refine wl_nil (then_at rfl (wp_seq ?_))
  refine wp_region_wx (HA (bs w) [(q22, 120, #[.string ((adrT fr ++ layT [pu] 1)), .string pu, .string pf]), (q1, 120, #[.string ({ data := #[] }), .string ({ data := #[] }), .string ({ data := #[] })])]) (fun AQ w' => AQ = ⟨(.string s :: un :: iN .i64 fr :: pt q1 :: .bool true :: pt b4 :: iN .u64 fr :: .bool true :: pt q22 :: .string s :: pt b4 :: .tuple #[iN .u64 fr, .bool true] :: pt b4 :: .tuple #[iN .u64 fr, .bool true] :: iN .u64 fr :: .bool true :: .bool true :: .bool false :: un :: .tuple #[.agg #[.string ((adrT fr ++ layT [pu] 1)), .string pu, .string pf], .bool true] :: iN .u64 fr :: iN .i64 fr :: .string (adrT fr) :: pt b4 :: .tuple #[.agg #[.string ((adrT fr ++ layT [pu] 1)), .string pu, .string pf], .bool true] :: .agg #[.string ((adrT fr ++ layT [pu] 1)), .string pu, .string pf] :: .bool true :: iN .u64 fr :: iN .i64 fr :: .agg (#[.string ((adrT fr ++ layT [pu] 1)), .string pu, .string pf]) :: .bool true :: List.replicate 0 un).toArray, []⟩ ∧ HA (bs w) [(q22, 120, #[.string ((adrT fr ++ layT [pu] 1)), .string pu, .string pf]), (q1, 120, #[.string ((adrT fr ++ layT [pu] 1)), .string pu, .string pf])] w') 7 ky ky ky ky ky (h26.drew) ?_ ?_
  · have h27 := h26.drew
    refine zp 0 (iN .u64 fr) ?_
    refine wx_pure (i := 1) (iN .i64 fr) rfl rfl ky ky (fun _ => (run_conv .i64 Tryz.underlying117 Tryz.underlying3 ky (by first | omega | (simp only [top]; omega)))) ?_
    refine wx_val (i := 2) (.agg (#[.string ((adrT fr ++ layT [pu] 1)), .string pu, .string pf])) rfl rfl ky ky (fun w' h' => run_load_blk ky (h'.get 0 rfl) Tryz.underlying120 rfl ky) ?_
    refine zp 3 (.bool true) ?_
    refine zp 4 (iN .i64 fr) ?_
    refine wx_one 5 ky ?_
    refine ex_skipT rfl ky h27 fun w28 h29 => ⟨_, run_store_blk (c' := #[.string ((adrT fr ++ layT [pu] 1)), .string pu, .string pf]) ky ky (h29.get 1 rfl) rfl ky ky, ?_⟩
    have h30 : HA (bs w) [(q22, 120, #[.string ((adrT fr ++ layT [pu] 1)), .string pu, .string pf]), (q1, 120, #[.string ((adrT fr ++ layT [pu] 1)), .string pu, .string pf])] _ := h29.fill 1 rfl (c' := #[.string ((adrT fr ++ layT [pu] 1)), .string pu, .string pf]) rfl
    refine ⟨_, .inl ky, h30, ?_⟩
    refine zp 6 (.bool true) ?_
    refine wx_end fun w31 hbx _ => ?_
    have h32 := HA.keep _ _ h30 hbx
    exact ⟨by kernel_rfl, h32⟩
  · rintro _ w33 ⟨rfl, h34⟩
    refine then_at rfl ?_
    refine wp_ret ?_
    repeat first | refine then_ret ?_ | refine block_ret ?_
    exact bodyPost_ret (v := .tuple #[iN .i64 fr, .agg #[.string (adrT fr ++ layT [pu] 1), .string pu, .string pf], .bool true]) (res_tct (p := 3) (a := 2) (b := 4) ky ky ky ky (h34.get 1 rfl) Tryz.underlying120 rfl ky) rfl ⟨rfl, h34.old.old⟩
theorem rh_yes {w : World} (s : ByteArray) (hs : s.size ≤ 1000000) {fr : Nat} {pu pf : ByteArray} (h : rdHello s = some (fr, pu, pf)) :
    Calls Tryz.prog 54 #[.string s] w fun e w' => e = .returned (.tuple #[iN .i64 fr, .agg #[.string (adrT fr ++ layT [pu] 1), .string pu, .string pf], .bool true]) ∧ Below w.heap.size w w' := by
  unfold rdHello at h
  obtain ⟨f, o, r0, h0⟩ : ∃ x o r, nxn 2 (bl s) = (x, o, r) := ⟨_, _, _, rfl⟩
  simp only [h0] at h
  cases o with
  | false => cases h
  | true =>
    simp only [if_true, Option.map_eq_some_iff] at h
    obtain ⟨q, h1, h2⟩ := h
    obtain ⟨rfl, rfl⟩ := Prod.mk.inj h2
    exact rh_y s hs h0 (nxn_lt h0) h1
end Go.Proofs.YtcjjbpbehapjpaaGreat
