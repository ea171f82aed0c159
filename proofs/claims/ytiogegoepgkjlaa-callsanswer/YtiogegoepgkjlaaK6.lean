/-
  CallsAnswer: its walk.
-/
import Derived.Test.YtiogegoepgkjlaaGJ
import Derived.Test.YtiogegoepgkjlaaGH
set_option linter.unusedVariables false
set_option linter.unusedSimpArgs false
namespace Go.Proofs.Ytiogegoepgkjlaa
open Go.RowKit

theorem shn_E {w : World} (a : An) {o p : Option Addr} {k m : Nat} (hP : At w o (mcl a.li.ds)) (hQ : At w p (icl a.its)) (hcap : a.li.ds.length ≤ k) (hcap2 : a.its.length ≤ m) {d : An} (hd : shN a = d) :
    Calls Try.prog 21 #[.agg (anC a (.slice o a.li.ds.length k) (.slice p a.its.length m))] w fun e w' => ∃ sv si L1 L2, e = .returned (.agg (anC d sv si)) ∧ Row 67 3 sv d.li.ds.length (mcl d.li.ds) L1 ∧ Row 62 4 si d.its.length (icl d.its) L2 ∧ HA (bs w) (L1 ++ (L2 ++ [])) w' := by
  subst hd
  exact shn_any a hP hQ hcap hcap2
theorem da_L {w : World} {s : ByteArray} (hs : s.size ≤ 140737488351232) {i n : Nat} {c : An} (hd : decN s = (i, c, n)) :
    Calls Try.prog 26 #[.string s] w fun e w' => ∃ sv si L1 L2, e = .returned (.tuple #[iN .u64 i, .agg (anC c sv si), iN .i64 n]) ∧ Row 67 3 sv c.li.ds.length (mcl c.li.ds) L1 ∧ Row 62 4 si c.its.length (icl c.its) L2 ∧ HA (bs w) (L2 ++ (L1 ++ [])) w' := by
  have h := da_any (w := w) s hs
  rw [hd] at h
  exact h
theorem rda_L {w : World} {s : ByteArray} (hs : s.size ≤ 140737488351232) {i n : Nat} {c : An} (hd : decN s = (i, c, n)) :
    Calls Try.prog 27 #[.string s] w fun e w' => ∃ sv si L1 L2, e = .returned (.tuple #[iN .u64 i, .agg (anC c sv si), iN .i64 n]) ∧ Row 67 3 sv c.li.ds.length (mcl c.li.ds) L1 ∧ Row 62 4 si c.its.length (icl c.its) L2 ∧ HA (bs w) (L2 ++ (L1 ++ [])) w' := by
  have h := rda_any (w := w) s hs
  rw [decNr_eq, hd] at h
  exact h
theorem decN_few {s : ByteArray} {i n : Nat} {c : An} (hd : decN s = (i, c, n)) : c.li.ds.length ≤ 1000000 ∧ c.its.length ≤ 1000000 := by
  rcases decN_cases s with h | ⟨id, c', h, _, hm, _⟩
  · rw [h] at hd
    obtain ⟨_, hd⟩ := Prod.mk.inj hd
    obtain ⟨rfl, _⟩ := Prod.mk.inj hd
    exact ⟨Nat.zero_le _, Nat.zero_le _⟩
  · rw [h] at hd
    obtain ⟨_, hd⟩ := Prod.mk.inj hd
    obtain ⟨rfl, _⟩ := Prod.mk.inj hd
    have h1 := (mayA_ok hm).len
    rcases mayA_li2 hm with e | e
    · rw [e]
      exact ⟨Nat.zero_le _, by omega⟩
    · have := (mayL_iff e).dl
      omega
section
variable {ρ : Operand → Value} {x : Operand} {w : World} {dst : Option Tmp} {ty : TypeId} {pos : String} {aft : Array Edge} {gd : Option (Nat × Bool)}
theorem run_ldA4 {q : Nat} {A B R : Array Value} (hR : A ++ B = R) (hB : Blk w q 48 R) (hA : A.size = 18) (hx : ρ x = .pointer (some ⟨q, 0, none⟩)) : (execOp ρ ⟨dst, .load 47 x, ty, pos, aft, gd⟩).run Try.prog w = .ok (.value (.agg A)) w :=
  run_loadX hx (fun j v hj => by
    rw [add_lit, hB.cell, ← hR, Array.getElem?_append_left (Array.getElem?_eq_some_iff.1 hj).1]
    exact hj) Try.underlying47 rfl (by rw [hA]; kernel_rfl)
theorem run_ldB4 {q : Nat} {A B R : Array Value} (hR : A ++ B = R) (hB : Blk w q 48 R) (hA : A.size = 18) (hz : B.size = 18) (hx : ρ x = .pointer (some ⟨q, 18, none⟩)) : (execOp ρ ⟨dst, .load 47 x, ty, pos, aft, gd⟩).run Try.prog w = .ok (.value (.agg B)) w :=
  run_loadX hx (fun j v hj => by
    have e : (⟨q, 18, none⟩ : Addr).add j = ⟨q, 18 + j, none⟩ := by unfold Addr.add; split <;> simp_all
    rw [e, hB.cell, ← hR, Array.getElem?_append_right (by omega), hA, Nat.add_sub_cancel_left]
    exact hj) Try.underlying47 rfl (by rw [hz]; kernel_rfl)
end
set_option maxRecDepth 100000 in
set_option maxHeartbeats 8000000 in
theorem ans_core {w : World} (id : Nat) (x y : An) (s : ByteArray) {o1 p1 o2 p2 : Option Addr} {k1 m1 k2 m2 : Nat} (hP1 : At w o1 (mcl x.li.ds)) (hQ1 : At w p1 (icl x.its)) (hk1 : x.li.ds.length ≤ k1) (hm1 : x.its.length ≤ m1) (hP2 : At w o2 (mcl y.li.ds)) (hQ2 : At w p2 (icl y.its)) (hk2 : y.li.ds.length ≤ k2) (hm2 : y.its.length ≤ m2) {PR : Array Value} (hPR : anC x (.slice o1 x.li.ds.length k1) (.slice p1 x.its.length m1) ++ anC y (.slice o2 y.li.ds.length k2) (.slice p2 y.its.length m2) = PR) :
    Calls Try.prog 4 #[iN .u64 id, .agg PR, .string s] w fun e w' => e = .returned (.bool true) ∧ Below w.heap.size w w' := by
  have H0 := HA.start w
  obtain ⟨a, ha⟩ : ∃ a, shN x = a := ⟨_, rfl⟩
  obtain ⟨b, hb⟩ : ∃ b, shN y = b := ⟨_, rfl⟩
  have fa := shN_few x
  have fb := shN_few y
  rw [ha] at fa
  rw [hb] at fb
  have haa := shN_two fa.1 fa.2
  obtain ⟨p, ep, hEa⟩ : ∃ y e, encN id a = (y, e) := ⟨_, _, rfl⟩
  have hsaa : sameA a a = true := by rw [sameA_eq]; exact decide_eq_true rfl
  obtain ⟨i, c, n, hd⟩ : ∃ i c n, decN (s.extract 0 (min s.size 20000)) = (i, c, n) := ⟨_, _, _, rfl⟩
  obtain ⟨hc1, hc2⟩ := decN_few hd
  have hscc : sameA c c = true := by rw [sameA_eq]; exact decide_eq_true rfl
  have hys : (s.extract 0 (min s.size 20000)).size ≤ 140737488351232 := by
    rw [ByteArray.size_extract]
    omega
  go_enter Try.func4, Try.ntmps4
  refine wp_seq (wl_region (wl_make (c := PR) H0 48 ky ky ?_))
  intro q1 w2 (h3 : HA (bs w) [(q1, 48, PR)] w2)
  refine zv (.bool false) (wl_nil (then_at rfl (wp_seq ?_)))
  refine wp_region_wxh h3 (fun AQ w' => ∃ (La28 : BL) (Lb29 : BL) (po37 : Option Addr) (pc38 : Nat) (po39 : Option Addr) (pc40 : Nat) (La50 : BL) (Lb51 : BL) (po59 : Option Addr) (pc60 : Nat) (po61 : Option Addr) (pc62 : Nat) (q65 : Nat) (q68 : Nat), AQ = ⟨(iN .u64 id :: .agg PR :: .string s :: un :: pt q1 :: un :: .bool false :: pt q65 :: pt q68 :: un :: un :: un :: un :: un :: un :: un :: un :: pt q1 :: .agg (anC x (.slice o1 x.li.ds.length k1) (.slice p1 x.its.length m1)) :: .agg (anC a (.slice po37 a.li.ds.length pc38) (.slice po39 a.its.length pc40)) :: .pointer (some ⟨q1, 18, none⟩) :: .agg (anC y (.slice o2 y.li.ds.length k2) (.slice p2 y.its.length m2)) :: .agg (anC b (.slice po59 b.li.ds.length pc60) (.slice po61 b.its.length pc62)) :: List.replicate 69 un).toArray, []⟩ ∧ Row 67 3 (.slice po37 a.li.ds.length pc38) a.li.ds.length (mcl a.li.ds) La28 ∧ Row 62 4 (.slice po39 a.its.length pc40) a.its.length (icl a.its) Lb29 ∧ Row 67 3 (.slice po59 b.li.ds.length pc60) b.li.ds.length (mcl b.li.ds) La50 ∧ Row 62 4 (.slice po61 b.its.length pc62) b.its.length (icl b.its) Lb51 ∧ HA (bs w) ((q68, 47, anC b (.slice po59 b.li.ds.length pc60) (.slice po61 b.its.length pc62)) :: (q65, 47, anC a (.slice po37 a.li.ds.length pc38) (.slice po39 a.its.length pc40)) :: (q1, 48, PR) :: ((La50 ++ (Lb51 ++ [])) ++ ((La28 ++ (Lb29 ++ [])) ++ []))) w') 10 ky ky ky ky ky ?_ ?_
  {have h4 := h3.drew
   refine zp 0 (.pointer (some ⟨q1, 0, none⟩)) (zx 1 (.agg (anC x (.slice o1 x.li.ds.length k1) (.slice p1 x.its.length m1))) rfl (fun w' h' => (run_ldA4 hPR (h'.get 0 rfl) rfl ky)) (zp 3 (.pointer (some ⟨q1, 18, none⟩)) (zx 4 (.agg (anC y (.slice o2 y.li.ds.length k2) (.slice p2 y.its.length m2))) rfl (fun w' h' => (run_ldB4 hPR (h'.get 0 rfl) rfl rfl ky)) ?_)))
   refine wx_three 2 6 7 ky ?_ ?_ ?_
   {refine ex_callx rfl ky h4 enter21 #[.agg (anC x (.slice o1 x.li.ds.length k1) (.slice p1 x.its.length m1))] ky (fun w33 h34 => shn_E x (hP1.keep h34.old.old) (hQ1.keep h34.old.old) hk1 hm1 ha) ?_
    rintro w33 h34 _ w35 ⟨sv26, so27, La28, Lb29, rfl, hRa30, hRb31, h32⟩
    have h36 := HA.join_n 1 h34 h32
    obtain ⟨po37, pc38, hvpo37⟩ := hRa30.form
    subst hvpo37
    obtain ⟨po39, pc40, hvpo39⟩ := hRb31.form
    subst hvpo39
    refine ⟨_, rfl, _, .inr rfl, (HA.sub h36 (List.Sublist.cons_cons _ (List.nil_sublist _))), ?_⟩
    refine wx_three 5 6 7 ky ?_ ?_ ?_
    {refine ex_callx rfl ky h36 enter21 #[.agg (anC y (.slice o2 y.li.ds.length k2) (.slice p2 y.its.length m2))] ky (fun w55 h56 => shn_E y (hP2.keep h56.old.old) (hQ2.keep h56.old.old) hk2 hm2 hb) ?_
     rintro w55 h56 _ w57 ⟨sv48, so49, La50, Lb51, rfl, hRa52, hRb53, h54⟩
     have h58 := HA.join_n 1 h56 h54
     obtain ⟨po59, pc60, hvpo59⟩ := hRa52.form
     subst hvpo59
     obtain ⟨po61, pc62, hvpo61⟩ := hRb53.form
     subst hvpo61
     refine ⟨_, rfl, _, .inl ky, h58, ?_⟩
     refine wx_two 6 7 ky ?_ ?_
     {refine ex_makeT (c := #[iN .i64 0, iN .i64 0, iN .i64 0, .string ({ data := #[] }), .slice none 0 0, .string ({ data := #[] }), iN .i64 0, iN .i64 0, .string ({ data := #[] }), .string ({ data := #[] }), iN .i64 0, .string ({ data := #[] }), .string ({ data := #[] }), iN .i64 0, .string ({ data := #[] }), .slice none 0 0, .string ({ data := #[] }), iN .i64 0]) rfl ky h58 47 (fun q => .pointer (some ⟨q, 0, none⟩)) (fun _ => ky) ?_
      intro q65 w63 (h64 : HA (bs w) ((q65, 47, #[iN .i64 0, iN .i64 0, iN .i64 0, .string ({ data := #[] }), .slice none 0 0, .string ({ data := #[] }), iN .i64 0, iN .i64 0, .string ({ data := #[] }), .string ({ data := #[] }), iN .i64 0, .string ({ data := #[] }), .string ({ data := #[] }), iN .i64 0, .string ({ data := #[] }), .slice none 0 0, .string ({ data := #[] }), iN .i64 0]) :: (q1, 48, PR) :: ((La50 ++ (Lb51 ++ [])) ++ ((La28 ++ (Lb29 ++ [])) ++ []))) w63)
      refine ⟨_, .inr rfl, (HA.sub h64 (List.Sublist.cons _ (List.Sublist.cons_cons _ (List.Sublist.refl _)))), ?_⟩
      refine wx_one 7 ky ?_
      refine ex_makeT (c := #[iN .i64 0, iN .i64 0, iN .i64 0, .string ({ data := #[] }), .slice none 0 0, .string ({ data := #[] }), iN .i64 0, iN .i64 0, .string ({ data := #[] }), .string ({ data := #[] }), iN .i64 0, .string ({ data := #[] }), .string ({ data := #[] }), iN .i64 0, .string ({ data := #[] }), .slice none 0 0, .string ({ data := #[] }), iN .i64 0]) rfl ky h64 47 (fun q => .pointer (some ⟨q, 0, none⟩)) (fun _ => ky) ?_
      intro q68 w66 (h67 : HA (bs w) ((q68, 47, #[iN .i64 0, iN .i64 0, iN .i64 0, .string ({ data := #[] }), .slice none 0 0, .string ({ data := #[] }), iN .i64 0, iN .i64 0, .string ({ data := #[] }), .string ({ data := #[] }), iN .i64 0, .string ({ data := #[] }), .string ({ data := #[] }), iN .i64 0, .string ({ data := #[] }), .slice none 0 0, .string ({ data := #[] }), iN .i64 0]) :: (q65, 47, #[iN .i64 0, iN .i64 0, iN .i64 0, .string ({ data := #[] }), .slice none 0 0, .string ({ data := #[] }), iN .i64 0, iN .i64 0, .string ({ data := #[] }), .string ({ data := #[] }), iN .i64 0, .string ({ data := #[] }), .string ({ data := #[] }), iN .i64 0, .string ({ data := #[] }), .slice none 0 0, .string ({ data := #[] }), iN .i64 0]) :: (q1, 48, PR) :: ((La50 ++ (Lb51 ++ [])) ++ ((La28 ++ (Lb29 ++ [])) ++ []))) w66)
      refine ⟨_, .inr rfl, (HA.sub h67 (List.Sublist.cons _ (List.Sublist.cons _ (List.Sublist.cons_cons _ (List.Sublist.refl _))))), ?_⟩
      refine wx_one 8 ky ?_
      refine ex_puts (d := anC a (.slice po37 a.li.ds.length pc38) (.slice po39 a.its.length pc40)) (c' := anC a (.slice po37 a.li.ds.length pc38) (.slice po39 a.its.length pc40)) (off := 0) rfl ky h67 1 rfl ky ky ky ky ky ky ?_
      intro w72 h71
      refine ⟨_, .inl ky, h71, ?_⟩
      refine wx_one 9 ky ?_
      refine ex_puts (d := anC b (.slice po59 b.li.ds.length pc60) (.slice po61 b.its.length pc62)) (c' := anC b (.slice po59 b.li.ds.length pc60) (.slice po61 b.its.length pc62)) (off := 0) rfl ky h71 0 rfl ky ky ky ky ky ky ?_
      intro w76 h75
      refine ⟨_, .inl ky, h75, ?_⟩
      refine wx_end fun w77 hbx _ => ?_
      have h78 := HA.keep _ _ h75 hbx
      exact ⟨La28, Lb29, po37, pc38, po39, pc40, La50, Lb51, po59, pc60, po61, pc62, q65, q68, by kernel_rfl, hRa30, hRb31, hRa52, hRb53, h78⟩}
     {refine ex_makeT (c := #[iN .i64 0, iN .i64 0, iN .i64 0, .string ({ data := #[] }), .slice none 0 0, .string ({ data := #[] }), iN .i64 0, iN .i64 0, .string ({ data := #[] }), .string ({ data := #[] }), iN .i64 0, .string ({ data := #[] }), .string ({ data := #[] }), iN .i64 0, .string ({ data := #[] }), .slice none 0 0, .string ({ data := #[] }), iN .i64 0]) rfl ky h58 47 (fun q => .pointer (some ⟨q, 0, none⟩)) (fun _ => ky) ?_
      intro q81 w79 (h80 : HA (bs w) ((q81, 47, #[iN .i64 0, iN .i64 0, iN .i64 0, .string ({ data := #[] }), .slice none 0 0, .string ({ data := #[] }), iN .i64 0, iN .i64 0, .string ({ data := #[] }), .string ({ data := #[] }), iN .i64 0, .string ({ data := #[] }), .string ({ data := #[] }), iN .i64 0, .string ({ data := #[] }), .slice none 0 0, .string ({ data := #[] }), iN .i64 0]) :: (q1, 48, PR) :: ((La50 ++ (Lb51 ++ [])) ++ ((La28 ++ (Lb29 ++ [])) ++ []))) w79)
      refine ⟨_, .inr rfl, (HA.sub h80 (List.Sublist.cons _ (List.Sublist.cons_cons _ (List.Sublist.refl _)))), ?_⟩
      refine wx_one 6 ky ?_
      refine ex_makeT (c := #[iN .i64 0, iN .i64 0, iN .i64 0, .string ({ data := #[] }), .slice none 0 0, .string ({ data := #[] }), iN .i64 0, iN .i64 0, .string ({ data := #[] }), .string ({ data := #[] }), iN .i64 0, .string ({ data := #[] }), .string ({ data := #[] }), iN .i64 0, .string ({ data := #[] }), .slice none 0 0, .string ({ data := #[] }), iN .i64 0]) rfl ky h80 47 (fun q => .pointer (some ⟨q, 0, none⟩)) (fun _ => ky) ?_
      intro q84 w82 (h83 : HA (bs w) ((q84, 47, #[iN .i64 0, iN .i64 0, iN .i64 0, .string ({ data := #[] }), .slice none 0 0, .string ({ data := #[] }), iN .i64 0, iN .i64 0, .string ({ data := #[] }), .string ({ data := #[] }), iN .i64 0, .string ({ data := #[] }), .string ({ data := #[] }), iN .i64 0, .string ({ data := #[] }), .slice none 0 0, .string ({ data := #[] }), iN .i64 0]) :: (q81, 47, #[iN .i64 0, iN .i64 0, iN .i64 0, .string ({ data := #[] }), .slice none 0 0, .string ({ data := #[] }), iN .i64 0, iN .i64 0, .string ({ data := #[] }), .string ({ data := #[] }), iN .i64 0, .string ({ data := #[] }), .string ({ data := #[] }), iN .i64 0, .string ({ data := #[] }), .slice none 0 0, .string ({ data := #[] }), iN .i64 0]) :: (q1, 48, PR) :: ((La50 ++ (Lb51 ++ [])) ++ ((La28 ++ (Lb29 ++ [])) ++ []))) w82)
      refine ⟨_, .inr rfl, (HA.sub h83 (List.Sublist.cons _ (List.Sublist.cons _ (List.Sublist.cons_cons _ (List.Sublist.refl _))))), ?_⟩
      refine wx_one 8 ky ?_
      refine ex_puts (d := anC a (.slice po37 a.li.ds.length pc38) (.slice po39 a.its.length pc40)) (c' := anC a (.slice po37 a.li.ds.length pc38) (.slice po39 a.its.length pc40)) (off := 0) rfl ky h83 0 rfl ky ky ky ky ky ky ?_
      intro w88 h87
      refine ⟨_, .inl ky, h87, ?_⟩
      refine wx_one 9 ky ?_
      refine ex_puts (d := anC b (.slice po59 b.li.ds.length pc60) (.slice po61 b.its.length pc62)) (c' := anC b (.slice po59 b.li.ds.length pc60) (.slice po61 b.its.length pc62)) (off := 0) rfl ky h87 1 rfl ky ky ky ky ky ky ?_
      intro w92 h91
      refine ⟨_, .inl ky, h91, ?_⟩
      refine wx_end fun w93 hbx _ => ?_
      have h94 := HA.keep _ _ h91 hbx
      exact ⟨La28, Lb29, po37, pc38, po39, pc40, La50, Lb51, po59, pc60, po61, pc62, q84, q81, by kernel_rfl, hRa30, hRb31, hRa52, hRb53, (HA.perm h94 (List.Perm.swap _ _ _))⟩}}
    {refine ex_makeT (c := #[iN .i64 0, iN .i64 0, iN .i64 0, .string ({ data := #[] }), .slice none 0 0, .string ({ data := #[] }), iN .i64 0, iN .i64 0, .string ({ data := #[] }), .string ({ data := #[] }), iN .i64 0, .string ({ data := #[] }), .string ({ data := #[] }), iN .i64 0, .string ({ data := #[] }), .slice none 0 0, .string ({ data := #[] }), iN .i64 0]) rfl ky h36 47 (fun q => .pointer (some ⟨q, 0, none⟩)) (fun _ => ky) ?_
     intro q97 w95 (h96 : HA (bs w) ((q97, 47, #[iN .i64 0, iN .i64 0, iN .i64 0, .string ({ data := #[] }), .slice none 0 0, .string ({ data := #[] }), iN .i64 0, iN .i64 0, .string ({ data := #[] }), .string ({ data := #[] }), iN .i64 0, .string ({ data := #[] }), .string ({ data := #[] }), iN .i64 0, .string ({ data := #[] }), .slice none 0 0, .string ({ data := #[] }), iN .i64 0]) :: (q1, 48, PR) :: ((La28 ++ (Lb29 ++ [])) ++ [])) w95)
     refine ⟨_, .inr rfl, (HA.sub h96 (List.Sublist.cons _ (List.Sublist.cons_cons _ (List.nil_sublist _)))), ?_⟩
     refine wx_two 5 7 ky ?_ ?_
     {refine ex_callx rfl ky h96 enter21 #[.agg (anC y (.slice o2 y.li.ds.length k2) (.slice p2 y.its.length m2))] ky (fun w112 h113 => shn_E y (hP2.keep h113.old.old) (hQ2.keep h113.old.old) hk2 hm2 hb) ?_
      rintro w112 h113 _ w114 ⟨sv105, so106, La107, Lb108, rfl, hRa109, hRb110, h111⟩
      have h115 := HA.join_n 2 h113 h111
      obtain ⟨po116, pc117, hvpo116⟩ := hRa109.form
      subst hvpo116
      obtain ⟨po118, pc119, hvpo118⟩ := hRb110.form
      subst hvpo118
      refine ⟨_, rfl, _, .inl ky, h115, ?_⟩
      refine wx_one 7 ky ?_
      refine ex_makeT (c := #[iN .i64 0, iN .i64 0, iN .i64 0, .string ({ data := #[] }), .slice none 0 0, .string ({ data := #[] }), iN .i64 0, iN .i64 0, .string ({ data := #[] }), .string ({ data := #[] }), iN .i64 0, .string ({ data := #[] }), .string ({ data := #[] }), iN .i64 0, .string ({ data := #[] }), .slice none 0 0, .string ({ data := #[] }), iN .i64 0]) rfl ky h115 47 (fun q => .pointer (some ⟨q, 0, none⟩)) (fun _ => ky) ?_
      intro q122 w120 (h121 : HA (bs w) ((q122, 47, #[iN .i64 0, iN .i64 0, iN .i64 0, .string ({ data := #[] }), .slice none 0 0, .string ({ data := #[] }), iN .i64 0, iN .i64 0, .string ({ data := #[] }), .string ({ data := #[] }), iN .i64 0, .string ({ data := #[] }), .string ({ data := #[] }), iN .i64 0, .string ({ data := #[] }), .slice none 0 0, .string ({ data := #[] }), iN .i64 0]) :: (q97, 47, #[iN .i64 0, iN .i64 0, iN .i64 0, .string ({ data := #[] }), .slice none 0 0, .string ({ data := #[] }), iN .i64 0, iN .i64 0, .string ({ data := #[] }), .string ({ data := #[] }), iN .i64 0, .string ({ data := #[] }), .string ({ data := #[] }), iN .i64 0, .string ({ data := #[] }), .slice none 0 0, .string ({ data := #[] }), iN .i64 0]) :: (q1, 48, PR) :: ((La107 ++ (Lb108 ++ [])) ++ ((La28 ++ (Lb29 ++ [])) ++ []))) w120)
      refine ⟨_, .inr rfl, (HA.sub h121 (List.Sublist.cons _ (List.Sublist.cons_cons _ (List.Sublist.cons_cons _ (List.Sublist.refl _))))), ?_⟩
      refine wx_one 8 ky ?_
      refine ex_puts (d := anC a (.slice po37 a.li.ds.length pc38) (.slice po39 a.its.length pc40)) (c' := anC a (.slice po37 a.li.ds.length pc38) (.slice po39 a.its.length pc40)) (off := 0) rfl ky h121 1 rfl ky ky ky ky ky ky ?_
      intro w126 h125
      refine ⟨_, .inl ky, h125, ?_⟩
      refine wx_one 9 ky ?_
      refine ex_puts (d := anC b (.slice po116 b.li.ds.length pc117) (.slice po118 b.its.length pc119)) (c' := anC b (.slice po116 b.li.ds.length pc117) (.slice po118 b.its.length pc119)) (off := 0) rfl ky h125 0 rfl ky ky ky ky ky ky ?_
      intro w130 h129
      refine ⟨_, .inl ky, h129, ?_⟩
      refine wx_end fun w131 hbx _ => ?_
      have h132 := HA.keep _ _ h129 hbx
      exact ⟨La28, Lb29, po37, pc38, po39, pc40, La107, Lb108, po116, pc117, po118, pc119, q97, q122, by kernel_rfl, hRa30, hRb31, hRa109, hRb110, h132⟩}
     {refine ex_makeT (c := #[iN .i64 0, iN .i64 0, iN .i64 0, .string ({ data := #[] }), .slice none 0 0, .string ({ data := #[] }), iN .i64 0, iN .i64 0, .string ({ data := #[] }), .string ({ data := #[] }), iN .i64 0, .string ({ data := #[] }), .string ({ data := #[] }), iN .i64 0, .string ({ data := #[] }), .slice none 0 0, .string ({ data := #[] }), iN .i64 0]) rfl ky h96 47 (fun q => .pointer (some ⟨q, 0, none⟩)) (fun _ => ky) ?_
      intro q135 w133 (h134 : HA (bs w) ((q135, 47, #[iN .i64 0, iN .i64 0, iN .i64 0, .string ({ data := #[] }), .slice none 0 0, .string ({ data := #[] }), iN .i64 0, iN .i64 0, .string ({ data := #[] }), .string ({ data := #[] }), iN .i64 0, .string ({ data := #[] }), .string ({ data := #[] }), iN .i64 0, .string ({ data := #[] }), .slice none 0 0, .string ({ data := #[] }), iN .i64 0]) :: (q97, 47, #[iN .i64 0, iN .i64 0, iN .i64 0, .string ({ data := #[] }), .slice none 0 0, .string ({ data := #[] }), iN .i64 0, iN .i64 0, .string ({ data := #[] }), .string ({ data := #[] }), iN .i64 0, .string ({ data := #[] }), .string ({ data := #[] }), iN .i64 0, .string ({ data := #[] }), .slice none 0 0, .string ({ data := #[] }), iN .i64 0]) :: (q1, 48, PR) :: ((La28 ++ (Lb29 ++ [])) ++ [])) w133)
      refine ⟨_, .inr rfl, (HA.sub h134 (List.Sublist.cons _ (List.Sublist.cons _ (List.Sublist.cons_cons _ (List.nil_sublist _))))), ?_⟩
      refine wx_one 5 ky ?_
      refine ex_callx rfl ky h134 enter21 #[.agg (anC y (.slice o2 y.li.ds.length k2) (.slice p2 y.its.length m2))] ky (fun w150 h151 => shn_E y (hP2.keep h151.old.old) (hQ2.keep h151.old.old) hk2 hm2 hb) ?_
      rintro w150 h151 _ w152 ⟨sv143, so144, La145, Lb146, rfl, hRa147, hRb148, h149⟩
      have h153 := HA.join_n 3 h151 h149
      obtain ⟨po154, pc155, hvpo154⟩ := hRa147.form
      subst hvpo154
      obtain ⟨po156, pc157, hvpo156⟩ := hRb148.form
      subst hvpo156
      refine ⟨_, rfl, _, .inl ky, h153, ?_⟩
      refine wx_one 8 ky ?_
      refine ex_puts (d := anC a (.slice po37 a.li.ds.length pc38) (.slice po39 a.its.length pc40)) (c' := anC a (.slice po37 a.li.ds.length pc38) (.slice po39 a.its.length pc40)) (off := 0) rfl ky h153 1 rfl ky ky ky ky ky ky ?_
      intro w161 h160
      refine ⟨_, .inl ky, h160, ?_⟩
      refine wx_one 9 ky ?_
      refine ex_puts (d := anC b (.slice po154 b.li.ds.length pc155) (.slice po156 b.its.length pc157)) (c' := anC b (.slice po154 b.li.ds.length pc155) (.slice po156 b.its.length pc157)) (off := 0) rfl ky h160 0 rfl ky ky ky ky ky ky ?_
      intro w165 h164
      refine ⟨_, .inl ky, h164, ?_⟩
      refine wx_end fun w166 hbx _ => ?_
      have h167 := HA.keep _ _ h164 hbx
      exact ⟨La28, Lb29, po37, pc38, po39, pc40, La145, Lb146, po154, pc155, po156, pc157, q97, q135, by kernel_rfl, hRa30, hRb31, hRa147, hRb148, h167⟩}}
    {refine ex_makeT (c := #[iN .i64 0, iN .i64 0, iN .i64 0, .string ({ data := #[] }), .slice none 0 0, .string ({ data := #[] }), iN .i64 0, iN .i64 0, .string ({ data := #[] }), .string ({ data := #[] }), iN .i64 0, .string ({ data := #[] }), .string ({ data := #[] }), iN .i64 0, .string ({ data := #[] }), .slice none 0 0, .string ({ data := #[] }), iN .i64 0]) rfl ky h36 47 (fun q => .pointer (some ⟨q, 0, none⟩)) (fun _ => ky) ?_
     intro q170 w168 (h169 : HA (bs w) ((q170, 47, #[iN .i64 0, iN .i64 0, iN .i64 0, .string ({ data := #[] }), .slice none 0 0, .string ({ data := #[] }), iN .i64 0, iN .i64 0, .string ({ data := #[] }), .string ({ data := #[] }), iN .i64 0, .string ({ data := #[] }), .string ({ data := #[] }), iN .i64 0, .string ({ data := #[] }), .slice none 0 0, .string ({ data := #[] }), iN .i64 0]) :: (q1, 48, PR) :: ((La28 ++ (Lb29 ++ [])) ++ [])) w168)
     refine ⟨_, .inr rfl, (HA.sub h169 (List.Sublist.cons _ (List.Sublist.cons_cons _ (List.nil_sublist _)))), ?_⟩
     refine wx_two 5 6 ky ?_ ?_
     {refine ex_callx rfl ky h169 enter21 #[.agg (anC y (.slice o2 y.li.ds.length k2) (.slice p2 y.its.length m2))] ky (fun w185 h186 => shn_E y (hP2.keep h186.old.old) (hQ2.keep h186.old.old) hk2 hm2 hb) ?_
      rintro w185 h186 _ w187 ⟨sv178, so179, La180, Lb181, rfl, hRa182, hRb183, h184⟩
      have h188 := HA.join_n 2 h186 h184
      obtain ⟨po189, pc190, hvpo189⟩ := hRa182.form
      subst hvpo189
      obtain ⟨po191, pc192, hvpo191⟩ := hRb183.form
      subst hvpo191
      refine ⟨_, rfl, _, .inl ky, h188, ?_⟩
      refine wx_one 6 ky ?_
      refine ex_makeT (c := #[iN .i64 0, iN .i64 0, iN .i64 0, .string ({ data := #[] }), .slice none 0 0, .string ({ data := #[] }), iN .i64 0, iN .i64 0, .string ({ data := #[] }), .string ({ data := #[] }), iN .i64 0, .string ({ data := #[] }), .string ({ data := #[] }), iN .i64 0, .string ({ data := #[] }), .slice none 0 0, .string ({ data := #[] }), iN .i64 0]) rfl ky h188 47 (fun q => .pointer (some ⟨q, 0, none⟩)) (fun _ => ky) ?_
      intro q195 w193 (h194 : HA (bs w) ((q195, 47, #[iN .i64 0, iN .i64 0, iN .i64 0, .string ({ data := #[] }), .slice none 0 0, .string ({ data := #[] }), iN .i64 0, iN .i64 0, .string ({ data := #[] }), .string ({ data := #[] }), iN .i64 0, .string ({ data := #[] }), .string ({ data := #[] }), iN .i64 0, .string ({ data := #[] }), .slice none 0 0, .string ({ data := #[] }), iN .i64 0]) :: (q170, 47, #[iN .i64 0, iN .i64 0, iN .i64 0, .string ({ data := #[] }), .slice none 0 0, .string ({ data := #[] }), iN .i64 0, iN .i64 0, .string ({ data := #[] }), .string ({ data := #[] }), iN .i64 0, .string ({ data := #[] }), .string ({ data := #[] }), iN .i64 0, .string ({ data := #[] }), .slice none 0 0, .string ({ data := #[] }), iN .i64 0]) :: (q1, 48, PR) :: ((La180 ++ (Lb181 ++ [])) ++ ((La28 ++ (Lb29 ++ [])) ++ []))) w193)
      refine ⟨_, .inr rfl, (HA.sub h194 (List.Sublist.cons _ (List.Sublist.cons_cons _ (List.Sublist.cons_cons _ (List.Sublist.refl _))))), ?_⟩
      refine wx_one 8 ky ?_
      refine ex_puts (d := anC a (.slice po37 a.li.ds.length pc38) (.slice po39 a.its.length pc40)) (c' := anC a (.slice po37 a.li.ds.length pc38) (.slice po39 a.its.length pc40)) (off := 0) rfl ky h194 0 rfl ky ky ky ky ky ky ?_
      intro w199 h198
      refine ⟨_, .inl ky, h198, ?_⟩
      refine wx_one 9 ky ?_
      refine ex_puts (d := anC b (.slice po189 b.li.ds.length pc190) (.slice po191 b.its.length pc192)) (c' := anC b (.slice po189 b.li.ds.length pc190) (.slice po191 b.its.length pc192)) (off := 0) rfl ky h198 1 rfl ky ky ky ky ky ky ?_
      intro w203 h202
      refine ⟨_, .inl ky, h202, ?_⟩
      refine wx_end fun w204 hbx _ => ?_
      have h205 := HA.keep _ _ h202 hbx
      exact ⟨La28, Lb29, po37, pc38, po39, pc40, La180, Lb181, po189, pc190, po191, pc192, q195, q170, by kernel_rfl, hRa30, hRb31, hRa182, hRb183, (HA.perm h205 (List.Perm.swap _ _ _))⟩}
     {refine ex_makeT (c := #[iN .i64 0, iN .i64 0, iN .i64 0, .string ({ data := #[] }), .slice none 0 0, .string ({ data := #[] }), iN .i64 0, iN .i64 0, .string ({ data := #[] }), .string ({ data := #[] }), iN .i64 0, .string ({ data := #[] }), .string ({ data := #[] }), iN .i64 0, .string ({ data := #[] }), .slice none 0 0, .string ({ data := #[] }), iN .i64 0]) rfl ky h169 47 (fun q => .pointer (some ⟨q, 0, none⟩)) (fun _ => ky) ?_
      intro q208 w206 (h207 : HA (bs w) ((q208, 47, #[iN .i64 0, iN .i64 0, iN .i64 0, .string ({ data := #[] }), .slice none 0 0, .string ({ data := #[] }), iN .i64 0, iN .i64 0, .string ({ data := #[] }), .string ({ data := #[] }), iN .i64 0, .string ({ data := #[] }), .string ({ data := #[] }), iN .i64 0, .string ({ data := #[] }), .slice none 0 0, .string ({ data := #[] }), iN .i64 0]) :: (q170, 47, #[iN .i64 0, iN .i64 0, iN .i64 0, .string ({ data := #[] }), .slice none 0 0, .string ({ data := #[] }), iN .i64 0, iN .i64 0, .string ({ data := #[] }), .string ({ data := #[] }), iN .i64 0, .string ({ data := #[] }), .string ({ data := #[] }), iN .i64 0, .string ({ data := #[] }), .slice none 0 0, .string ({ data := #[] }), iN .i64 0]) :: (q1, 48, PR) :: ((La28 ++ (Lb29 ++ [])) ++ [])) w206)
      refine ⟨_, .inr rfl, (HA.sub h207 (List.Sublist.cons _ (List.Sublist.cons _ (List.Sublist.cons_cons _ (List.nil_sublist _))))), ?_⟩
      refine wx_one 5 ky ?_
      refine ex_callx rfl ky h207 enter21 #[.agg (anC y (.slice o2 y.li.ds.length k2) (.slice p2 y.its.length m2))] ky (fun w223 h224 => shn_E y (hP2.keep h224.old.old) (hQ2.keep h224.old.old) hk2 hm2 hb) ?_
      rintro w223 h224 _ w225 ⟨sv216, so217, La218, Lb219, rfl, hRa220, hRb221, h222⟩
      have h226 := HA.join_n 3 h224 h222
      obtain ⟨po227, pc228, hvpo227⟩ := hRa220.form
      subst hvpo227
      obtain ⟨po229, pc230, hvpo229⟩ := hRb221.form
      subst hvpo229
      refine ⟨_, rfl, _, .inl ky, h226, ?_⟩
      refine wx_one 8 ky ?_
      refine ex_puts (d := anC a (.slice po37 a.li.ds.length pc38) (.slice po39 a.its.length pc40)) (c' := anC a (.slice po37 a.li.ds.length pc38) (.slice po39 a.its.length pc40)) (off := 0) rfl ky h226 0 rfl ky ky ky ky ky ky ?_
      intro w234 h233
      refine ⟨_, .inl ky, h233, ?_⟩
      refine wx_one 9 ky ?_
      refine ex_puts (d := anC b (.slice po227 b.li.ds.length pc228) (.slice po229 b.its.length pc230)) (c' := anC b (.slice po227 b.li.ds.length pc228) (.slice po229 b.its.length pc230)) (off := 0) rfl ky h233 1 rfl ky ky ky ky ky ky ?_
      intro w238 h237
      refine ⟨_, .inl ky, h237, ?_⟩
      refine wx_end fun w239 hbx _ => ?_
      have h240 := HA.keep _ _ h237 hbx
      exact ⟨La28, Lb29, po37, pc38, po39, pc40, La218, Lb219, po227, pc228, po229, pc230, q208, q170, by kernel_rfl, hRa30, hRb31, hRa220, hRb221, (HA.perm h240 (List.Perm.swap _ _ _))⟩}}}
   {refine ex_makeT (c := #[iN .i64 0, iN .i64 0, iN .i64 0, .string ({ data := #[] }), .slice none 0 0, .string ({ data := #[] }), iN .i64 0, iN .i64 0, .string ({ data := #[] }), .string ({ data := #[] }), iN .i64 0, .string ({ data := #[] }), .string ({ data := #[] }), iN .i64 0, .string ({ data := #[] }), .slice none 0 0, .string ({ data := #[] }), iN .i64 0]) rfl ky h4 47 (fun q => .pointer (some ⟨q, 0, none⟩)) (fun _ => ky) ?_
    intro q243 w241 (h242 : HA (bs w) [(q243, 47, #[iN .i64 0, iN .i64 0, iN .i64 0, .string ({ data := #[] }), .slice none 0 0, .string ({ data := #[] }), iN .i64 0, iN .i64 0, .string ({ data := #[] }), .string ({ data := #[] }), iN .i64 0, .string ({ data := #[] }), .string ({ data := #[] }), iN .i64 0, .string ({ data := #[] }), .slice none 0 0, .string ({ data := #[] }), iN .i64 0]), (q1, 48, PR)] w241)
    refine ⟨_, .inr rfl, (HA.sub h242 (List.Sublist.cons _ (List.Sublist.cons_cons _ (List.Sublist.refl _)))), ?_⟩
    refine wx_two 2 7 ky ?_ ?_
    {refine ex_callx rfl ky h242 enter21 #[.agg (anC x (.slice o1 x.li.ds.length k1) (.slice p1 x.its.length m1))] ky (fun w258 h259 => shn_E x (hP1.keep h259.old.old) (hQ1.keep h259.old.old) hk1 hm1 ha) ?_
     rintro w258 h259 _ w260 ⟨sv251, so252, La253, Lb254, rfl, hRa255, hRb256, h257⟩
     have h261 := HA.join_n 2 h259 h257
     obtain ⟨po262, pc263, hvpo262⟩ := hRa255.form
     subst hvpo262
     obtain ⟨po264, pc265, hvpo264⟩ := hRb256.form
     subst hvpo264
     refine ⟨_, rfl, _, .inr rfl, (HA.sub h261 (List.Sublist.cons _ (List.Sublist.cons_cons _ (List.nil_sublist _)))), ?_⟩
     refine wx_two 5 7 ky ?_ ?_
     {refine ex_callx rfl ky h261 enter21 #[.agg (anC y (.slice o2 y.li.ds.length k2) (.slice p2 y.its.length m2))] ky (fun w280 h281 => shn_E y (hP2.keep h281.old.old) (hQ2.keep h281.old.old) hk2 hm2 hb) ?_
      rintro w280 h281 _ w282 ⟨sv273, so274, La275, Lb276, rfl, hRa277, hRb278, h279⟩
      have h283 := HA.join_n 2 h281 h279
      obtain ⟨po284, pc285, hvpo284⟩ := hRa277.form
      subst hvpo284
      obtain ⟨po286, pc287, hvpo286⟩ := hRb278.form
      subst hvpo286
      refine ⟨_, rfl, _, .inl ky, h283, ?_⟩
      refine wx_one 7 ky ?_
      refine ex_makeT (c := #[iN .i64 0, iN .i64 0, iN .i64 0, .string ({ data := #[] }), .slice none 0 0, .string ({ data := #[] }), iN .i64 0, iN .i64 0, .string ({ data := #[] }), .string ({ data := #[] }), iN .i64 0, .string ({ data := #[] }), .string ({ data := #[] }), iN .i64 0, .string ({ data := #[] }), .slice none 0 0, .string ({ data := #[] }), iN .i64 0]) rfl ky h283 47 (fun q => .pointer (some ⟨q, 0, none⟩)) (fun _ => ky) ?_
      intro q290 w288 (h289 : HA (bs w) ((q290, 47, #[iN .i64 0, iN .i64 0, iN .i64 0, .string ({ data := #[] }), .slice none 0 0, .string ({ data := #[] }), iN .i64 0, iN .i64 0, .string ({ data := #[] }), .string ({ data := #[] }), iN .i64 0, .string ({ data := #[] }), .string ({ data := #[] }), iN .i64 0, .string ({ data := #[] }), .slice none 0 0, .string ({ data := #[] }), iN .i64 0]) :: (q243, 47, #[iN .i64 0, iN .i64 0, iN .i64 0, .string ({ data := #[] }), .slice none 0 0, .string ({ data := #[] }), iN .i64 0, iN .i64 0, .string ({ data := #[] }), .string ({ data := #[] }), iN .i64 0, .string ({ data := #[] }), .string ({ data := #[] }), iN .i64 0, .string ({ data := #[] }), .slice none 0 0, .string ({ data := #[] }), iN .i64 0]) :: (q1, 48, PR) :: ((La275 ++ (Lb276 ++ [])) ++ ((La253 ++ (Lb254 ++ [])) ++ []))) w288)
      refine ⟨_, .inr rfl, (HA.sub h289 (List.Sublist.cons _ (List.Sublist.cons_cons _ (List.Sublist.cons_cons _ (List.Sublist.refl _))))), ?_⟩
      refine wx_one 8 ky ?_
      refine ex_puts (d := anC a (.slice po262 a.li.ds.length pc263) (.slice po264 a.its.length pc265)) (c' := anC a (.slice po262 a.li.ds.length pc263) (.slice po264 a.its.length pc265)) (off := 0) rfl ky h289 1 rfl ky ky ky ky ky ky ?_
      intro w294 h293
      refine ⟨_, .inl ky, h293, ?_⟩
      refine wx_one 9 ky ?_
      refine ex_puts (d := anC b (.slice po284 b.li.ds.length pc285) (.slice po286 b.its.length pc287)) (c' := anC b (.slice po284 b.li.ds.length pc285) (.slice po286 b.its.length pc287)) (off := 0) rfl ky h293 0 rfl ky ky ky ky ky ky ?_
      intro w298 h297
      refine ⟨_, .inl ky, h297, ?_⟩
      refine wx_end fun w299 hbx _ => ?_
      have h300 := HA.keep _ _ h297 hbx
      exact ⟨La253, Lb254, po262, pc263, po264, pc265, La275, Lb276, po284, pc285, po286, pc287, q243, q290, by kernel_rfl, hRa255, hRb256, hRa277, hRb278, h300⟩}
     {refine ex_makeT (c := #[iN .i64 0, iN .i64 0, iN .i64 0, .string ({ data := #[] }), .slice none 0 0, .string ({ data := #[] }), iN .i64 0, iN .i64 0, .string ({ data := #[] }), .string ({ data := #[] }), iN .i64 0, .string ({ data := #[] }), .string ({ data := #[] }), iN .i64 0, .string ({ data := #[] }), .slice none 0 0, .string ({ data := #[] }), iN .i64 0]) rfl ky h261 47 (fun q => .pointer (some ⟨q, 0, none⟩)) (fun _ => ky) ?_
      intro q303 w301 (h302 : HA (bs w) ((q303, 47, #[iN .i64 0, iN .i64 0, iN .i64 0, .string ({ data := #[] }), .slice none 0 0, .string ({ data := #[] }), iN .i64 0, iN .i64 0, .string ({ data := #[] }), .string ({ data := #[] }), iN .i64 0, .string ({ data := #[] }), .string ({ data := #[] }), iN .i64 0, .string ({ data := #[] }), .slice none 0 0, .string ({ data := #[] }), iN .i64 0]) :: (q243, 47, #[iN .i64 0, iN .i64 0, iN .i64 0, .string ({ data := #[] }), .slice none 0 0, .string ({ data := #[] }), iN .i64 0, iN .i64 0, .string ({ data := #[] }), .string ({ data := #[] }), iN .i64 0, .string ({ data := #[] }), .string ({ data := #[] }), iN .i64 0, .string ({ data := #[] }), .slice none 0 0, .string ({ data := #[] }), iN .i64 0]) :: (q1, 48, PR) :: ((La253 ++ (Lb254 ++ [])) ++ [])) w301)
      refine ⟨_, .inr rfl, (HA.sub h302 (List.Sublist.cons _ (List.Sublist.cons _ (List.Sublist.cons_cons _ (List.nil_sublist _))))), ?_⟩
      refine wx_one 5 ky ?_
      refine ex_callx rfl ky h302 enter21 #[.agg (anC y (.slice o2 y.li.ds.length k2) (.slice p2 y.its.length m2))] ky (fun w318 h319 => shn_E y (hP2.keep h319.old.old) (hQ2.keep h319.old.old) hk2 hm2 hb) ?_
      rintro w318 h319 _ w320 ⟨sv311, so312, La313, Lb314, rfl, hRa315, hRb316, h317⟩
      have h321 := HA.join_n 3 h319 h317
      obtain ⟨po322, pc323, hvpo322⟩ := hRa315.form
      subst hvpo322
      obtain ⟨po324, pc325, hvpo324⟩ := hRb316.form
      subst hvpo324
      refine ⟨_, rfl, _, .inl ky, h321, ?_⟩
      refine wx_one 8 ky ?_
      refine ex_puts (d := anC a (.slice po262 a.li.ds.length pc263) (.slice po264 a.its.length pc265)) (c' := anC a (.slice po262 a.li.ds.length pc263) (.slice po264 a.its.length pc265)) (off := 0) rfl ky h321 1 rfl ky ky ky ky ky ky ?_
      intro w329 h328
      refine ⟨_, .inl ky, h328, ?_⟩
      refine wx_one 9 ky ?_
      refine ex_puts (d := anC b (.slice po322 b.li.ds.length pc323) (.slice po324 b.its.length pc325)) (c' := anC b (.slice po322 b.li.ds.length pc323) (.slice po324 b.its.length pc325)) (off := 0) rfl ky h328 0 rfl ky ky ky ky ky ky ?_
      intro w333 h332
      refine ⟨_, .inl ky, h332, ?_⟩
      refine wx_end fun w334 hbx _ => ?_
      have h335 := HA.keep _ _ h332 hbx
      exact ⟨La253, Lb254, po262, pc263, po264, pc265, La313, Lb314, po322, pc323, po324, pc325, q243, q303, by kernel_rfl, hRa255, hRb256, hRa315, hRb316, h335⟩}}
    {refine ex_makeT (c := #[iN .i64 0, iN .i64 0, iN .i64 0, .string ({ data := #[] }), .slice none 0 0, .string ({ data := #[] }), iN .i64 0, iN .i64 0, .string ({ data := #[] }), .string ({ data := #[] }), iN .i64 0, .string ({ data := #[] }), .string ({ data := #[] }), iN .i64 0, .string ({ data := #[] }), .slice none 0 0, .string ({ data := #[] }), iN .i64 0]) rfl ky h242 47 (fun q => .pointer (some ⟨q, 0, none⟩)) (fun _ => ky) ?_
     intro q338 w336 (h337 : HA (bs w) [(q338, 47, #[iN .i64 0, iN .i64 0, iN .i64 0, .string ({ data := #[] }), .slice none 0 0, .string ({ data := #[] }), iN .i64 0, iN .i64 0, .string ({ data := #[] }), .string ({ data := #[] }), iN .i64 0, .string ({ data := #[] }), .string ({ data := #[] }), iN .i64 0, .string ({ data := #[] }), .slice none 0 0, .string ({ data := #[] }), iN .i64 0]), (q243, 47, #[iN .i64 0, iN .i64 0, iN .i64 0, .string ({ data := #[] }), .slice none 0 0, .string ({ data := #[] }), iN .i64 0, iN .i64 0, .string ({ data := #[] }), .string ({ data := #[] }), iN .i64 0, .string ({ data := #[] }), .string ({ data := #[] }), iN .i64 0, .string ({ data := #[] }), .slice none 0 0, .string ({ data := #[] }), iN .i64 0]), (q1, 48, PR)] w336)
     refine ⟨_, .inr rfl, (HA.sub h337 (List.Sublist.cons _ (List.Sublist.cons _ (List.Sublist.cons_cons _ (List.Sublist.refl _))))), ?_⟩
     refine wx_one 2 ky ?_
     refine ex_callx rfl ky h337 enter21 #[.agg (anC x (.slice o1 x.li.ds.length k1) (.slice p1 x.its.length m1))] ky (fun w353 h354 => shn_E x (hP1.keep h354.old.old) (hQ1.keep h354.old.old) hk1 hm1 ha) ?_
     rintro w353 h354 _ w355 ⟨sv346, so347, La348, Lb349, rfl, hRa350, hRb351, h352⟩
     have h356 := HA.join_n 3 h354 h352
     obtain ⟨po357, pc358, hvpo357⟩ := hRa350.form
     subst hvpo357
     obtain ⟨po359, pc360, hvpo359⟩ := hRb351.form
     subst hvpo359
     refine ⟨_, rfl, _, .inr rfl, (HA.sub h356 (List.Sublist.cons _ (List.Sublist.cons _ (List.Sublist.cons_cons _ (List.nil_sublist _))))), ?_⟩
     refine wx_one 5 ky ?_
     refine ex_callx rfl ky h356 enter21 #[.agg (anC y (.slice o2 y.li.ds.length k2) (.slice p2 y.its.length m2))] ky (fun w375 h376 => shn_E y (hP2.keep h376.old.old) (hQ2.keep h376.old.old) hk2 hm2 hb) ?_
     rintro w375 h376 _ w377 ⟨sv368, so369, La370, Lb371, rfl, hRa372, hRb373, h374⟩
     have h378 := HA.join_n 3 h376 h374
     obtain ⟨po379, pc380, hvpo379⟩ := hRa372.form
     subst hvpo379
     obtain ⟨po381, pc382, hvpo381⟩ := hRb373.form
     subst hvpo381
     refine ⟨_, rfl, _, .inl ky, h378, ?_⟩
     refine wx_one 8 ky ?_
     refine ex_puts (d := anC a (.slice po357 a.li.ds.length pc358) (.slice po359 a.its.length pc360)) (c' := anC a (.slice po357 a.li.ds.length pc358) (.slice po359 a.its.length pc360)) (off := 0) rfl ky h378 1 rfl ky ky ky ky ky ky ?_
     intro w386 h385
     refine ⟨_, .inl ky, h385, ?_⟩
     refine wx_one 9 ky ?_
     refine ex_puts (d := anC b (.slice po379 b.li.ds.length pc380) (.slice po381 b.its.length pc382)) (c' := anC b (.slice po379 b.li.ds.length pc380) (.slice po381 b.its.length pc382)) (off := 0) rfl ky h385 0 rfl ky ky ky ky ky ky ?_
     intro w390 h389
     refine ⟨_, .inl ky, h389, ?_⟩
     refine wx_end fun w391 hbx _ => ?_
     have h392 := HA.keep _ _ h389 hbx
     exact ⟨La348, Lb349, po357, pc358, po359, pc360, La370, Lb371, po379, pc380, po381, pc382, q243, q338, by kernel_rfl, hRa350, hRb351, hRa372, hRb373, h392⟩}}
   {refine ex_makeT (c := #[iN .i64 0, iN .i64 0, iN .i64 0, .string ({ data := #[] }), .slice none 0 0, .string ({ data := #[] }), iN .i64 0, iN .i64 0, .string ({ data := #[] }), .string ({ data := #[] }), iN .i64 0, .string ({ data := #[] }), .string ({ data := #[] }), iN .i64 0, .string ({ data := #[] }), .slice none 0 0, .string ({ data := #[] }), iN .i64 0]) rfl ky h4 47 (fun q => .pointer (some ⟨q, 0, none⟩)) (fun _ => ky) ?_
    intro q395 w393 (h394 : HA (bs w) [(q395, 47, #[iN .i64 0, iN .i64 0, iN .i64 0, .string ({ data := #[] }), .slice none 0 0, .string ({ data := #[] }), iN .i64 0, iN .i64 0, .string ({ data := #[] }), .string ({ data := #[] }), iN .i64 0, .string ({ data := #[] }), .string ({ data := #[] }), iN .i64 0, .string ({ data := #[] }), .slice none 0 0, .string ({ data := #[] }), iN .i64 0]), (q1, 48, PR)] w393)
    refine ⟨_, .inr rfl, (HA.sub h394 (List.Sublist.cons _ (List.Sublist.cons_cons _ (List.Sublist.refl _)))), ?_⟩
    refine wx_two 2 6 ky ?_ ?_
    {refine ex_callx rfl ky h394 enter21 #[.agg (anC x (.slice o1 x.li.ds.length k1) (.slice p1 x.its.length m1))] ky (fun w410 h411 => shn_E x (hP1.keep h411.old.old) (hQ1.keep h411.old.old) hk1 hm1 ha) ?_
     rintro w410 h411 _ w412 ⟨sv403, so404, La405, Lb406, rfl, hRa407, hRb408, h409⟩
     have h413 := HA.join_n 2 h411 h409
     obtain ⟨po414, pc415, hvpo414⟩ := hRa407.form
     subst hvpo414
     obtain ⟨po416, pc417, hvpo416⟩ := hRb408.form
     subst hvpo416
     refine ⟨_, rfl, _, .inr rfl, (HA.sub h413 (List.Sublist.cons _ (List.Sublist.cons_cons _ (List.nil_sublist _)))), ?_⟩
     refine wx_two 5 6 ky ?_ ?_
     {refine ex_callx rfl ky h413 enter21 #[.agg (anC y (.slice o2 y.li.ds.length k2) (.slice p2 y.its.length m2))] ky (fun w432 h433 => shn_E y (hP2.keep h433.old.old) (hQ2.keep h433.old.old) hk2 hm2 hb) ?_
      rintro w432 h433 _ w434 ⟨sv425, so426, La427, Lb428, rfl, hRa429, hRb430, h431⟩
      have h435 := HA.join_n 2 h433 h431
      obtain ⟨po436, pc437, hvpo436⟩ := hRa429.form
      subst hvpo436
      obtain ⟨po438, pc439, hvpo438⟩ := hRb430.form
      subst hvpo438
      refine ⟨_, rfl, _, .inl ky, h435, ?_⟩
      refine wx_one 6 ky ?_
      refine ex_makeT (c := #[iN .i64 0, iN .i64 0, iN .i64 0, .string ({ data := #[] }), .slice none 0 0, .string ({ data := #[] }), iN .i64 0, iN .i64 0, .string ({ data := #[] }), .string ({ data := #[] }), iN .i64 0, .string ({ data := #[] }), .string ({ data := #[] }), iN .i64 0, .string ({ data := #[] }), .slice none 0 0, .string ({ data := #[] }), iN .i64 0]) rfl ky h435 47 (fun q => .pointer (some ⟨q, 0, none⟩)) (fun _ => ky) ?_
      intro q442 w440 (h441 : HA (bs w) ((q442, 47, #[iN .i64 0, iN .i64 0, iN .i64 0, .string ({ data := #[] }), .slice none 0 0, .string ({ data := #[] }), iN .i64 0, iN .i64 0, .string ({ data := #[] }), .string ({ data := #[] }), iN .i64 0, .string ({ data := #[] }), .string ({ data := #[] }), iN .i64 0, .string ({ data := #[] }), .slice none 0 0, .string ({ data := #[] }), iN .i64 0]) :: (q395, 47, #[iN .i64 0, iN .i64 0, iN .i64 0, .string ({ data := #[] }), .slice none 0 0, .string ({ data := #[] }), iN .i64 0, iN .i64 0, .string ({ data := #[] }), .string ({ data := #[] }), iN .i64 0, .string ({ data := #[] }), .string ({ data := #[] }), iN .i64 0, .string ({ data := #[] }), .slice none 0 0, .string ({ data := #[] }), iN .i64 0]) :: (q1, 48, PR) :: ((La427 ++ (Lb428 ++ [])) ++ ((La405 ++ (Lb406 ++ [])) ++ []))) w440)
      refine ⟨_, .inr rfl, (HA.sub h441 (List.Sublist.cons _ (List.Sublist.cons_cons _ (List.Sublist.cons_cons _ (List.Sublist.refl _))))), ?_⟩
      refine wx_one 8 ky ?_
      refine ex_puts (d := anC a (.slice po414 a.li.ds.length pc415) (.slice po416 a.its.length pc417)) (c' := anC a (.slice po414 a.li.ds.length pc415) (.slice po416 a.its.length pc417)) (off := 0) rfl ky h441 0 rfl ky ky ky ky ky ky ?_
      intro w446 h445
      refine ⟨_, .inl ky, h445, ?_⟩
      refine wx_one 9 ky ?_
      refine ex_puts (d := anC b (.slice po436 b.li.ds.length pc437) (.slice po438 b.its.length pc439)) (c' := anC b (.slice po436 b.li.ds.length pc437) (.slice po438 b.its.length pc439)) (off := 0) rfl ky h445 1 rfl ky ky ky ky ky ky ?_
      intro w450 h449
      refine ⟨_, .inl ky, h449, ?_⟩
      refine wx_end fun w451 hbx _ => ?_
      have h452 := HA.keep _ _ h449 hbx
      exact ⟨La405, Lb406, po414, pc415, po416, pc417, La427, Lb428, po436, pc437, po438, pc439, q442, q395, by kernel_rfl, hRa407, hRb408, hRa429, hRb430, (HA.perm h452 (List.Perm.swap _ _ _))⟩}
     {refine ex_makeT (c := #[iN .i64 0, iN .i64 0, iN .i64 0, .string ({ data := #[] }), .slice none 0 0, .string ({ data := #[] }), iN .i64 0, iN .i64 0, .string ({ data := #[] }), .string ({ data := #[] }), iN .i64 0, .string ({ data := #[] }), .string ({ data := #[] }), iN .i64 0, .string ({ data := #[] }), .slice none 0 0, .string ({ data := #[] }), iN .i64 0]) rfl ky h413 47 (fun q => .pointer (some ⟨q, 0, none⟩)) (fun _ => ky) ?_
      intro q455 w453 (h454 : HA (bs w) ((q455, 47, #[iN .i64 0, iN .i64 0, iN .i64 0, .string ({ data := #[] }), .slice none 0 0, .string ({ data := #[] }), iN .i64 0, iN .i64 0, .string ({ data := #[] }), .string ({ data := #[] }), iN .i64 0, .string ({ data := #[] }), .string ({ data := #[] }), iN .i64 0, .string ({ data := #[] }), .slice none 0 0, .string ({ data := #[] }), iN .i64 0]) :: (q395, 47, #[iN .i64 0, iN .i64 0, iN .i64 0, .string ({ data := #[] }), .slice none 0 0, .string ({ data := #[] }), iN .i64 0, iN .i64 0, .string ({ data := #[] }), .string ({ data := #[] }), iN .i64 0, .string ({ data := #[] }), .string ({ data := #[] }), iN .i64 0, .string ({ data := #[] }), .slice none 0 0, .string ({ data := #[] }), iN .i64 0]) :: (q1, 48, PR) :: ((La405 ++ (Lb406 ++ [])) ++ [])) w453)
      refine ⟨_, .inr rfl, (HA.sub h454 (List.Sublist.cons _ (List.Sublist.cons _ (List.Sublist.cons_cons _ (List.nil_sublist _))))), ?_⟩
      refine wx_one 5 ky ?_
      refine ex_callx rfl ky h454 enter21 #[.agg (anC y (.slice o2 y.li.ds.length k2) (.slice p2 y.its.length m2))] ky (fun w470 h471 => shn_E y (hP2.keep h471.old.old) (hQ2.keep h471.old.old) hk2 hm2 hb) ?_
      rintro w470 h471 _ w472 ⟨sv463, so464, La465, Lb466, rfl, hRa467, hRb468, h469⟩
      have h473 := HA.join_n 3 h471 h469
      obtain ⟨po474, pc475, hvpo474⟩ := hRa467.form
      subst hvpo474
      obtain ⟨po476, pc477, hvpo476⟩ := hRb468.form
      subst hvpo476
      refine ⟨_, rfl, _, .inl ky, h473, ?_⟩
      refine wx_one 8 ky ?_
      refine ex_puts (d := anC a (.slice po414 a.li.ds.length pc415) (.slice po416 a.its.length pc417)) (c' := anC a (.slice po414 a.li.ds.length pc415) (.slice po416 a.its.length pc417)) (off := 0) rfl ky h473 0 rfl ky ky ky ky ky ky ?_
      intro w481 h480
      refine ⟨_, .inl ky, h480, ?_⟩
      refine wx_one 9 ky ?_
      refine ex_puts (d := anC b (.slice po474 b.li.ds.length pc475) (.slice po476 b.its.length pc477)) (c' := anC b (.slice po474 b.li.ds.length pc475) (.slice po476 b.its.length pc477)) (off := 0) rfl ky h480 1 rfl ky ky ky ky ky ky ?_
      intro w485 h484
      refine ⟨_, .inl ky, h484, ?_⟩
      refine wx_end fun w486 hbx _ => ?_
      have h487 := HA.keep _ _ h484 hbx
      exact ⟨La405, Lb406, po414, pc415, po416, pc417, La465, Lb466, po474, pc475, po476, pc477, q455, q395, by kernel_rfl, hRa407, hRb408, hRa467, hRb468, (HA.perm h487 (List.Perm.swap _ _ _))⟩}}
    {refine ex_makeT (c := #[iN .i64 0, iN .i64 0, iN .i64 0, .string ({ data := #[] }), .slice none 0 0, .string ({ data := #[] }), iN .i64 0, iN .i64 0, .string ({ data := #[] }), .string ({ data := #[] }), iN .i64 0, .string ({ data := #[] }), .string ({ data := #[] }), iN .i64 0, .string ({ data := #[] }), .slice none 0 0, .string ({ data := #[] }), iN .i64 0]) rfl ky h394 47 (fun q => .pointer (some ⟨q, 0, none⟩)) (fun _ => ky) ?_
     intro q490 w488 (h489 : HA (bs w) [(q490, 47, #[iN .i64 0, iN .i64 0, iN .i64 0, .string ({ data := #[] }), .slice none 0 0, .string ({ data := #[] }), iN .i64 0, iN .i64 0, .string ({ data := #[] }), .string ({ data := #[] }), iN .i64 0, .string ({ data := #[] }), .string ({ data := #[] }), iN .i64 0, .string ({ data := #[] }), .slice none 0 0, .string ({ data := #[] }), iN .i64 0]), (q395, 47, #[iN .i64 0, iN .i64 0, iN .i64 0, .string ({ data := #[] }), .slice none 0 0, .string ({ data := #[] }), iN .i64 0, iN .i64 0, .string ({ data := #[] }), .string ({ data := #[] }), iN .i64 0, .string ({ data := #[] }), .string ({ data := #[] }), iN .i64 0, .string ({ data := #[] }), .slice none 0 0, .string ({ data := #[] }), iN .i64 0]), (q1, 48, PR)] w488)
     refine ⟨_, .inr rfl, (HA.sub h489 (List.Sublist.cons _ (List.Sublist.cons _ (List.Sublist.cons_cons _ (List.Sublist.refl _))))), ?_⟩
     refine wx_one 2 ky ?_
     refine ex_callx rfl ky h489 enter21 #[.agg (anC x (.slice o1 x.li.ds.length k1) (.slice p1 x.its.length m1))] ky (fun w505 h506 => shn_E x (hP1.keep h506.old.old) (hQ1.keep h506.old.old) hk1 hm1 ha) ?_
     rintro w505 h506 _ w507 ⟨sv498, so499, La500, Lb501, rfl, hRa502, hRb503, h504⟩
     have h508 := HA.join_n 3 h506 h504
     obtain ⟨po509, pc510, hvpo509⟩ := hRa502.form
     subst hvpo509
     obtain ⟨po511, pc512, hvpo511⟩ := hRb503.form
     subst hvpo511
     refine ⟨_, rfl, _, .inr rfl, (HA.sub h508 (List.Sublist.cons _ (List.Sublist.cons _ (List.Sublist.cons_cons _ (List.nil_sublist _))))), ?_⟩
     refine wx_one 5 ky ?_
     refine ex_callx rfl ky h508 enter21 #[.agg (anC y (.slice o2 y.li.ds.length k2) (.slice p2 y.its.length m2))] ky (fun w527 h528 => shn_E y (hP2.keep h528.old.old) (hQ2.keep h528.old.old) hk2 hm2 hb) ?_
     rintro w527 h528 _ w529 ⟨sv520, so521, La522, Lb523, rfl, hRa524, hRb525, h526⟩
     have h530 := HA.join_n 3 h528 h526
     obtain ⟨po531, pc532, hvpo531⟩ := hRa524.form
     subst hvpo531
     obtain ⟨po533, pc534, hvpo533⟩ := hRb525.form
     subst hvpo533
     refine ⟨_, rfl, _, .inl ky, h530, ?_⟩
     refine wx_one 8 ky ?_
     refine ex_puts (d := anC a (.slice po509 a.li.ds.length pc510) (.slice po511 a.its.length pc512)) (c' := anC a (.slice po509 a.li.ds.length pc510) (.slice po511 a.its.length pc512)) (off := 0) rfl ky h530 0 rfl ky ky ky ky ky ky ?_
     intro w538 h537
     refine ⟨_, .inl ky, h537, ?_⟩
     refine wx_one 9 ky ?_
     refine ex_puts (d := anC b (.slice po531 b.li.ds.length pc532) (.slice po533 b.its.length pc534)) (c' := anC b (.slice po531 b.li.ds.length pc532) (.slice po533 b.its.length pc534)) (off := 0) rfl ky h537 1 rfl ky ky ky ky ky ky ?_
     intro w542 h541
     refine ⟨_, .inl ky, h541, ?_⟩
     refine wx_end fun w543 hbx _ => ?_
     have h544 := HA.keep _ _ h541 hbx
     exact ⟨La500, Lb501, po509, pc510, po511, pc512, La522, Lb523, po531, pc532, po533, pc534, q490, q395, by kernel_rfl, hRa502, hRb503, hRa524, hRb525, (HA.perm h544 (List.Perm.swap _ _ _))⟩}}}
  {rintro _ w545 ⟨La28, Lb29, po37, pc38, po39, pc40, La50, Lb51, po59, pc60, po61, pc62, q65, q68, rfl, hRa30, hRb31, hRa52, hRb53, h546⟩
   refine then_at rfl (wp_seq (wl_region ?_))
   refine zv (iN .u64 id) (wl_load h546 1 rfl ky ky Try.underlying47 rfl ky (zl (.tuple #[.string p, iN .i64 ep]) h546 enter22 #[iN .u64 id, .agg (anC a (.slice po37 a.li.ds.length pc38) (.slice po39 a.its.length pc40))] (ea_E a (At.row hRa30 (fun y hy => h546.blk y (by simp [hy]))) (At.row hRb31 (fun y hy => h546.blk y (by simp [hy]))) (Nat.le_trans fa.1 (by decide)) (Nat.le_trans fa.2 (by decide)) hEa) (fun w547 h548 => (zv (.tuple #[.string p, iN .i64 ep]) (zv (.string p) (zv (iN .i64 ep) (zv (.string p) (zv (iN .i64 ep) (wl_nil (then_at rfl (wp_seq (wl_region (zv (iN .u64 id) (wl_load h548 1 rfl ky ky Try.underlying47 rfl ky (zl (.tuple #[.string p, iN .i64 ep]) h548 enter23 #[iN .u64 id, .agg (anC a (.slice po37 a.li.ds.length pc38) (.slice po39 a.its.length pc40))] (rea_E a (At.row hRa30 (fun y hy => h548.blk y (by simp [hy]))) (At.row hRb31 (fun y hy => h548.blk y (by simp [hy]))) (Nat.le_trans fa.1 (by decide)) (Nat.le_trans fa.2 (by decide)) hEa) (fun w549 h550 => (zv (.tuple #[.string p, iN .i64 ep]) (zv (.string p) (zv (iN .i64 ep) (zv (.string p) (zv (iN .i64 ep) (wl_nil (then_at rfl (wp_seq (wp_seq ?_)))))))))))))))))))))))))
   refine wp_meet (fun AQ w' => ∃ (_ : Unit) (u551 : Nat → Value), AQ = ⟨(iN .u64 id :: .agg PR :: .string s :: un :: pt q1 :: un :: .bool false :: pt q65 :: pt q68 :: .string p :: iN .i64 ep :: .string p :: iN .i64 ep :: un :: un :: un :: un :: pt q1 :: .agg (anC x (.slice o1 x.li.ds.length k1) (.slice p1 x.its.length m1)) :: .agg (anC a (.slice po37 a.li.ds.length pc38) (.slice po39 a.its.length pc40)) :: .pointer (some ⟨q1, 18, none⟩) :: .agg (anC y (.slice o2 y.li.ds.length k2) (.slice p2 y.its.length m2)) :: .agg (anC b (.slice po59 b.li.ds.length pc60) (.slice po61 b.its.length pc62)) :: .tuple #[.string p, iN .i64 ep] :: iN .u64 id :: .agg (anC a (.slice po37 a.li.ds.length pc38) (.slice po39 a.its.length pc40)) :: .tuple #[.string p, iN .i64 ep] :: .string p :: iN .i64 ep :: .tuple #[.string p, iN .i64 ep] :: iN .u64 id :: .agg (anC a (.slice po37 a.li.ds.length pc38) (.slice po39 a.its.length pc40)) :: .tuple #[.string p, iN .i64 ep] :: .string p :: iN .i64 ep :: u551 35 :: u551 36 :: u551 37 :: u551 38 :: u551 39 :: u551 40 :: u551 41 :: u551 42 :: u551 43 :: u551 44 :: u551 45 :: u551 46 :: u551 47 :: u551 48 :: u551 49 :: u551 50 :: u551 51 :: u551 52 :: u551 53 :: u551 54 :: u551 55 :: u551 56 :: u551 57 :: .bool false :: List.replicate 33 un).toArray, []⟩ ∧ True ∧ HA (bs w) ((q68, 47, anC b (.slice po59 b.li.ds.length pc60) (.slice po61 b.its.length pc62)) :: (q65, 47, anC a (.slice po37 a.li.ds.length pc38) (.slice po39 a.its.length pc40)) :: (q1, 48, PR) :: ((La50 ++ (Lb51 ++ [])) ++ ((La28 ++ (Lb29 ++ [])) ++ []))) w') ?_ ?_
   {rcases q552 : sameA a b with _ | _
    {refine wp_region_wx (HA (bs w) ((q68, 47, anC b (.slice po59 b.li.ds.length pc60) (.slice po61 b.its.length pc62)) :: (q65, 47, anC a (.slice po37 a.li.ds.length pc38) (.slice po39 a.its.length pc40)) :: (q1, 48, PR) :: ((La50 ++ (Lb51 ++ [])) ++ ((La28 ++ (Lb29 ++ [])) ++ [])))) (fun AQ w' => ∃ (La572 : BL) (Lb573 : BL) (po581 : Option Addr) (pc582 : Nat) (po583 : Option Addr) (pc584 : Nat), AQ = ⟨(iN .u64 id :: .agg PR :: .string s :: un :: pt q1 :: un :: .bool false :: pt q65 :: pt q68 :: .string p :: iN .i64 ep :: .string p :: iN .i64 ep :: un :: un :: un :: un :: pt q1 :: .agg (anC x (.slice o1 x.li.ds.length k1) (.slice p1 x.its.length m1)) :: .agg (anC a (.slice po37 a.li.ds.length pc38) (.slice po39 a.its.length pc40)) :: .pointer (some ⟨q1, 18, none⟩) :: .agg (anC y (.slice o2 y.li.ds.length k2) (.slice p2 y.its.length m2)) :: .agg (anC b (.slice po59 b.li.ds.length pc60) (.slice po61 b.its.length pc62)) :: .tuple #[.string p, iN .i64 ep] :: iN .u64 id :: .agg (anC a (.slice po37 a.li.ds.length pc38) (.slice po39 a.its.length pc40)) :: .tuple #[.string p, iN .i64 ep] :: .string p :: iN .i64 ep :: .tuple #[.string p, iN .i64 ep] :: iN .u64 id :: .agg (anC a (.slice po37 a.li.ds.length pc38) (.slice po39 a.its.length pc40)) :: .tuple #[.string p, iN .i64 ep] :: .string p :: iN .i64 ep :: .string p :: .string p :: .bool false :: .bool false :: iN .i64 ep :: iN .i64 ep :: .bool false :: .bool false :: .bool false :: .agg (anC a (.slice po37 a.li.ds.length pc38) (.slice po39 a.its.length pc40)) :: .agg (anC b (.slice po59 b.li.ds.length pc60) (.slice po61 b.its.length pc62)) :: .bool false :: .agg (anC a (.slice po37 a.li.ds.length pc38) (.slice po39 a.its.length pc40)) :: .agg (anC b (.slice po59 b.li.ds.length pc60) (.slice po61 b.its.length pc62)) :: .bool false :: .bool false :: .bool false :: .bool false :: .agg (anC a (.slice po37 a.li.ds.length pc38) (.slice po39 a.its.length pc40)) :: .agg (anC a (.slice po37 a.li.ds.length pc38) (.slice po39 a.its.length pc40)) :: .agg (anC a (.slice po581 a.li.ds.length pc582) (.slice po583 a.its.length pc584)) :: .bool true :: .bool false :: .bool false :: List.replicate 33 un).toArray, []⟩ ∧ Row 67 3 (.slice po581 a.li.ds.length pc582) a.li.ds.length (mcl a.li.ds) La572 ∧ Row 62 4 (.slice po583 a.its.length pc584) a.its.length (icl a.its) Lb573 ∧ HA (bs w) ((q68, 47, anC b (.slice po59 b.li.ds.length pc60) (.slice po61 b.its.length pc62)) :: (q65, 47, anC a (.slice po37 a.li.ds.length pc38) (.slice po39 a.its.length pc40)) :: (q1, 48, PR) :: ((La572 ++ (Lb573 ++ [])) ++ ((La50 ++ (Lb51 ++ [])) ++ ((La28 ++ (Lb29 ++ [])) ++ [])))) w') 24 ky ky ky ky ky (h550.drew) ?_ ?_
     {have h553 := h550.drew
      refine zp 0 (.string p) (zp 1 (.string p) (zq 2 (.bool false) rfl (fun _ => (run_nes (s := p) (t := p) ky ky false (((decide_eq_true rfl)).trans rfl))) (zp 3 (.bool false) (zp 4 (iN .i64 ep) (zp 5 (iN .i64 ep) (zq 6 (.bool false) rfl (fun _ => (run_nei (k := .i64) (a := ep) (b := ep) ky ky false (decide_eq_false (fun h => h rfl)))) (zp 7 (.bool false) (zp 8 (.bool false) (zx 9 (.agg (anC a (.slice po37 a.li.ds.length pc38) (.slice po39 a.its.length pc40))) rfl (fun w' h' => run_load_blk ky (h'.get 1 rfl) Try.underlying47 rfl ky) (zx 10 (.agg (anC b (.slice po59 b.li.ds.length pc60) (.slice po61 b.its.length pc62))) rfl (fun w' h' => run_load_blk ky (h'.get 0 rfl) Try.underlying47 rfl ky) (zc 11 (.bool false) rfl enter24 #[.agg (anC a (.slice po37 a.li.ds.length pc38) (.slice po39 a.its.length pc40)), .agg (anC b (.slice po59 b.li.ds.length pc60) (.slice po61 b.its.length pc62))] (fun w' h' => ((sma_any a b (At.row hRa30 (fun y hy => h'.blk y (by simp [hy]))) (At.row hRb31 (fun y hy => h'.blk y (by simp [hy]))) (At.row hRa52 (fun y hy => h'.blk y (by simp [hy]))) (At.row hRb53 (fun y hy => h'.blk y (by simp [hy]))) (Nat.le_trans fa.1 (by decide)) (Nat.le_trans fa.2 (by decide))).mono fun _ _ hh => ⟨by rw [hh.1, q552], hh.2⟩)) (zx 12 (.agg (anC a (.slice po37 a.li.ds.length pc38) (.slice po39 a.its.length pc40))) rfl (fun w' h' => run_load_blk ky (h'.get 1 rfl) Try.underlying47 rfl ky) (zx 13 (.agg (anC b (.slice po59 b.li.ds.length pc60) (.slice po61 b.its.length pc62))) rfl (fun w' h' => run_load_blk ky (h'.get 0 rfl) Try.underlying47 rfl ky) (zc 14 (.bool false) rfl enter25 #[.agg (anC a (.slice po37 a.li.ds.length pc38) (.slice po39 a.its.length pc40)), .agg (anC b (.slice po59 b.li.ds.length pc60) (.slice po61 b.its.length pc62))] (fun w' h' => ((rsma_any a b (At.row hRa30 (fun y hy => h'.blk y (by simp [hy]))) (At.row hRb31 (fun y hy => h'.blk y (by simp [hy]))) (At.row hRa52 (fun y hy => h'.blk y (by simp [hy]))) (At.row hRb53 (fun y hy => h'.blk y (by simp [hy]))) (Nat.le_trans fa.1 (by decide)) (Nat.le_trans fa.2 (by decide))).mono fun _ _ hh => ⟨by rw [hh.1, q552], hh.2⟩)) (zp 15 (.bool false) (zp 16 (.bool false) (zp 17 (.bool false) (zx 19 (.agg (anC a (.slice po37 a.li.ds.length pc38) (.slice po39 a.its.length pc40))) rfl (fun w' h' => run_load_blk ky (h'.get 1 rfl) Try.underlying47 rfl ky) ?_))))))))))))))))))
      refine wx_two 18 20 ky ?_ ?_
      {refine ex_doT rfl ky h553 fun w561 h562 => ⟨.agg (anC a (.slice po37 a.li.ds.length pc38) (.slice po39 a.its.length pc40)), w561, run_load_blk ky (h562.get 1 rfl) Try.underlying47 rfl ky, ?_⟩
       refine ⟨_, .inr rfl, (HA.sub h562 (List.Sublist.cons_cons _ (List.Sublist.cons_cons _ (List.Sublist.cons_cons _ (List.Sublist.refl _))))), ?_⟩
       refine wx_one 20 ky ?_
       refine ex_callx rfl ky h562 enter21 #[.agg (anC a (.slice po37 a.li.ds.length pc38) (.slice po39 a.its.length pc40))] ky (fun w577 h578 => shn_E a (At.row hRa30 (fun y hy => h578.blk y (by simp [hy]))) (At.row hRb31 (fun y hy => h578.blk y (by simp [hy]))) (Row.cap hRa30) (Row.cap hRb31) haa) ?_
       rintro w577 h578 _ w579 ⟨sv570, so571, La572, Lb573, rfl, hRa574, hRb575, h576⟩
       have h580 := HA.join_n 3 h578 h576
       obtain ⟨po581, pc582, hvpo581⟩ := hRa574.form
       subst hvpo581
       obtain ⟨po583, pc584, hvpo583⟩ := hRb575.form
       subst hvpo583
       refine ⟨_, rfl, _, .inl ky, h580, ?_⟩
       refine zc 21 (.bool true) rfl enter24 #[.agg (anC a (.slice po37 a.li.ds.length pc38) (.slice po39 a.its.length pc40)), .agg (anC a (.slice po581 a.li.ds.length pc582) (.slice po583 a.its.length pc584))] (fun w' h' => ((sma_any a a (At.row hRa30 (fun y hy => h'.blk y (by simp [hy]))) (At.row hRb31 (fun y hy => h'.blk y (by simp [hy]))) (At.row hRa574 (fun y hy => h'.blk y (by simp [hy]))) (At.row hRb575 (fun y hy => h'.blk y (by simp [hy]))) (Nat.le_trans fa.1 (by decide)) (Nat.le_trans fa.2 (by decide))).mono fun _ _ hh => ⟨by rw [hh.1, hsaa], hh.2⟩)) (zp 22 (.bool false) (zp 23 (.bool false) ?_))
       refine wx_end fun w585 hbx _ => ?_
       have h586 := HA.keep _ _ h580 hbx
       exact ⟨La572, Lb573, po581, pc582, po583, pc584, by kernel_rfl, hRa574, hRb575, h586⟩}
      {refine ex_callx rfl ky h553 enter21 #[.agg (anC a (.slice po37 a.li.ds.length pc38) (.slice po39 a.its.length pc40))] ky (fun w594 h595 => shn_E a (At.row hRa30 (fun y hy => h595.blk y (by simp [hy]))) (At.row hRb31 (fun y hy => h595.blk y (by simp [hy]))) (Row.cap hRa30) (Row.cap hRb31) haa) ?_
       rintro w594 h595 _ w596 ⟨sv587, so588, La589, Lb590, rfl, hRa591, hRb592, h593⟩
       have h597 := HA.join_n 3 h595 h593
       obtain ⟨po598, pc599, hvpo598⟩ := hRa591.form
       subst hvpo598
       obtain ⟨po600, pc601, hvpo600⟩ := hRb592.form
       subst hvpo600
       refine ⟨_, rfl, _, .inl ky, h597, ?_⟩
       refine zx 18 (.agg (anC a (.slice po37 a.li.ds.length pc38) (.slice po39 a.its.length pc40))) rfl (fun w' h' => run_load_blk ky (h'.get 1 rfl) Try.underlying47 rfl ky) (zc 21 (.bool true) rfl enter24 #[.agg (anC a (.slice po37 a.li.ds.length pc38) (.slice po39 a.its.length pc40)), .agg (anC a (.slice po598 a.li.ds.length pc599) (.slice po600 a.its.length pc601))] (fun w' h' => ((sma_any a a (At.row hRa30 (fun y hy => h'.blk y (by simp [hy]))) (At.row hRb31 (fun y hy => h'.blk y (by simp [hy]))) (At.row hRa591 (fun y hy => h'.blk y (by simp [hy]))) (At.row hRb592 (fun y hy => h'.blk y (by simp [hy]))) (Nat.le_trans fa.1 (by decide)) (Nat.le_trans fa.2 (by decide))).mono fun _ _ hh => ⟨by rw [hh.1, hsaa], hh.2⟩)) (zp 22 (.bool false) (zp 23 (.bool false) ?_)))
       refine wx_end fun w602 hbx _ => ?_
       have h603 := HA.keep _ _ h597 hbx
       exact ⟨La589, Lb590, po598, pc599, po600, pc601, by kernel_rfl, hRa591, hRb592, h603⟩}}
     {rintro _ w604 ⟨La572, Lb573, po581, pc582, po583, pc584, rfl, hRa574, hRb575, h605⟩
      exact then_I ⟨(), exu ky ⟨trivial, (h605.sub (List.Sublist.cons_cons _ (List.Sublist.cons_cons _ (List.Sublist.cons_cons _ (List.sublist_append_right _ _)))))⟩⟩}}
    refine wp_region_wxh h550 (fun AQ w' => ∃ (La625 : BL) (Lb626 : BL) (po634 : Option Addr) (pc635 : Nat) (po636 : Option Addr) (pc637 : Nat), AQ = ⟨(iN .u64 id :: .agg PR :: .string s :: un :: pt q1 :: un :: .bool false :: pt q65 :: pt q68 :: .string p :: iN .i64 ep :: .string p :: iN .i64 ep :: un :: un :: un :: un :: pt q1 :: .agg (anC x (.slice o1 x.li.ds.length k1) (.slice p1 x.its.length m1)) :: .agg (anC a (.slice po37 a.li.ds.length pc38) (.slice po39 a.its.length pc40)) :: .pointer (some ⟨q1, 18, none⟩) :: .agg (anC y (.slice o2 y.li.ds.length k2) (.slice p2 y.its.length m2)) :: .agg (anC b (.slice po59 b.li.ds.length pc60) (.slice po61 b.its.length pc62)) :: .tuple #[.string p, iN .i64 ep] :: iN .u64 id :: .agg (anC a (.slice po37 a.li.ds.length pc38) (.slice po39 a.its.length pc40)) :: .tuple #[.string p, iN .i64 ep] :: .string p :: iN .i64 ep :: .tuple #[.string p, iN .i64 ep] :: iN .u64 id :: .agg (anC a (.slice po37 a.li.ds.length pc38) (.slice po39 a.its.length pc40)) :: .tuple #[.string p, iN .i64 ep] :: .string p :: iN .i64 ep :: .string p :: .string p :: .bool false :: .bool false :: iN .i64 ep :: iN .i64 ep :: .bool false :: .bool false :: .bool false :: .agg (anC a (.slice po37 a.li.ds.length pc38) (.slice po39 a.its.length pc40)) :: .agg (anC b (.slice po59 b.li.ds.length pc60) (.slice po61 b.its.length pc62)) :: .bool true :: .agg (anC a (.slice po37 a.li.ds.length pc38) (.slice po39 a.its.length pc40)) :: .agg (anC b (.slice po59 b.li.ds.length pc60) (.slice po61 b.its.length pc62)) :: .bool true :: .bool false :: .bool false :: .bool false :: .agg (anC a (.slice po37 a.li.ds.length pc38) (.slice po39 a.its.length pc40)) :: .agg (anC a (.slice po37 a.li.ds.length pc38) (.slice po39 a.its.length pc40)) :: .agg (anC a (.slice po634 a.li.ds.length pc635) (.slice po636 a.its.length pc637)) :: .bool true :: .bool false :: .bool false :: List.replicate 33 un).toArray, []⟩ ∧ Row 67 3 (.slice po634 a.li.ds.length pc635) a.li.ds.length (mcl a.li.ds) La625 ∧ Row 62 4 (.slice po636 a.its.length pc637) a.its.length (icl a.its) Lb626 ∧ HA (bs w) ((q68, 47, anC b (.slice po59 b.li.ds.length pc60) (.slice po61 b.its.length pc62)) :: (q65, 47, anC a (.slice po37 a.li.ds.length pc38) (.slice po39 a.its.length pc40)) :: (q1, 48, PR) :: ((La625 ++ (Lb626 ++ [])) ++ ((La50 ++ (Lb51 ++ [])) ++ ((La28 ++ (Lb29 ++ [])) ++ [])))) w') 24 ky ky ky ky ky ?_ ?_
    {have h606 := h550.drew
     refine zp 0 (.string p) (zp 1 (.string p) (zq 2 (.bool false) rfl (fun _ => (run_nes (s := p) (t := p) ky ky false (((decide_eq_true rfl)).trans rfl))) (zp 3 (.bool false) (zp 4 (iN .i64 ep) (zp 5 (iN .i64 ep) (zq 6 (.bool false) rfl (fun _ => (run_nei (k := .i64) (a := ep) (b := ep) ky ky false (decide_eq_false (fun h => h rfl)))) (zp 7 (.bool false) (zp 8 (.bool false) (zx 9 (.agg (anC a (.slice po37 a.li.ds.length pc38) (.slice po39 a.its.length pc40))) rfl (fun w' h' => run_load_blk ky (h'.get 1 rfl) Try.underlying47 rfl ky) (zx 10 (.agg (anC b (.slice po59 b.li.ds.length pc60) (.slice po61 b.its.length pc62))) rfl (fun w' h' => run_load_blk ky (h'.get 0 rfl) Try.underlying47 rfl ky) (zc 11 (.bool true) rfl enter24 #[.agg (anC a (.slice po37 a.li.ds.length pc38) (.slice po39 a.its.length pc40)), .agg (anC b (.slice po59 b.li.ds.length pc60) (.slice po61 b.its.length pc62))] (fun w' h' => ((sma_any a b (At.row hRa30 (fun y hy => h'.blk y (by simp [hy]))) (At.row hRb31 (fun y hy => h'.blk y (by simp [hy]))) (At.row hRa52 (fun y hy => h'.blk y (by simp [hy]))) (At.row hRb53 (fun y hy => h'.blk y (by simp [hy]))) (Nat.le_trans fa.1 (by decide)) (Nat.le_trans fa.2 (by decide))).mono fun _ _ hh => ⟨by rw [hh.1, q552], hh.2⟩)) (zx 12 (.agg (anC a (.slice po37 a.li.ds.length pc38) (.slice po39 a.its.length pc40))) rfl (fun w' h' => run_load_blk ky (h'.get 1 rfl) Try.underlying47 rfl ky) (zx 13 (.agg (anC b (.slice po59 b.li.ds.length pc60) (.slice po61 b.its.length pc62))) rfl (fun w' h' => run_load_blk ky (h'.get 0 rfl) Try.underlying47 rfl ky) (zc 14 (.bool true) rfl enter25 #[.agg (anC a (.slice po37 a.li.ds.length pc38) (.slice po39 a.its.length pc40)), .agg (anC b (.slice po59 b.li.ds.length pc60) (.slice po61 b.its.length pc62))] (fun w' h' => ((rsma_any a b (At.row hRa30 (fun y hy => h'.blk y (by simp [hy]))) (At.row hRb31 (fun y hy => h'.blk y (by simp [hy]))) (At.row hRa52 (fun y hy => h'.blk y (by simp [hy]))) (At.row hRb53 (fun y hy => h'.blk y (by simp [hy]))) (Nat.le_trans fa.1 (by decide)) (Nat.le_trans fa.2 (by decide))).mono fun _ _ hh => ⟨by rw [hh.1, q552], hh.2⟩)) (zp 15 (.bool false) (zp 16 (.bool false) (zp 17 (.bool false) (zx 19 (.agg (anC a (.slice po37 a.li.ds.length pc38) (.slice po39 a.its.length pc40))) rfl (fun w' h' => run_load_blk ky (h'.get 1 rfl) Try.underlying47 rfl ky) ?_))))))))))))))))))
     refine wx_two 18 20 ky ?_ ?_
     {refine ex_doT rfl ky h606 fun w614 h615 => ⟨.agg (anC a (.slice po37 a.li.ds.length pc38) (.slice po39 a.its.length pc40)), w614, run_load_blk ky (h615.get 1 rfl) Try.underlying47 rfl ky, ?_⟩
      refine ⟨_, .inr rfl, (HA.sub h615 (List.Sublist.cons_cons _ (List.Sublist.cons_cons _ (List.Sublist.cons_cons _ (List.Sublist.refl _))))), ?_⟩
      refine wx_one 20 ky ?_
      refine ex_callx rfl ky h615 enter21 #[.agg (anC a (.slice po37 a.li.ds.length pc38) (.slice po39 a.its.length pc40))] ky (fun w630 h631 => shn_E a (At.row hRa30 (fun y hy => h631.blk y (by simp [hy]))) (At.row hRb31 (fun y hy => h631.blk y (by simp [hy]))) (Row.cap hRa30) (Row.cap hRb31) haa) ?_
      rintro w630 h631 _ w632 ⟨sv623, so624, La625, Lb626, rfl, hRa627, hRb628, h629⟩
      have h633 := HA.join_n 3 h631 h629
      obtain ⟨po634, pc635, hvpo634⟩ := hRa627.form
      subst hvpo634
      obtain ⟨po636, pc637, hvpo636⟩ := hRb628.form
      subst hvpo636
      refine ⟨_, rfl, _, .inl ky, h633, ?_⟩
      refine zc 21 (.bool true) rfl enter24 #[.agg (anC a (.slice po37 a.li.ds.length pc38) (.slice po39 a.its.length pc40)), .agg (anC a (.slice po634 a.li.ds.length pc635) (.slice po636 a.its.length pc637))] (fun w' h' => ((sma_any a a (At.row hRa30 (fun y hy => h'.blk y (by simp [hy]))) (At.row hRb31 (fun y hy => h'.blk y (by simp [hy]))) (At.row hRa627 (fun y hy => h'.blk y (by simp [hy]))) (At.row hRb628 (fun y hy => h'.blk y (by simp [hy]))) (Nat.le_trans fa.1 (by decide)) (Nat.le_trans fa.2 (by decide))).mono fun _ _ hh => ⟨by rw [hh.1, hsaa], hh.2⟩)) (zp 22 (.bool false) (zp 23 (.bool false) ?_))
      refine wx_end fun w638 hbx _ => ?_
      have h639 := HA.keep _ _ h633 hbx
      exact ⟨La625, Lb626, po634, pc635, po636, pc637, by kernel_rfl, hRa627, hRb628, h639⟩}
     {refine ex_callx rfl ky h606 enter21 #[.agg (anC a (.slice po37 a.li.ds.length pc38) (.slice po39 a.its.length pc40))] ky (fun w647 h648 => shn_E a (At.row hRa30 (fun y hy => h648.blk y (by simp [hy]))) (At.row hRb31 (fun y hy => h648.blk y (by simp [hy]))) (Row.cap hRa30) (Row.cap hRb31) haa) ?_
      rintro w647 h648 _ w649 ⟨sv640, so641, La642, Lb643, rfl, hRa644, hRb645, h646⟩
      have h650 := HA.join_n 3 h648 h646
      obtain ⟨po651, pc652, hvpo651⟩ := hRa644.form
      subst hvpo651
      obtain ⟨po653, pc654, hvpo653⟩ := hRb645.form
      subst hvpo653
      refine ⟨_, rfl, _, .inl ky, h650, ?_⟩
      refine zx 18 (.agg (anC a (.slice po37 a.li.ds.length pc38) (.slice po39 a.its.length pc40))) rfl (fun w' h' => run_load_blk ky (h'.get 1 rfl) Try.underlying47 rfl ky) (zc 21 (.bool true) rfl enter24 #[.agg (anC a (.slice po37 a.li.ds.length pc38) (.slice po39 a.its.length pc40)), .agg (anC a (.slice po651 a.li.ds.length pc652) (.slice po653 a.its.length pc654))] (fun w' h' => ((sma_any a a (At.row hRa30 (fun y hy => h'.blk y (by simp [hy]))) (At.row hRb31 (fun y hy => h'.blk y (by simp [hy]))) (At.row hRa644 (fun y hy => h'.blk y (by simp [hy]))) (At.row hRb645 (fun y hy => h'.blk y (by simp [hy]))) (Nat.le_trans fa.1 (by decide)) (Nat.le_trans fa.2 (by decide))).mono fun _ _ hh => ⟨by rw [hh.1, hsaa], hh.2⟩)) (zp 22 (.bool false) (zp 23 (.bool false) ?_)))
      refine wx_end fun w655 hbx _ => ?_
      have h656 := HA.keep _ _ h650 hbx
      exact ⟨La642, Lb643, po651, pc652, po653, pc654, by kernel_rfl, hRa644, hRb645, h656⟩}}
    {rintro _ w657 ⟨La625, Lb626, po634, pc635, po636, pc637, rfl, hRa627, hRb628, h658⟩
     exact then_I ⟨(), exu ky ⟨trivial, (h658.sub (List.Sublist.cons_cons _ (List.Sublist.cons_cons _ (List.Sublist.cons_cons _ (List.sublist_append_right _ _)))))⟩⟩}}
   {rintro _ w659 ⟨_, u551, rfl, _, h660⟩
    refine wp_cond_false ky (wp_skip (then_at rfl (wp_seq (wl_region (zv (.string s) (zv (.string s) (zu (iN .i64 s.size) (run_len (s := s) ky) (zu (iN .i64 (min s.size 20000)) (run_min (i := s.size) (j := 20000) ky ky) (zu (.string (s.extract 0 (min s.size 20000))) (run_cut_hi (s := s) (b := min s.size 20000) ky ky (Nat.min_le_left _ _)) (zv (.string (s.extract 0 (min s.size 20000))) (wl_nil (then_at rfl (wp_seq (wl_region (zv (.string (s.extract 0 (min s.size 20000))) ?_)))))))))))))))
    refine wl_callx ky enter26 _ ky (da_L hys hd) ?_
    rintro _ w668 ⟨sv661, so662, La663, Lb664, rfl, hRa665, hRb666, h667⟩
    refine ⟨_, rfl, ?_⟩
    have h669 := HA.join_n 3 h660 h667
    obtain ⟨po670, pc671, hvpo670⟩ := hRa665.form
    subst hvpo670
    obtain ⟨po672, pc673, hvpo672⟩ := hRb666.form
    subst hvpo672
    refine zv (.tuple #[iN .u64 i, .agg (anC c (.slice po670 c.li.ds.length pc671) (.slice po672 c.its.length pc673)), iN .i64 n]) (zv (iN .u64 i) (zv (.agg (anC c (.slice po670 c.li.ds.length pc671) (.slice po672 c.its.length pc673))) (zv (iN .i64 n) (wl_make (c := #[iN .i64 0, iN .i64 0, iN .i64 0, .string ({ data := #[] }), .slice none 0 0, .string ({ data := #[] }), iN .i64 0, iN .i64 0, .string ({ data := #[] }), .string ({ data := #[] }), iN .i64 0, .string ({ data := #[] }), .string ({ data := #[] }), iN .i64 0, .string ({ data := #[] }), .slice none 0 0, .string ({ data := #[] }), iN .i64 0]) h669 47 ky ky ?_))))
    intro q674 w675 (h676 : HA (bs w) ((q674, 47, #[iN .i64 0, iN .i64 0, iN .i64 0, .string ({ data := #[] }), .slice none 0 0, .string ({ data := #[] }), iN .i64 0, iN .i64 0, .string ({ data := #[] }), .string ({ data := #[] }), iN .i64 0, .string ({ data := #[] }), .string ({ data := #[] }), iN .i64 0, .string ({ data := #[] }), .slice none 0 0, .string ({ data := #[] }), iN .i64 0]) :: (q68, 47, anC b (.slice po59 b.li.ds.length pc60) (.slice po61 b.its.length pc62)) :: (q65, 47, anC a (.slice po37 a.li.ds.length pc38) (.slice po39 a.its.length pc40)) :: (q1, 48, PR) :: ((Lb664 ++ (La663 ++ [])) ++ ((La50 ++ (Lb51 ++ [])) ++ ((La28 ++ (Lb29 ++ [])) ++ [])))) w675)
    refine zv (iN .u64 i) (wl_fill (c' := anC c (.slice po670 c.li.ds.length pc671) (.slice po672 c.its.length pc673)) h676 0 rfl ky ky ky rfl ky ky (fun w677 h678 => (zv (iN .i64 n) (wl_nil (then_at rfl (wp_seq (wl_region (zv (.string (s.extract 0 (min s.size 20000))) ?_))))))))
    refine wl_callx ky enter27 _ ky (rda_L hys hd) ?_
    rintro _ w686 ⟨sv679, so680, La681, Lb682, rfl, hRa683, hRb684, h685⟩
    refine ⟨_, rfl, ?_⟩
    have h687 := HA.join_n 4 h678 h685
    obtain ⟨po688, pc689, hvpo688⟩ := hRa683.form
    subst hvpo688
    obtain ⟨po690, pc691, hvpo690⟩ := hRb684.form
    subst hvpo690
    refine zv (.tuple #[iN .u64 i, .agg (anC c (.slice po688 c.li.ds.length pc689) (.slice po690 c.its.length pc691)), iN .i64 n]) (zv (iN .u64 i) (zv (.agg (anC c (.slice po688 c.li.ds.length pc689) (.slice po690 c.its.length pc691))) (zv (iN .i64 n) (wl_make (c := #[iN .i64 0, iN .i64 0, iN .i64 0, .string ({ data := #[] }), .slice none 0 0, .string ({ data := #[] }), iN .i64 0, iN .i64 0, .string ({ data := #[] }), .string ({ data := #[] }), iN .i64 0, .string ({ data := #[] }), .string ({ data := #[] }), iN .i64 0, .string ({ data := #[] }), .slice none 0 0, .string ({ data := #[] }), iN .i64 0]) h687 47 ky ky ?_))))
    intro q692 w693 (h694 : HA (bs w) ((q692, 47, #[iN .i64 0, iN .i64 0, iN .i64 0, .string ({ data := #[] }), .slice none 0 0, .string ({ data := #[] }), iN .i64 0, iN .i64 0, .string ({ data := #[] }), .string ({ data := #[] }), iN .i64 0, .string ({ data := #[] }), .string ({ data := #[] }), iN .i64 0, .string ({ data := #[] }), .slice none 0 0, .string ({ data := #[] }), iN .i64 0]) :: (q674, 47, anC c (.slice po670 c.li.ds.length pc671) (.slice po672 c.its.length pc673)) :: (q68, 47, anC b (.slice po59 b.li.ds.length pc60) (.slice po61 b.its.length pc62)) :: (q65, 47, anC a (.slice po37 a.li.ds.length pc38) (.slice po39 a.its.length pc40)) :: (q1, 48, PR) :: ((Lb682 ++ (La681 ++ [])) ++ ((Lb664 ++ (La663 ++ [])) ++ ((La50 ++ (Lb51 ++ [])) ++ ((La28 ++ (Lb29 ++ [])) ++ []))))) w693)
    refine zv (iN .u64 i) (wl_fill (c' := anC c (.slice po688 c.li.ds.length pc689) (.slice po690 c.its.length pc691)) h694 0 rfl ky ky ky rfl ky ky (fun w695 h696 => (zv (iN .i64 n) (wl_nil (then_at rfl (wp_seq (wl_region (zv (iN .u64 i) (zv (iN .u64 i) (zu (.bool true) (run_eqi (k := .u64) (a := i) (b := i) ky ky true (decide_eq_true rfl)) (zv (.bool true) (wl_load h696 1 rfl ky ky Try.underlying47 rfl ky (wl_load h696 0 rfl ky ky Try.underlying47 rfl ky (zl (.bool true) h696 enter25 #[.agg (anC c (.slice po670 c.li.ds.length pc671) (.slice po672 c.its.length pc673)), .agg (anC c (.slice po688 c.li.ds.length pc689) (.slice po690 c.its.length pc691))] (((rsma_any c c (At.row hRa665 (fun y hy => h696.blk y (by simp [hy]))) (At.row hRb666 (fun y hy => h696.blk y (by simp [hy]))) (At.row hRa683 (fun y hy => h696.blk y (by simp [hy]))) (At.row hRb684 (fun y hy => h696.blk y (by simp [hy]))) hc1 hc2).mono fun _ _ hh => ⟨by rw [hh.1, hscc], hh.2⟩)) (fun w697 h698 => (zv (.bool true) (zv (.bool true) (zv (iN .i64 n) (zv (iN .i64 n) (zu (.bool true) (run_eqi (k := .i64) (a := n) (b := n) ky ky true (decide_eq_true rfl)) (zv (.bool true) (zv (.bool true) (zl (.bool true) h698 enter20 _ (works_any) (fun w699 h700 => (zv (.bool true) (zv (.bool true) ?_))))))))))))))))))))))))))
    refine wl_nil (then_at rfl (wp_ret ?_))
    repeat first|refine tr ?_|refine block_ret ?_
    exact bodyPost_ret (v := .bool true) ky rfl ⟨rfl, h700.old.old⟩}}
theorem ans_any {w : World} (id : Nat) (x y : An) (s : ByteArray) {o1 p1 o2 p2 : Option Addr} {k1 m1 k2 m2 : Nat} (hP1 : At w o1 (mcl x.li.ds)) (hQ1 : At w p1 (icl x.its)) (hk1 : x.li.ds.length ≤ k1) (hm1 : x.its.length ≤ m1) (hP2 : At w o2 (mcl y.li.ds)) (hQ2 : At w p2 (icl y.its)) (hk2 : y.li.ds.length ≤ k2) (hm2 : y.its.length ≤ m2) :
    Calls Try.prog 4 #[iN .u64 id, .agg (anC x (.slice o1 x.li.ds.length k1) (.slice p1 x.its.length m1) ++ anC y (.slice o2 y.li.ds.length k2) (.slice p2 y.its.length m2)), .string s] w fun e w' => e = .returned (.bool true) ∧ Below w.heap.size w w' :=
  ans_core id x y s hP1 hQ1 hk1 hm1 hP2 hQ2 hk2 hm2 rfl
end Go.Proofs.Ytiogegoepgkjlaa
