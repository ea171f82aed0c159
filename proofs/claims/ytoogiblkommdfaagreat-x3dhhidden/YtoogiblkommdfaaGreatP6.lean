/-
  A prim of terms: Signer, Sign, Verify.
-/
import Derived.Test.YtoogiblkommdfaaGreatP5
set_option linter.unusedVariables false
namespace Go.Proofs.YtoogiblkommdfaaGreat
open Go.RowKit

set_option maxRecDepth 100000 in
set_option maxHeartbeats 2000000 in
theorem tk_signer {w0 w : World} {M : ML} {p : Pr} {A : List Ent} {n : Nat} {L : BL} (H : PH w0 M p A n L w) (s : ByteArray) (hs : s.size ≤ 65536) (hf : A.length < 58000) :
    Calls Tryz.prog 361 #[.agg #[pt p.t.q], .string s] w fun e w' => e = .returned (.tuple #[.string (txt (mkA A 3 ({ data := #[] }) [s]).2), iN .i64 0]) ∧ PH w0 M p (mkA A 3 ({ data := #[] }) [s]).1 n L w' := by
  obtain ⟨z0, X0, hcl0, hbe0, H0⟩ := PH.front H
  go_enter Tryz.func361, Tryz.ntmps361
  refine wp_seq (wl_region ?_)
  refine wl_make (c := #[.pointer (some ⟨p.t.q, 0, none⟩)]) H0 114 ky ky ?_
  intro q1 w2 (h3 : HA z0 ((q1, 114, #[.pointer (some ⟨p.t.q, 0, none⟩)]) :: (L ++ X0)) w2)
  refine zv (.string ({ data := #[] })) ?_
  refine zv (iN .i64 0) ?_
  refine wl_nil (then_at rfl (wp_seq (wl_region ?_)))
  refine wl_load h3 0 rfl ky ky Tryz.underlying114 rfl ky ?_
  refine zv (.string s) ?_
  refine wl_callx ky enter357 #[.agg (#[.pointer (some ⟨p.t.q, 0, none⟩)]), .string s] ky (tk_public (hcl0 ((q1, 114, #[.pointer (some ⟨p.t.q, 0, none⟩)]) :: L) _ h3) s hs hf) ?_
  rintro _ w5 ⟨rfl, hD4⟩
  refine ⟨_, rfl, ?_⟩
  obtain ⟨z6, X7, hcl8, hbe9, h10⟩ := PH.front hD4
  have h11 : HA z6 ((q1, 114, #[.pointer (some ⟨p.t.q, 0, none⟩)]) :: (L ++ X7)) w5 := h10
  refine zv (.string (txt (mkA A 3 ({ data := #[] }) [s]).2)) ?_
  refine zv (iN .i64 0) ?_
  refine zv (.string (txt (mkA A 3 ({ data := #[] }) [s]).2)) ?_
  refine zv (iN .i64 0) ?_
  refine wl_nil (then_at rfl ?_)
  refine wp_ret ?_
  repeat first | refine then_ret ?_ | refine block_ret ?_
  exact bodyPost_ret (v := .tuple #[.string (txt (mkA A 3 ({ data := #[] }) [s]).2), iN .i64 0]) ky rfl ⟨rfl, PH.sub (hcl8 ((q1, 114, #[.pointer (some ⟨p.t.q, 0, none⟩)]) :: L) _ h11) (List.Sublist.cons _ (List.Sublist.refl _))⟩
set_option maxRecDepth 100000 in
set_option maxHeartbeats 2000000 in
theorem Signer_P {w0 w : World} {M : ML} {p : Pr} {A : List Ent} {n : Nat} {L : BL} (H : PH w0 M p A n L w) (s : ByteArray) (hs : s.size ≤ 65536) (hf : A.length < 58000) :
    Calls Tryz.prog 20 #[pt p.q, .string s] w fun e w' => e = .returned (.tuple #[.string (txt (mkA A 3 ({ data := #[] }) [s]).2), iN .i64 0]) ∧ PH w0 M p (mkA A 3 ({ data := #[] }) [s]).1 n L w' := by
  obtain ⟨z0, X0, hcl0, hbe0, H0⟩ := PH.front H
  go_enter Tryz.func20, Tryz.ntmps20
  refine wp_seq (wl_region ?_)
  refine zv (.string ({ data := #[] })) ?_
  refine zv (iN .i64 0) ?_
  refine wl_nil (then_at rfl (wp_seq (wp_seq (wl_region ?_))))
  refine zv (.pointer (some ⟨p.q, 0, none⟩)) ?_
  refine wl_call (v := .bool false) H0 ky enter56 #[.pointer (some ⟨p.q, 0, none⟩)] ky (none_k (PH.kit (hcl0 (L) _ H0))) ?_
  intro w1 h2
  refine wl_nil (then_at rfl ?_)
  refine wp_cond_false ky ?_
  refine wp_skip (then_at rfl (wp_seq (wl_region ?_)))
  refine zv (.pointer (some ⟨p.q, 0, none⟩)) ?_
  refine zv (.pointer (some ⟨p.q, 0, none⟩)) ?_
  refine zv (.pointer (some ⟨p.q, 0, none⟩)) ?_
  refine zu (.iface 114 (.agg #[pt p.t.q])) (run_load1 (fun w => Tryz.isAgg110 w) ky (PH.kit (hcl0 (L) _ h2))) ?_
  refine zv (.string s) ?_
  refine wl_invoke (f := 361) (T := 114) (rv := .agg #[.pointer (some ⟨p.t.q, 0, none⟩)]) (args := #[.string s]) ky (fun _ => by kernel_rfl) ky ky (tk_signer (hcl0 (L) _ h2) s hs hf) ?_
  rintro _ w4 ⟨rfl, hD3⟩
  refine ⟨_, rfl, ?_⟩
  obtain ⟨z5, X6, hcl7, hbe8, h9⟩ := PH.front hD3
  have h10 : HA z5 (L ++ X6) w4 := h9
  refine zv (.string (txt (mkA A 3 ({ data := #[] }) [s]).2)) ?_
  refine zv (iN .i64 0) ?_
  refine zv (.string (txt (mkA A 3 ({ data := #[] }) [s]).2)) ?_
  refine zv (iN .i64 0) ?_
  refine wl_nil (then_at rfl ?_)
  refine wp_ret ?_
  repeat first | refine then_ret ?_ | refine block_ret ?_
  exact bodyPost_ret (v := .tuple #[.string (txt (mkA A 3 ({ data := #[] }) [s]).2), iN .i64 0]) ky rfl ⟨rfl, PH.sub (hcl7 (L) _ h10) (List.Sublist.refl _)⟩
set_option maxRecDepth 100000 in
set_option maxHeartbeats 2000000 in
theorem tk_sign {w0 w : World} {M : ML} {p : Pr} {A : List Ent} {n : Nat} {L : BL} (H : PH w0 M p A n L w) (s u : ByteArray) (hs : s.size ≤ 65536) (hu : u.size ≤ 65536) (hf : A.length < 58000) :
    Calls Tryz.prog 360 #[.agg #[pt p.t.q], .string s, .string u] w fun e w' => e = .returned (.tuple #[.string (txt (mkA A 7 ({ data := #[] }) [s, u]).2), iN .i64 0]) ∧ PH w0 M p (mkA A 7 ({ data := #[] }) [s, u]).1 n L w' := by
  obtain ⟨z0, X0, hcl0, hbe0, H0⟩ := PH.front H
  go_enter Tryz.func360, Tryz.ntmps360
  refine wp_seq (wl_region ?_)
  refine wl_make (c := #[.pointer (some ⟨p.t.q, 0, none⟩)]) H0 114 ky ky ?_
  intro q1 w2 (h3 : HA z0 ((q1, 114, #[.pointer (some ⟨p.t.q, 0, none⟩)]) :: (L ++ X0)) w2)
  refine zv (.string ({ data := #[] })) ?_
  refine zv (iN .i64 0) ?_
  refine wl_nil (then_at rfl (wp_seq (wl_region ?_)))
  refine zv (.pointer (some ⟨q1, 0, none⟩)) ?_
  refine zu (.pointer (some ⟨p.t.q, 0, none⟩)) (run_load1 (fun w => Tryz.isAgg82 w) ky (((h3.get 0 rfl).cell 0).trans rfl)) ?_
  refine zv (.string s) ?_
  refine zv (.string u) ?_
  refine wl_mks (n := 2) (m := 2) (c := #[.string s, .string u]) h3 9 ky ky ?_
  intro q4 w5 (h6 : HA z0 ((q4, 9, #[.string s, .string u]) :: (q1, 114, #[.pointer (some ⟨p.t.q, 0, none⟩)]) :: (L ++ X0)) w5)
  refine wl_callx ky enter364 #[.pointer (some ⟨p.t.q, 0, none⟩), iN .i64 7, .string ({ data := #[] }), .slice (some ⟨q4, 0, none⟩) 2 2] ky (Make_P (hcl0 ((q4, 9, #[.string s, .string u]) :: (q1, 114, #[.pointer (some ⟨p.t.q, 0, none⟩)]) :: L) _ h6) 7 ({ data := #[] }) [s, u] _ _ (.inr ⟨q4, _, rfl, PreS.strc [s, u], by simp [strc]⟩) hf ky (by decide) (ss2 hs hu) (by simp) (fun h => absurd h (by decide)) (fun h => absurd h (by decide)) (fun h => absurd h (by decide)) (fun _ => rfl)) ?_
  rintro _ w8 ⟨rfl, hD7⟩
  refine ⟨_, rfl, ?_⟩
  obtain ⟨z9, X10, hcl11, hbe12, h13⟩ := PH.front hD7
  have h14 : HA z9 ((q4, 9, #[.string s, .string u]) :: (q1, 114, #[.pointer (some ⟨p.t.q, 0, none⟩)]) :: (L ++ X10)) w8 := h13
  refine zv (.string (txt (mkA A 7 ({ data := #[] }) [s, u]).2)) ?_
  refine zv (iN .i64 0) ?_
  refine zv (.string (txt (mkA A 7 ({ data := #[] }) [s, u]).2)) ?_
  refine zv (iN .i64 0) ?_
  refine wl_nil (then_at rfl ?_)
  refine wp_ret ?_
  repeat first | refine then_ret ?_ | refine block_ret ?_
  exact bodyPost_ret (v := .tuple #[.string (txt (mkA A 7 ({ data := #[] }) [s, u]).2), iN .i64 0]) ky rfl ⟨rfl, PH.sub (hcl11 ((q4, 9, #[.string s, .string u]) :: (q1, 114, #[.pointer (some ⟨p.t.q, 0, none⟩)]) :: L) _ h14) (List.Sublist.cons _ (List.Sublist.cons _ (List.Sublist.refl _)))⟩
theorem tk_signer_E {w0 w : World} {M : ML} {p : Pr} {A : List Ent} {n : Nat} {L : BL} (H : PH w0 M p A n L w) (s : ByteArray) (hs : s.size ≤ 65536) (hf : A.length < 58000) {A' : List Ent} {x : Nat} (hm : mkA A 3 { data := #[] } [s] = (A', x)) :
    Calls Tryz.prog 361 #[.agg #[pt p.t.q], .string s] w fun e w' => e = .returned (.tuple #[.string (txt x), iN .i64 0]) ∧ PH w0 M p A' n L w' := by
  have h := tk_signer H s hs hf
  rw [hm] at h
  exact h
theorem tk_sign_E {w0 w : World} {M : ML} {p : Pr} {A : List Ent} {n : Nat} {L : BL} (H : PH w0 M p A n L w) (s u : ByteArray) (hs : s.size ≤ 65536) (hu : u.size ≤ 65536) (hf : A.length < 58000) {A' : List Ent} {x : Nat} (hm : mkA A 7 { data := #[] } [s, u] = (A', x)) :
    Calls Tryz.prog 360 #[.agg #[pt p.t.q], .string s, .string u] w fun e w' => e = .returned (.tuple #[.string (txt x), iN .i64 0]) ∧ PH w0 M p A' n L w' := by
  have h := tk_sign H s u hs hu hf
  rw [hm] at h
  exact h
set_option maxRecDepth 100000 in
set_option maxHeartbeats 2000000 in
theorem Sign_P {w0 w : World} {M : ML} {p : Pr} {A : List Ent} {n : Nat} {L : BL} (H : PH w0 M p A n L w) (s u : ByteArray) (hs : s.size ≤ 65536) (hu : u.size ≤ 16384) (hf : A.length < 57000) (hj : n < 1000000) {A1 A2 : List Ent} {x1 x2 : Nat} (e1 : mkA A 3 { data := #[] } [s] = (A1, x1)) (e2 : mkA A1 7 { data := #[] } [s, u] = (A2, x2)) :
    Calls Tryz.prog 22 #[pt p.q, .string s, .string u] w fun e w' => e = .returned (.tuple #[.string (txt x2), iN .i64 0]) ∧ PH w0 M p A2 (n + 1) L w' := by
  obtain ⟨z0, X0, hcl0, hbe0, H0⟩ := PH.front H
  go_enter Tryz.func22, Tryz.ntmps22
  refine wp_seq (wl_region ?_)
  refine zv (.string ({ data := #[] })) ?_
  refine zv (iN .i64 0) ?_
  refine wl_nil (then_at rfl (wp_seq (wp_block (wp_seq (wl_region ?_)))))
  refine zv (.pointer (some ⟨p.q, 0, none⟩)) ?_
  refine wl_call (v := .bool false) H0 ky enter56 #[.pointer (some ⟨p.q, 0, none⟩)] ky (none_k (PH.kit (hcl0 (L) _ H0))) ?_
  intro w1 h2
  refine zv (.bool false) ?_
  refine wl_nil (then_at rfl ?_)
  refine wp_cond_false ky ?_
  refine wp_seq (wl_region ?_)
  refine zv (.string u) ?_
  refine wl_mks (n := 1) (m := 1) (c := #[.string u]) h2 9 ky ky ?_
  intro q3 w4 (h5 : HA z0 ((q3, 9, #[.string u]) :: (L ++ X0)) w4)
  refine wl_call (v := .bool false) h5 ky enter61 #[.slice (some ⟨q3, 0, none⟩) 1 1] ky (anyl_no [u] _ _ (.inr ⟨q3, _, rfl, PreS.strc [u], h5.get 0 rfl⟩) (ss1 hu) (by simp)) ?_
  intro w6 h7
  refine zv (.bool false) ?_
  refine wl_nil (then_at rfl ?_)
  refine wp_cond_false ky ?_
  refine wp_skip (block_normal (then_at rfl (wp_seq (wl_region ?_))))
  refine zv (.pointer (some ⟨p.q, 0, none⟩)) ?_
  refine zv (.pointer (some ⟨p.q, 0, none⟩)) ?_
  refine zv (.pointer (some ⟨p.q, 0, none⟩)) ?_
  refine zu (.iface 114 (.agg #[pt p.t.q])) (run_load1 (fun w => Tryz.isAgg110 w) ky (PH.kit (hcl0 ((q3, 9, #[.string u]) :: L) _ h7))) ?_
  refine zv (.string s) ?_
  refine wl_invoke (f := 361) (T := 114) (rv := .agg #[.pointer (some ⟨p.t.q, 0, none⟩)]) (args := #[.string s]) ky (fun _ => by kernel_rfl) ky ky (tk_signer_E (hcl0 ((q3, 9, #[.string u]) :: L) _ h7) s hs (by omega) e1) ?_
  rintro _ w9 ⟨rfl, hD8⟩
  refine ⟨_, rfl, ?_⟩
  obtain ⟨z10, X11, hcl12, hbe13, h14⟩ := PH.front hD8
  have h15 : HA z10 ((q3, 9, #[.string u]) :: (L ++ X11)) w9 := h14
  refine zv (.tuple #[.string (txt x1), iN .i64 0]) ?_
  refine zv (.string (txt x1)) ?_
  refine zv (iN .i64 0) ?_
  refine zv (.string (txt x1)) ?_
  refine zv (iN .i64 0) ?_
  refine wl_nil (then_at rfl (wp_seq (wp_seq (wl_region ?_))))
  refine zv (iN .i64 0) ?_
  refine zu (.bool false) (run_nei (k := .i64) (a := 0) (b := 0) ky ky false (by decide)) ?_
  refine wl_nil (then_at rfl ?_)
  refine wp_cond_false ky ?_
  refine wp_skip (then_at rfl (wp_seq (wl_region ?_)))
  refine zv (.pointer (some ⟨p.q, 0, none⟩)) ?_
  refine zv (.pointer (some ⟨p.q, 0, none⟩)) ?_
  refine zv (.pointer (some ⟨p.q, 0, none⟩)) ?_
  refine zu (.iface 114 (.agg #[pt p.t.q])) (run_load1 (fun w => Tryz.isAgg110 w) ky (PH.kit (hcl12 ((q3, 9, #[.string u]) :: L) _ h15))) ?_
  refine zv (.string s) ?_
  refine zv (.string u) ?_
  refine wl_invoke (f := 360) (T := 114) (rv := .agg #[.pointer (some ⟨p.t.q, 0, none⟩)]) (args := #[.string s, .string u]) ky (fun _ => by kernel_rfl) ky ky (tk_sign_E (hcl12 ((q3, 9, #[.string u]) :: L) _ h15) s u hs (by omega) (by have := mkA_len A 3 { data := #[] } [s]; rw [e1] at this; simp at this; omega) e2) ?_
  rintro _ w17 ⟨rfl, hD16⟩
  refine ⟨_, rfl, ?_⟩
  obtain ⟨z18, X19, hcl20, hbe21, h22⟩ := PH.front hD16
  have h23 : HA z18 ((q3, 9, #[.string u]) :: (L ++ X19)) w17 := h22
  refine zv (.tuple #[.string (txt x2), iN .i64 0]) ?_
  refine zv (.string (txt x2)) ?_
  refine zv (iN .i64 0) ?_
  refine zv (.string (txt x2)) ?_
  refine zv (iN .i64 0) ?_
  refine wl_nil (then_at rfl (wp_seq (wp_seq (wl_region ?_))))
  refine zv (iN .i64 0) ?_
  refine zu (.bool false) (run_nei (k := .i64) (a := 0) (b := 0) ky ky false (by decide)) ?_
  refine wl_nil (then_at rfl ?_)
  refine wp_cond_false ky ?_
  refine wp_skip (then_at rfl (wp_seq (wl_region ?_)))
  refine zv (.pointer (some ⟨p.q, 0, none⟩)) ?_
  refine zv (.string (txt x1)) ?_
  refine zv (.string u) ?_
  refine zv (.string (txt x2)) ?_
  refine zv (.agg #[iN .i64 3, .string (txt x1), .string ({ data := #[] }), .string ({ data := #[] }), .string u, .string (txt x2)]) ?_
  refine wl_callx ky enter62 #[.pointer (some ⟨p.q, 0, none⟩), .agg #[iN .i64 3, .string (txt x1), .string ({ data := #[] }), .string ({ data := #[] }), .string u, .string (txt x2)]] ky (note_P (hcl20 ((q3, 9, #[.string u]) :: L) _ h23) 3 (txt x1) ({ data := #[] }) ({ data := #[] }) u (txt x2) (by rw [txt_size]; decide) (by decide) (by decide) (by omega) (by rw [txt_size]; decide) hj) ?_
  rintro _ w25 ⟨rfl, hD24⟩
  refine ⟨_, rfl, ?_⟩
  obtain ⟨z26, X27, hcl28, hbe29, h30⟩ := PH.front hD24
  have h31 : HA z26 ((q3, 9, #[.string u]) :: (L ++ X27)) w25 := h30
  refine wl_nil (then_at rfl (wp_seq (wl_region ?_)))
  refine zv (.string (txt x2)) ?_
  refine zv (.string (txt x2)) ?_
  refine zv (iN .i64 0) ?_
  refine wl_nil (then_at rfl ?_)
  refine wp_ret ?_
  repeat first | refine then_ret ?_ | refine block_ret ?_
  exact bodyPost_ret (v := .tuple #[.string (txt x2), iN .i64 0]) ky rfl ⟨rfl, PH.sub (hcl28 ((q3, 9, #[.string u]) :: L) _ h31) (List.Sublist.cons _ (List.Sublist.refl _))⟩
set_option maxRecDepth 100000 in
set_option maxHeartbeats 2000000 in
theorem po3_n {w0 w : World} {M : ML} {p : Pr} {A : List Ent} {n : Nat} {L : BL} (H : PH w0 M p A n L w) (s : ByteArray) (hn : numT A.length s = none) :
    Calls Tryz.prog 368 #[.agg #[pt p.t.q], iN .i64 3, .string s] w fun e w' => e = .returned (.tuple #[.slice none 0 0, .bool false]) ∧ Below w.heap.size w w' := by
  have H0 := HA.start w
  go_enter Tryz.func368, Tryz.ntmps368
  refine wp_seq (wl_region ?_)
  refine wl_make (c := #[.pointer (some ⟨p.t.q, 0, none⟩)]) H0 114 ky ky ?_
  intro q1 w2 (h3 : HA (bs w) [(q1, 114, #[.pointer (some ⟨p.t.q, 0, none⟩)])] w2)
  refine zv (.slice none 0 0) ?_
  refine zv (.bool false) ?_
  refine wl_nil (then_at rfl (wp_seq (wl_region ?_)))
  refine zv (.pointer (some ⟨q1, 0, none⟩)) ?_
  refine zu (.pointer (some ⟨p.t.q, 0, none⟩)) (run_load1 (fun w => Tryz.isAgg82 w) ky (((h3.get 0 rfl).cell 0).trans rfl)) ?_
  refine zv (.string s) ?_
  refine wl_call (v := .tuple #[.agg #[iN .i64 0, iN .i64 0, .string ({ data := #[] }), .slice none 0 0], .bool false]) h3 ky enter377 #[.pointer (some ⟨p.t.q, 0, none⟩), .string s] ky (Of_n (PH.keep H h3.old.old) hn) ?_
  intro w4 h5
  refine zv (.tuple #[.agg #[iN .i64 0, iN .i64 0, .string ({ data := #[] }), .slice none 0 0], .bool false]) ?_
  refine zv (.agg #[iN .i64 0, iN .i64 0, .string ({ data := #[] }), .slice none 0 0]) ?_
  refine zv (.bool false) ?_
  refine wl_make (c := #[iN .i64 0, iN .i64 0, .string ({ data := #[] }), .slice none 0 0]) h5 166 ky ky ?_
  intro q6 w7 (h8 : HA (bs w) [(q6, 166, #[iN .i64 0, iN .i64 0, .string ({ data := #[] }), .slice none 0 0]), (q1, 114, #[.pointer (some ⟨p.t.q, 0, none⟩)])] w7)
  refine wl_fill (c' := #[iN .i64 0, iN .i64 0, .string ({ data := #[] }), .slice none 0 0]) h8 0 rfl ky ky ky rfl ky ky ?_
  intro w9 (h10 : HA (bs w) [(q6, 166, #[iN .i64 0, iN .i64 0, .string ({ data := #[] }), .slice none 0 0]), (q1, 114, #[.pointer (some ⟨p.t.q, 0, none⟩)])] w9)
  refine zv (.bool false) ?_
  refine wl_nil (then_at rfl (wp_seq (wp_seq (wl_region ?_))))
  refine zv (.bool false) ?_
  refine zv (.bool true) ?_
  refine zv (.bool true) ?_
  refine wl_skip ky ?_
  refine wl_skip ky ?_
  refine wl_skip ky ?_
  refine wl_skip ky ?_
  refine zv (.bool true) ?_
  refine wl_nil (then_at rfl ?_)
  refine wp_cond_true ky ?_
  refine wp_seq (wl_region ?_)
  refine zv (.slice none 0 0) ?_
  refine zv (.bool false) ?_
  refine wl_nil (then_at rfl ?_)
  refine wp_ret ?_
  repeat first | refine then_ret ?_ | refine block_ret ?_
  exact bodyPost_ret (v := .tuple #[.slice none 0 0, .bool false]) ky rfl ⟨rfl, h10.old.old⟩
set_option maxRecDepth 100000 in
set_option maxHeartbeats 2000000 in
theorem po3_o {w0 w : World} {M : ML} {p : Pr} {A : List Ent} {n : Nat} {L : BL} (H : PH w0 M p A n L w) (s : ByteArray) {x : Nat} {q : Ent} (hn : numT A.length s = some x) (he : A[x]? = some q) (hk : ¬ kE q = 3) :
    Calls Tryz.prog 368 #[.agg #[pt p.t.q], iN .i64 3, .string s] w fun e w' => e = .returned (.tuple #[.slice none 0 0, .bool false]) ∧ Below w.heap.size w w' := by
  have H0 := HA.start w
  go_enter Tryz.func368, Tryz.ntmps368
  refine wp_seq (wl_region ?_)
  refine wl_make (c := #[.pointer (some ⟨p.t.q, 0, none⟩)]) H0 114 ky ky ?_
  intro q1 w2 (h3 : HA (bs w) [(q1, 114, #[.pointer (some ⟨p.t.q, 0, none⟩)])] w2)
  refine zv (.slice none 0 0) ?_
  refine zv (.bool false) ?_
  refine wl_nil (then_at rfl (wp_seq (wl_region ?_)))
  refine zv (.pointer (some ⟨q1, 0, none⟩)) ?_
  refine zu (.pointer (some ⟨p.t.q, 0, none⟩)) (run_load1 (fun w => Tryz.isAgg82 w) ky (((h3.get 0 rfl).cell 0).trans rfl)) ?_
  refine zv (.string s) ?_
  refine wl_callx ky enter377 #[.pointer (some ⟨p.t.q, 0, none⟩), .string s] ky (Of_y (PH.keep H h3.old.old) hn he) ?_
  rintro _ w8 ⟨po4, pc5, rfl, hpo6, hb7⟩
  refine ⟨_, rfl, ?_⟩
  have h9 := HA.keep _ _ h3 hb7
  refine zv (.tuple #[.agg #[iN .i64 (kE q), iN .i64 (nE q), .string (sE q), .slice po4 (psE q).length pc5], .bool true]) ?_
  refine zv (.agg #[iN .i64 (kE q), iN .i64 (nE q), .string (sE q), .slice po4 (psE q).length pc5]) ?_
  refine zv (.bool true) ?_
  refine wl_make (c := #[iN .i64 0, iN .i64 0, .string ({ data := #[] }), .slice none 0 0]) h9 166 ky ky ?_
  intro q10 w11 (h12 : HA (bs w) [(q10, 166, #[iN .i64 0, iN .i64 0, .string ({ data := #[] }), .slice none 0 0]), (q1, 114, #[.pointer (some ⟨p.t.q, 0, none⟩)])] w11)
  refine wl_fill (c' := #[iN .i64 (kE q), iN .i64 (nE q), .string (sE q), .slice po4 (psE q).length pc5]) h12 0 rfl ky ky ky rfl ky ky ?_
  intro w13 (h14 : HA (bs w) [(q10, 166, #[iN .i64 (kE q), iN .i64 (nE q), .string (sE q), .slice po4 (psE q).length pc5]), (q1, 114, #[.pointer (some ⟨p.t.q, 0, none⟩)])] w13)
  refine zv (.bool true) ?_
  refine wl_nil (then_at rfl (wp_seq (wp_seq (wl_region ?_))))
  refine zv (.bool true) ?_
  refine zv (.bool false) ?_
  refine zv (.bool false) ?_
  refine zv (.pointer (some ⟨q10, 0, none⟩)) ?_
  refine zu (iN .i64 (kE q)) (run_load1 (fun w => Tryz.isAgg3 w) ky (((h14.get 0 rfl).cell 0).trans rfl)) ?_
  refine zv (iN .i64 3) ?_
  refine zu (.bool true) (run_nei (k := .i64) (a := kE q) (b := 3) ky ky true (decide_eq_true (by omega))) ?_
  refine zv (.bool true) ?_
  refine wl_nil (then_at rfl ?_)
  refine wp_cond_true ky ?_
  refine wp_seq (wl_region ?_)
  refine zv (.slice none 0 0) ?_
  refine zv (.bool false) ?_
  refine wl_nil (then_at rfl ?_)
  refine wp_ret ?_
  repeat first | refine then_ret ?_ | refine block_ret ?_
  exact bodyPost_ret (v := .tuple #[.slice none 0 0, .bool false]) ky rfl ⟨rfl, h14.old.old⟩
set_option maxRecDepth 100000 in
set_option maxHeartbeats 2000000 in
theorem po3_y {w0 w : World} {M : ML} {p : Pr} {A : List Ent} {n : Nat} {L : BL} (H : PH w0 M p A n L w) (s : ByteArray) {x : Nat} {q : Ent} (hn : numT A.length s = some x) (he : A[x]? = some q) (hk : kE q = 3) (hl4 : (psE q).length = 1) :
    Calls Tryz.prog 368 #[.agg #[pt p.t.q], iN .i64 3, .string s] w fun e w' => ∃ b c cc, e = .returned (.tuple #[.slice (some ⟨b, 0, none⟩) 1 cc, .bool true]) ∧ (∀ j, j < 1 → c[j]? = some (iN .i64 ((psE q).getD j 0))) ∧ w.heap.size ≤ b ∧ Blk w' b 3 c ∧ Below w.heap.size w w' := by
  have H0 := HA.start w
  go_enter Tryz.func368, Tryz.ntmps368
  refine wp_seq (wl_region ?_)
  refine wl_make (c := #[.pointer (some ⟨p.t.q, 0, none⟩)]) H0 114 ky ky ?_
  intro q1 w2 (h3 : HA (bs w) [(q1, 114, #[.pointer (some ⟨p.t.q, 0, none⟩)])] w2)
  refine zv (.slice none 0 0) ?_
  refine zv (.bool false) ?_
  refine wl_nil (then_at rfl (wp_seq (wl_region ?_)))
  refine zv (.pointer (some ⟨q1, 0, none⟩)) ?_
  refine zu (.pointer (some ⟨p.t.q, 0, none⟩)) (run_load1 (fun w => Tryz.isAgg82 w) ky (((h3.get 0 rfl).cell 0).trans rfl)) ?_
  refine zv (.string s) ?_
  refine wl_callx ky enter377 #[.pointer (some ⟨p.t.q, 0, none⟩), .string s] ky (Of_y (PH.keep H h3.old.old) hn he) ?_
  rintro _ w8 ⟨po4, pc5, rfl, hpo6, hb7⟩
  refine ⟨_, rfl, ?_⟩
  obtain ⟨b10, c11, rfl, hl12, hk13, hc14⟩ := hpo6.resolve_left (fun e => by rw [e] at hl4; cases hl4)
  have h9 := HA.addNew h3 hb7 hl12 hk13
  refine zv (.tuple #[.agg #[iN .i64 (kE q), iN .i64 (nE q), .string (sE q), .slice (some ⟨b10, 0, none⟩) (psE q).length pc5], .bool true]) ?_
  refine zv (.agg #[iN .i64 (kE q), iN .i64 (nE q), .string (sE q), .slice (some ⟨b10, 0, none⟩) (psE q).length pc5]) ?_
  refine zv (.bool true) ?_
  refine wl_make (c := #[iN .i64 0, iN .i64 0, .string ({ data := #[] }), .slice none 0 0]) h9 166 ky ky ?_
  intro q15 w16 (h17 : HA (bs w) [(q15, 166, #[iN .i64 0, iN .i64 0, .string ({ data := #[] }), .slice none 0 0]), (b10, 3, c11), (q1, 114, #[.pointer (some ⟨p.t.q, 0, none⟩)])] w16)
  refine wl_fill (c' := #[iN .i64 (kE q), iN .i64 (nE q), .string (sE q), .slice (some ⟨b10, 0, none⟩) (psE q).length pc5]) h17 0 rfl ky ky ky rfl ky ky ?_
  intro w18 (h19 : HA (bs w) [(q15, 166, #[iN .i64 (kE q), iN .i64 (nE q), .string (sE q), .slice (some ⟨b10, 0, none⟩) (psE q).length pc5]), (b10, 3, c11), (q1, 114, #[.pointer (some ⟨p.t.q, 0, none⟩)])] w18)
  refine zv (.bool true) ?_
  refine wl_nil (then_at rfl (wp_seq (wp_seq (wl_region ?_))))
  refine zv (.bool true) ?_
  refine zv (.bool false) ?_
  refine zv (.bool false) ?_
  refine zv (.pointer (some ⟨q15, 0, none⟩)) ?_
  refine zu (iN .i64 (kE q)) (run_load1 (fun w => Tryz.isAgg3 w) ky (((h19.get 0 rfl).cell 0).trans rfl)) ?_
  refine zv (iN .i64 3) ?_
  refine zu (.bool false) (run_nei (k := .i64) (a := kE q) (b := 3) ky ky false (decide_eq_false (by omega))) ?_
  refine zv (.bool false) ?_
  refine wl_nil (then_at rfl ?_)
  refine wp_cond_false ky ?_
  refine wp_skip (then_at rfl (wp_seq (wl_region ?_)))
  refine zv (.pointer (some ⟨q15, 3, none⟩)) ?_
  refine zu (.slice (some ⟨b10, 0, none⟩) (psE q).length pc5) (run_load1 (fun w => Tryz.isAgg84 w) ky (((h19.get 0 rfl).cell 3).trans rfl)) ?_
  refine zv (.slice (some ⟨b10, 0, none⟩) (psE q).length pc5) ?_
  refine zv (.bool true) ?_
  refine wl_nil (then_at rfl ?_)
  refine wp_ret ?_
  repeat first | refine then_ret ?_ | refine block_ret ?_
  exact bodyPost_ret (v := .tuple #[.slice (some ⟨b10, 0, none⟩) 1 pc5, .bool true]) (by rw [← hl4]; kernel_rfl) rfl ⟨b10, c11, pc5, rfl, (fun j hj => hc14 j (by rw [hl4]; exact hj)), h19.own _ (List.mem_of_getElem? (i := 1) rfl), h19.get 1 rfl, h19.old.old⟩
set_option maxRecDepth 100000 in
set_option maxHeartbeats 2000000 in
theorem po7_n {w0 w : World} {M : ML} {p : Pr} {A : List Ent} {n : Nat} {L : BL} (H : PH w0 M p A n L w) (s : ByteArray) (hn : numT A.length s = none) :
    Calls Tryz.prog 368 #[.agg #[pt p.t.q], iN .i64 7, .string s] w fun e w' => e = .returned (.tuple #[.slice none 0 0, .bool false]) ∧ Below w.heap.size w w' := by
  have H0 := HA.start w
  go_enter Tryz.func368, Tryz.ntmps368
  refine wp_seq (wl_region ?_)
  refine wl_make (c := #[.pointer (some ⟨p.t.q, 0, none⟩)]) H0 114 ky ky ?_
  intro q1 w2 (h3 : HA (bs w) [(q1, 114, #[.pointer (some ⟨p.t.q, 0, none⟩)])] w2)
  refine zv (.slice none 0 0) ?_
  refine zv (.bool false) ?_
  refine wl_nil (then_at rfl (wp_seq (wl_region ?_)))
  refine zv (.pointer (some ⟨q1, 0, none⟩)) ?_
  refine zu (.pointer (some ⟨p.t.q, 0, none⟩)) (run_load1 (fun w => Tryz.isAgg82 w) ky (((h3.get 0 rfl).cell 0).trans rfl)) ?_
  refine zv (.string s) ?_
  refine wl_call (v := .tuple #[.agg #[iN .i64 0, iN .i64 0, .string ({ data := #[] }), .slice none 0 0], .bool false]) h3 ky enter377 #[.pointer (some ⟨p.t.q, 0, none⟩), .string s] ky (Of_n (PH.keep H h3.old.old) hn) ?_
  intro w4 h5
  refine zv (.tuple #[.agg #[iN .i64 0, iN .i64 0, .string ({ data := #[] }), .slice none 0 0], .bool false]) ?_
  refine zv (.agg #[iN .i64 0, iN .i64 0, .string ({ data := #[] }), .slice none 0 0]) ?_
  refine zv (.bool false) ?_
  refine wl_make (c := #[iN .i64 0, iN .i64 0, .string ({ data := #[] }), .slice none 0 0]) h5 166 ky ky ?_
  intro q6 w7 (h8 : HA (bs w) [(q6, 166, #[iN .i64 0, iN .i64 0, .string ({ data := #[] }), .slice none 0 0]), (q1, 114, #[.pointer (some ⟨p.t.q, 0, none⟩)])] w7)
  refine wl_fill (c' := #[iN .i64 0, iN .i64 0, .string ({ data := #[] }), .slice none 0 0]) h8 0 rfl ky ky ky rfl ky ky ?_
  intro w9 (h10 : HA (bs w) [(q6, 166, #[iN .i64 0, iN .i64 0, .string ({ data := #[] }), .slice none 0 0]), (q1, 114, #[.pointer (some ⟨p.t.q, 0, none⟩)])] w9)
  refine zv (.bool false) ?_
  refine wl_nil (then_at rfl (wp_seq (wp_seq (wl_region ?_))))
  refine zv (.bool false) ?_
  refine zv (.bool true) ?_
  refine zv (.bool true) ?_
  refine wl_skip ky ?_
  refine wl_skip ky ?_
  refine wl_skip ky ?_
  refine wl_skip ky ?_
  refine zv (.bool true) ?_
  refine wl_nil (then_at rfl ?_)
  refine wp_cond_true ky ?_
  refine wp_seq (wl_region ?_)
  refine zv (.slice none 0 0) ?_
  refine zv (.bool false) ?_
  refine wl_nil (then_at rfl ?_)
  refine wp_ret ?_
  repeat first | refine then_ret ?_ | refine block_ret ?_
  exact bodyPost_ret (v := .tuple #[.slice none 0 0, .bool false]) ky rfl ⟨rfl, h10.old.old⟩
set_option maxRecDepth 100000 in
set_option maxHeartbeats 2000000 in
theorem po7_o {w0 w : World} {M : ML} {p : Pr} {A : List Ent} {n : Nat} {L : BL} (H : PH w0 M p A n L w) (s : ByteArray) {x : Nat} {q : Ent} (hn : numT A.length s = some x) (he : A[x]? = some q) (hk : ¬ kE q = 7) :
    Calls Tryz.prog 368 #[.agg #[pt p.t.q], iN .i64 7, .string s] w fun e w' => e = .returned (.tuple #[.slice none 0 0, .bool false]) ∧ Below w.heap.size w w' := by
  have H0 := HA.start w
  go_enter Tryz.func368, Tryz.ntmps368
  refine wp_seq (wl_region ?_)
  refine wl_make (c := #[.pointer (some ⟨p.t.q, 0, none⟩)]) H0 114 ky ky ?_
  intro q1 w2 (h3 : HA (bs w) [(q1, 114, #[.pointer (some ⟨p.t.q, 0, none⟩)])] w2)
  refine zv (.slice none 0 0) ?_
  refine zv (.bool false) ?_
  refine wl_nil (then_at rfl (wp_seq (wl_region ?_)))
  refine zv (.pointer (some ⟨q1, 0, none⟩)) ?_
  refine zu (.pointer (some ⟨p.t.q, 0, none⟩)) (run_load1 (fun w => Tryz.isAgg82 w) ky (((h3.get 0 rfl).cell 0).trans rfl)) ?_
  refine zv (.string s) ?_
  refine wl_callx ky enter377 #[.pointer (some ⟨p.t.q, 0, none⟩), .string s] ky (Of_y (PH.keep H h3.old.old) hn he) ?_
  rintro _ w8 ⟨po4, pc5, rfl, hpo6, hb7⟩
  refine ⟨_, rfl, ?_⟩
  have h9 := HA.keep _ _ h3 hb7
  refine zv (.tuple #[.agg #[iN .i64 (kE q), iN .i64 (nE q), .string (sE q), .slice po4 (psE q).length pc5], .bool true]) ?_
  refine zv (.agg #[iN .i64 (kE q), iN .i64 (nE q), .string (sE q), .slice po4 (psE q).length pc5]) ?_
  refine zv (.bool true) ?_
  refine wl_make (c := #[iN .i64 0, iN .i64 0, .string ({ data := #[] }), .slice none 0 0]) h9 166 ky ky ?_
  intro q10 w11 (h12 : HA (bs w) [(q10, 166, #[iN .i64 0, iN .i64 0, .string ({ data := #[] }), .slice none 0 0]), (q1, 114, #[.pointer (some ⟨p.t.q, 0, none⟩)])] w11)
  refine wl_fill (c' := #[iN .i64 (kE q), iN .i64 (nE q), .string (sE q), .slice po4 (psE q).length pc5]) h12 0 rfl ky ky ky rfl ky ky ?_
  intro w13 (h14 : HA (bs w) [(q10, 166, #[iN .i64 (kE q), iN .i64 (nE q), .string (sE q), .slice po4 (psE q).length pc5]), (q1, 114, #[.pointer (some ⟨p.t.q, 0, none⟩)])] w13)
  refine zv (.bool true) ?_
  refine wl_nil (then_at rfl (wp_seq (wp_seq (wl_region ?_))))
  refine zv (.bool true) ?_
  refine zv (.bool false) ?_
  refine zv (.bool false) ?_
  refine zv (.pointer (some ⟨q10, 0, none⟩)) ?_
  refine zu (iN .i64 (kE q)) (run_load1 (fun w => Tryz.isAgg3 w) ky (((h14.get 0 rfl).cell 0).trans rfl)) ?_
  refine zv (iN .i64 7) ?_
  refine zu (.bool true) (run_nei (k := .i64) (a := kE q) (b := 7) ky ky true (decide_eq_true (by omega))) ?_
  refine zv (.bool true) ?_
  refine wl_nil (then_at rfl ?_)
  refine wp_cond_true ky ?_
  refine wp_seq (wl_region ?_)
  refine zv (.slice none 0 0) ?_
  refine zv (.bool false) ?_
  refine wl_nil (then_at rfl ?_)
  refine wp_ret ?_
  repeat first | refine then_ret ?_ | refine block_ret ?_
  exact bodyPost_ret (v := .tuple #[.slice none 0 0, .bool false]) ky rfl ⟨rfl, h14.old.old⟩
set_option maxRecDepth 100000 in
set_option maxHeartbeats 2000000 in
theorem po7_y {w0 w : World} {M : ML} {p : Pr} {A : List Ent} {n : Nat} {L : BL} (H : PH w0 M p A n L w) (s : ByteArray) {x : Nat} {q : Ent} (hn : numT A.length s = some x) (he : A[x]? = some q) (hk : kE q = 7) (hl4 : (psE q).length = 2) :
    Calls Tryz.prog 368 #[.agg #[pt p.t.q], iN .i64 7, .string s] w fun e w' => ∃ b c cc, e = .returned (.tuple #[.slice (some ⟨b, 0, none⟩) 2 cc, .bool true]) ∧ (∀ j, j < 2 → c[j]? = some (iN .i64 ((psE q).getD j 0))) ∧ w.heap.size ≤ b ∧ Blk w' b 3 c ∧ Below w.heap.size w w' := by
  have H0 := HA.start w
  go_enter Tryz.func368, Tryz.ntmps368
  refine wp_seq (wl_region ?_)
  refine wl_make (c := #[.pointer (some ⟨p.t.q, 0, none⟩)]) H0 114 ky ky ?_
  intro q1 w2 (h3 : HA (bs w) [(q1, 114, #[.pointer (some ⟨p.t.q, 0, none⟩)])] w2)
  refine zv (.slice none 0 0) ?_
  refine zv (.bool false) ?_
  refine wl_nil (then_at rfl (wp_seq (wl_region ?_)))
  refine zv (.pointer (some ⟨q1, 0, none⟩)) ?_
  refine zu (.pointer (some ⟨p.t.q, 0, none⟩)) (run_load1 (fun w => Tryz.isAgg82 w) ky (((h3.get 0 rfl).cell 0).trans rfl)) ?_
  refine zv (.string s) ?_
  refine wl_callx ky enter377 #[.pointer (some ⟨p.t.q, 0, none⟩), .string s] ky (Of_y (PH.keep H h3.old.old) hn he) ?_
  rintro _ w8 ⟨po4, pc5, rfl, hpo6, hb7⟩
  refine ⟨_, rfl, ?_⟩
  obtain ⟨b10, c11, rfl, hl12, hk13, hc14⟩ := hpo6.resolve_left (fun e => by rw [e] at hl4; cases hl4)
  have h9 := HA.addNew h3 hb7 hl12 hk13
  refine zv (.tuple #[.agg #[iN .i64 (kE q), iN .i64 (nE q), .string (sE q), .slice (some ⟨b10, 0, none⟩) (psE q).length pc5], .bool true]) ?_
  refine zv (.agg #[iN .i64 (kE q), iN .i64 (nE q), .string (sE q), .slice (some ⟨b10, 0, none⟩) (psE q).length pc5]) ?_
  refine zv (.bool true) ?_
  refine wl_make (c := #[iN .i64 0, iN .i64 0, .string ({ data := #[] }), .slice none 0 0]) h9 166 ky ky ?_
  intro q15 w16 (h17 : HA (bs w) [(q15, 166, #[iN .i64 0, iN .i64 0, .string ({ data := #[] }), .slice none 0 0]), (b10, 3, c11), (q1, 114, #[.pointer (some ⟨p.t.q, 0, none⟩)])] w16)
  refine wl_fill (c' := #[iN .i64 (kE q), iN .i64 (nE q), .string (sE q), .slice (some ⟨b10, 0, none⟩) (psE q).length pc5]) h17 0 rfl ky ky ky rfl ky ky ?_
  intro w18 (h19 : HA (bs w) [(q15, 166, #[iN .i64 (kE q), iN .i64 (nE q), .string (sE q), .slice (some ⟨b10, 0, none⟩) (psE q).length pc5]), (b10, 3, c11), (q1, 114, #[.pointer (some ⟨p.t.q, 0, none⟩)])] w18)
  refine zv (.bool true) ?_
  refine wl_nil (then_at rfl (wp_seq (wp_seq (wl_region ?_))))
  refine zv (.bool true) ?_
  refine zv (.bool false) ?_
  refine zv (.bool false) ?_
  refine zv (.pointer (some ⟨q15, 0, none⟩)) ?_
  refine zu (iN .i64 (kE q)) (run_load1 (fun w => Tryz.isAgg3 w) ky (((h19.get 0 rfl).cell 0).trans rfl)) ?_
  refine zv (iN .i64 7) ?_
  refine zu (.bool false) (run_nei (k := .i64) (a := kE q) (b := 7) ky ky false (decide_eq_false (by omega))) ?_
  refine zv (.bool false) ?_
  refine wl_nil (then_at rfl ?_)
  refine wp_cond_false ky ?_
  refine wp_skip (then_at rfl (wp_seq (wl_region ?_)))
  refine zv (.pointer (some ⟨q15, 3, none⟩)) ?_
  refine zu (.slice (some ⟨b10, 0, none⟩) (psE q).length pc5) (run_load1 (fun w => Tryz.isAgg84 w) ky (((h19.get 0 rfl).cell 3).trans rfl)) ?_
  refine zv (.slice (some ⟨b10, 0, none⟩) (psE q).length pc5) ?_
  refine zv (.bool true) ?_
  refine wl_nil (then_at rfl ?_)
  refine wp_ret ?_
  repeat first | refine then_ret ?_ | refine block_ret ?_
  exact bodyPost_ret (v := .tuple #[.slice (some ⟨b10, 0, none⟩) 2 pc5, .bool true]) (by rw [← hl4]; kernel_rfl) rfl ⟨b10, c11, pc5, rfl, (fun j hj => hc14 j (by rw [hl4]; exact hj)), h19.own _ (List.mem_of_getElem? (i := 1) rfl), h19.get 1 rfl, h19.old.old⟩
/-- is it verified -/
def vrfA (A : List Ent) (pub txs sg : ByteArray) : Bool := match numT A.length pub with
  | none => false
  | some x => match A[x]? with
    | some (.mk k _ _ ps _) => if k = 3 then (match numT A.length sg with
      | none => false
      | some y => match A[y]? with
        | some (.mk k2 _ _ qs _) => if k2 = 7 then (if qs.getD 0 0 = ps.getD 0 0 then isA A (qs.getD 1 0) txs else false) else false
        | _ => false) else false
    | _ => false
section
variable {w0 w : World} {M : ML} {p : Pr} {A : List Ent} {n : Nat} {L : BL}
theorem PH.mk37 (h : PH w0 M p A n L w) {x k m : Nat} {s : ByteArray} {ps : List Nat} {b : Nat} (he : A[x]? = some (.mk k m s ps b)) : (∀ y ∈ ps, y < A.length) ∧ (k = 3 → ps.length = 1) ∧ (k = 7 → ps.length = 2) := by
  obtain ⟨es, jv, xs, Lj, rfl, h2, h3, H⟩ := h
  rw [Z_get] at he
  obtain ⟨q, he2, hq⟩ := Option.map_eq_some_iff.1 he
  cases q with
  | nm y => cases hq
  | dt y => cases hq
  | mk k' n' s' ps' b' =>
    obtain ⟨rfl, rfl, rfl, rfl, rfl⟩ := Ent.mk.inj hq
    refine ⟨fun y hy => by rw [Z_len]; exact h2.wg.lt _ _ _ _ _ _ he2 y hy, ?_, ?_⟩
    · rintro rfl; exact h2.wf.one _ _ _ _ _ he2
    · rintro rfl; exact h2.wg.sig _ _ _ _ _ he2
end
set_option maxRecDepth 100000 in
set_option maxHeartbeats 2000000 in
theorem ve_1 {w0 w : World} {M : ML} {p : Pr} {A : List Ent} {n : Nat} {L : BL} (H : PH w0 M p A n L w) (pub txs sg : ByteArray) (hn : numT A.length pub = none) :
    Calls Tryz.prog 363 #[.agg #[pt p.t.q], .string pub, .string txs, .string sg] w fun e w' => e = .returned (.bool false) ∧ Below w.heap.size w w' := by
  have H0 := HA.start w
  go_enter Tryz.func363, Tryz.ntmps363
  refine wp_seq (wl_region ?_)
  refine wl_make (c := #[.pointer (some ⟨p.t.q, 0, none⟩)]) H0 114 ky ky ?_
  intro q1 w2 (h3 : HA (bs w) [(q1, 114, #[.pointer (some ⟨p.t.q, 0, none⟩)])] w2)
  refine zv (.bool false) ?_
  refine wl_nil (then_at rfl (wp_seq (wl_region ?_)))
  refine wl_load h3 0 rfl ky ky Tryz.underlying114 rfl ky ?_
  refine zv (.string pub) ?_
  refine wl_call (v := .tuple #[.slice none 0 0, .bool false]) h3 ky enter368 #[.agg (#[.pointer (some ⟨p.t.q, 0, none⟩)]), iN .i64 3, .string pub] ky (po3_n (PH.keep H h3.old.old) pub hn) ?_
  intro w4 h5
  refine zv (.tuple #[.slice none 0 0, .bool false]) ?_
  refine zv (.slice none 0 0) ?_
  refine zv (.bool false) ?_
  refine zv (.slice none 0 0) ?_
  refine zv (.bool false) ?_
  refine wl_nil (then_at rfl (wp_seq (wp_seq (wl_region ?_))))
  refine zv (.bool false) ?_
  refine zv (.bool true) ?_
  refine wl_nil (then_at rfl ?_)
  refine wp_cond_true ky ?_
  refine wp_seq (wl_region ?_)
  refine zv (.bool false) ?_
  refine wl_nil (then_at rfl ?_)
  refine wp_ret ?_
  repeat first | refine then_ret ?_ | refine block_ret ?_
  exact bodyPost_ret (v := .bool false) ky rfl ⟨rfl, h5.old.old⟩
set_option maxRecDepth 100000 in
set_option maxHeartbeats 2000000 in
theorem ve_2 {w0 w : World} {M : ML} {p : Pr} {A : List Ent} {n : Nat} {L : BL} (H : PH w0 M p A n L w) (pub txs sg : ByteArray) {x : Nat} {q : Ent} (hn : numT A.length pub = some x) (he : A[x]? = some q) (hk : ¬ kE q = 3) :
    Calls Tryz.prog 363 #[.agg #[pt p.t.q], .string pub, .string txs, .string sg] w fun e w' => e = .returned (.bool false) ∧ Below w.heap.size w w' := by
  have H0 := HA.start w
  go_enter Tryz.func363, Tryz.ntmps363
  refine wp_seq (wl_region ?_)
  refine wl_make (c := #[.pointer (some ⟨p.t.q, 0, none⟩)]) H0 114 ky ky ?_
  intro q1 w2 (h3 : HA (bs w) [(q1, 114, #[.pointer (some ⟨p.t.q, 0, none⟩)])] w2)
  refine zv (.bool false) ?_
  refine wl_nil (then_at rfl (wp_seq (wl_region ?_)))
  refine wl_load h3 0 rfl ky ky Tryz.underlying114 rfl ky ?_
  refine zv (.string pub) ?_
  refine wl_call (v := .tuple #[.slice none 0 0, .bool false]) h3 ky enter368 #[.agg (#[.pointer (some ⟨p.t.q, 0, none⟩)]), iN .i64 3, .string pub] ky (po3_o (PH.keep H h3.old.old) pub hn he hk) ?_
  intro w4 h5
  refine zv (.tuple #[.slice none 0 0, .bool false]) ?_
  refine zv (.slice none 0 0) ?_
  refine zv (.bool false) ?_
  refine zv (.slice none 0 0) ?_
  refine zv (.bool false) ?_
  refine wl_nil (then_at rfl (wp_seq (wp_seq (wl_region ?_))))
  refine zv (.bool false) ?_
  refine zv (.bool true) ?_
  refine wl_nil (then_at rfl ?_)
  refine wp_cond_true ky ?_
  refine wp_seq (wl_region ?_)
  refine zv (.bool false) ?_
  refine wl_nil (then_at rfl ?_)
  refine wp_ret ?_
  repeat first | refine then_ret ?_ | refine block_ret ?_
  exact bodyPost_ret (v := .bool false) ky rfl ⟨rfl, h5.old.old⟩
set_option maxRecDepth 100000 in
set_option maxHeartbeats 2000000 in
theorem ve_3 {w0 w : World} {M : ML} {p : Pr} {A : List Ent} {n : Nat} {L : BL} (H : PH w0 M p A n L w) (pub txs sg : ByteArray) {x : Nat} {q : Ent} (hn : numT A.length pub = some x) (he : A[x]? = some q) (hk : kE q = 3) (hl : (psE q).length = 1) (hn2 : numT A.length sg = none) :
    Calls Tryz.prog 363 #[.agg #[pt p.t.q], .string pub, .string txs, .string sg] w fun e w' => e = .returned (.bool false) ∧ Below w.heap.size w w' := by
  have H0 := HA.start w
  go_enter Tryz.func363, Tryz.ntmps363
  refine wp_seq (wl_region ?_)
  refine wl_make (c := #[.pointer (some ⟨p.t.q, 0, none⟩)]) H0 114 ky ky ?_
  intro q1 w2 (h3 : HA (bs w) [(q1, 114, #[.pointer (some ⟨p.t.q, 0, none⟩)])] w2)
  refine zv (.bool false) ?_
  refine wl_nil (then_at rfl (wp_seq (wl_region ?_)))
  refine wl_load h3 0 rfl ky ky Tryz.underlying114 rfl ky ?_
  refine zv (.string pub) ?_
  refine wl_callx ky enter368 #[.agg (#[.pointer (some ⟨p.t.q, 0, none⟩)]), iN .i64 3, .string pub] ky (po3_y (PH.keep H h3.old.old) pub hn he hk hl) ?_
  rintro _ w11 ⟨b4, c5, cc6, rfl, hc7, hl8, hk9, hb10⟩
  refine ⟨_, rfl, ?_⟩
  have h12 := HA.addNew h3 hb10 hl8 hk9
  refine zv (.tuple #[.slice (some ⟨b4, 0, none⟩) 1 cc6, .bool true]) ?_
  refine zv (.slice (some ⟨b4, 0, none⟩) 1 cc6) ?_
  refine zv (.bool true) ?_
  refine zv (.slice (some ⟨b4, 0, none⟩) 1 cc6) ?_
  refine zv (.bool true) ?_
  refine wl_nil (then_at rfl (wp_seq (wp_seq (wl_region ?_))))
  refine zv (.bool true) ?_
  refine zv (.bool false) ?_
  refine wl_nil (then_at rfl ?_)
  refine wp_cond_false ky ?_
  refine wp_skip (then_at rfl (wp_seq (wl_region ?_)))
  refine wl_load h12 1 rfl ky ky Tryz.underlying114 rfl ky ?_
  refine zv (.string sg) ?_
  refine wl_call (v := .tuple #[.slice none 0 0, .bool false]) h12 ky enter368 #[.agg (#[.pointer (some ⟨p.t.q, 0, none⟩)]), iN .i64 7, .string sg] ky (po7_n (PH.keep H h12.old.old) sg hn2) ?_
  intro w13 h14
  refine zv (.tuple #[.slice none 0 0, .bool false]) ?_
  refine zv (.slice none 0 0) ?_
  refine zv (.bool false) ?_
  refine zv (.slice none 0 0) ?_
  refine zv (.bool false) ?_
  refine wl_nil (then_at rfl (wp_seq ?_))
  refine wp_region_wx (HA (bs w) [(b4, 3, c5), (q1, 114, #[.pointer (some ⟨p.t.q, 0, none⟩)])]) (fun AQ w' => AQ = ⟨(.agg #[pt p.t.q] :: .string pub :: .string txs :: .string sg :: pt q1 :: un :: un :: un :: .bool false :: .slice (some ⟨b4, 0, none⟩) 1 cc6 :: .bool false :: .slice none 0 0 :: .tuple #[.slice (some ⟨b4, 0, none⟩) 1 cc6, .bool true] :: .agg (#[pt p.t.q]) :: .string pub :: .tuple #[.slice (some ⟨b4, 0, none⟩) 1 cc6, .bool true] :: .slice (some ⟨b4, 0, none⟩) 1 cc6 :: .bool true :: .bool true :: .bool false :: .tuple #[.slice none 0 0, .bool false] :: .agg (#[pt p.t.q]) :: .string sg :: .tuple #[.slice none 0 0, .bool false] :: .slice none 0 0 :: .bool false :: .bool false :: .bool false :: un :: un :: un :: un :: un :: un :: un :: .bool false :: .bool false :: un :: un :: un :: un :: un :: un :: .bool false :: List.replicate 0 un).toArray, []⟩ ∧ HA (bs w) [(b4, 3, c5), (q1, 114, #[.pointer (some ⟨p.t.q, 0, none⟩)])] w') 19 ky ky ky ky ky (h14.drew) ?_ ?_
  · have h15 := h14.drew
    refine zp 0 (.bool false) ?_
    refine zp 1 (.bool false) ?_
    refine wx_skip (i := 2) rfl rfl ky ky ?_
    refine wx_skip (i := 3) rfl rfl ky ky ?_
    refine wx_skip (i := 4) rfl rfl ky ky ?_
    refine wx_skip (i := 5) rfl rfl ky ky ?_
    refine wx_skip (i := 6) rfl rfl ky ky ?_
    refine wx_skip (i := 7) rfl rfl ky ky ?_
    refine wx_skip (i := 8) rfl rfl ky ky ?_
    refine zp 9 (.bool false) ?_
    refine zp 10 (.bool false) ?_
    refine wx_skip (i := 11) rfl rfl ky ky ?_
    refine wx_skip (i := 12) rfl rfl ky ky ?_
    refine wx_skip (i := 13) rfl rfl ky ky ?_
    refine wx_skip (i := 14) rfl rfl ky ky ?_
    refine wx_skip (i := 15) rfl rfl ky ky ?_
    refine wx_skip (i := 16) rfl rfl ky ky ?_
    refine zp 17 (.bool false) ?_
    refine zp 18 (.bool false) ?_
    refine wx_end fun w16 hbx _ => ?_
    have h17 := HA.keep _ _ h15 hbx
    exact ⟨by kernel_rfl, h17⟩
  · rintro _ w18 ⟨rfl, h19⟩
    refine then_at rfl ?_
    refine wp_ret ?_
    repeat first | refine then_ret ?_ | refine block_ret ?_
    exact bodyPost_ret (v := .bool false) ky rfl ⟨rfl, h19.old.old⟩
set_option maxRecDepth 100000 in
set_option maxHeartbeats 2000000 in
theorem ve_4 {w0 w : World} {M : ML} {p : Pr} {A : List Ent} {n : Nat} {L : BL} (H : PH w0 M p A n L w) (pub txs sg : ByteArray) {x : Nat} {q : Ent} (hn : numT A.length pub = some x) (he : A[x]? = some q) (hk : kE q = 3) (hl : (psE q).length = 1) {y : Nat} {q2 : Ent} (hn2 : numT A.length sg = some y) (he2 : A[y]? = some q2) (hk2 : ¬ kE q2 = 7) :
    Calls Tryz.prog 363 #[.agg #[pt p.t.q], .string pub, .string txs, .string sg] w fun e w' => e = .returned (.bool false) ∧ Below w.heap.size w w' := by
  have H0 := HA.start w
  go_enter Tryz.func363, Tryz.ntmps363
  refine wp_seq (wl_region ?_)
  refine wl_make (c := #[.pointer (some ⟨p.t.q, 0, none⟩)]) H0 114 ky ky ?_
  intro q1 w2 (h3 : HA (bs w) [(q1, 114, #[.pointer (some ⟨p.t.q, 0, none⟩)])] w2)
  refine zv (.bool false) ?_
  refine wl_nil (then_at rfl (wp_seq (wl_region ?_)))
  refine wl_load h3 0 rfl ky ky Tryz.underlying114 rfl ky ?_
  refine zv (.string pub) ?_
  refine wl_callx ky enter368 #[.agg (#[.pointer (some ⟨p.t.q, 0, none⟩)]), iN .i64 3, .string pub] ky (po3_y (PH.keep H h3.old.old) pub hn he hk hl) ?_
  rintro _ w11 ⟨b4, c5, cc6, rfl, hc7, hl8, hk9, hb10⟩
  refine ⟨_, rfl, ?_⟩
  have h12 := HA.addNew h3 hb10 hl8 hk9
  refine zv (.tuple #[.slice (some ⟨b4, 0, none⟩) 1 cc6, .bool true]) ?_
  refine zv (.slice (some ⟨b4, 0, none⟩) 1 cc6) ?_
  refine zv (.bool true) ?_
  refine zv (.slice (some ⟨b4, 0, none⟩) 1 cc6) ?_
  refine zv (.bool true) ?_
  refine wl_nil (then_at rfl (wp_seq (wp_seq (wl_region ?_))))
  refine zv (.bool true) ?_
  refine zv (.bool false) ?_
  refine wl_nil (then_at rfl ?_)
  refine wp_cond_false ky ?_
  refine wp_skip (then_at rfl (wp_seq (wl_region ?_)))
  refine wl_load h12 1 rfl ky ky Tryz.underlying114 rfl ky ?_
  refine zv (.string sg) ?_
  refine wl_call (v := .tuple #[.slice none 0 0, .bool false]) h12 ky enter368 #[.agg (#[.pointer (some ⟨p.t.q, 0, none⟩)]), iN .i64 7, .string sg] ky (po7_o (PH.keep H h12.old.old) sg hn2 he2 hk2) ?_
  intro w13 h14
  refine zv (.tuple #[.slice none 0 0, .bool false]) ?_
  refine zv (.slice none 0 0) ?_
  refine zv (.bool false) ?_
  refine zv (.slice none 0 0) ?_
  refine zv (.bool false) ?_
  refine wl_nil (then_at rfl (wp_seq ?_))
  refine wp_region_wx (HA (bs w) [(b4, 3, c5), (q1, 114, #[.pointer (some ⟨p.t.q, 0, none⟩)])]) (fun AQ w' => AQ = ⟨(.agg #[pt p.t.q] :: .string pub :: .string txs :: .string sg :: pt q1 :: un :: un :: un :: .bool false :: .slice (some ⟨b4, 0, none⟩) 1 cc6 :: .bool false :: .slice none 0 0 :: .tuple #[.slice (some ⟨b4, 0, none⟩) 1 cc6, .bool true] :: .agg (#[pt p.t.q]) :: .string pub :: .tuple #[.slice (some ⟨b4, 0, none⟩) 1 cc6, .bool true] :: .slice (some ⟨b4, 0, none⟩) 1 cc6 :: .bool true :: .bool true :: .bool false :: .tuple #[.slice none 0 0, .bool false] :: .agg (#[pt p.t.q]) :: .string sg :: .tuple #[.slice none 0 0, .bool false] :: .slice none 0 0 :: .bool false :: .bool false :: .bool false :: un :: un :: un :: un :: un :: un :: un :: .bool false :: .bool false :: un :: un :: un :: un :: un :: un :: .bool false :: List.replicate 0 un).toArray, []⟩ ∧ HA (bs w) [(b4, 3, c5), (q1, 114, #[.pointer (some ⟨p.t.q, 0, none⟩)])] w') 19 ky ky ky ky ky (h14.drew) ?_ ?_
  · have h15 := h14.drew
    refine zp 0 (.bool false) ?_
    refine zp 1 (.bool false) ?_
    refine wx_skip (i := 2) rfl rfl ky ky ?_
    refine wx_skip (i := 3) rfl rfl ky ky ?_
    refine wx_skip (i := 4) rfl rfl ky ky ?_
    refine wx_skip (i := 5) rfl rfl ky ky ?_
    refine wx_skip (i := 6) rfl rfl ky ky ?_
    refine wx_skip (i := 7) rfl rfl ky ky ?_
    refine wx_skip (i := 8) rfl rfl ky ky ?_
    refine zp 9 (.bool false) ?_
    refine zp 10 (.bool false) ?_
    refine wx_skip (i := 11) rfl rfl ky ky ?_
    refine wx_skip (i := 12) rfl rfl ky ky ?_
    refine wx_skip (i := 13) rfl rfl ky ky ?_
    refine wx_skip (i := 14) rfl rfl ky ky ?_
    refine wx_skip (i := 15) rfl rfl ky ky ?_
    refine wx_skip (i := 16) rfl rfl ky ky ?_
    refine zp 17 (.bool false) ?_
    refine zp 18 (.bool false) ?_
    refine wx_end fun w16 hbx _ => ?_
    have h17 := HA.keep _ _ h15 hbx
    exact ⟨by kernel_rfl, h17⟩
  · rintro _ w18 ⟨rfl, h19⟩
    refine then_at rfl ?_
    refine wp_ret ?_
    repeat first | refine then_ret ?_ | refine block_ret ?_
    exact bodyPost_ret (v := .bool false) ky rfl ⟨rfl, h19.old.old⟩
set_option maxRecDepth 100000 in
set_option maxHeartbeats 2000000 in
theorem ve_5 {w0 w : World} {M : ML} {p : Pr} {A : List Ent} {n : Nat} {L : BL} (H : PH w0 M p A n L w) (pub txs sg : ByteArray) {x : Nat} {q : Ent} (hn : numT A.length pub = some x) (he : A[x]? = some q) (hk : kE q = 3) (hl : (psE q).length = 1) {y : Nat} {q2 : Ent} (hn2 : numT A.length sg = some y) (he2 : A[y]? = some q2) (hk2 : kE q2 = 7) (hl2 : (psE q2).length = 2) (e0 : ¬ (psE q2).getD 0 0 = (psE q).getD 0 0) :
    Calls Tryz.prog 363 #[.agg #[pt p.t.q], .string pub, .string txs, .string sg] w fun e w' => e = .returned (.bool false) ∧ Below w.heap.size w w' := by
  have H0 := HA.start w
  go_enter Tryz.func363, Tryz.ntmps363
  refine wp_seq (wl_region ?_)
  refine wl_make (c := #[.pointer (some ⟨p.t.q, 0, none⟩)]) H0 114 ky ky ?_
  intro q1 w2 (h3 : HA (bs w) [(q1, 114, #[.pointer (some ⟨p.t.q, 0, none⟩)])] w2)
  refine zv (.bool false) ?_
  refine wl_nil (then_at rfl (wp_seq (wl_region ?_)))
  refine wl_load h3 0 rfl ky ky Tryz.underlying114 rfl ky ?_
  refine zv (.string pub) ?_
  refine wl_callx ky enter368 #[.agg (#[.pointer (some ⟨p.t.q, 0, none⟩)]), iN .i64 3, .string pub] ky (po3_y (PH.keep H h3.old.old) pub hn he hk hl) ?_
  rintro _ w11 ⟨b4, c5, cc6, rfl, hc7, hl8, hk9, hb10⟩
  refine ⟨_, rfl, ?_⟩
  have h12 := HA.addNew h3 hb10 hl8 hk9
  refine zv (.tuple #[.slice (some ⟨b4, 0, none⟩) 1 cc6, .bool true]) ?_
  refine zv (.slice (some ⟨b4, 0, none⟩) 1 cc6) ?_
  refine zv (.bool true) ?_
  refine zv (.slice (some ⟨b4, 0, none⟩) 1 cc6) ?_
  refine zv (.bool true) ?_
  refine wl_nil (then_at rfl (wp_seq (wp_seq (wl_region ?_))))
  refine zv (.bool true) ?_
  refine zv (.bool false) ?_
  refine wl_nil (then_at rfl ?_)
  refine wp_cond_false ky ?_
  refine wp_skip (then_at rfl (wp_seq (wl_region ?_)))
  refine wl_load h12 1 rfl ky ky Tryz.underlying114 rfl ky ?_
  refine zv (.string sg) ?_
  refine wl_callx ky enter368 #[.agg (#[.pointer (some ⟨p.t.q, 0, none⟩)]), iN .i64 7, .string sg] ky (po7_y (PH.keep H h12.old.old) sg hn2 he2 hk2 hl2) ?_
  rintro _ w20 ⟨b13, c14, cc15, rfl, hc16, hl17, hk18, hb19⟩
  refine ⟨_, rfl, ?_⟩
  have h21 := HA.addNew h12 hb19 hl17 hk18
  refine zv (.tuple #[.slice (some ⟨b13, 0, none⟩) 2 cc15, .bool true]) ?_
  refine zv (.slice (some ⟨b13, 0, none⟩) 2 cc15) ?_
  refine zv (.bool true) ?_
  refine zv (.slice (some ⟨b13, 0, none⟩) 2 cc15) ?_
  refine zv (.bool true) ?_
  refine wl_nil (then_at rfl (wp_seq ?_))
  refine wp_region_wx (HA (bs w) [(b13, 3, c14), (b4, 3, c5), (q1, 114, #[.pointer (some ⟨p.t.q, 0, none⟩)])]) (fun AQ w' => AQ = ⟨(.agg #[pt p.t.q] :: .string pub :: .string txs :: .string sg :: pt q1 :: un :: un :: un :: .bool false :: .slice (some ⟨b4, 0, none⟩) 1 cc6 :: .bool true :: .slice (some ⟨b13, 0, none⟩) 2 cc15 :: .tuple #[.slice (some ⟨b4, 0, none⟩) 1 cc6, .bool true] :: .agg (#[pt p.t.q]) :: .string pub :: .tuple #[.slice (some ⟨b4, 0, none⟩) 1 cc6, .bool true] :: .slice (some ⟨b4, 0, none⟩) 1 cc6 :: .bool true :: .bool true :: .bool false :: .tuple #[.slice (some ⟨b13, 0, none⟩) 2 cc15, .bool true] :: .agg (#[pt p.t.q]) :: .string sg :: .tuple #[.slice (some ⟨b13, 0, none⟩) 2 cc15, .bool true] :: .slice (some ⟨b13, 0, none⟩) 2 cc15 :: .bool true :: .bool true :: .bool true :: .slice (some ⟨b13, 0, none⟩) 2 cc15 :: pt b13 :: iN .i64 ((psE q2).getD 0 0) :: .slice (some ⟨b4, 0, none⟩) 1 cc6 :: pt b4 :: iN .i64 ((psE q).getD 0 0) :: .bool false :: .bool false :: .bool false :: un :: un :: un :: un :: un :: un :: .bool false :: List.replicate 0 un).toArray, []⟩ ∧ HA (bs w) [(b13, 3, c14), (b4, 3, c5), (q1, 114, #[.pointer (some ⟨p.t.q, 0, none⟩)])] w') 19 ky ky ky ky ky (h21.drew) ?_ ?_
  · have h22 := h21.drew
    refine zp 0 (.bool true) ?_
    refine zp 1 (.bool true) ?_
    refine zp 2 (.slice (some ⟨b13, 0, none⟩) 2 cc15) ?_
    refine wx_pure (i := 3) (.pointer (some ⟨b13, 0, none⟩)) rfl rfl ky ky (fun _ => (run_addr_slice (q := b13) (n := 2) (m := cc15) (a := 0) Tryz.underlying84 (fun w => Tryz.sizeOf3 w) ky ky (by decide))) ?_
    refine wx_val (i := 4) (iN .i64 ((psE q2).getD 0 0)) rfl rfl ky ky (fun w' h' => run_load1 (fun w => Tryz.isAgg3 w) ky (((h'.get 0 rfl).cell 0).trans (hc16 0 (by decide)))) ?_
    refine zp 5 (.slice (some ⟨b4, 0, none⟩) 1 cc6) ?_
    refine wx_pure (i := 6) (.pointer (some ⟨b4, 0, none⟩)) rfl rfl ky ky (fun _ => (run_addr_slice (q := b4) (n := 1) (m := cc6) (a := 0) Tryz.underlying84 (fun w => Tryz.sizeOf3 w) ky ky (by decide))) ?_
    refine wx_val (i := 7) (iN .i64 ((psE q).getD 0 0)) rfl rfl ky ky (fun w' h' => run_load1 (fun w => Tryz.isAgg3 w) ky (((h'.get 1 rfl).cell 0).trans (hc7 0 (by decide)))) ?_
    refine wx_pure (i := 8) (.bool false) rfl rfl ky ky (fun _ => (run_eqi (k := .i64) (a := (psE q2).getD 0 0) (b := (psE q).getD 0 0) ky ky false (decide_eq_false (by omega)))) ?_
    refine zp 9 (.bool false) ?_
    refine zp 10 (.bool false) ?_
    refine wx_skip (i := 11) rfl rfl ky ky ?_
    refine wx_skip (i := 12) rfl rfl ky ky ?_
    refine wx_skip (i := 13) rfl rfl ky ky ?_
    refine wx_skip (i := 14) rfl rfl ky ky ?_
    refine wx_skip (i := 15) rfl rfl ky ky ?_
    refine wx_skip (i := 16) rfl rfl ky ky ?_
    refine zp 17 (.bool false) ?_
    refine zp 18 (.bool false) ?_
    refine wx_end fun w23 hbx _ => ?_
    have h24 := HA.keep _ _ h22 hbx
    exact ⟨by kernel_rfl, h24⟩
  · rintro _ w25 ⟨rfl, h26⟩
    refine then_at rfl ?_
    refine wp_ret ?_
    repeat first | refine then_ret ?_ | refine block_ret ?_
    exact bodyPost_ret (v := .bool false) ky rfl ⟨rfl, h26.old.old⟩
set_option maxRecDepth 100000 in
set_option maxHeartbeats 2000000 in
theorem ve_6 {w0 w : World} {M : ML} {p : Pr} {A : List Ent} {n : Nat} {L : BL} (H : PH w0 M p A n L w) (pub txs sg : ByteArray) {x : Nat} {q : Ent} (hn : numT A.length pub = some x) (he : A[x]? = some q) (hk : kE q = 3) (hl : (psE q).length = 1) {y : Nat} {q2 : Ent} (hn2 : numT A.length sg = some y) (he2 : A[y]? = some q2) (hk2 : kE q2 = 7) (hl2 : (psE q2).length = 2) (e0 : (psE q2).getD 0 0 = (psE q).getD 0 0) (hlt : (psE q2).getD 1 0 < A.length) (ib : isA A ((psE q2).getD 1 0) txs = false) :
    Calls Tryz.prog 363 #[.agg #[pt p.t.q], .string pub, .string txs, .string sg] w fun e w' => e = .returned (.bool false) ∧ Below w.heap.size w w' := by
  have H0 := HA.start w
  go_enter Tryz.func363, Tryz.ntmps363
  refine wp_seq (wl_region ?_)
  refine wl_make (c := #[.pointer (some ⟨p.t.q, 0, none⟩)]) H0 114 ky ky ?_
  intro q1 w2 (h3 : HA (bs w) [(q1, 114, #[.pointer (some ⟨p.t.q, 0, none⟩)])] w2)
  refine zv (.bool false) ?_
  refine wl_nil (then_at rfl (wp_seq (wl_region ?_)))
  refine wl_load h3 0 rfl ky ky Tryz.underlying114 rfl ky ?_
  refine zv (.string pub) ?_
  refine wl_callx ky enter368 #[.agg (#[.pointer (some ⟨p.t.q, 0, none⟩)]), iN .i64 3, .string pub] ky (po3_y (PH.keep H h3.old.old) pub hn he hk hl) ?_
  rintro _ w11 ⟨b4, c5, cc6, rfl, hc7, hl8, hk9, hb10⟩
  refine ⟨_, rfl, ?_⟩
  have h12 := HA.addNew h3 hb10 hl8 hk9
  refine zv (.tuple #[.slice (some ⟨b4, 0, none⟩) 1 cc6, .bool true]) ?_
  refine zv (.slice (some ⟨b4, 0, none⟩) 1 cc6) ?_
  refine zv (.bool true) ?_
  refine zv (.slice (some ⟨b4, 0, none⟩) 1 cc6) ?_
  refine zv (.bool true) ?_
  refine wl_nil (then_at rfl (wp_seq (wp_seq (wl_region ?_))))
  refine zv (.bool true) ?_
  refine zv (.bool false) ?_
  refine wl_nil (then_at rfl ?_)
  refine wp_cond_false ky ?_
  refine wp_skip (then_at rfl (wp_seq (wl_region ?_)))
  refine wl_load h12 1 rfl ky ky Tryz.underlying114 rfl ky ?_
  refine zv (.string sg) ?_
  refine wl_callx ky enter368 #[.agg (#[.pointer (some ⟨p.t.q, 0, none⟩)]), iN .i64 7, .string sg] ky (po7_y (PH.keep H h12.old.old) sg hn2 he2 hk2 hl2) ?_
  rintro _ w20 ⟨b13, c14, cc15, rfl, hc16, hl17, hk18, hb19⟩
  refine ⟨_, rfl, ?_⟩
  have h21 := HA.addNew h12 hb19 hl17 hk18
  refine zv (.tuple #[.slice (some ⟨b13, 0, none⟩) 2 cc15, .bool true]) ?_
  refine zv (.slice (some ⟨b13, 0, none⟩) 2 cc15) ?_
  refine zv (.bool true) ?_
  refine zv (.slice (some ⟨b13, 0, none⟩) 2 cc15) ?_
  refine zv (.bool true) ?_
  refine wl_nil (then_at rfl (wp_seq ?_))
  refine wp_region_wx (HA (bs w) [(b13, 3, c14), (b4, 3, c5), (q1, 114, #[.pointer (some ⟨p.t.q, 0, none⟩)])]) (fun AQ w' => AQ = ⟨(.agg #[pt p.t.q] :: .string pub :: .string txs :: .string sg :: pt q1 :: un :: un :: un :: .bool false :: .slice (some ⟨b4, 0, none⟩) 1 cc6 :: .bool true :: .slice (some ⟨b13, 0, none⟩) 2 cc15 :: .tuple #[.slice (some ⟨b4, 0, none⟩) 1 cc6, .bool true] :: .agg (#[pt p.t.q]) :: .string pub :: .tuple #[.slice (some ⟨b4, 0, none⟩) 1 cc6, .bool true] :: .slice (some ⟨b4, 0, none⟩) 1 cc6 :: .bool true :: .bool true :: .bool false :: .tuple #[.slice (some ⟨b13, 0, none⟩) 2 cc15, .bool true] :: .agg (#[pt p.t.q]) :: .string sg :: .tuple #[.slice (some ⟨b13, 0, none⟩) 2 cc15, .bool true] :: .slice (some ⟨b13, 0, none⟩) 2 cc15 :: .bool true :: .bool true :: .bool true :: .slice (some ⟨b13, 0, none⟩) 2 cc15 :: pt b13 :: iN .i64 ((psE q2).getD 0 0) :: .slice (some ⟨b4, 0, none⟩) 1 cc6 :: pt b4 :: iN .i64 ((psE q).getD 0 0) :: .bool true :: .bool true :: .bool true :: .agg (#[pt p.t.q]) :: .slice (some ⟨b13, 0, none⟩) 2 cc15 :: .pointer (some ⟨b13, 1, none⟩) :: iN .i64 ((psE q2).getD 1 0) :: .string txs :: .bool false :: .bool false :: List.replicate 0 un).toArray, []⟩ ∧ HA (bs w) [(b13, 3, c14), (b4, 3, c5), (q1, 114, #[.pointer (some ⟨p.t.q, 0, none⟩)])] w') 19 ky ky ky ky ky (h21.drew) ?_ ?_
  · have h22 := h21.drew
    refine zp 0 (.bool true) ?_
    refine zp 1 (.bool true) ?_
    refine zp 2 (.slice (some ⟨b13, 0, none⟩) 2 cc15) ?_
    refine wx_pure (i := 3) (.pointer (some ⟨b13, 0, none⟩)) rfl rfl ky ky (fun _ => (run_addr_slice (q := b13) (n := 2) (m := cc15) (a := 0) Tryz.underlying84 (fun w => Tryz.sizeOf3 w) ky ky (by decide))) ?_
    refine wx_val (i := 4) (iN .i64 ((psE q2).getD 0 0)) rfl rfl ky ky (fun w' h' => run_load1 (fun w => Tryz.isAgg3 w) ky (((h'.get 0 rfl).cell 0).trans (hc16 0 (by decide)))) ?_
    refine zp 5 (.slice (some ⟨b4, 0, none⟩) 1 cc6) ?_
    refine wx_pure (i := 6) (.pointer (some ⟨b4, 0, none⟩)) rfl rfl ky ky (fun _ => (run_addr_slice (q := b4) (n := 1) (m := cc6) (a := 0) Tryz.underlying84 (fun w => Tryz.sizeOf3 w) ky ky (by decide))) ?_
    refine wx_val (i := 7) (iN .i64 ((psE q).getD 0 0)) rfl rfl ky ky (fun w' h' => run_load1 (fun w => Tryz.isAgg3 w) ky (((h'.get 1 rfl).cell 0).trans (hc7 0 (by decide)))) ?_
    refine wx_pure (i := 8) (.bool true) rfl rfl ky ky (fun _ => (run_eqi (k := .i64) (a := (psE q2).getD 0 0) (b := (psE q).getD 0 0) ky ky true (decide_eq_true (by omega)))) ?_
    refine zp 9 (.bool true) ?_
    refine zp 10 (.bool true) ?_
    refine wx_val (i := 11) (.agg (#[.pointer (some ⟨p.t.q, 0, none⟩)])) rfl rfl ky ky (fun w' h' => run_load_blk ky (h'.get 2 rfl) Tryz.underlying114 rfl ky) ?_
    refine zp 12 (.slice (some ⟨b13, 0, none⟩) 2 cc15) ?_
    refine wx_pure (i := 13) (.pointer (some ⟨b13, 1, none⟩)) rfl rfl ky ky (fun _ => (run_addr_slice (q := b13) (n := 2) (m := cc15) (a := 1) Tryz.underlying84 (fun w => Tryz.sizeOf3 w) ky ky (by decide))) ?_
    refine wx_val (i := 14) (iN .i64 ((psE q2).getD 1 0)) rfl rfl ky ky (fun w' h' => run_load1 (fun w => Tryz.isAgg3 w) ky (((h'.get 0 rfl).cell 1).trans (hc16 1 (by decide)))) ?_
    refine zp 15 (.string txs) ?_
    refine wx_call (i := 16) (.bool false) (fun _ _ h hb => HA.keep _ _ h hb) rfl rfl ky ky enter369 #[.agg (#[.pointer (some ⟨p.t.q, 0, none⟩)]), iN .i64 ((psE q2).getD 1 0), .string txs] ky (fun w' h' => ((is_P (PH.keep H h'.old.old) ((psE q2).getD 1 0) txs hlt).mono fun _ _ h => ⟨h.1.trans (by rw [ib]), h.2⟩)) ?_
    refine zp 17 (.bool false) ?_
    refine zp 18 (.bool false) ?_
    refine wx_end fun w23 hbx _ => ?_
    have h24 := HA.keep _ _ h22 hbx
    exact ⟨by kernel_rfl, h24⟩
  · rintro _ w25 ⟨rfl, h26⟩
    refine then_at rfl ?_
    refine wp_ret ?_
    repeat first | refine then_ret ?_ | refine block_ret ?_
    exact bodyPost_ret (v := .bool false) ky rfl ⟨rfl, h26.old.old⟩
set_option maxRecDepth 100000 in
set_option maxHeartbeats 2000000 in
theorem ve_7 {w0 w : World} {M : ML} {p : Pr} {A : List Ent} {n : Nat} {L : BL} (H : PH w0 M p A n L w) (pub txs sg : ByteArray) {x : Nat} {q : Ent} (hn : numT A.length pub = some x) (he : A[x]? = some q) (hk : kE q = 3) (hl : (psE q).length = 1) {y : Nat} {q2 : Ent} (hn2 : numT A.length sg = some y) (he2 : A[y]? = some q2) (hk2 : kE q2 = 7) (hl2 : (psE q2).length = 2) (e0 : (psE q2).getD 0 0 = (psE q).getD 0 0) (hlt : (psE q2).getD 1 0 < A.length) (ib : isA A ((psE q2).getD 1 0) txs = true) :
    Calls Tryz.prog 363 #[.agg #[pt p.t.q], .string pub, .string txs, .string sg] w fun e w' => e = .returned (.bool true) ∧ Below w.heap.size w w' := by
  have H0 := HA.start w
  go_enter Tryz.func363, Tryz.ntmps363
  refine wp_seq (wl_region ?_)
  refine wl_make (c := #[.pointer (some ⟨p.t.q, 0, none⟩)]) H0 114 ky ky ?_
  intro q1 w2 (h3 : HA (bs w) [(q1, 114, #[.pointer (some ⟨p.t.q, 0, none⟩)])] w2)
  refine zv (.bool false) ?_
  refine wl_nil (then_at rfl (wp_seq (wl_region ?_)))
  refine wl_load h3 0 rfl ky ky Tryz.underlying114 rfl ky ?_
  refine zv (.string pub) ?_
  refine wl_callx ky enter368 #[.agg (#[.pointer (some ⟨p.t.q, 0, none⟩)]), iN .i64 3, .string pub] ky (po3_y (PH.keep H h3.old.old) pub hn he hk hl) ?_
  rintro _ w11 ⟨b4, c5, cc6, rfl, hc7, hl8, hk9, hb10⟩
  refine ⟨_, rfl, ?_⟩
  have h12 := HA.addNew h3 hb10 hl8 hk9
  refine zv (.tuple #[.slice (some ⟨b4, 0, none⟩) 1 cc6, .bool true]) ?_
  refine zv (.slice (some ⟨b4, 0, none⟩) 1 cc6) ?_
  refine zv (.bool true) ?_
  refine zv (.slice (some ⟨b4, 0, none⟩) 1 cc6) ?_
  refine zv (.bool true) ?_
  refine wl_nil (then_at rfl (wp_seq (wp_seq (wl_region ?_))))
  refine zv (.bool true) ?_
  refine zv (.bool false) ?_
  refine wl_nil (then_at rfl ?_)
  refine wp_cond_false ky ?_
  refine wp_skip (then_at rfl (wp_seq (wl_region ?_)))
  refine wl_load h12 1 rfl ky ky Tryz.underlying114 rfl ky ?_
  refine zv (.string sg) ?_
  refine wl_callx ky enter368 #[.agg (#[.pointer (some ⟨p.t.q, 0, none⟩)]), iN .i64 7, .string sg] ky (po7_y (PH.keep H h12.old.old) sg hn2 he2 hk2 hl2) ?_
  rintro _ w20 ⟨b13, c14, cc15, rfl, hc16, hl17, hk18, hb19⟩
  refine ⟨_, rfl, ?_⟩
  have h21 := HA.addNew h12 hb19 hl17 hk18
  refine zv (.tuple #[.slice (some ⟨b13, 0, none⟩) 2 cc15, .bool true]) ?_
  refine zv (.slice (some ⟨b13, 0, none⟩) 2 cc15) ?_
  refine zv (.bool true) ?_
  refine zv (.slice (some ⟨b13, 0, none⟩) 2 cc15) ?_
  refine zv (.bool true) ?_
  refine wl_nil (then_at rfl (wp_seq ?_))
  refine wp_region_wx (HA (bs w) [(b13, 3, c14), (b4, 3, c5), (q1, 114, #[.pointer (some ⟨p.t.q, 0, none⟩)])]) (fun AQ w' => AQ = ⟨(.agg #[pt p.t.q] :: .string pub :: .string txs :: .string sg :: pt q1 :: un :: un :: un :: .bool true :: .slice (some ⟨b4, 0, none⟩) 1 cc6 :: .bool true :: .slice (some ⟨b13, 0, none⟩) 2 cc15 :: .tuple #[.slice (some ⟨b4, 0, none⟩) 1 cc6, .bool true] :: .agg (#[pt p.t.q]) :: .string pub :: .tuple #[.slice (some ⟨b4, 0, none⟩) 1 cc6, .bool true] :: .slice (some ⟨b4, 0, none⟩) 1 cc6 :: .bool true :: .bool true :: .bool false :: .tuple #[.slice (some ⟨b13, 0, none⟩) 2 cc15, .bool true] :: .agg (#[pt p.t.q]) :: .string sg :: .tuple #[.slice (some ⟨b13, 0, none⟩) 2 cc15, .bool true] :: .slice (some ⟨b13, 0, none⟩) 2 cc15 :: .bool true :: .bool true :: .bool true :: .slice (some ⟨b13, 0, none⟩) 2 cc15 :: pt b13 :: iN .i64 ((psE q2).getD 0 0) :: .slice (some ⟨b4, 0, none⟩) 1 cc6 :: pt b4 :: iN .i64 ((psE q).getD 0 0) :: .bool true :: .bool true :: .bool true :: .agg (#[pt p.t.q]) :: .slice (some ⟨b13, 0, none⟩) 2 cc15 :: .pointer (some ⟨b13, 1, none⟩) :: iN .i64 ((psE q2).getD 1 0) :: .string txs :: .bool true :: .bool true :: List.replicate 0 un).toArray, []⟩ ∧ HA (bs w) [(b13, 3, c14), (b4, 3, c5), (q1, 114, #[.pointer (some ⟨p.t.q, 0, none⟩)])] w') 19 ky ky ky ky ky (h21.drew) ?_ ?_
  · have h22 := h21.drew
    refine zp 0 (.bool true) ?_
    refine zp 1 (.bool true) ?_
    refine zp 2 (.slice (some ⟨b13, 0, none⟩) 2 cc15) ?_
    refine wx_pure (i := 3) (.pointer (some ⟨b13, 0, none⟩)) rfl rfl ky ky (fun _ => (run_addr_slice (q := b13) (n := 2) (m := cc15) (a := 0) Tryz.underlying84 (fun w => Tryz.sizeOf3 w) ky ky (by decide))) ?_
    refine wx_val (i := 4) (iN .i64 ((psE q2).getD 0 0)) rfl rfl ky ky (fun w' h' => run_load1 (fun w => Tryz.isAgg3 w) ky (((h'.get 0 rfl).cell 0).trans (hc16 0 (by decide)))) ?_
    refine zp 5 (.slice (some ⟨b4, 0, none⟩) 1 cc6) ?_
    refine wx_pure (i := 6) (.pointer (some ⟨b4, 0, none⟩)) rfl rfl ky ky (fun _ => (run_addr_slice (q := b4) (n := 1) (m := cc6) (a := 0) Tryz.underlying84 (fun w => Tryz.sizeOf3 w) ky ky (by decide))) ?_
    refine wx_val (i := 7) (iN .i64 ((psE q).getD 0 0)) rfl rfl ky ky (fun w' h' => run_load1 (fun w => Tryz.isAgg3 w) ky (((h'.get 1 rfl).cell 0).trans (hc7 0 (by decide)))) ?_
    refine wx_pure (i := 8) (.bool true) rfl rfl ky ky (fun _ => (run_eqi (k := .i64) (a := (psE q2).getD 0 0) (b := (psE q).getD 0 0) ky ky true (decide_eq_true (by omega)))) ?_
    refine zp 9 (.bool true) ?_
    refine zp 10 (.bool true) ?_
    refine wx_val (i := 11) (.agg (#[.pointer (some ⟨p.t.q, 0, none⟩)])) rfl rfl ky ky (fun w' h' => run_load_blk ky (h'.get 2 rfl) Tryz.underlying114 rfl ky) ?_
    refine zp 12 (.slice (some ⟨b13, 0, none⟩) 2 cc15) ?_
    refine wx_pure (i := 13) (.pointer (some ⟨b13, 1, none⟩)) rfl rfl ky ky (fun _ => (run_addr_slice (q := b13) (n := 2) (m := cc15) (a := 1) Tryz.underlying84 (fun w => Tryz.sizeOf3 w) ky ky (by decide))) ?_
    refine wx_val (i := 14) (iN .i64 ((psE q2).getD 1 0)) rfl rfl ky ky (fun w' h' => run_load1 (fun w => Tryz.isAgg3 w) ky (((h'.get 0 rfl).cell 1).trans (hc16 1 (by decide)))) ?_
    refine zp 15 (.string txs) ?_
    refine wx_call (i := 16) (.bool true) (fun _ _ h hb => HA.keep _ _ h hb) rfl rfl ky ky enter369 #[.agg (#[.pointer (some ⟨p.t.q, 0, none⟩)]), iN .i64 ((psE q2).getD 1 0), .string txs] ky (fun w' h' => ((is_P (PH.keep H h'.old.old) ((psE q2).getD 1 0) txs hlt).mono fun _ _ h => ⟨h.1.trans (by rw [ib]), h.2⟩)) ?_
    refine zp 17 (.bool true) ?_
    refine zp 18 (.bool true) ?_
    refine wx_end fun w23 hbx _ => ?_
    have h24 := HA.keep _ _ h22 hbx
    exact ⟨by kernel_rfl, h24⟩
  · rintro _ w25 ⟨rfl, h26⟩
    refine then_at rfl ?_
    refine wp_ret ?_
    repeat first | refine then_ret ?_ | refine block_ret ?_
    exact bodyPost_ret (v := .bool true) ky rfl ⟨rfl, h26.old.old⟩
theorem tk_verify {w0 w : World} {M : ML} {p : Pr} {A : List Ent} {n : Nat} {L : BL} (H : PH w0 M p A n L w) (pub txs sg : ByteArray) :
    Calls Tryz.prog 363 #[.agg #[pt p.t.q], .string pub, .string txs, .string sg] w fun e w' => e = .returned (.bool (vrfA A pub txs sg)) ∧ Below w.heap.size w w' := by
  unfold vrfA
  cases hn : numT A.length pub with
  | none => exact ve_1 H pub txs sg hn
  | some x =>
    obtain ⟨q, he⟩ : ∃ q, A[x]? = some q := ⟨_, List.getElem?_eq_getElem (numT_lt hn)⟩
    simp only [he]
    cases q with
    | nm y => exact ve_2 H pub txs sg hn he (by simp [kE])
    | dt y => exact ve_2 H pub txs sg hn he (by simp [kE])
    | mk k m s ps b =>
      obtain ⟨hlp, h3, h7⟩ := H.mk37 he
      by_cases hk : k = 3
      · subst hk
        simp only [if_true]
        cases hn2 : numT A.length sg with
        | none => exact ve_3 H pub txs sg hn he rfl (h3 rfl) hn2
        | some y =>
          obtain ⟨q2, he2⟩ : ∃ q2, A[y]? = some q2 := ⟨_, List.getElem?_eq_getElem (numT_lt hn2)⟩
          simp only [he2]
          cases q2 with
          | nm z => exact ve_4 H pub txs sg hn he rfl (h3 rfl) hn2 he2 (by simp [kE])
          | dt z => exact ve_4 H pub txs sg hn he rfl (h3 rfl) hn2 he2 (by simp [kE])
          | mk k2 m2 s2 qs b2 =>
            obtain ⟨hlq, g3, g7⟩ := H.mk37 he2
            by_cases hk2 : k2 = 7
            · subst hk2
              have hl2 := g7 rfl
              have hlt : qs.getD 1 0 < A.length := by
                have hj' : 1 < qs.length := by omega
                rw [List.getD_eq_getElem?_getD, List.getElem?_eq_getElem hj']
                exact hlq _ (List.getElem_mem hj')
              by_cases e0 : qs.getD 0 0 = ps.getD 0 0
              · simp only [e0, if_true]
                cases ib : isA A (qs.getD 1 0) txs with
                | false => exact ve_6 H pub txs sg hn he rfl (h3 rfl) hn2 he2 rfl hl2 e0 hlt ib
                | true => exact ve_7 H pub txs sg hn he rfl (h3 rfl) hn2 he2 rfl hl2 e0 hlt ib
              · simp only [e0, if_false, if_true]
                exact ve_5 H pub txs sg hn he rfl (h3 rfl) hn2 he2 rfl hl2 e0
            · simp only [hk2, if_false]
              exact ve_4 H pub txs sg hn he rfl (h3 rfl) hn2 he2 hk2
      · simp only [hk, if_false]
        exact ve_2 H pub txs sg hn he hk
theorem tk_verify_eq {w0 w : World} {M : ML} {p : Pr} {A : List Ent} {n : Nat} {L : BL} (H : PH w0 M p A n L w) (pub txs sg : ByteArray) {o : Bool} (ho : vrfA A pub txs sg = o) :
    Calls Tryz.prog 363 #[.agg #[pt p.t.q], .string pub, .string txs, .string sg] w fun e w' => e = .returned (.bool o) ∧ Below w.heap.size w w' := ho ▸ tk_verify H pub txs sg
set_option maxRecDepth 100000 in
set_option maxHeartbeats 2000000 in
theorem Verify_y {w0 w : World} {M : ML} {p : Pr} {A : List Ent} {n : Nat} {L : BL} (H : PH w0 M p A n L w) (pub txs sg : ByteArray) (hz1 : pub.size ≤ 65536) (hz2 : txs.size ≤ 1000000) (hz3 : sg.size ≤ 65536) (hj : n < 1000000) (ho : vrfA A pub txs sg = true) :
    Calls Tryz.prog 67 #[pt p.q, .string pub, .string txs, .string sg] w fun e w' => e = .returned (.bool true) ∧ PH w0 M p A (n + 1) L w' := by
  obtain ⟨z0, X0, hcl0, hbe0, H0⟩ := PH.front H
  go_enter Tryz.func67, Tryz.ntmps67
  refine wp_seq (wl_region ?_)
  refine zv (.bool false) ?_
  refine wl_nil (then_at rfl (wp_seq (wp_seq (wl_region ?_))))
  refine zv (.pointer (some ⟨p.q, 0, none⟩)) ?_
  refine wl_call (v := .bool false) H0 ky enter56 #[.pointer (some ⟨p.q, 0, none⟩)] ky (none_k (PH.kit (hcl0 (L) _ H0))) ?_
  intro w1 h2
  refine zv (.bool false) ?_
  refine zv (.pointer (some ⟨p.q, 0, none⟩)) ?_
  refine zv (.pointer (some ⟨p.q, 0, none⟩)) ?_
  refine zv (.pointer (some ⟨p.q, 0, none⟩)) ?_
  refine zu (.iface 114 (.agg #[pt p.t.q])) (run_load1 (fun w => Tryz.isAgg110 w) ky (PH.kit (hcl0 (L) _ h2))) ?_
  refine zv (.string pub) ?_
  refine zv (.string txs) ?_
  refine zv (.string sg) ?_
  refine wl_invoke (f := 363) (T := 114) (rv := .agg #[.pointer (some ⟨p.t.q, 0, none⟩)]) (args := #[.string pub, .string txs, .string sg]) ky (fun _ => by kernel_rfl) ky ky (tk_verify_eq (hcl0 (L) _ h2) pub txs sg ho) ?_
  rintro _ w4 ⟨rfl, hb3⟩
  refine ⟨_, rfl, ?_⟩
  have h5 := HA.keep _ _ h2 hb3
  refine zv (.bool false) ?_
  refine zv (.bool false) ?_
  refine wl_nil (then_at rfl ?_)
  refine wp_cond_false ky ?_
  refine wp_skip (then_at rfl (wp_seq (wl_region ?_)))
  refine zv (.pointer (some ⟨p.q, 0, none⟩)) ?_
  refine zv (.string pub) ?_
  refine zv (.string txs) ?_
  refine zv (.string sg) ?_
  refine zv (.agg #[iN .i64 4, .string pub, .string ({ data := #[] }), .string sg, .string txs, .string ({ data := #[] })]) ?_
  refine wl_callx ky enter62 #[.pointer (some ⟨p.q, 0, none⟩), .agg #[iN .i64 4, .string pub, .string ({ data := #[] }), .string sg, .string txs, .string ({ data := #[] })]] ky (note_P (hcl0 (L) _ h5) 4 pub ({ data := #[] }) sg txs ({ data := #[] }) (by omega) (by decide) (by omega) (by omega) (by decide) hj) ?_
  rintro _ w7 ⟨rfl, hD6⟩
  refine ⟨_, rfl, ?_⟩
  obtain ⟨z8, X9, hcl10, hbe11, h12⟩ := PH.front hD6
  have h13 : HA z8 (L ++ X9) w7 := h12
  refine wl_nil (then_at rfl (wp_seq (wl_region ?_)))
  refine zv (.bool true) ?_
  refine wl_nil (then_at rfl ?_)
  refine wp_ret ?_
  repeat first | refine then_ret ?_ | refine block_ret ?_
  exact bodyPost_ret (v := .bool true) ky rfl ⟨rfl, PH.sub (hcl10 (L) _ h13) (List.Sublist.refl _)⟩
end Go.Proofs.YtoogiblkommdfaaGreat
