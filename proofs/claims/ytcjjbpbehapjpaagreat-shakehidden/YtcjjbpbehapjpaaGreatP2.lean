/-
  A prim of terms: Secret, Public, Dh, Derive, Digest.
-/
import Derived.Test.YtcjjbpbehapjpaaGreatP1
set_option linter.unusedVariables false
namespace Go.Proofs.YtcjjbpbehapjpaaGreat
open Go.RowKit

theorem ss1 {a : ByteArray} {m : Nat} (h : a.size ≤ m) : ∀ i, ([a].getD i ByteArray.empty).size ≤ m := strs_le (by simpa using h)
theorem ss2 {a b : ByteArray} {m : Nat} (h : a.size ≤ m) (h2 : b.size ≤ m) : ∀ i, ([a, b].getD i ByteArray.empty).size ≤ m := strs_le (by simpa using ⟨h, h2⟩)
theorem ss4 {a b c d : ByteArray} {m : Nat} (h : a.size ≤ m) (h2 : b.size ≤ m) (h3 : c.size ≤ m) (h4 : d.size ≤ m) : ∀ i, ([a, b, c, d].getD i ByteArray.empty).size ≤ m := strs_le (by simpa using ⟨h, h2, h3, h4⟩)
/-- a new name -/
def frA (A : List Ent) : List Ent := A ++ [.nm (nms A)]
theorem frA_len (A : List Ent) : (frA A).length = A.length + 1 := by simp [frA]
set_option maxRecDepth 100000 in
set_option maxHeartbeats 2000000 in
theorem tk_secret {w0 w : World} {M : ML} {p : Pr} {A : List Ent} {n : Nat} {L : BL} (H : PH w0 M p A n L w) (d : ByteArray) (hf : A.length < 58000) :
    Calls Tryz.prog 305 #[.agg #[pt p.t.q], .string d] w fun e w' => e = .returned (.string (txt A.length)) ∧ PH w0 M p (frA A) n L w' := by
  obtain ⟨z0, X0, hcl0, hbe0, H0⟩ := PH.front H
  go_enter Tryz.func305, Tryz.ntmps305
  refine wp_seq (wl_region ?_)
  refine wl_make (c := #[.pointer (some ⟨p.t.q, 0, none⟩)]) H0 97 ky ky ?_
  intro q1 w2 (h3 : HA z0 ((q1, 97, #[.pointer (some ⟨p.t.q, 0, none⟩)]) :: (L ++ X0)) w2)
  refine zv (.string ({ data := #[] })) ?_
  refine wl_nil (then_at rfl (wp_seq (wl_region ?_)))
  refine zv (.pointer (some ⟨q1, 0, none⟩)) ?_
  refine zu (.pointer (some ⟨p.t.q, 0, none⟩)) (run_load1 (fun w => Tryz.isAgg77 w) ky (((h3.get 0 rfl).cell 0).trans rfl)) ?_
  refine wl_callx ky enter220 #[.pointer (some ⟨p.t.q, 0, none⟩)] ky (Fresh_P (hcl0 ((q1, 97, #[.pointer (some ⟨p.t.q, 0, none⟩)]) :: L) _ h3) hf) ?_
  rintro _ w5 ⟨rfl, hD4⟩
  refine ⟨_, rfl, ?_⟩
  obtain ⟨z6, X7, hcl8, hbe9, h10⟩ := PH.front hD4
  have h11 : HA z6 ((q1, 97, #[.pointer (some ⟨p.t.q, 0, none⟩)]) :: (L ++ X7)) w5 := h10
  refine zv (.string (txt A.length)) ?_
  refine wl_nil (then_at rfl ?_)
  refine wp_ret ?_
  repeat first | refine then_ret ?_ | refine block_ret ?_
  exact bodyPost_ret (v := .string (txt A.length)) ky rfl ⟨rfl, PH.sub (hcl8 ((q1, 97, #[.pointer (some ⟨p.t.q, 0, none⟩)]) :: L) _ h11) (List.Sublist.cons _ (List.Sublist.refl _))⟩
set_option maxRecDepth 100000 in
set_option maxHeartbeats 2000000 in
theorem Secret_P {w0 w : World} {M : ML} {p : Pr} {A : List Ent} {n : Nat} {L : BL} (H : PH w0 M p A n L w) (d : ByteArray) (hf : A.length < 58000) :
    Calls Tryz.prog 11 #[pt p.q, .string d] w fun e w' => e = .returned (.string (txt A.length)) ∧ PH w0 M p (frA A) n L w' := by
  obtain ⟨z0, X0, hcl0, hbe0, H0⟩ := PH.front H
  go_enter Tryz.func11, Tryz.ntmps11
  refine wp_seq (wl_region ?_)
  refine zv (.string ({ data := #[] })) ?_
  refine wl_nil (then_at rfl (wp_seq (wp_seq (wl_region ?_))))
  refine zv (.pointer (some ⟨p.q, 0, none⟩)) ?_
  refine wl_call (v := .bool false) H0 ky enter29 #[.pointer (some ⟨p.q, 0, none⟩)] ky (none_k (PH.kit (hcl0 (L) _ H0))) ?_
  intro w1 h2
  refine wl_nil (then_at rfl ?_)
  refine wp_cond_false ky ?_
  refine wp_skip (then_at rfl (wp_seq (wl_region ?_)))
  refine zv (.pointer (some ⟨p.q, 0, none⟩)) ?_
  refine zv (.pointer (some ⟨p.q, 0, none⟩)) ?_
  refine zv (.pointer (some ⟨p.q, 0, none⟩)) ?_
  refine zu (.iface 97 (.agg #[pt p.t.q])) (run_load1 (fun w => Tryz.isAgg93 w) ky (PH.kit (hcl0 (L) _ h2))) ?_
  refine zv (.string d) ?_
  refine wl_invoke (f := 305) (T := 97) (rv := .agg #[.pointer (some ⟨p.t.q, 0, none⟩)]) (args := #[.string d]) ky (fun _ => by kernel_rfl) ky ky (tk_secret (hcl0 (L) _ h2) d hf) ?_
  rintro _ w4 ⟨rfl, hD3⟩
  refine ⟨_, rfl, ?_⟩
  obtain ⟨z5, X6, hcl7, hbe8, h9⟩ := PH.front hD3
  have h10 : HA z5 (L ++ X6) w4 := h9
  refine zv (.string (txt A.length)) ?_
  refine wl_nil (then_at rfl ?_)
  refine wp_ret ?_
  repeat first | refine then_ret ?_ | refine block_ret ?_
  exact bodyPost_ret (v := .string (txt A.length)) ky rfl ⟨rfl, PH.sub (hcl7 (L) _ h10) (List.Sublist.refl _)⟩
set_option maxRecDepth 100000 in
set_option maxHeartbeats 2000000 in
theorem tk_public {w0 w : World} {M : ML} {p : Pr} {A : List Ent} {n : Nat} {L : BL} (H : PH w0 M p A n L w) (s : ByteArray) (hs : s.size ≤ 65536) (hf : A.length < 58000) :
    Calls Tryz.prog 303 #[.agg #[pt p.t.q], .string s] w fun e w' => e = .returned (.tuple #[.string (txt (mkA A 3 ({ data := #[] }) [s]).2), iN .i64 0]) ∧ PH w0 M p (mkA A 3 ({ data := #[] }) [s]).1 n L w' := by
  obtain ⟨z0, X0, hcl0, hbe0, H0⟩ := PH.front H
  go_enter Tryz.func303, Tryz.ntmps303
  refine wp_seq (wl_region ?_)
  refine wl_make (c := #[.pointer (some ⟨p.t.q, 0, none⟩)]) H0 97 ky ky ?_
  intro q1 w2 (h3 : HA z0 ((q1, 97, #[.pointer (some ⟨p.t.q, 0, none⟩)]) :: (L ++ X0)) w2)
  refine zv (.string ({ data := #[] })) ?_
  refine zv (iN .i64 0) ?_
  refine wl_nil (then_at rfl (wp_seq (wl_region ?_)))
  refine zv (.pointer (some ⟨q1, 0, none⟩)) ?_
  refine zu (.pointer (some ⟨p.t.q, 0, none⟩)) (run_load1 (fun w => Tryz.isAgg77 w) ky (((h3.get 0 rfl).cell 0).trans rfl)) ?_
  refine zv (.string s) ?_
  refine wl_mks (n := 1) (m := 1) (c := #[.string s]) h3 9 ky ky ?_
  intro q4 w5 (h6 : HA z0 ((q4, 9, #[.string s]) :: (q1, 97, #[.pointer (some ⟨p.t.q, 0, none⟩)]) :: (L ++ X0)) w5)
  refine wl_callx ky enter310 #[.pointer (some ⟨p.t.q, 0, none⟩), iN .i64 3, .string ({ data := #[] }), .slice (some ⟨q4, 0, none⟩) 1 1] ky (Make_P (hcl0 ((q4, 9, #[.string s]) :: (q1, 97, #[.pointer (some ⟨p.t.q, 0, none⟩)]) :: L) _ h6) 3 ({ data := #[] }) [s] _ _ (.inr ⟨q4, _, rfl, PreS.strc [s], by simp [strc]⟩) hf ky (by decide) (ss1 hs) (by simp) (fun _ => rfl) (fun h => absurd h (by decide)) (fun h => absurd h (by decide)) (fun h => absurd h (by decide))) ?_
  rintro _ w8 ⟨rfl, hD7⟩
  refine ⟨_, rfl, ?_⟩
  obtain ⟨z9, X10, hcl11, hbe12, h13⟩ := PH.front hD7
  have h14 : HA z9 ((q4, 9, #[.string s]) :: (q1, 97, #[.pointer (some ⟨p.t.q, 0, none⟩)]) :: (L ++ X10)) w8 := h13
  refine zv (.string (txt (mkA A 3 ({ data := #[] }) [s]).2)) ?_
  refine zv (iN .i64 0) ?_
  refine zv (.string (txt (mkA A 3 ({ data := #[] }) [s]).2)) ?_
  refine zv (iN .i64 0) ?_
  refine wl_nil (then_at rfl ?_)
  refine wp_ret ?_
  repeat first | refine then_ret ?_ | refine block_ret ?_
  exact bodyPost_ret (v := .tuple #[.string (txt (mkA A 3 ({ data := #[] }) [s]).2), iN .i64 0]) ky rfl ⟨rfl, PH.sub (hcl11 ((q4, 9, #[.string s]) :: (q1, 97, #[.pointer (some ⟨p.t.q, 0, none⟩)]) :: L) _ h14) (List.Sublist.cons _ (List.Sublist.cons _ (List.Sublist.refl _)))⟩
set_option maxRecDepth 100000 in
set_option maxHeartbeats 2000000 in
theorem Public_P {w0 w : World} {M : ML} {p : Pr} {A : List Ent} {n : Nat} {L : BL} (H : PH w0 M p A n L w) (s : ByteArray) (hs : s.size ≤ 65536) (hf : A.length < 58000) :
    Calls Tryz.prog 13 #[pt p.q, .string s] w fun e w' => e = .returned (.tuple #[.string (txt (mkA A 3 ({ data := #[] }) [s]).2), iN .i64 0]) ∧ PH w0 M p (mkA A 3 ({ data := #[] }) [s]).1 n L w' := by
  obtain ⟨z0, X0, hcl0, hbe0, H0⟩ := PH.front H
  go_enter Tryz.func13, Tryz.ntmps13
  refine wp_seq (wl_region ?_)
  refine zv (.string ({ data := #[] })) ?_
  refine zv (iN .i64 0) ?_
  refine wl_nil (then_at rfl (wp_seq (wp_seq (wl_region ?_))))
  refine zv (.pointer (some ⟨p.q, 0, none⟩)) ?_
  refine wl_call (v := .bool false) H0 ky enter29 #[.pointer (some ⟨p.q, 0, none⟩)] ky (none_k (PH.kit (hcl0 (L) _ H0))) ?_
  intro w1 h2
  refine wl_nil (then_at rfl ?_)
  refine wp_cond_false ky ?_
  refine wp_skip (then_at rfl (wp_seq (wl_region ?_)))
  refine zv (.pointer (some ⟨p.q, 0, none⟩)) ?_
  refine zv (.pointer (some ⟨p.q, 0, none⟩)) ?_
  refine zv (.pointer (some ⟨p.q, 0, none⟩)) ?_
  refine zu (.iface 97 (.agg #[pt p.t.q])) (run_load1 (fun w => Tryz.isAgg93 w) ky (PH.kit (hcl0 (L) _ h2))) ?_
  refine zv (.string s) ?_
  refine wl_invoke (f := 303) (T := 97) (rv := .agg #[.pointer (some ⟨p.t.q, 0, none⟩)]) (args := #[.string s]) ky (fun _ => by kernel_rfl) ky ky (tk_public (hcl0 (L) _ h2) s hs hf) ?_
  rintro _ w4 ⟨rfl, hD3⟩
  refine ⟨_, rfl, ?_⟩
  obtain ⟨z5, X6, hcl7, hbe8, h9⟩ := PH.front hD3
  have h10 : HA z5 (L ++ X6) w4 := h9
  refine zv (.string (txt (mkA A 3 ({ data := #[] }) [s]).2)) ?_
  refine zv (iN .i64 0) ?_
  refine zv (.string (txt (mkA A 3 ({ data := #[] }) [s]).2)) ?_
  refine zv (iN .i64 0) ?_
  refine wl_nil (then_at rfl ?_)
  refine wp_ret ?_
  repeat first | refine then_ret ?_ | refine block_ret ?_
  exact bodyPost_ret (v := .tuple #[.string (txt (mkA A 3 ({ data := #[] }) [s]).2), iN .i64 0]) ky rfl ⟨rfl, PH.sub (hcl7 (L) _ h10) (List.Sublist.refl _)⟩
set_option maxRecDepth 100000 in
set_option maxHeartbeats 2000000 in
theorem tk_dh {w0 w : World} {M : ML} {p : Pr} {A : List Ent} {n : Nat} {L : BL} (H : PH w0 M p A n L w) (s u : ByteArray) (hs : s.size ≤ 65536) (hu : u.size ≤ 65536) (hf : A.length < 58000) :
    Calls Tryz.prog 299 #[.agg #[pt p.t.q], .string s, .string u] w fun e w' => e = .returned (.tuple #[.string (txt (mkA A 4 ({ data := #[] }) [s, u]).2), iN .i64 0]) ∧ PH w0 M p (mkA A 4 ({ data := #[] }) [s, u]).1 n L w' := by
  obtain ⟨z0, X0, hcl0, hbe0, H0⟩ := PH.front H
  go_enter Tryz.func299, Tryz.ntmps299
  refine wp_seq (wl_region ?_)
  refine wl_make (c := #[.pointer (some ⟨p.t.q, 0, none⟩)]) H0 97 ky ky ?_
  intro q1 w2 (h3 : HA z0 ((q1, 97, #[.pointer (some ⟨p.t.q, 0, none⟩)]) :: (L ++ X0)) w2)
  refine zv (.string ({ data := #[] })) ?_
  refine zv (iN .i64 0) ?_
  refine wl_nil (then_at rfl (wp_seq (wl_region ?_)))
  refine zv (.pointer (some ⟨q1, 0, none⟩)) ?_
  refine zu (.pointer (some ⟨p.t.q, 0, none⟩)) (run_load1 (fun w => Tryz.isAgg77 w) ky (((h3.get 0 rfl).cell 0).trans rfl)) ?_
  refine zv (.string s) ?_
  refine zv (.string u) ?_
  refine wl_mks (n := 2) (m := 2) (c := #[.string s, .string u]) h3 9 ky ky ?_
  intro q4 w5 (h6 : HA z0 ((q4, 9, #[.string s, .string u]) :: (q1, 97, #[.pointer (some ⟨p.t.q, 0, none⟩)]) :: (L ++ X0)) w5)
  refine wl_callx ky enter310 #[.pointer (some ⟨p.t.q, 0, none⟩), iN .i64 4, .string ({ data := #[] }), .slice (some ⟨q4, 0, none⟩) 2 2] ky (Make_P (hcl0 ((q4, 9, #[.string s, .string u]) :: (q1, 97, #[.pointer (some ⟨p.t.q, 0, none⟩)]) :: L) _ h6) 4 ({ data := #[] }) [s, u] _ _ (.inr ⟨q4, _, rfl, PreS.strc [s, u], by simp [strc]⟩) hf ky (by decide) (ss2 hs hu) (by simp) (fun h => absurd h (by decide)) (fun _ => rfl) (fun h => absurd h (by decide)) (fun h => absurd h (by decide))) ?_
  rintro _ w8 ⟨rfl, hD7⟩
  refine ⟨_, rfl, ?_⟩
  obtain ⟨z9, X10, hcl11, hbe12, h13⟩ := PH.front hD7
  have h14 : HA z9 ((q4, 9, #[.string s, .string u]) :: (q1, 97, #[.pointer (some ⟨p.t.q, 0, none⟩)]) :: (L ++ X10)) w8 := h13
  refine zv (.string (txt (mkA A 4 ({ data := #[] }) [s, u]).2)) ?_
  refine zv (iN .i64 0) ?_
  refine zv (.string (txt (mkA A 4 ({ data := #[] }) [s, u]).2)) ?_
  refine zv (iN .i64 0) ?_
  refine wl_nil (then_at rfl ?_)
  refine wp_ret ?_
  repeat first | refine then_ret ?_ | refine block_ret ?_
  exact bodyPost_ret (v := .tuple #[.string (txt (mkA A 4 ({ data := #[] }) [s, u]).2), iN .i64 0]) ky rfl ⟨rfl, PH.sub (hcl11 ((q4, 9, #[.string s, .string u]) :: (q1, 97, #[.pointer (some ⟨p.t.q, 0, none⟩)]) :: L) _ h14) (List.Sublist.cons _ (List.Sublist.cons _ (List.Sublist.refl _)))⟩
set_option maxRecDepth 100000 in
set_option maxHeartbeats 2000000 in
theorem Dh_P {w0 w : World} {M : ML} {p : Pr} {A : List Ent} {n : Nat} {L : BL} (H : PH w0 M p A n L w) (s u : ByteArray) (hs : s.size ≤ 65536) (hu : u.size ≤ 65536) (hf : A.length < 58000) :
    Calls Tryz.prog 39 #[pt p.q, .string s, .string u] w fun e w' => e = .returned (.tuple #[.string (txt (mkA A 4 ({ data := #[] }) [s, u]).2), iN .i64 0]) ∧ PH w0 M p (mkA A 4 ({ data := #[] }) [s, u]).1 n L w' := by
  obtain ⟨z0, X0, hcl0, hbe0, H0⟩ := PH.front H
  go_enter Tryz.func39, Tryz.ntmps39
  refine wp_seq (wl_region ?_)
  refine zv (.string ({ data := #[] })) ?_
  refine zv (iN .i64 0) ?_
  refine wl_nil (then_at rfl (wp_seq (wp_seq (wl_region ?_))))
  refine zv (.pointer (some ⟨p.q, 0, none⟩)) ?_
  refine wl_call (v := .bool false) H0 ky enter29 #[.pointer (some ⟨p.q, 0, none⟩)] ky (none_k (PH.kit (hcl0 (L) _ H0))) ?_
  intro w1 h2
  refine wl_nil (then_at rfl ?_)
  refine wp_cond_false ky ?_
  refine wp_skip (then_at rfl (wp_seq (wl_region ?_)))
  refine zv (.pointer (some ⟨p.q, 0, none⟩)) ?_
  refine zv (.pointer (some ⟨p.q, 0, none⟩)) ?_
  refine zv (.pointer (some ⟨p.q, 0, none⟩)) ?_
  refine zu (.iface 97 (.agg #[pt p.t.q])) (run_load1 (fun w => Tryz.isAgg93 w) ky (PH.kit (hcl0 (L) _ h2))) ?_
  refine zv (.string s) ?_
  refine zv (.string u) ?_
  refine wl_invoke (f := 299) (T := 97) (rv := .agg #[.pointer (some ⟨p.t.q, 0, none⟩)]) (args := #[.string s, .string u]) ky (fun _ => by kernel_rfl) ky ky (tk_dh (hcl0 (L) _ h2) s u hs hu hf) ?_
  rintro _ w4 ⟨rfl, hD3⟩
  refine ⟨_, rfl, ?_⟩
  obtain ⟨z5, X6, hcl7, hbe8, h9⟩ := PH.front hD3
  have h10 : HA z5 (L ++ X6) w4 := h9
  refine zv (.string (txt (mkA A 4 ({ data := #[] }) [s, u]).2)) ?_
  refine zv (iN .i64 0) ?_
  refine zv (.string (txt (mkA A 4 ({ data := #[] }) [s, u]).2)) ?_
  refine zv (iN .i64 0) ?_
  refine wl_nil (then_at rfl ?_)
  refine wp_ret ?_
  repeat first | refine then_ret ?_ | refine block_ret ?_
  exact bodyPost_ret (v := .tuple #[.string (txt (mkA A 4 ({ data := #[] }) [s, u]).2), iN .i64 0]) ky rfl ⟨rfl, PH.sub (hcl7 (L) _ h10) (List.Sublist.refl _)⟩
set_option maxRecDepth 100000 in
set_option maxHeartbeats 2000000 in
theorem tk_digest {w0 w : World} {M : ML} {p : Pr} {A : List Ent} {n : Nat} {L : BL} (H : PH w0 M p A n L w) (s u : ByteArray) (hs : s.size ≤ 65536) (hu : u.size ≤ 65536) (b cc : Nat) (hb : (b, 9, strc [s, u]) ∈ L) (hf : A.length < 58000) :
    Calls Tryz.prog 300 #[.agg #[pt p.t.q], .slice (some ⟨b, 0, none⟩) 2 cc] w fun e w' => e = .returned (.string (txt (mkA A 5 ({ data := #[100, 105, 103, 101, 115, 116] }) [s, u]).2)) ∧ PH w0 M p (mkA A 5 ({ data := #[100, 105, 103, 101, 115, 116] }) [s, u]).1 n L w' := by
  obtain ⟨z0, X0, hcl0, hbe0, H0⟩ := PH.front H
  go_enter Tryz.func300, Tryz.ntmps300
  refine wp_seq (wl_region ?_)
  refine wl_make (c := #[.pointer (some ⟨p.t.q, 0, none⟩)]) H0 97 ky ky ?_
  intro q1 w2 (h3 : HA z0 ((q1, 97, #[.pointer (some ⟨p.t.q, 0, none⟩)]) :: (L ++ X0)) w2)
  refine zv (.string ({ data := #[] })) ?_
  refine wl_nil (then_at rfl (wp_seq (wl_region ?_)))
  refine zv (.pointer (some ⟨q1, 0, none⟩)) ?_
  refine zu (.pointer (some ⟨p.t.q, 0, none⟩)) (run_load1 (fun w => Tryz.isAgg77 w) ky (((h3.get 0 rfl).cell 0).trans rfl)) ?_
  refine zv (.slice (some ⟨b, 0, none⟩) 2 cc) ?_
  refine wl_callx ky enter310 #[.pointer (some ⟨p.t.q, 0, none⟩), iN .i64 5, .string ({ data := #[100, 105, 103, 101, 115, 116] }), .slice (some ⟨b, 0, none⟩) 2 cc] ky (Make_P (hcl0 ((q1, 97, #[.pointer (some ⟨p.t.q, 0, none⟩)]) :: L) _ h3) 5 ({ data := #[100, 105, 103, 101, 115, 116] }) [s, u] _ _ (.inr ⟨b, _, rfl, PreS.strc [s, u], by simp [hb]⟩) hf ky (by decide) (ss2 hs hu) (by simp) (fun h => absurd h (by decide)) (fun h => absurd h (by decide)) (fun h => absurd h (by decide)) (fun h => absurd h (by decide))) ?_
  rintro _ w5 ⟨rfl, hD4⟩
  refine ⟨_, rfl, ?_⟩
  obtain ⟨z6, X7, hcl8, hbe9, h10⟩ := PH.front hD4
  have h11 : HA z6 ((q1, 97, #[.pointer (some ⟨p.t.q, 0, none⟩)]) :: (L ++ X7)) w5 := h10
  refine zv (.tuple #[.string (txt (mkA A 5 ({ data := #[100, 105, 103, 101, 115, 116] }) [s, u]).2), iN .i64 0]) ?_
  refine zv (.string (txt (mkA A 5 ({ data := #[100, 105, 103, 101, 115, 116] }) [s, u]).2)) ?_
  refine zv (iN .i64 0) ?_
  refine zv (.string (txt (mkA A 5 ({ data := #[100, 105, 103, 101, 115, 116] }) [s, u]).2)) ?_
  refine zv (iN .i64 0) ?_
  refine wl_nil (then_at rfl (wp_seq (wl_region ?_)))
  refine zv (.string (txt (mkA A 5 ({ data := #[100, 105, 103, 101, 115, 116] }) [s, u]).2)) ?_
  refine zv (.string (txt (mkA A 5 ({ data := #[100, 105, 103, 101, 115, 116] }) [s, u]).2)) ?_
  refine wl_nil (then_at rfl ?_)
  refine wp_ret ?_
  repeat first | refine then_ret ?_ | refine block_ret ?_
  exact bodyPost_ret (v := .string (txt (mkA A 5 ({ data := #[100, 105, 103, 101, 115, 116] }) [s, u]).2)) ky rfl ⟨rfl, PH.sub (hcl8 ((q1, 97, #[.pointer (some ⟨p.t.q, 0, none⟩)]) :: L) _ h11) (List.Sublist.cons _ (List.Sublist.refl _))⟩
set_option maxRecDepth 100000 in
set_option maxHeartbeats 2000000 in
theorem Digest_P {w0 w : World} {M : ML} {p : Pr} {A : List Ent} {n : Nat} {L : BL} (H : PH w0 M p A n L w) (s u : ByteArray) (hs : s.size ≤ 65536) (hu : u.size ≤ 65536) (b cc : Nat) (hb : (b, 9, strc [s, u]) ∈ L) (hf : A.length < 58000) :
    Calls Tryz.prog 123 #[pt p.q, .slice (some ⟨b, 0, none⟩) 2 cc] w fun e w' => e = .returned (.string (txt (mkA A 5 ({ data := #[100, 105, 103, 101, 115, 116] }) [s, u]).2)) ∧ PH w0 M p (mkA A 5 ({ data := #[100, 105, 103, 101, 115, 116] }) [s, u]).1 n L w' := by
  obtain ⟨z0, X0, hcl0, hbe0, H0⟩ := PH.front H
  go_enter Tryz.func123, Tryz.ntmps123
  refine wp_seq (wl_region ?_)
  refine zv (.string ({ data := #[] })) ?_
  refine wl_nil (then_at rfl (wp_seq (wp_seq (wl_region ?_))))
  refine zv (.pointer (some ⟨p.q, 0, none⟩)) ?_
  refine wl_call (v := .bool false) H0 ky enter29 #[.pointer (some ⟨p.q, 0, none⟩)] ky (none_k (PH.kit (hcl0 (L) _ H0))) ?_
  intro w1 h2
  refine wl_nil (then_at rfl ?_)
  refine wp_cond_false ky ?_
  refine wp_skip (then_at rfl (wp_seq (wl_region ?_)))
  refine zv (.pointer (some ⟨p.q, 0, none⟩)) ?_
  refine zv (.pointer (some ⟨p.q, 0, none⟩)) ?_
  refine zv (.pointer (some ⟨p.q, 0, none⟩)) ?_
  refine zu (.iface 97 (.agg #[pt p.t.q])) (run_load1 (fun w => Tryz.isAgg93 w) ky (PH.kit (hcl0 (L) _ h2))) ?_
  refine zv (.slice (some ⟨b, 0, none⟩) 2 cc) ?_
  refine wl_invoke (f := 300) (T := 97) (rv := .agg #[.pointer (some ⟨p.t.q, 0, none⟩)]) (args := #[.slice (some ⟨b, 0, none⟩) 2 cc]) ky (fun _ => by kernel_rfl) ky ky (tk_digest (hcl0 (L) _ h2) s u hs hu b cc (by simp [hb]) hf) ?_
  rintro _ w4 ⟨rfl, hD3⟩
  refine ⟨_, rfl, ?_⟩
  obtain ⟨z5, X6, hcl7, hbe8, h9⟩ := PH.front hD3
  have h10 : HA z5 (L ++ X6) w4 := h9
  refine zv (.string (txt (mkA A 5 ({ data := #[100, 105, 103, 101, 115, 116] }) [s, u]).2)) ?_
  refine wl_nil (then_at rfl ?_)
  refine wp_ret ?_
  repeat first | refine then_ret ?_ | refine block_ret ?_
  exact bodyPost_ret (v := .string (txt (mkA A 5 ({ data := #[100, 105, 103, 101, 115, 116] }) [s, u]).2)) ky rfl ⟨rfl, PH.sub (hcl7 (L) _ h10) (List.Sublist.refl _)⟩
end Go.Proofs.YtcjjbpbehapjpaaGreat
