/-
  Is it a prim; its kind.
-/
import Derived.Test.YtoogiblkommdfaaGreatWZ
set_option linter.unusedVariables false
namespace Go.Proofs.YtoogiblkommdfaaGreat
open Go.RowKit

set_option maxRecDepth 100000 in
set_option maxHeartbeats 2000000 in
theorem none_k {w : World} {q tq : Nat} (hk : w.cell? ⟨q, 0, none⟩ = some (.iface 114 (.agg #[pt tq]))) :
    Calls Tryz.prog 56 #[pt q] w fun e w' => e = .returned (.bool false) ∧ Below w.heap.size w w' := by
  have H0 := HA.start w
  go_enter Tryz.func56, Tryz.ntmps56
  refine wp_seq (wl_region ?_)
  refine zv (.bool false) ?_
  refine wl_nil ?_
  refine then_at (F := ⟨(pt q :: un :: .bool false :: List.replicate 9 un).toArray, []⟩) ky ?_
  refine wp_seq (wl_region ?_)
  refine zv (.pointer (some ⟨q, 0, none⟩)) ?_
  refine zv (.bool false) ?_
  refine zv (.bool false) ?_
  refine zv (.pointer (some ⟨q, 0, none⟩)) ?_
  refine zv (.pointer (some ⟨q, 0, none⟩)) ?_
  refine zv (.pointer (some ⟨q, 0, none⟩)) ?_
  refine zu (.iface 114 (.agg #[pt tq])) (run_load1 (fun w => Tryz.isAgg110 w) ky (got H0.old.old hk)) ?_
  refine zv (.bool false) ?_
  refine zv (.bool false) ?_
  refine zv (.bool false) ?_
  refine wl_nil ?_
  refine then_at (F := ⟨(pt q :: un :: .bool false :: pt q :: .bool false :: .bool false :: pt q :: pt q :: pt q :: .iface 114 (.agg #[pt tq]) :: .bool false :: .bool false :: List.replicate 0 un).toArray, []⟩) ky ?_
  refine wp_ret ?_
  repeat first | refine then_ret ?_ | refine block_ret ?_
  exact bodyPost_ret (v := .bool false) ky rfl ⟨rfl, H0.old.old⟩
set_option maxRecDepth 100000 in
set_option maxHeartbeats 2000000 in
theorem numberOf_k {w : World} {tq : Nat} :
    Calls Tryz.prog 108 #[.iface 114 (.agg #[pt tq])] w fun e w' => e = .returned (iN .i64 1) ∧ Below w.heap.size w w' := by
  have H0 := HA.start w
  go_enter Tryz.func108, Tryz.ntmps108
  refine wp_seq (wl_region ?_)
  refine zv (iN .i64 0) ?_
  refine wl_nil ?_
  refine then_at (F := ⟨(.iface 114 (.agg #[pt tq]) :: un :: iN .i64 0 :: List.replicate 7 un).toArray, []⟩) ky ?_
  refine wp_seq (wp_seq (wl_region ?_))
  refine zv (.iface 114 (.agg #[pt tq])) ?_
  refine wl_nil ?_
  refine then_at (F := ⟨(.iface 114 (.agg #[pt tq]) :: un :: iN .i64 0 :: .iface 114 (.agg #[pt tq]) :: List.replicate 6 un).toArray, []⟩) ky ?_
  refine wp_block (wp_seq (wl_region ?_))
  refine zv (.tuple #[.agg #[], .bool false]) ?_
  refine zv (.bool false) ?_
  refine zv (.agg #[]) ?_
  refine wl_nil ?_
  refine then_at (F := ⟨(.iface 114 (.agg #[pt tq]) :: un :: iN .i64 0 :: .iface 114 (.agg #[pt tq]) :: .tuple #[.agg #[], .bool false] :: .bool false :: .agg #[] :: List.replicate 3 un).toArray, []⟩) ky ?_
  refine wp_cond_false ky ?_
  refine wp_seq (wl_region ?_)
  refine zv (.tuple #[.agg #[.pointer (some ⟨tq, 0, none⟩)], .bool true]) ?_
  refine zv (.bool true) ?_
  refine zv (.agg #[.pointer (some ⟨tq, 0, none⟩)]) ?_
  refine wl_nil ?_
  refine then_at (F := ⟨(.iface 114 (.agg #[pt tq]) :: un :: iN .i64 0 :: .iface 114 (.agg #[pt tq]) :: .tuple #[.agg #[], .bool false] :: .bool false :: .agg #[] :: .tuple #[.agg #[pt tq], .bool true] :: .bool true :: .agg #[pt tq] :: List.replicate 0 un).toArray, []⟩) ky ?_
  refine wp_cond_true ky ?_
  refine wp_seq (wl_region ?_)
  refine zv (iN .i64 1) ?_
  refine wl_nil ?_
  refine then_at (F := ⟨(.iface 114 (.agg #[pt tq]) :: un :: iN .i64 1 :: .iface 114 (.agg #[pt tq]) :: .tuple #[.agg #[], .bool false] :: .bool false :: .agg #[] :: .tuple #[.agg #[pt tq], .bool true] :: .bool true :: .agg #[pt tq] :: List.replicate 0 un).toArray, []⟩) ky ?_
  refine wp_ret ?_
  repeat first | refine then_ret ?_ | refine block_ret ?_
  exact bodyPost_ret (v := iN .i64 1) ky rfl ⟨rfl, H0.old.old⟩
set_option maxRecDepth 100000 in
set_option maxHeartbeats 2000000 in
theorem Kit_k {w : World} {q tq : Nat} (hk : w.cell? ⟨q, 0, none⟩ = some (.iface 114 (.agg #[pt tq]))) :
    Calls Tryz.prog 66 #[pt q] w fun e w' => e = .returned (iN .i64 1) ∧ Below w.heap.size w w' := by
  have H0 := HA.start w
  go_enter Tryz.func66, Tryz.ntmps66
  refine wp_seq (wl_region ?_)
  refine zv (iN .i64 0) ?_
  refine wl_nil ?_
  refine then_at (F := ⟨(pt q :: un :: iN .i64 0 :: List.replicate 7 un).toArray, []⟩) ky ?_
  refine wp_seq (wp_seq (wl_region ?_))
  refine zv (.pointer (some ⟨q, 0, none⟩)) ?_
  refine wl_call (v := .bool false) H0 ky enter56 #[.pointer (some ⟨q, 0, none⟩)] ky (none_k (got H0.old.old hk)) ?_
  intro w1 h2
  refine wl_nil ?_
  refine then_at (F := ⟨(pt q :: un :: iN .i64 0 :: pt q :: .bool false :: List.replicate 5 un).toArray, []⟩) ky ?_
  refine wp_cond_false ky ?_
  refine wp_skip ?_
  refine then_at (F := ⟨(pt q :: un :: iN .i64 0 :: pt q :: .bool false :: List.replicate 5 un).toArray, []⟩) ky ?_
  refine wp_seq (wl_region ?_)
  refine zv (.pointer (some ⟨q, 0, none⟩)) ?_
  refine zv (.pointer (some ⟨q, 0, none⟩)) ?_
  refine zv (.pointer (some ⟨q, 0, none⟩)) ?_
  refine zu (.iface 114 (.agg #[pt tq])) (run_load1 (fun w => Tryz.isAgg110 w) ky (got h2.old.old hk)) ?_
  refine wl_call (v := iN .i64 1) h2 ky enter108 #[.iface 114 (.agg #[pt tq])] ky (numberOf_k) ?_
  intro w3 h4
  refine zv (iN .i64 1) ?_
  refine wl_nil ?_
  refine then_at (F := ⟨(pt q :: un :: iN .i64 1 :: pt q :: .bool false :: pt q :: pt q :: pt q :: .iface 114 (.agg #[pt tq]) :: iN .i64 1 :: List.replicate 0 un).toArray, []⟩) ky ?_
  refine wp_ret ?_
  repeat first | refine then_ret ?_ | refine block_ret ?_
  exact bodyPost_ret (v := iN .i64 1) ky rfl ⟨rfl, h4.old.old⟩
end Go.Proofs.YtoogiblkommdfaaGreat

namespace Go.Proofs.YtoogiblkommdfaaGreat
open Go.RowKit

theorem ss1 {a : ByteArray} {m : Nat} (h : a.size ≤ m) : ∀ i, ([a].getD i ByteArray.empty).size ≤ m := strs_le (by simpa using h)
theorem ss2 {a b : ByteArray} {m : Nat} (h : a.size ≤ m) (h2 : b.size ≤ m) : ∀ i, ([a, b].getD i ByteArray.empty).size ≤ m := strs_le (by simpa using ⟨h, h2⟩)
/-- a new name -/
def frA (A : List Ent) : List Ent := A ++ [.nm (nms A)]
theorem frA_len (A : List Ent) : (frA A).length = A.length + 1 := by simp [frA]
set_option maxRecDepth 100000 in
set_option maxHeartbeats 2000000 in
theorem tk_secret {w0 w : World} {M : ML} {p : Pr} {A : List Ent} {n : Nat} {L : BL} (H : PH w0 M p A n L w) (d : ByteArray) (hf : A.length < 58000) :
    Calls Tryz.prog 359 #[.agg #[pt p.t.q], .string d] w fun e w' => e = .returned (.string (txt A.length)) ∧ PH w0 M p (frA A) n L w' := by
  obtain ⟨z0, X0, hcl0, hbe0, H0⟩ := PH.front H
  go_enter Tryz.func359, Tryz.ntmps359
  refine wp_seq (wl_region ?_)
  refine wl_make (c := #[.pointer (some ⟨p.t.q, 0, none⟩)]) H0 114 ky ky ?_
  intro q1 w2 (h3 : HA z0 ((q1, 114, #[.pointer (some ⟨p.t.q, 0, none⟩)]) :: (L ++ X0)) w2)
  refine zv (.string ({ data := #[] })) ?_
  refine wl_nil (then_at rfl (wp_seq (wl_region ?_)))
  refine zv (.pointer (some ⟨q1, 0, none⟩)) ?_
  refine zu (.pointer (some ⟨p.t.q, 0, none⟩)) (run_load1 (fun w => Tryz.isAgg82 w) ky (((h3.get 0 rfl).cell 0).trans rfl)) ?_
  refine wl_callx ky enter234 #[.pointer (some ⟨p.t.q, 0, none⟩)] ky (Fresh_P (hcl0 ((q1, 114, #[.pointer (some ⟨p.t.q, 0, none⟩)]) :: L) _ h3) hf) ?_
  rintro _ w5 ⟨rfl, hD4⟩
  refine ⟨_, rfl, ?_⟩
  obtain ⟨z6, X7, hcl8, hbe9, h10⟩ := PH.front hD4
  have h11 : HA z6 ((q1, 114, #[.pointer (some ⟨p.t.q, 0, none⟩)]) :: (L ++ X7)) w5 := h10
  refine zv (.string (txt A.length)) ?_
  refine wl_nil (then_at rfl ?_)
  refine wp_ret ?_
  repeat first | refine then_ret ?_ | refine block_ret ?_
  exact bodyPost_ret (v := .string (txt A.length)) ky rfl ⟨rfl, PH.sub (hcl8 ((q1, 114, #[.pointer (some ⟨p.t.q, 0, none⟩)]) :: L) _ h11) (List.Sublist.cons _ (List.Sublist.refl _))⟩
set_option maxRecDepth 100000 in
set_option maxHeartbeats 2000000 in
theorem Secret_P {w0 w : World} {M : ML} {p : Pr} {A : List Ent} {n : Nat} {L : BL} (H : PH w0 M p A n L w) (d : ByteArray) (hf : A.length < 58000) :
    Calls Tryz.prog 18 #[pt p.q, .string d] w fun e w' => e = .returned (.string (txt A.length)) ∧ PH w0 M p (frA A) n L w' := by
  obtain ⟨z0, X0, hcl0, hbe0, H0⟩ := PH.front H
  go_enter Tryz.func18, Tryz.ntmps18
  refine wp_seq (wl_region ?_)
  refine zv (.string ({ data := #[] })) ?_
  refine wl_nil (then_at rfl (wp_seq (wp_seq (wl_region ?_))))
  refine zv (.pointer (some ⟨p.q, 0, none⟩)) ?_
  refine wl_call (v := .bool false) H0 ky enter56 #[.pointer (some ⟨p.q, 0, none⟩)] ky (none_k (PH.kit (hcl0 (L) _ H0))) ?_
  intro w1 h2
  refine wl_nil (then_at rfl ?_)
  refine wp_cond_false ky ?_
  refine wp_skip (then_at rfl (wp_seq (wl_region ?_)))
  refine zv (.pointer (some ⟨p.q, 0, none⟩)) ?_
  refine zv (.pointer (some ⟨p.q, 0, none⟩)) ?_
  refine zv (.pointer (some ⟨p.q, 0, none⟩)) ?_
  refine zu (.iface 114 (.agg #[pt p.t.q])) (run_load1 (fun w => Tryz.isAgg110 w) ky (PH.kit (hcl0 (L) _ h2))) ?_
  refine zv (.string d) ?_
  refine wl_invoke (f := 359) (T := 114) (rv := .agg #[.pointer (some ⟨p.t.q, 0, none⟩)]) (args := #[.string d]) ky (fun _ => by kernel_rfl) ky ky (tk_secret (hcl0 (L) _ h2) d hf) ?_
  rintro _ w4 ⟨rfl, hD3⟩
  refine ⟨_, rfl, ?_⟩
  obtain ⟨z5, X6, hcl7, hbe8, h9⟩ := PH.front hD3
  have h10 : HA z5 (L ++ X6) w4 := h9
  refine zv (.string (txt A.length)) ?_
  refine wl_nil (then_at rfl ?_)
  refine wp_ret ?_
  repeat first | refine then_ret ?_ | refine block_ret ?_
  exact bodyPost_ret (v := .string (txt A.length)) ky rfl ⟨rfl, PH.sub (hcl7 (L) _ h10) (List.Sublist.refl _)⟩
set_option maxRecDepth 100000 in
set_option maxHeartbeats 2000000 in
theorem tk_public {w0 w : World} {M : ML} {p : Pr} {A : List Ent} {n : Nat} {L : BL} (H : PH w0 M p A n L w) (s : ByteArray) (hs : s.size ≤ 65536) (hf : A.length < 58000) :
    Calls Tryz.prog 357 #[.agg #[pt p.t.q], .string s] w fun e w' => e = .returned (.tuple #[.string (txt (mkA A 3 ({ data := #[] }) [s]).2), iN .i64 0]) ∧ PH w0 M p (mkA A 3 ({ data := #[] }) [s]).1 n L w' := by
  obtain ⟨z0, X0, hcl0, hbe0, H0⟩ := PH.front H
  go_enter Tryz.func357, Tryz.ntmps357
  refine wp_seq (wl_region ?_)
  refine wl_make (c := #[.pointer (some ⟨p.t.q, 0, none⟩)]) H0 114 ky ky ?_
  intro q1 w2 (h3 : HA z0 ((q1, 114, #[.pointer (some ⟨p.t.q, 0, none⟩)]) :: (L ++ X0)) w2)
  refine zv (.string ({ data := #[] })) ?_
  refine zv (iN .i64 0) ?_
  refine wl_nil (then_at rfl (wp_seq (wl_region ?_)))
  refine zv (.pointer (some ⟨q1, 0, none⟩)) ?_
  refine zu (.pointer (some ⟨p.t.q, 0, none⟩)) (run_load1 (fun w => Tryz.isAgg82 w) ky (((h3.get 0 rfl).cell 0).trans rfl)) ?_
  refine zv (.string s) ?_
  refine wl_mks (n := 1) (m := 1) (c := #[.string s]) h3 9 ky ky ?_
  intro q4 w5 (h6 : HA z0 ((q4, 9, #[.string s]) :: (q1, 114, #[.pointer (some ⟨p.t.q, 0, none⟩)]) :: (L ++ X0)) w5)
  refine wl_callx ky enter364 #[.pointer (some ⟨p.t.q, 0, none⟩), iN .i64 3, .string ({ data := #[] }), .slice (some ⟨q4, 0, none⟩) 1 1] ky (Make_P (hcl0 ((q4, 9, #[.string s]) :: (q1, 114, #[.pointer (some ⟨p.t.q, 0, none⟩)]) :: L) _ h6) 3 ({ data := #[] }) [s] _ _ (.inr ⟨q4, _, rfl, PreS.strc [s], by simp [strc]⟩) hf ky (by decide) (ss1 hs) (by simp) (fun _ => rfl) (fun h => absurd h (by decide)) (fun h => absurd h (by decide)) (fun h => absurd h (by decide))) ?_
  rintro _ w8 ⟨rfl, hD7⟩
  refine ⟨_, rfl, ?_⟩
  obtain ⟨z9, X10, hcl11, hbe12, h13⟩ := PH.front hD7
  have h14 : HA z9 ((q4, 9, #[.string s]) :: (q1, 114, #[.pointer (some ⟨p.t.q, 0, none⟩)]) :: (L ++ X10)) w8 := h13
  refine zv (.string (txt (mkA A 3 ({ data := #[] }) [s]).2)) ?_
  refine zv (iN .i64 0) ?_
  refine zv (.string (txt (mkA A 3 ({ data := #[] }) [s]).2)) ?_
  refine zv (iN .i64 0) ?_
  refine wl_nil (then_at rfl ?_)
  refine wp_ret ?_
  repeat first | refine then_ret ?_ | refine block_ret ?_
  exact bodyPost_ret (v := .tuple #[.string (txt (mkA A 3 ({ data := #[] }) [s]).2), iN .i64 0]) ky rfl ⟨rfl, PH.sub (hcl11 ((q4, 9, #[.string s]) :: (q1, 114, #[.pointer (some ⟨p.t.q, 0, none⟩)]) :: L) _ h14) (List.Sublist.cons _ (List.Sublist.cons _ (List.Sublist.refl _)))⟩
set_option maxRecDepth 100000 in
set_option maxHeartbeats 2000000 in
theorem Public_P {w0 w : World} {M : ML} {p : Pr} {A : List Ent} {n : Nat} {L : BL} (H : PH w0 M p A n L w) (s : ByteArray) (hs : s.size ≤ 65536) (hf : A.length < 58000) :
    Calls Tryz.prog 33 #[pt p.q, .string s] w fun e w' => e = .returned (.tuple #[.string (txt (mkA A 3 ({ data := #[] }) [s]).2), iN .i64 0]) ∧ PH w0 M p (mkA A 3 ({ data := #[] }) [s]).1 n L w' := by
  obtain ⟨z0, X0, hcl0, hbe0, H0⟩ := PH.front H
  go_enter Tryz.func33, Tryz.ntmps33
  refine wp_seq (wl_region ?_)
  refine zv (.string ({ data := #[] })) ?_
  refine zv (iN .i64 0) ?_
  refine wl_nil (then_at rfl (wp_seq (wp_seq (wl_region ?_))))
  refine zv (.pointer (some ⟨p.q, 0, none⟩)) ?_
  refine wl_call (v := .bool false) H0 ky enter56 #[.pointer (some ⟨p.q, 0, none⟩)] ky (none_k (PH.kit (hcl0 (L) _ H0))) ?_
  intro w1 h2
  refine wl_nil (then_at rfl ?_)
  refine wp_cond_false ky ?_
  refine wp_skip (then_at rfl (wp_seq (wl_region ?_)))
  refine zv (.pointer (some ⟨p.q, 0, none⟩)) ?_
  refine zv (.pointer (some ⟨p.q, 0, none⟩)) ?_
  refine zv (.pointer (some ⟨p.q, 0, none⟩)) ?_
  refine zu (.iface 114 (.agg #[pt p.t.q])) (run_load1 (fun w => Tryz.isAgg110 w) ky (PH.kit (hcl0 (L) _ h2))) ?_
  refine zv (.string s) ?_
  refine wl_invoke (f := 357) (T := 114) (rv := .agg #[.pointer (some ⟨p.t.q, 0, none⟩)]) (args := #[.string s]) ky (fun _ => by kernel_rfl) ky ky (tk_public (hcl0 (L) _ h2) s hs hf) ?_
  rintro _ w4 ⟨rfl, hD3⟩
  refine ⟨_, rfl, ?_⟩
  obtain ⟨z5, X6, hcl7, hbe8, h9⟩ := PH.front hD3
  have h10 : HA z5 (L ++ X6) w4 := h9
  refine zv (.string (txt (mkA A 3 ({ data := #[] }) [s]).2)) ?_
  refine zv (iN .i64 0) ?_
  refine zv (.string (txt (mkA A 3 ({ data := #[] }) [s]).2)) ?_
  refine zv (iN .i64 0) ?_
  refine wl_nil (then_at rfl ?_)
  refine wp_ret ?_
  repeat first | refine then_ret ?_ | refine block_ret ?_
  exact bodyPost_ret (v := .tuple #[.string (txt (mkA A 3 ({ data := #[] }) [s]).2), iN .i64 0]) ky rfl ⟨rfl, PH.sub (hcl7 (L) _ h10) (List.Sublist.refl _)⟩
set_option maxRecDepth 100000 in
set_option maxHeartbeats 2000000 in
theorem tk_dh {w0 w : World} {M : ML} {p : Pr} {A : List Ent} {n : Nat} {L : BL} (H : PH w0 M p A n L w) (s u : ByteArray) (hs : s.size ≤ 65536) (hu : u.size ≤ 65536) (hf : A.length < 58000) :
    Calls Tryz.prog 353 #[.agg #[pt p.t.q], .string s, .string u] w fun e w' => e = .returned (.tuple #[.string (txt (mkA A 4 ({ data := #[] }) [s, u]).2), iN .i64 0]) ∧ PH w0 M p (mkA A 4 ({ data := #[] }) [s, u]).1 n L w' := by
  obtain ⟨z0, X0, hcl0, hbe0, H0⟩ := PH.front H
  go_enter Tryz.func353, Tryz.ntmps353
  refine wp_seq (wl_region ?_)
  refine wl_make (c := #[.pointer (some ⟨p.t.q, 0, none⟩)]) H0 114 ky ky ?_
  intro q1 w2 (h3 : HA z0 ((q1, 114, #[.pointer (some ⟨p.t.q, 0, none⟩)]) :: (L ++ X0)) w2)
  refine zv (.string ({ data := #[] })) ?_
  refine zv (iN .i64 0) ?_
  refine wl_nil (then_at rfl (wp_seq (wl_region ?_)))
  refine zv (.pointer (some ⟨q1, 0, none⟩)) ?_
  refine zu (.pointer (some ⟨p.t.q, 0, none⟩)) (run_load1 (fun w => Tryz.isAgg82 w) ky (((h3.get 0 rfl).cell 0).trans rfl)) ?_
  refine zv (.string s) ?_
  refine zv (.string u) ?_
  refine wl_mks (n := 2) (m := 2) (c := #[.string s, .string u]) h3 9 ky ky ?_
  intro q4 w5 (h6 : HA z0 ((q4, 9, #[.string s, .string u]) :: (q1, 114, #[.pointer (some ⟨p.t.q, 0, none⟩)]) :: (L ++ X0)) w5)
  refine wl_callx ky enter364 #[.pointer (some ⟨p.t.q, 0, none⟩), iN .i64 4, .string ({ data := #[] }), .slice (some ⟨q4, 0, none⟩) 2 2] ky (Make_P (hcl0 ((q4, 9, #[.string s, .string u]) :: (q1, 114, #[.pointer (some ⟨p.t.q, 0, none⟩)]) :: L) _ h6) 4 ({ data := #[] }) [s, u] _ _ (.inr ⟨q4, _, rfl, PreS.strc [s, u], by simp [strc]⟩) hf ky (by decide) (ss2 hs hu) (by simp) (fun h => absurd h (by decide)) (fun _ => rfl) (fun h => absurd h (by decide)) (fun h => absurd h (by decide))) ?_
  rintro _ w8 ⟨rfl, hD7⟩
  refine ⟨_, rfl, ?_⟩
  obtain ⟨z9, X10, hcl11, hbe12, h13⟩ := PH.front hD7
  have h14 : HA z9 ((q4, 9, #[.string s, .string u]) :: (q1, 114, #[.pointer (some ⟨p.t.q, 0, none⟩)]) :: (L ++ X10)) w8 := h13
  refine zv (.string (txt (mkA A 4 ({ data := #[] }) [s, u]).2)) ?_
  refine zv (iN .i64 0) ?_
  refine zv (.string (txt (mkA A 4 ({ data := #[] }) [s, u]).2)) ?_
  refine zv (iN .i64 0) ?_
  refine wl_nil (then_at rfl ?_)
  refine wp_ret ?_
  repeat first | refine then_ret ?_ | refine block_ret ?_
  exact bodyPost_ret (v := .tuple #[.string (txt (mkA A 4 ({ data := #[] }) [s, u]).2), iN .i64 0]) ky rfl ⟨rfl, PH.sub (hcl11 ((q4, 9, #[.string s, .string u]) :: (q1, 114, #[.pointer (some ⟨p.t.q, 0, none⟩)]) :: L) _ h14) (List.Sublist.cons _ (List.Sublist.cons _ (List.Sublist.refl _)))⟩
set_option maxRecDepth 100000 in
set_option maxHeartbeats 2000000 in
theorem Dh_P {w0 w : World} {M : ML} {p : Pr} {A : List Ent} {n : Nat} {L : BL} (H : PH w0 M p A n L w) (s u : ByteArray) (hs : s.size ≤ 65536) (hu : u.size ≤ 65536) (hf : A.length < 58000) :
    Calls Tryz.prog 109 #[pt p.q, .string s, .string u] w fun e w' => e = .returned (.tuple #[.string (txt (mkA A 4 ({ data := #[] }) [s, u]).2), iN .i64 0]) ∧ PH w0 M p (mkA A 4 ({ data := #[] }) [s, u]).1 n L w' := by
  obtain ⟨z0, X0, hcl0, hbe0, H0⟩ := PH.front H
  go_enter Tryz.func109, Tryz.ntmps109
  refine wp_seq (wl_region ?_)
  refine zv (.string ({ data := #[] })) ?_
  refine zv (iN .i64 0) ?_
  refine wl_nil (then_at rfl (wp_seq (wp_seq (wl_region ?_))))
  refine zv (.pointer (some ⟨p.q, 0, none⟩)) ?_
  refine wl_call (v := .bool false) H0 ky enter56 #[.pointer (some ⟨p.q, 0, none⟩)] ky (none_k (PH.kit (hcl0 (L) _ H0))) ?_
  intro w1 h2
  refine wl_nil (then_at rfl ?_)
  refine wp_cond_false ky ?_
  refine wp_skip (then_at rfl (wp_seq (wl_region ?_)))
  refine zv (.pointer (some ⟨p.q, 0, none⟩)) ?_
  refine zv (.pointer (some ⟨p.q, 0, none⟩)) ?_
  refine zv (.pointer (some ⟨p.q, 0, none⟩)) ?_
  refine zu (.iface 114 (.agg #[pt p.t.q])) (run_load1 (fun w => Tryz.isAgg110 w) ky (PH.kit (hcl0 (L) _ h2))) ?_
  refine zv (.string s) ?_
  refine zv (.string u) ?_
  refine wl_invoke (f := 353) (T := 114) (rv := .agg #[.pointer (some ⟨p.t.q, 0, none⟩)]) (args := #[.string s, .string u]) ky (fun _ => by kernel_rfl) ky ky (tk_dh (hcl0 (L) _ h2) s u hs hu hf) ?_
  rintro _ w4 ⟨rfl, hD3⟩
  refine ⟨_, rfl, ?_⟩
  obtain ⟨z5, X6, hcl7, hbe8, h9⟩ := PH.front hD3
  have h10 : HA z5 (L ++ X6) w4 := h9
  refine zv (.string (txt (mkA A 4 ({ data := #[] }) [s, u]).2)) ?_
  refine zv (iN .i64 0) ?_
  refine zv (.string (txt (mkA A 4 ({ data := #[] }) [s, u]).2)) ?_
  refine zv (iN .i64 0) ?_
  refine wl_nil (then_at rfl ?_)
  refine wp_ret ?_
  repeat first | refine then_ret ?_ | refine block_ret ?_
  exact bodyPost_ret (v := .tuple #[.string (txt (mkA A 4 ({ data := #[] }) [s, u]).2), iN .i64 0]) ky rfl ⟨rfl, PH.sub (hcl7 (L) _ h10) (List.Sublist.refl _)⟩
end Go.Proofs.YtoogiblkommdfaaGreat

namespace Go.Proofs.YtoogiblkommdfaaGreat
open Go.RowKit

theorem n4_txt {i : Nat} (hi : i < 4294967296) : n4 (txt i) = i := by
  have e : ((txt i).extract 4 8).data.toList = [UInt8.ofNat (i / 2 ^ 24), UInt8.ofNat (i / 2 ^ 16), UInt8.ofNat (i / 2 ^ 8), UInt8.ofNat (i / 2 ^ 0)] := by
    unfold txt putS p4 hdS bl
    simp
  unfold n4
  rw [e]
  simp only [val, List.foldl_cons, List.foldl_nil, UInt8.toNat_ofNat']
  omega
theorem numT_txt {m i : Nat} (hi : i < m) (hm : m ≤ 60000) : numT m (txt i) = some i := by
  unfold numT firstT
  rw [if_pos (txt_size i), n4_txt (by omega), if_pos]
  refine ⟨by rw [txt_size]; decide, ?_, hi⟩
  unfold txt putS p4 hdS bl
  apply ByteArray.ext
  simp
/-- has the text that term -/
def isA (A : List Ent) (m : Nat) (s : ByteArray) : Bool := match numT A.length s with
  | some _ => decide (s = txt m)
  | none => match A[m]? with
    | some (.dt x) => decide (x = s)
    | _ => false
theorem numT_lt {m : Nat} {s : ByteArray} {x : Nat} (h : numT m s = some x) : x < m := by
  unfold numT firstT at h
  split at h
  · split at h
    · next h2 => obtain rfl := Option.some.inj h; exact h2.2.2
    · cases h
  · cases h
section
variable {w0 w : World} {M : ML} {p : Pr} {A : List Ent} {n : Nat} {L : BL}
theorem PH.mk (h : PH w0 M p A n L w) {x k m : Nat} {s : ByteArray} {ps : List Nat} {b : Nat} (he : A[x]? = some (.mk k m s ps b)) : 3 ≤ k ∧ (∀ y ∈ ps, y < A.length) ∧ (k = 6 → ps.length = 4) := by
  obtain ⟨es, jv, xs, Lj, rfl, h2, h3, H⟩ := h
  rw [Z_get] at he
  obtain ⟨q, he2, hq⟩ := Option.map_eq_some_iff.1 he
  cases q with
  | nm y => cases hq
  | dt y => cases hq
  | mk k' n' s' ps' b' =>
    obtain ⟨rfl, rfl, rfl, rfl, rfl⟩ := Ent.mk.inj hq
    refine ⟨h2.kk _ _ _ _ _ (List.mem_of_getElem? he2), fun y hy => by rw [Z_len]; exact h2.wg.lt _ _ _ _ _ _ he2 y hy, ?_⟩
    rintro rfl
    exact h2.wg.four _ _ _ _ _ he2
theorem PH.not2 (h : PH w0 M p A n L w) {x : Nat} {q : Ent} (he : A[x]? = some q) (hq : ∀ s, q ≠ .dt s) : ¬ kE q = 2 := by
  cases q with
  | nm y => simp [kE]
  | dt s => exact absurd rfl (hq s)
  | mk k m s ps b => have := (h.mk he).1; simp only [kE]; omega
end
set_option maxRecDepth 100000 in
set_option maxHeartbeats 2000000 in
theorem ptext_any (n : Nat) (hn : n < 9223372036854775808) (w : World) :
    Calls Tryz.prog 378 #[iN .i64 n] w fun e w' => e = .returned (.string (txt n)) ∧ Below w.heap.size w w' := by
  have H0 := HA.start w
  go_enter Tryz.func378, Tryz.ntmps378
  refine wp_seq (wl_region ?_)
  refine zv (.string ({ data := #[] })) ?_
  refine wl_nil (then_at rfl (wp_seq (wl_region ?_)))
  refine zv (iN .i64 n) ?_
  refine zu (iN .u64 n) (run_conv .u64 Tryz.underlying3 Tryz.underlying95 ky (by first | omega | (simp only [top]; omega))) ?_
  refine wl_call (v := .string (putS ({ data := #[240, 84, 82, 77] }) n)) H0 ky enter75 #[.string ({ data := #[240, 84, 82, 77] }), iN .i64 4, iN .u64 n] ky (PutNumber_4 ({ data := #[240, 84, 82, 77] }) n (by decide) (by omega) w) ?_
  intro w1 h2
  refine zv (.string (putS ({ data := #[240, 84, 82, 77] }) n)) ?_
  refine wl_nil (then_at rfl ?_)
  refine wp_ret ?_
  repeat first | refine then_ret ?_ | refine block_ret ?_
  exact bodyPost_ret (v := .string (txt n)) ky rfl ⟨rfl, h2.old.old⟩
set_option maxRecDepth 100000 in
set_option maxHeartbeats 2000000 in
theorem is_t {w0 w : World} {M : ML} {p : Pr} {A : List Ent} {n : Nat} {L : BL} (H : PH w0 M p A n L w) (m : Nat) (s : ByteArray) (hm : m < 60000) {x : Nat} {q : Ent} (hn : numT A.length s = some x) (he : A[x]? = some q) (b : Bool) (hb : decide (s = txt m) = b) :
    Calls Tryz.prog 369 #[.agg #[pt p.t.q], iN .i64 m, .string s] w fun e w' => e = .returned (.bool b) ∧ Below w.heap.size w w' := by
  have H0 := HA.start w
  go_enter Tryz.func369, Tryz.ntmps369
  refine wp_seq (wl_region ?_)
  refine wl_make (c := #[.pointer (some ⟨p.t.q, 0, none⟩)]) H0 114 ky ky ?_
  intro q1 w2 (h3 : HA (bs w) [(q1, 114, #[.pointer (some ⟨p.t.q, 0, none⟩)])] w2)
  refine zv (.bool false) ?_
  refine wl_nil (then_at rfl (wp_seq (wp_seq (wl_region ?_))))
  refine zv (.pointer (some ⟨q1, 0, none⟩)) ?_
  refine zu (.pointer (some ⟨p.t.q, 0, none⟩)) (run_load1 (fun w => Tryz.isAgg82 w) ky (((h3.get 0 rfl).cell 0).trans rfl)) ?_
  refine zv (.string s) ?_
  refine wl_callx ky enter377 #[.pointer (some ⟨p.t.q, 0, none⟩), .string s] ky (Of_y (PH.keep H h3.old.old) hn he) ?_
  rintro _ w8 ⟨po4, pc5, rfl, hpo6, hb7⟩
  refine ⟨_, rfl, ?_⟩
  have h9 := HA.keep _ _ h3 hb7
  refine zv (.tuple #[.agg #[iN .i64 (kE q), iN .i64 (nE q), .string (sE q), .slice po4 (psE q).length pc5], .bool true]) ?_
  refine zv (.agg #[iN .i64 (kE q), iN .i64 (nE q), .string (sE q), .slice po4 (psE q).length pc5]) ?_
  refine zv (.bool true) ?_
  refine wl_make (c := #[iN .i64 0, iN .i64 0, .string ({ data := #[] }), .slice none 0 0]) h9 166 ky ky ?_
  intro q10 w11 (h12 : HA (bs w) [(q10, 166, #[iN .i64 0, iN .i64 0, .string ({ data := #[] }), .slice none 0 0]), (q1, 114, #[.pointer (some ⟨p.t.q, 0, none⟩)])] w11)
  refine wl_fill (c' := #[iN .i64 (kE q), iN .i64 (nE q), .string (sE q), .slice po4 (psE q).length pc5]) h12 0 rfl ky ky ky rfl ky ky ?_
  intro w13 (h14 : HA (bs w) [(q10, 166, #[iN .i64 (kE q), iN .i64 (nE q), .string (sE q), .slice po4 (psE q).length pc5]), (q1, 114, #[.pointer (some ⟨p.t.q, 0, none⟩)])] w13)
  refine zv (.bool true) ?_
  refine wl_nil (then_at rfl (wp_seq (wl_region ?_)))
  refine zv (.bool true) ?_
  refine wl_nil (then_at rfl ?_)
  refine wp_cond_true ky ?_
  refine wp_seq (wl_region ?_)
  refine zv (.string s) ?_
  refine zv (iN .i64 m) ?_
  refine wl_call (v := .string (txt m)) h14 ky enter378 #[iN .i64 m] ky (ptext_any m (by omega) w13) ?_
  intro w15 h16
  refine zu (.bool b) (run_eqs (s := s) (t := txt m) ky ky b hb) ?_
  refine zv (.bool b) ?_
  refine wl_nil (then_at rfl ?_)
  refine wp_ret ?_
  repeat first | refine then_ret ?_ | refine block_ret ?_
  exact bodyPost_ret (v := .bool b) ky rfl ⟨rfl, h16.old.old⟩
set_option maxRecDepth 100000 in
set_option maxHeartbeats 2000000 in
theorem is_d {w0 w : World} {M : ML} {p : Pr} {A : List Ent} {n : Nat} {L : BL} (H : PH w0 M p A n L w) (m : Nat) (s : ByteArray) (hm : m < 60000) {y : ByteArray} (hn : numT A.length s = none) (hn2 : numT A.length (txt m) = some m) (he : A[m]? = some (.dt y)) (b : Bool) (hb : decide (y = s) = b) :
    Calls Tryz.prog 369 #[.agg #[pt p.t.q], iN .i64 m, .string s] w fun e w' => e = .returned (.bool b) ∧ Below w.heap.size w w' := by
  have H0 := HA.start w
  go_enter Tryz.func369, Tryz.ntmps369
  refine wp_seq (wl_region ?_)
  refine wl_make (c := #[.pointer (some ⟨p.t.q, 0, none⟩)]) H0 114 ky ky ?_
  intro q1 w2 (h3 : HA (bs w) [(q1, 114, #[.pointer (some ⟨p.t.q, 0, none⟩)])] w2)
  refine zv (.bool false) ?_
  refine wl_nil (then_at rfl (wp_seq (wp_seq (wl_region ?_))))
  refine zv (.pointer (some ⟨q1, 0, none⟩)) ?_
  refine zu (.pointer (some ⟨p.t.q, 0, none⟩)) (run_load1 (fun w => Tryz.isAgg82 w) ky (((h3.get 0 rfl).cell 0).trans rfl)) ?_
  refine zv (.string s) ?_
  refine wl_call (v := .tuple #[.agg #[iN .i64 0, iN .i64 0, .string ({ data := #[] }), .slice none 0 0], .bool false]) h3 ky enter377 #[.pointer (some ⟨p.t.q, 0, none⟩), .string s] ky (Of_n (PH.keep H h3.old.old) hn) ?_
  intro w4 h5
  refine zv (.tuple #[.agg #[iN .i64 0, iN .i64 0, .string ({ data := #[] }), .slice none 0 0], .bool false]) ?_
  refine zv (.agg #[iN .i64 0, iN .i64 0, .string ({ data := #[] }), .slice none 0 0]) ?_
  refine zv (.bool false) ?_
  refine wl_make (c := #[iN .i64 0, iN .i64 0, .string ({ data := #[] }), .slice none 0 0]) h5 166 ky ky ?_
  intro q6 w7 (h8 : HA (bs w) [(q6, 166, #[iN .i64 0, iN .i64 0, .string ({ data := #[] }), .slice none 0 0]), (q1, 114, #[.pointer (some ⟨p.t.q, 0, none⟩)])] w7)
  refine wl_fill (c' := #[iN .i64 0, iN .i64 0, .string ({ data := #[] }), .slice none 0 0]) h8 0 rfl ky ky ky rfl ky ky ?_
  intro w9 (h10 : HA (bs w) [(q6, 166, #[iN .i64 0, iN .i64 0, .string ({ data := #[] }), .slice none 0 0]), (q1, 114, #[.pointer (some ⟨p.t.q, 0, none⟩)])] w9)
  refine zv (.bool false) ?_
  refine wl_nil (then_at rfl (wp_seq (wl_region ?_)))
  refine zv (.bool false) ?_
  refine wl_nil (then_at rfl ?_)
  refine wp_cond_false ky ?_
  refine wp_skip (then_at rfl (wp_seq ?_))
  refine wp_region_wx (HA (bs w) [(q6, 166, #[iN .i64 0, iN .i64 0, .string ({ data := #[] }), .slice none 0 0]), (q1, 114, #[.pointer (some ⟨p.t.q, 0, none⟩)])]) (fun AQ w' => ∃ (po16 : Option Addr) (pc17 : Nat) (q26 : Nat), AQ = ⟨(.agg #[pt p.t.q] :: iN .i64 m :: .string s :: pt q1 :: un :: un :: .bool false :: pt q6 :: .bool false :: pt q26 :: .bool true :: .tuple #[.agg #[iN .i64 0, iN .i64 0, .string ({ data := #[] }), .slice none 0 0], .bool false] :: pt q1 :: pt p.t.q :: .string s :: .tuple #[.agg #[iN .i64 0, iN .i64 0, .string ({ data := #[] }), .slice none 0 0], .bool false] :: .agg #[iN .i64 0, iN .i64 0, .string ({ data := #[] }), .slice none 0 0] :: .bool false :: .bool false :: un :: un :: un :: un :: .tuple #[.agg #[iN .i64 (kE (.dt y)), iN .i64 (nE (.dt y)), .string (sE (.dt y)), .slice po16 (psE (.dt y)).length pc17], .bool true] :: pt q1 :: pt p.t.q :: iN .i64 m :: .string (txt m) :: .tuple #[.agg #[iN .i64 (kE (.dt y)), iN .i64 (nE (.dt y)), .string (sE (.dt y)), .slice po16 (psE (.dt y)).length pc17], .bool true] :: .agg #[iN .i64 (kE (.dt y)), iN .i64 (nE (.dt y)), .string (sE (.dt y)), .slice po16 (psE (.dt y)).length pc17] :: .bool true :: List.replicate 12 un).toArray, []⟩ ∧ HA (bs w) [(q26, 166, #[iN .i64 (kE (.dt y)), iN .i64 (nE (.dt y)), .string (sE (.dt y)), .slice po16 (psE (.dt y)).length pc17]), (q6, 166, #[iN .i64 0, iN .i64 0, .string ({ data := #[] }), .slice none 0 0]), (q1, 114, #[.pointer (some ⟨p.t.q, 0, none⟩)])] w') 11 ky ky ky ky ky (h10.drew) ?_ ?_
  · have h11 := h10.drew
    refine zp 0 (.pointer (some ⟨q1, 0, none⟩)) ?_
    refine wx_val (i := 1) (.pointer (some ⟨p.t.q, 0, none⟩)) rfl rfl ky ky (fun w' h' => run_load1 (fun w => Tryz.isAgg82 w) ky (((h'.get 1 rfl).cell 0).trans rfl)) ?_
    refine zp 2 (iN .i64 m) ?_
    refine wx_call (i := 3) (.string (txt m)) (fun _ _ h hb => HA.keep _ _ h hb) rfl rfl ky ky enter378 #[iN .i64 m] ky (fun w' h' => ptext_any m (by omega) w') ?_
    refine wx_two 4 8 ky ?_ ?_
    · refine ex_callx rfl ky h11 enter377 #[.pointer (some ⟨p.t.q, 0, none⟩), .string (txt m)] ky (fun w20 h21 => Of_y (PH.keep H h21.old.old) hn2 he) ?_
      rintro w20 h21 _ w22 ⟨po16, pc17, rfl, hpo18, hb19⟩
      have h23 := HA.keep _ _ h21 hb19
      refine ⟨_, rfl, _, .inl ky, h23, ?_⟩
      refine zp 5 (.tuple #[.agg #[iN .i64 (kE (.dt y)), iN .i64 (nE (.dt y)), .string (sE (.dt y)), .slice po16 (psE (.dt y)).length pc17], .bool true]) ?_
      refine zp 6 (.agg #[iN .i64 (kE (.dt y)), iN .i64 (nE (.dt y)), .string (sE (.dt y)), .slice po16 (psE (.dt y)).length pc17]) ?_
      refine zp 7 (.bool true) ?_
      refine wx_one 8 ky ?_
      refine ex_makeT (c := #[iN .i64 0, iN .i64 0, .string ({ data := #[] }), .slice none 0 0]) rfl ky h23 166 (fun q => .pointer (some ⟨q, 0, none⟩)) (fun _ => ky) ?_
      intro q26 w24 (h25 : HA (bs w) [(q26, 166, #[iN .i64 0, iN .i64 0, .string ({ data := #[] }), .slice none 0 0]), (q6, 166, #[iN .i64 0, iN .i64 0, .string ({ data := #[] }), .slice none 0 0]), (q1, 114, #[.pointer (some ⟨p.t.q, 0, none⟩)])] w24)
      refine ⟨_, .inr rfl, (HA.sub h25 (List.Sublist.cons _ (List.Sublist.cons_cons _ (List.Sublist.cons_cons _ (List.Sublist.refl _))))), ?_⟩
      refine wx_one 9 ky ?_
      refine ex_skipT rfl ky h25 fun w27 h28 => ⟨_, run_store_blk (c' := #[iN .i64 (kE (.dt y)), iN .i64 (nE (.dt y)), .string (sE (.dt y)), .slice po16 (psE (.dt y)).length pc17]) ky ky (h28.get 0 rfl) rfl ky ky, ?_⟩
      have h29 : HA (bs w) [(q26, 166, #[iN .i64 (kE (.dt y)), iN .i64 (nE (.dt y)), .string (sE (.dt y)), .slice po16 (psE (.dt y)).length pc17]), (q6, 166, #[iN .i64 0, iN .i64 0, .string ({ data := #[] }), .slice none 0 0]), (q1, 114, #[.pointer (some ⟨p.t.q, 0, none⟩)])] _ := h28.fill 0 rfl (c' := #[iN .i64 (kE (.dt y)), iN .i64 (nE (.dt y)), .string (sE (.dt y)), .slice po16 (psE (.dt y)).length pc17]) rfl
      refine ⟨_, .inl ky, h29, ?_⟩
      refine zp 10 (.bool true) ?_
      refine wx_end fun w30 hbx _ => ?_
      have h31 := HA.keep _ _ h29 hbx
      exact ⟨po16, pc17, q26, by kernel_rfl, h31⟩
    · refine ex_makeT (c := #[iN .i64 0, iN .i64 0, .string ({ data := #[] }), .slice none 0 0]) rfl ky h11 166 (fun q => .pointer (some ⟨q, 0, none⟩)) (fun _ => ky) ?_
      intro q34 w32 (h33 : HA (bs w) [(q34, 166, #[iN .i64 0, iN .i64 0, .string ({ data := #[] }), .slice none 0 0]), (q6, 166, #[iN .i64 0, iN .i64 0, .string ({ data := #[] }), .slice none 0 0]), (q1, 114, #[.pointer (some ⟨p.t.q, 0, none⟩)])] w32)
      refine ⟨_, .inr rfl, (HA.sub h33 (List.Sublist.cons _ (List.Sublist.cons_cons _ (List.Sublist.cons_cons _ (List.Sublist.refl _))))), ?_⟩
      refine wx_one 4 ky ?_
      refine ex_callx rfl ky h33 enter377 #[.pointer (some ⟨p.t.q, 0, none⟩), .string (txt m)] ky (fun w43 h44 => Of_y (PH.keep H h44.old.old) hn2 he) ?_
      rintro w43 h44 _ w45 ⟨po39, pc40, rfl, hpo41, hb42⟩
      have h46 := HA.keep _ _ h44 hb42
      refine ⟨_, rfl, _, .inr rfl, (HA.sub h46 (List.Sublist.cons _ (List.Sublist.cons_cons _ (List.Sublist.cons_cons _ (List.Sublist.refl _))))), ?_⟩
      refine zp 5 (.tuple #[.agg #[iN .i64 (kE (.dt y)), iN .i64 (nE (.dt y)), .string (sE (.dt y)), .slice po39 (psE (.dt y)).length pc40], .bool true]) ?_
      refine zp 6 (.agg #[iN .i64 (kE (.dt y)), iN .i64 (nE (.dt y)), .string (sE (.dt y)), .slice po39 (psE (.dt y)).length pc40]) ?_
      refine zp 7 (.bool true) ?_
      refine wx_one 9 ky ?_
      refine ex_skipT rfl ky h46 fun w47 h48 => ⟨_, run_store_blk (c' := #[iN .i64 (kE (.dt y)), iN .i64 (nE (.dt y)), .string (sE (.dt y)), .slice po39 (psE (.dt y)).length pc40]) ky ky (h48.get 0 rfl) rfl ky ky, ?_⟩
      have h49 : HA (bs w) [(q34, 166, #[iN .i64 (kE (.dt y)), iN .i64 (nE (.dt y)), .string (sE (.dt y)), .slice po39 (psE (.dt y)).length pc40]), (q6, 166, #[iN .i64 0, iN .i64 0, .string ({ data := #[] }), .slice none 0 0]), (q1, 114, #[.pointer (some ⟨p.t.q, 0, none⟩)])] _ := h48.fill 0 rfl (c' := #[iN .i64 (kE (.dt y)), iN .i64 (nE (.dt y)), .string (sE (.dt y)), .slice po39 (psE (.dt y)).length pc40]) rfl
      refine ⟨_, .inl ky, h49, ?_⟩
      refine zp 10 (.bool true) ?_
      refine wx_end fun w50 hbx _ => ?_
      have h51 := HA.keep _ _ h49 hbx
      exact ⟨po39, pc40, q34, by kernel_rfl, h51⟩
  · rintro _ w52 ⟨po16, pc17, q26, rfl, h53⟩
    refine then_at rfl (wp_seq (wl_region ?_))
    refine zv (.bool true) ?_
    refine zv (.bool true) ?_
    refine zv (.pointer (some ⟨q26, 0, none⟩)) ?_
    refine zu (iN .i64 (kE (.dt y))) (run_load1 (fun w => Tryz.isAgg3 w) ky (((h53.get 0 rfl).cell 0).trans rfl)) ?_
    refine zu (.bool true) (run_eqi (k := .i64) (a := kE (.dt y)) (b := 2) ky ky true rfl) ?_
    refine zv (.bool true) ?_
    refine zv (.bool true) ?_
    refine zv (.pointer (some ⟨q26, 2, none⟩)) ?_
    refine zu (.string (sE (.dt y))) (run_load1 (fun w => Tryz.isAgg9 w) ky (((h53.get 0 rfl).cell 2).trans rfl)) ?_
    refine zv (.string s) ?_
    refine zu (.bool b) (run_eqs (s := sE (.dt y)) (t := s) ky ky b hb) ?_
    refine zv (.bool b) ?_
    refine zv (.bool b) ?_
    refine wl_nil (then_at rfl ?_)
    refine wp_ret ?_
    repeat first | refine then_ret ?_ | refine block_ret ?_
    exact bodyPost_ret (v := .bool b) ky rfl ⟨rfl, h53.old.old⟩
set_option maxRecDepth 100000 in
set_option maxHeartbeats 2000000 in
theorem is_o {w0 w : World} {M : ML} {p : Pr} {A : List Ent} {n : Nat} {L : BL} (H : PH w0 M p A n L w) (m : Nat) (s : ByteArray) (hm : m < 60000) {q : Ent} (hn : numT A.length s = none) (hn2 : numT A.length (txt m) = some m) (he : A[m]? = some q) (hk : ¬ kE q = 2) :
    Calls Tryz.prog 369 #[.agg #[pt p.t.q], iN .i64 m, .string s] w fun e w' => e = .returned (.bool false) ∧ Below w.heap.size w w' := by
  have H0 := HA.start w
  go_enter Tryz.func369, Tryz.ntmps369
  refine wp_seq (wl_region ?_)
  refine wl_make (c := #[.pointer (some ⟨p.t.q, 0, none⟩)]) H0 114 ky ky ?_
  intro q1 w2 (h3 : HA (bs w) [(q1, 114, #[.pointer (some ⟨p.t.q, 0, none⟩)])] w2)
  refine zv (.bool false) ?_
  refine wl_nil (then_at rfl (wp_seq (wp_seq (wl_region ?_))))
  refine zv (.pointer (some ⟨q1, 0, none⟩)) ?_
  refine zu (.pointer (some ⟨p.t.q, 0, none⟩)) (run_load1 (fun w => Tryz.isAgg82 w) ky (((h3.get 0 rfl).cell 0).trans rfl)) ?_
  refine zv (.string s) ?_
  refine wl_call (v := .tuple #[.agg #[iN .i64 0, iN .i64 0, .string ({ data := #[] }), .slice none 0 0], .bool false]) h3 ky enter377 #[.pointer (some ⟨p.t.q, 0, none⟩), .string s] ky (Of_n (PH.keep H h3.old.old) hn) ?_
  intro w4 h5
  refine zv (.tuple #[.agg #[iN .i64 0, iN .i64 0, .string ({ data := #[] }), .slice none 0 0], .bool false]) ?_
  refine zv (.agg #[iN .i64 0, iN .i64 0, .string ({ data := #[] }), .slice none 0 0]) ?_
  refine zv (.bool false) ?_
  refine wl_make (c := #[iN .i64 0, iN .i64 0, .string ({ data := #[] }), .slice none 0 0]) h5 166 ky ky ?_
  intro q6 w7 (h8 : HA (bs w) [(q6, 166, #[iN .i64 0, iN .i64 0, .string ({ data := #[] }), .slice none 0 0]), (q1, 114, #[.pointer (some ⟨p.t.q, 0, none⟩)])] w7)
  refine wl_fill (c' := #[iN .i64 0, iN .i64 0, .string ({ data := #[] }), .slice none 0 0]) h8 0 rfl ky ky ky rfl ky ky ?_
  intro w9 (h10 : HA (bs w) [(q6, 166, #[iN .i64 0, iN .i64 0, .string ({ data := #[] }), .slice none 0 0]), (q1, 114, #[.pointer (some ⟨p.t.q, 0, none⟩)])] w9)
  refine zv (.bool false) ?_
  refine wl_nil (then_at rfl (wp_seq (wl_region ?_)))
  refine zv (.bool false) ?_
  refine wl_nil (then_at rfl ?_)
  refine wp_cond_false ky ?_
  refine wp_skip (then_at rfl (wp_seq ?_))
  refine wp_region_wx (HA (bs w) [(q6, 166, #[iN .i64 0, iN .i64 0, .string ({ data := #[] }), .slice none 0 0]), (q1, 114, #[.pointer (some ⟨p.t.q, 0, none⟩)])]) (fun AQ w' => ∃ (po16 : Option Addr) (pc17 : Nat) (q26 : Nat), AQ = ⟨(.agg #[pt p.t.q] :: iN .i64 m :: .string s :: pt q1 :: un :: un :: .bool false :: pt q6 :: .bool false :: pt q26 :: .bool true :: .tuple #[.agg #[iN .i64 0, iN .i64 0, .string ({ data := #[] }), .slice none 0 0], .bool false] :: pt q1 :: pt p.t.q :: .string s :: .tuple #[.agg #[iN .i64 0, iN .i64 0, .string ({ data := #[] }), .slice none 0 0], .bool false] :: .agg #[iN .i64 0, iN .i64 0, .string ({ data := #[] }), .slice none 0 0] :: .bool false :: .bool false :: un :: un :: un :: un :: .tuple #[.agg #[iN .i64 (kE q), iN .i64 (nE q), .string (sE q), .slice po16 (psE q).length pc17], .bool true] :: pt q1 :: pt p.t.q :: iN .i64 m :: .string (txt m) :: .tuple #[.agg #[iN .i64 (kE q), iN .i64 (nE q), .string (sE q), .slice po16 (psE q).length pc17], .bool true] :: .agg #[iN .i64 (kE q), iN .i64 (nE q), .string (sE q), .slice po16 (psE q).length pc17] :: .bool true :: List.replicate 12 un).toArray, []⟩ ∧ HA (bs w) [(q26, 166, #[iN .i64 (kE q), iN .i64 (nE q), .string (sE q), .slice po16 (psE q).length pc17]), (q6, 166, #[iN .i64 0, iN .i64 0, .string ({ data := #[] }), .slice none 0 0]), (q1, 114, #[.pointer (some ⟨p.t.q, 0, none⟩)])] w') 11 ky ky ky ky ky (h10.drew) ?_ ?_
  · have h11 := h10.drew
    refine zp 0 (.pointer (some ⟨q1, 0, none⟩)) ?_
    refine wx_val (i := 1) (.pointer (some ⟨p.t.q, 0, none⟩)) rfl rfl ky ky (fun w' h' => run_load1 (fun w => Tryz.isAgg82 w) ky (((h'.get 1 rfl).cell 0).trans rfl)) ?_
    refine zp 2 (iN .i64 m) ?_
    refine wx_call (i := 3) (.string (txt m)) (fun _ _ h hb => HA.keep _ _ h hb) rfl rfl ky ky enter378 #[iN .i64 m] ky (fun w' h' => ptext_any m (by omega) w') ?_
    refine wx_two 4 8 ky ?_ ?_
    · refine ex_callx rfl ky h11 enter377 #[.pointer (some ⟨p.t.q, 0, none⟩), .string (txt m)] ky (fun w20 h21 => Of_y (PH.keep H h21.old.old) hn2 he) ?_
      rintro w20 h21 _ w22 ⟨po16, pc17, rfl, hpo18, hb19⟩
      have h23 := HA.keep _ _ h21 hb19
      refine ⟨_, rfl, _, .inl ky, h23, ?_⟩
      refine zp 5 (.tuple #[.agg #[iN .i64 (kE q), iN .i64 (nE q), .string (sE q), .slice po16 (psE q).length pc17], .bool true]) ?_
      refine zp 6 (.agg #[iN .i64 (kE q), iN .i64 (nE q), .string (sE q), .slice po16 (psE q).length pc17]) ?_
      refine zp 7 (.bool true) ?_
      refine wx_one 8 ky ?_
      refine ex_makeT (c := #[iN .i64 0, iN .i64 0, .string ({ data := #[] }), .slice none 0 0]) rfl ky h23 166 (fun q => .pointer (some ⟨q, 0, none⟩)) (fun _ => ky) ?_
      intro q26 w24 (h25 : HA (bs w) [(q26, 166, #[iN .i64 0, iN .i64 0, .string ({ data := #[] }), .slice none 0 0]), (q6, 166, #[iN .i64 0, iN .i64 0, .string ({ data := #[] }), .slice none 0 0]), (q1, 114, #[.pointer (some ⟨p.t.q, 0, none⟩)])] w24)
      refine ⟨_, .inr rfl, (HA.sub h25 (List.Sublist.cons _ (List.Sublist.cons_cons _ (List.Sublist.cons_cons _ (List.Sublist.refl _))))), ?_⟩
      refine wx_one 9 ky ?_
      refine ex_skipT rfl ky h25 fun w27 h28 => ⟨_, run_store_blk (c' := #[iN .i64 (kE q), iN .i64 (nE q), .string (sE q), .slice po16 (psE q).length pc17]) ky ky (h28.get 0 rfl) rfl ky ky, ?_⟩
      have h29 : HA (bs w) [(q26, 166, #[iN .i64 (kE q), iN .i64 (nE q), .string (sE q), .slice po16 (psE q).length pc17]), (q6, 166, #[iN .i64 0, iN .i64 0, .string ({ data := #[] }), .slice none 0 0]), (q1, 114, #[.pointer (some ⟨p.t.q, 0, none⟩)])] _ := h28.fill 0 rfl (c' := #[iN .i64 (kE q), iN .i64 (nE q), .string (sE q), .slice po16 (psE q).length pc17]) rfl
      refine ⟨_, .inl ky, h29, ?_⟩
      refine zp 10 (.bool true) ?_
      refine wx_end fun w30 hbx _ => ?_
      have h31 := HA.keep _ _ h29 hbx
      exact ⟨po16, pc17, q26, by kernel_rfl, h31⟩
    · refine ex_makeT (c := #[iN .i64 0, iN .i64 0, .string ({ data := #[] }), .slice none 0 0]) rfl ky h11 166 (fun q => .pointer (some ⟨q, 0, none⟩)) (fun _ => ky) ?_
      intro q34 w32 (h33 : HA (bs w) [(q34, 166, #[iN .i64 0, iN .i64 0, .string ({ data := #[] }), .slice none 0 0]), (q6, 166, #[iN .i64 0, iN .i64 0, .string ({ data := #[] }), .slice none 0 0]), (q1, 114, #[.pointer (some ⟨p.t.q, 0, none⟩)])] w32)
      refine ⟨_, .inr rfl, (HA.sub h33 (List.Sublist.cons _ (List.Sublist.cons_cons _ (List.Sublist.cons_cons _ (List.Sublist.refl _))))), ?_⟩
      refine wx_one 4 ky ?_
      refine ex_callx rfl ky h33 enter377 #[.pointer (some ⟨p.t.q, 0, none⟩), .string (txt m)] ky (fun w43 h44 => Of_y (PH.keep H h44.old.old) hn2 he) ?_
      rintro w43 h44 _ w45 ⟨po39, pc40, rfl, hpo41, hb42⟩
      have h46 := HA.keep _ _ h44 hb42
      refine ⟨_, rfl, _, .inr rfl, (HA.sub h46 (List.Sublist.cons _ (List.Sublist.cons_cons _ (List.Sublist.cons_cons _ (List.Sublist.refl _))))), ?_⟩
      refine zp 5 (.tuple #[.agg #[iN .i64 (kE q), iN .i64 (nE q), .string (sE q), .slice po39 (psE q).length pc40], .bool true]) ?_
      refine zp 6 (.agg #[iN .i64 (kE q), iN .i64 (nE q), .string (sE q), .slice po39 (psE q).length pc40]) ?_
      refine zp 7 (.bool true) ?_
      refine wx_one 9 ky ?_
      refine ex_skipT rfl ky h46 fun w47 h48 => ⟨_, run_store_blk (c' := #[iN .i64 (kE q), iN .i64 (nE q), .string (sE q), .slice po39 (psE q).length pc40]) ky ky (h48.get 0 rfl) rfl ky ky, ?_⟩
      have h49 : HA (bs w) [(q34, 166, #[iN .i64 (kE q), iN .i64 (nE q), .string (sE q), .slice po39 (psE q).length pc40]), (q6, 166, #[iN .i64 0, iN .i64 0, .string ({ data := #[] }), .slice none 0 0]), (q1, 114, #[.pointer (some ⟨p.t.q, 0, none⟩)])] _ := h48.fill 0 rfl (c' := #[iN .i64 (kE q), iN .i64 (nE q), .string (sE q), .slice po39 (psE q).length pc40]) rfl
      refine ⟨_, .inl ky, h49, ?_⟩
      refine zp 10 (.bool true) ?_
      refine wx_end fun w50 hbx _ => ?_
      have h51 := HA.keep _ _ h49 hbx
      exact ⟨po39, pc40, q34, by kernel_rfl, h51⟩
  · rintro _ w52 ⟨po16, pc17, q26, rfl, h53⟩
    refine then_at rfl (wp_seq (wl_region ?_))
    refine zv (.bool true) ?_
    refine zv (.bool true) ?_
    refine zv (.pointer (some ⟨q26, 0, none⟩)) ?_
    refine zu (iN .i64 (kE q)) (run_load1 (fun w => Tryz.isAgg3 w) ky (((h53.get 0 rfl).cell 0).trans rfl)) ?_
    refine zu (.bool false) (run_eqi (k := .i64) (a := kE q) (b := 2) ky ky false (decide_eq_false hk)) ?_
    refine zv (.bool false) ?_
    refine zv (.bool false) ?_
    refine wl_skip ky ?_
    refine wl_skip ky ?_
    refine wl_skip ky ?_
    refine wl_skip ky ?_
    refine zv (.bool false) ?_
    refine zv (.bool false) ?_
    refine wl_nil (then_at rfl ?_)
    refine wp_ret ?_
    repeat first | refine then_ret ?_ | refine block_ret ?_
    exact bodyPost_ret (v := .bool false) ky rfl ⟨rfl, h53.old.old⟩
theorem is_P {w0 w : World} {M : ML} {p : Pr} {A : List Ent} {n : Nat} {L : BL} (H : PH w0 M p A n L w) (m : Nat) (s : ByteArray) (hm : m < A.length) :
    Calls Tryz.prog 369 #[.agg #[pt p.t.q], iN .i64 m, .string s] w fun e w' => e = .returned (.bool (isA A m s)) ∧ Below w.heap.size w w' := by
  have hf := H.few
  unfold isA
  cases hn : numT A.length s with
  | some x => exact is_t H m s (by omega) hn (List.getElem?_eq_getElem (numT_lt hn)) _ rfl
  | none =>
    obtain ⟨q, he⟩ : ∃ q, A[m]? = some q := ⟨_, List.getElem?_eq_getElem hm⟩
    have hn2 := numT_txt hm hf
    cases q with
    | dt y => simp only [he]; exact is_d H m s (by omega) hn hn2 he _ rfl
    | nm y => simp only [he]; exact is_o H m s (by omega) hn hn2 he (H.not2 he (fun s e => by cases e))
    | mk k y z ps b => simp only [he]; exact is_o H m s (by omega) hn hn2 he (H.not2 he (fun s e => by cases e))
end Go.Proofs.YtoogiblkommdfaaGreat

namespace Go.Proofs.YtoogiblkommdfaaGreat
open Go.RowKit

set_option maxRecDepth 100000 in
set_option maxHeartbeats 2000000 in
theorem apart_any (k : Nat) (s1 s2 s3 s4 s5 : ByteArray) (z1 : s1.size ≤ 1000000) (z2 : s2.size ≤ 1000000) (z3 : s3.size ≤ 1000000) (z4 : s4.size ≤ 1000000) (z5 : s5.size ≤ 1000000) (w : World) :
    Calls Tryz.prog 73 #[.agg #[iN .i64 k, .string s1, .string s2, .string s3, .string s4, .string s5]] w fun e w' => e = .returned (.agg #[iN .i64 k, .string s1, .string s2, .string s3, .string s4, .string s5]) ∧ Below w.heap.size w w' := by
  have H0 := HA.start w
  go_enter Tryz.func73, Tryz.ntmps73
  refine wp_seq (wl_region ?_)
  refine wl_make (c := #[iN .i64 k, .string s1, .string s2, .string s3, .string s4, .string s5]) H0 71 ky ky ?_
  intro q1 w2 (h3 : HA (bs w) [(q1, 71, #[iN .i64 k, .string s1, .string s2, .string s3, .string s4, .string s5])] w2)
  refine wl_make (c := #[iN .i64 0, .string ({ data := #[] }), .string ({ data := #[] }), .string ({ data := #[] }), .string ({ data := #[] }), .string ({ data := #[] })]) h3 71 ky ky ?_
  intro q4 w5 (h6 : HA (bs w) [(q4, 71, #[iN .i64 0, .string ({ data := #[] }), .string ({ data := #[] }), .string ({ data := #[] }), .string ({ data := #[] }), .string ({ data := #[] })]), (q1, 71, #[iN .i64 k, .string s1, .string s2, .string s3, .string s4, .string s5])] w5)
  refine wl_nil (then_at rfl (wp_seq ?_))
  refine wp_region_wx (HA (bs w) [(q4, 71, #[iN .i64 0, .string ({ data := #[] }), .string ({ data := #[] }), .string ({ data := #[] }), .string ({ data := #[] }), .string ({ data := #[] })]), (q1, 71, #[iN .i64 k, .string s1, .string s2, .string s3, .string s4, .string s5])]) (fun AQ w' => AQ = ⟨(.agg #[iN .i64 k, .string s1, .string s2, .string s3, .string s4, .string s5] :: pt q1 :: pt q4 :: pt q1 :: iN .i64 k :: .pointer (some ⟨q1, 1, none⟩) :: .string s1 :: .string s1 :: .pointer (some ⟨q1, 2, none⟩) :: .string s2 :: .string s2 :: .pointer (some ⟨q1, 3, none⟩) :: .string s3 :: .string s3 :: .pointer (some ⟨q1, 4, none⟩) :: .string s4 :: .string s4 :: .pointer (some ⟨q1, 5, none⟩) :: .string s5 :: .string s5 :: .agg #[iN .i64 k, .string s1, .string s2, .string s3, .string s4, .string s5] :: List.replicate 0 un).toArray, []⟩ ∧ HA (bs w) [(q4, 71, #[iN .i64 k, .string s1, .string s2, .string s3, .string s4, .string s5]), (q1, 71, #[iN .i64 k, .string s1, .string s2, .string s3, .string s4, .string s5])] w') 19 ky ky ky ky ky (h6.drew) ?_ ?_
  · have h7 := h6.drew
    refine zp 0 (.pointer (some ⟨q1, 0, none⟩)) ?_
    refine wx_val (i := 1) (iN .i64 k) rfl rfl ky ky (fun w' h' => run_load1 (fun w => Tryz.isAgg3 w) ky (((h'.get 1 rfl).cell 0).trans rfl)) ?_
    refine zp 2 (.pointer (some ⟨q1, 1, none⟩)) ?_
    refine wx_val (i := 3) (.string s1) rfl rfl ky ky (fun w' h' => run_load1 (fun w => Tryz.isAgg9 w) ky (((h'.get 1 rfl).cell 1).trans rfl)) ?_
    refine wx_call (i := 4) (.string s1) (fun _ _ h hb => HA.keep _ _ h hb) rfl rfl ky ky enter113 #[.string s1] ky (fun w' h' => clone_any s1 (by omega) w') ?_
    refine zp 5 (.pointer (some ⟨q1, 2, none⟩)) ?_
    refine wx_val (i := 6) (.string s2) rfl rfl ky ky (fun w' h' => run_load1 (fun w => Tryz.isAgg9 w) ky (((h'.get 1 rfl).cell 2).trans rfl)) ?_
    refine wx_call (i := 7) (.string s2) (fun _ _ h hb => HA.keep _ _ h hb) rfl rfl ky ky enter113 #[.string s2] ky (fun w' h' => clone_any s2 (by omega) w') ?_
    refine zp 8 (.pointer (some ⟨q1, 3, none⟩)) ?_
    refine wx_val (i := 9) (.string s3) rfl rfl ky ky (fun w' h' => run_load1 (fun w => Tryz.isAgg9 w) ky (((h'.get 1 rfl).cell 3).trans rfl)) ?_
    refine wx_call (i := 10) (.string s3) (fun _ _ h hb => HA.keep _ _ h hb) rfl rfl ky ky enter113 #[.string s3] ky (fun w' h' => clone_any s3 (by omega) w') ?_
    refine zp 11 (.pointer (some ⟨q1, 4, none⟩)) ?_
    refine wx_val (i := 12) (.string s4) rfl rfl ky ky (fun w' h' => run_load1 (fun w => Tryz.isAgg9 w) ky (((h'.get 1 rfl).cell 4).trans rfl)) ?_
    refine wx_call (i := 13) (.string s4) (fun _ _ h hb => HA.keep _ _ h hb) rfl rfl ky ky enter113 #[.string s4] ky (fun w' h' => clone_any s4 (by omega) w') ?_
    refine zp 14 (.pointer (some ⟨q1, 5, none⟩)) ?_
    refine wx_val (i := 15) (.string s5) rfl rfl ky ky (fun w' h' => run_load1 (fun w => Tryz.isAgg9 w) ky (((h'.get 1 rfl).cell 5).trans rfl)) ?_
    refine wx_call (i := 16) (.string s5) (fun _ _ h hb => HA.keep _ _ h hb) rfl rfl ky ky enter113 #[.string s5] ky (fun w' h' => clone_any s5 (by omega) w') ?_
    refine zp 17 (.agg #[iN .i64 k, .string s1, .string s2, .string s3, .string s4, .string s5]) ?_
    refine wx_one 18 ky ?_
    refine ex_skipT rfl ky h7 fun w8 h9 => ⟨_, run_store_blk (c' := #[iN .i64 k, .string s1, .string s2, .string s3, .string s4, .string s5]) ky ky (h9.get 0 rfl) rfl ky ky, ?_⟩
    have h10 : HA (bs w) [(q4, 71, #[iN .i64 k, .string s1, .string s2, .string s3, .string s4, .string s5]), (q1, 71, #[iN .i64 k, .string s1, .string s2, .string s3, .string s4, .string s5])] _ := h9.fill 0 rfl (c' := #[iN .i64 k, .string s1, .string s2, .string s3, .string s4, .string s5]) rfl
    refine ⟨_, .inl ky, h10, ?_⟩
    refine wx_end fun w11 hbx _ => ?_
    have h12 := HA.keep _ _ h10 hbx
    exact ⟨by kernel_rfl, h12⟩
  · rintro _ w13 ⟨rfl, h14⟩
    refine then_at rfl ?_
    refine wp_ret ?_
    repeat first | refine then_ret ?_ | refine block_ret ?_
    exact bodyPost_ret (v := .agg #[iN .i64 k, .string s1, .string s2, .string s3, .string s4, .string s5]) (res_cell (p := 2) ky ky (h14.get 0 rfl) Tryz.underlying71 rfl ky) rfl ⟨rfl, h14.old.old⟩
theorem info68 : (Tryz.prog.info? 71).map (fun i => (i.zero, i.size, i.bytes)) = some (some (.agg #[.int .i64 0, .string { data := #[] }, .string { data := #[] }, .string { data := #[] }, .string { data := #[] }, .string { data := #[] }]), 6, 88) := by kernel_rfl
section
variable {P : Program} {ops : Array Oper} {J : Act → World → Prop} {n : Nat} {S : World → Prop} {l lp : List Nat} {a : Act} {w : World} {z : Base} {L Lr : BL} {i : Nat}
theorem ex_append {dst : Option Tmp} {ty : TypeId} {pos : String} {aft : Array Edge} {gd : Option (Nat × Bool)} {e t : TypeId} {sz k m c p : Nat} {v : Value} {xs : List Value} {news : Array Value} {x y : Operand} (hR : Row e sz v k xs Lr) (H : HA z ((p, e, news) :: (Lr ++ L)) w) (he : e ≠ 5) (zv : Value) (bytes : Nat)
    (ht : P.underlying t = some (.slice e)) (hi : (P.info? e).map (fun i => (i.zero, i.size, i.bytes)) = some (some zv, sz, bytes)) (hzs : zv.cells.size = sz) (hsz : 0 < sz)
    (ho : ops.toList[i]? = some ⟨dst, .call { callee := .builtin .append, args := #[x, y], argTypes := #[t, t] }, ty, pos, aft, gd⟩) (hw : Region.wanted ⟨dst, .call { callee := .builtin .append, args := #[x, y], argTypes := #[t, t] }, ty, pos, aft, gd⟩ (yielded ops a.tmps) = true)
    (hx : a.eval x = v) (hy : a.eval y = .slice (some ⟨p, 0, none⟩) m c) (hl : news.size = m * sz) (h1 : news.all (·.oneCell') = true) (h63 : k + m ≤ maxLen) (hbytes : (k + m) * bytes ≤ 140737488355328) (hm : 0 < m)
    (h : ∀ v' w' Lr', Row e sz v' (k + m) (xs ++ news.toList) Lr' → HA z (Lr' ++ L) w' → ∃ S', (barB ops i l lp = true ∨ S' = S) ∧ S' w' ∧ WXS P ops J n S' (i :: l) (i :: lp) (a.put dst v') w') : EX P ops J n S l lp i a w := by
  refine ex_doT ho hw H fun w1 H1 => ?_
  obtain ⟨i, hi, hh⟩ := Option.map_eq_some_iff.1 hi
  simp only [Prod.mk.injEq] at hh
  have hp := H1.get 0 rfl
  obtain ⟨v', w', Lr', hrun, hR', H'⟩ := hR.append H1.tl he t ty i zv bytes ht hi hh.1 hh.2.1 hh.2.2 hzs hsz ⟨p, 0, none⟩ m c news.toList (by simpa using hl) (fun j u hu => by
    have hadd : (⟨p, 0, none⟩ : Addr).add j = ⟨p, j, none⟩ := by unfold Addr.add; split <;> simp_all
    rw [hadd, hp.cell j]
    simpa using hu) (fun u hu => by
    have := Array.all_eq_true'.1 h1 u (by simpa using hu)
    exact this) h63 hbytes hm
  refine ⟨v', w', ?_, h v' w' Lr' hR' H'⟩
  unfold execOp
  simp only [resolve, invoke, builtin, Sem.run_bind, Sem.run_pure, Result.andThen_ok, List.map_toArray, List.map_cons, List.map_nil, hx, hy, hrun]
theorem HA.mv2 {a b c : Nat × TypeId × Array Value} {R : BL} (H : HA z (a :: b :: c :: (Lr ++ R)) w) : HA z (a :: (Lr ++ (b :: c :: R))) w := H.perm (by
  refine List.Perm.cons _ ?_
  have e : (b :: c :: (Lr ++ R)) = ([b, c] ++ Lr) ++ R := by simp
  have e2 : Lr ++ (b :: c :: R) = (Lr ++ [b, c]) ++ R := by simp
  rw [e, e2]
  exact List.Perm.append_right _ List.perm_append_comm)
theorem HA.bk2 {b c : Nat × TypeId × Array Value} {R : BL} (H : HA z (Lr ++ (b :: c :: R)) w) : HA z (b :: c :: (Lr ++ R)) w := H.perm (by
  have e : (b :: c :: (Lr ++ R)) = ([b, c] ++ Lr) ++ R := by simp
  have e2 : Lr ++ (b :: c :: R) = (Lr ++ [b, c]) ++ R := by simp
  rw [e, e2]
  exact List.Perm.append_right _ List.perm_append_comm)
end
section
variable {w0 w : World} {M : ML} {p : Pr} {A : List Ent} {n : Nat} {L : BL}
theorem perm_jr (a c : Nat × TypeId × Array Value) (R B J L' : BL) : (c :: (J ++ (L' ++ (a :: (R ++ B))))).Perm (a :: (R ++ (B ++ (c :: (J ++ L'))))) := by
  have e : c :: (J ++ (L' ++ (a :: (R ++ B)))) = (c :: (J ++ L')) ++ (a :: (R ++ B)) := by simp
  have e2 : a :: (R ++ (B ++ (c :: (J ++ L')))) = (a :: (R ++ B)) ++ (c :: (J ++ L')) := by simp
  rw [e, e2]
  exact List.perm_append_comm
/-- a prim's journal -/
theorem PH.jr (h : PH w0 M p A n L w) : ∃ z X jv xs Lj, Row 71 6 jv n xs Lj ∧ (∀ jv' n' xs' Lj' L' w', Row 71 6 jv' n' xs' Lj' → HA z ((p.q, 112, pcell p jv') :: (Lj' ++ (L' ++ X))) w' → PH w0 M p A n' L' w') ∧ HA z ((p.q, 112, pcell p jv) :: (Lj ++ (L ++ X))) w := by
  obtain ⟨es, jv, xs, Lj, h1, h2, h3, v, Lr, h4, H⟩ := h
  exact ⟨zb w0 M p.t es, _, jv, xs, Lj, h3, fun jv' n' xs' Lj' L' w' h3' H' => ⟨es, jv', xs', Lj', h1, h2, h3', v, Lr, h4, H'.perm (perm_jr _ _ Lr (PB es) Lj' L')⟩, H.perm (perm_jr _ _ Lr (PB es) Lj L).symm⟩
end
set_option maxRecDepth 100000 in
set_option maxHeartbeats 2000000 in
theorem note_P {w0 w : World} {M : ML} {p : Pr} {A : List Ent} {n : Nat} {L : BL} (H : PH w0 M p A n L w) (k : Nat) (s1 s2 s3 s4 s5 : ByteArray) (z1 : s1.size ≤ 1000000) (z2 : s2.size ≤ 1000000) (z3 : s3.size ≤ 1000000) (z4 : s4.size ≤ 1000000) (z5 : s5.size ≤ 1000000) (hj : n < 1000000) :
    Calls Tryz.prog 62 #[pt p.q, .agg #[iN .i64 k, .string s1, .string s2, .string s3, .string s4, .string s5]] w fun e w' => e = .returned (.tuple #[]) ∧ PH w0 M p A (n + 1) L w' := by
  obtain ⟨z0, X0, jv0, xs0, Lj0, hR0, hcj0, H0⟩ := PH.jr H
  go_enter Tryz.func62, Tryz.ntmps62
  refine wp_seq (wl_region ?_)
  refine wl_make (c := #[iN .i64 k, .string s1, .string s2, .string s3, .string s4, .string s5]) H0 71 ky ky ?_
  intro q1 w2 (h3 : HA z0 ((q1, 71, #[iN .i64 k, .string s1, .string s2, .string s3, .string s4, .string s5]) :: (p.q, 112, pcell p jv0) :: (Lj0 ++ (L ++ X0))) w2)
  refine wl_nil (then_at rfl ?_)
  refine wp_region_wx (HA z0 ((q1, 71, #[iN .i64 k, .string s1, .string s2, .string s3, .string s4, .string s5]) :: (p.q, 112, pcell p jv0) :: (Lj0 ++ (L ++ X0)))) (fun AQ w' => ∃ (po16 : Option Addr) (cc17 : Nat) (Lj11 : BL) (q7 : Nat), AQ = ⟨(pt p.q :: .agg #[iN .i64 k, .string s1, .string s2, .string s3, .string s4, .string s5] :: un :: pt q1 :: pt p.q :: pt p.q :: pt p.q :: .pointer (some ⟨p.q, 1, none⟩) :: jv0 :: .agg (#[iN .i64 k, .string s1, .string s2, .string s3, .string s4, .string s5]) :: .agg #[iN .i64 k, .string s1, .string s2, .string s3, .string s4, .string s5] :: .slice (some ⟨q7, 0, none⟩) 1 1 :: .slice po16 (n + 1) cc17 :: pt p.q :: .pointer (some ⟨p.q, 1, none⟩) :: List.replicate 0 un).toArray, []⟩ ∧ Row 71 6 (.slice po16 (n + 1) cc17) (n + 1) (xs0 ++ (#[iN .i64 k, .string s1, .string s2, .string s3, .string s4, .string s5] : Array Value).toList) Lj11 ∧ HA z0 ((q1, 71, #[iN .i64 k, .string s1, .string s2, .string s3, .string s4, .string s5]) :: (p.q, 112, #[.iface 114 (kitv p), .slice po16 (n + 1) cc17]) :: (Lj11 ++ (L ++ X0))) w') 12 ky ky ky ky ky (h3.drew) ?_ ?_
  · have h4 := h3.drew
    refine zp 0 (.pointer (some ⟨p.q, 0, none⟩)) ?_
    refine zp 1 (.pointer (some ⟨p.q, 0, none⟩)) ?_
    refine zp 2 (.pointer (some ⟨p.q, 0, none⟩)) ?_
    refine zp 3 (.pointer (some ⟨p.q, 1, none⟩)) ?_
    refine wx_val (i := 4) (jv0) rfl rfl ky ky (fun w' h' => run_load1 (fun w => Tryz.isAgg41 w) ky (((h'.get 1 rfl).cell 1).trans rfl)) ?_
    refine wx_val (i := 5) (.agg (#[iN .i64 k, .string s1, .string s2, .string s3, .string s4, .string s5])) rfl rfl ky ky (fun w' h' => run_load_blk ky (h'.get 0 rfl) Tryz.underlying71 rfl ky) ?_
    refine wx_call (i := 6) (.agg #[iN .i64 k, .string s1, .string s2, .string s3, .string s4, .string s5]) (fun _ _ h hb => HA.keep _ _ h hb) rfl rfl ky ky enter73 #[.agg (#[iN .i64 k, .string s1, .string s2, .string s3, .string s4, .string s5])] ky (fun w' h' => apart_any k s1 s2 s3 s4 s5 z1 z2 z3 z4 z5 w') ?_
    refine wx_one 7 ky ?_
    refine ex_makeT (c := #[iN .i64 k, .string s1, .string s2, .string s3, .string s4, .string s5]) rfl ky h4 71 (fun q => .slice (some ⟨q, 0, none⟩) 1 1) (fun _ => ky) ?_
    intro q7 w5 (h6 : HA z0 ((q7, 71, #[iN .i64 k, .string s1, .string s2, .string s3, .string s4, .string s5]) :: (q1, 71, #[iN .i64 k, .string s1, .string s2, .string s3, .string s4, .string s5]) :: (p.q, 112, pcell p jv0) :: (Lj0 ++ (L ++ X0))) w5)
    refine ⟨_, .inr rfl, (HA.sub h6 (List.Sublist.cons _ (List.Sublist.cons_cons _ (List.Sublist.cons_cons _ (List.Sublist.refl _))))), ?_⟩
    refine wx_one 8 ky ?_
    refine ex_append (m := 1) (c := 1) hR0 (HA.mv2 h6) (by decide) _ 88 Tryz.underlying41 info68 rfl (by decide) rfl ky ky ky rfl ky (by unfold maxLen; omega) (by omega) (by decide) ?_
    intro v10 w15 Lj11 hR12 h13
    obtain ⟨po16, cc17, rfl⟩ := hR12.form
    have h14 : HA z0 ((q1, 71, #[iN .i64 k, .string s1, .string s2, .string s3, .string s4, .string s5]) :: (p.q, 112, pcell p jv0) :: (Lj11 ++ (L ++ X0))) w15 := HA.bk2 h13
    refine ⟨_, .inl ky, h14, ?_⟩
    refine zp 9 (.pointer (some ⟨p.q, 0, none⟩)) ?_
    refine zp 10 (.pointer (some ⟨p.q, 1, none⟩)) ?_
    refine wx_one 11 ky ?_
    refine ex_skipT rfl ky h14 fun w18 h19 => ⟨_, run_storev (q := p.q) (i := 1) (v := .slice po16 (n + 1) cc17) (fun w => Tryz.sizeOf41 w) ky ky ky (by rw [(h19.get 1 rfl).cell]; rfl) ((h19.get 1 rfl).free _ (by show 1 < 2; decide)), ?_⟩
    have h20 : HA z0 ((q1, 71, #[iN .i64 k, .string s1, .string s2, .string s3, .string s4, .string s5]) :: (p.q, 112, #[.iface 114 (kitv p), .slice po16 (n + 1) cc17]) :: (Lj11 ++ (L ++ X0))) _ := h19.put 1 rfl 1 (.slice po16 (n + 1) cc17)
    refine ⟨_, .inl ky, h20, ?_⟩
    refine wx_end fun w21 hbx _ => ?_
    have h22 := HA.keep _ _ h20 hbx
    exact ⟨po16, cc17, Lj11, q7, by kernel_rfl, hR12, h22⟩
  · rintro _ w23 ⟨po16, cc17, Lj11, q7, rfl, hR12, h24⟩
    exact bodyPost_end (v := .tuple #[]) ky rfl ⟨rfl, hcj0 _ _ _ _ _ _ hR12 (HA.sub h24 (List.Sublist.cons _ (List.Sublist.refl _)))⟩
end Go.Proofs.YtoogiblkommdfaaGreat
