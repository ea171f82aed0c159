/-
  part: the term of a part; Fresh, Data.
-/
import Derived.Test.YtoogiblkommdfaaGreatT5
set_option linter.unusedVariables false
namespace Go.Proofs.YtoogiblkommdfaaGreat
open Go.RowKit

abbrev BL := List (Nat × TypeId × Array Value)
abbrev ML := List (Nat × Array MapEntry × Nat)
section
variable {w0 w : World} {M : ML} {t : Tb} {es : List Ent} {L Lr : BL} {v : Value}
theorem zb_dt (s : ByteArray) : zb w0 M t (es ++ [.dt s]) = ⟨w0, (zb w0 M t es).M.set 0 (t.mb, entA (txtK (dts es 0 ++ [(s, es.length)])), (dts es 0).length + 1)⟩ := by
  simp [zb, eB, eM, dts_snoc, mks_snoc, dts, mks]
theorem zb_mk (k n : Nat) (s : ByteArray) (ps : List Nat) (b : Nat) : zb w0 M t (es ++ [.mk k n s ps b]) = ⟨w0, (zb w0 M t es).M.set 1 (t.mm, entA (recK (mks es 0 ++ [(recOf k n s ps, es.length)])), (mks es 0).length + 1)⟩ := by
  simp [zb, eB, eM, dts_snoc, mks_snoc, dts, mks]
theorem zb_nm (n : Nat) : zb w0 M t (es ++ [.nm n]) = zb w0 M t es := by
  simp [zb, eB, eM, dts_snoc, mks_snoc, dts, mks]
theorem TH.dt {s : ByteArray} (hR : Row 150 1 v (es.length + 1) (es.map ev ++ [ev (.dt s)]) Lr) (H : HA (zb w0 M t (es ++ [.dt s])) ((t.q, 145, tcell t (nms es) v) :: (Lr ++ (PB es ++ L))) w) : TH w0 M t (es ++ [.dt s]) L w := by
  refine ⟨v, Lr, by simpa using hR, ?_⟩
  rw [nms_snoc, PB_snoc, show nms [Ent.dt s] = 0 from rfl, Nat.add_zero, show pb (.dt s) = [] from rfl, List.append_nil]
  exact H
theorem TH.nm {n : Nat} (hR : Row 150 1 v (es.length + 1) (es.map ev ++ [ev (.nm n)]) Lr) (H : HA (zb w0 M t es) ((t.q, 145, tcell t (nms es + 1) v) :: (Lr ++ (PB es ++ L))) w) : TH w0 M t (es ++ [.nm n]) L w := by
  refine ⟨v, Lr, by simpa using hR, ?_⟩
  rw [nms_snoc, PB_snoc, show nms [Ent.nm n] = 1 from rfl, show pb (.nm n) = [] from rfl, List.append_nil, zb_nm]
  exact H
theorem TH.mk {k n : Nat} {s : ByteArray} {ps : List Nat} {b : Nat} (hR : Row 150 1 v (es.length + 1) (es.map ev ++ [ev (.mk k n s ps b)]) Lr) (H : HA (zb w0 M t (es ++ [.mk k n s ps b])) ((t.q, 145, tcell t (nms es) v) :: (Lr ++ (PB es ++ ((b, 3, intc ps) :: L)))) w) : TH w0 M t (es ++ [.mk k n s ps b]) L w := by
  refine ⟨v, Lr, by simpa using hR, ?_⟩
  rw [nms_snoc, PB_snoc, show nms [Ent.mk k n s ps b] = 0 from rfl, Nat.add_zero, show pb (.mk k n s ps b) = [(b, 3, intc ps)] from rfl, List.append_assoc]
  exact H
theorem HA.mapB (H : HA (zb w0 M t es) L w) : w.heap[t.mb]? = some (.map (entA (txtK (dts es 0))) (dts es 0).length) := H.old.maps _ (List.mem_cons_self ..)
theorem HA.mapM (H : HA (zb w0 M t es) L w) : w.heap[t.mm]? = some (.map (entA (recK (mks es 0))) (mks es 0).length) := H.old.maps _ (List.mem_cons_of_mem _ (List.mem_cons_self ..))
end
section
variable {ρ : Operand → Value} {x y u : Operand} {w : World} {dst : Option Tmp} {ty : TypeId} {pos : String} {aft : Array Edge} {gd : Option (Nat × Bool)} {r c : Nat}
theorem run_lk71 {l : List (ByteArray × Nat)} {s : ByteArray} (hx : ρ x = .map (some r)) (hy : ρ y = .string s) (hb : w.heap[r]? = some (.map (entA (txtK l)) c)) (o : Option Nat) (ho : lkT l s = o) :
    (execOp ρ ⟨dst, .lookup 142 x y true, ty, pos, aft, gd⟩).run Tryz.prog w = .ok (.value (.tuple #[iN .i64 (o.getD 0), .bool o.isSome])) w := by
  subst ho
  simp only [execOp, hx, hy, Sem.run_bind, lookup_txt hb s, Result.andThen_ok, Sem.run_pure]
theorem run_lk72 {l : List (Rec × Nat)} {s : Rec} (hx : ρ x = .map (some r)) (hy : ρ y = recV s) (hb : w.heap[r]? = some (.map (entA (recK l)) c)) (o : Option Nat) (ho : lkR l s = o) :
    (execOp ρ ⟨dst, .lookup 143 x y true, ty, pos, aft, gd⟩).run Tryz.prog w = .ok (.value (.tuple #[iN .i64 (o.getD 0), .bool o.isSome])) w := by
  subst ho
  simp only [execOp, hx, hy, Sem.run_bind, lookup_rec hb s, Result.andThen_ok, Sem.run_pure]
theorem run_up71 {l : List (ByteArray × Nat)} {s : ByteArray} {n : Nat} (hx : ρ x = .map (some r)) (hy : ρ y = .string s) (hu : ρ u = iN .i64 n) (hb : w.heap[r]? = some (.map (entA (txtK l)) l.length)) (hn : lkT l s = none) :
    (execOp ρ ⟨dst, .mapUpdate 142 x y u, ty, pos, aft, gd⟩).run Tryz.prog w = .ok .skip (World.setMap w r (entA (txtK (l ++ [(s, n)]))) (l.length + 1)) := by
  simp only [execOp, hx, hy, hu, Sem.run_bind, update_txt hb s hn n, Result.andThen_ok, Sem.run_pure]
theorem run_up72 {l : List (Rec × Nat)} {s : Rec} {n : Nat} (hx : ρ x = .map (some r)) (hy : ρ y = recV s) (hu : ρ u = iN .i64 n) (hb : w.heap[r]? = some (.map (entA (recK l)) l.length)) (hn : lkR l s = none) :
    (execOp ρ ⟨dst, .mapUpdate 143 x y u, ty, pos, aft, gd⟩).run Tryz.prog w = .ok .skip (World.setMap w r (entA (recK (l ++ [(s, n)]))) (l.length + 1)) := by
  simp only [execOp, hx, hy, hu, Sem.run_bind, update_rec hb s hn n, Result.andThen_ok, Sem.run_pure]
end
def partF (es : List Ent) (s : ByteArray) : List Ent × Nat :=
  match numT es.length s with
  | some n => (es, n)
  | none => match lkT (dts es 0) s with
    | some n => (es, n)
    | none => (es ++ [.dt s], es.length)
set_option maxRecDepth 100000 in
set_option maxHeartbeats 2000000 in
theorem part_a {w0 w : World} {M : ML} {t : Tb} {es : List Ent} {L : BL} (H : TH w0 M t es L w) (hf : es.length < 59000) (s : ByteArray) (hs : s.size ≤ 281474976710656) {x : Nat} (hn : numT es.length s = some x) (hF : partF es s = (es, x)) :
    Calls Tryz.prog 379 #[pt t.q, .string s] w fun e w' => e = .returned (.tuple #[iN .i64 (partF es s).2, .bool true]) ∧ TH w0 M t (partF es s).1 L w' := by
  obtain ⟨v, Lr, hR, H0⟩ := H
  obtain ⟨p, c, rfl⟩ := hR.form
  go_enter Tryz.func379, Tryz.ntmps379
  refine wp_seq (wl_region ?_)
  refine zv (iN .i64 0) ?_
  refine zv (.bool false) ?_
  refine wl_nil (then_at rfl (wp_seq (wp_seq (wl_region ?_))))
  refine zv (.pointer (some ⟨t.q, 0, none⟩)) ?_
  refine zv (.string s) ?_
  refine wl_call (v := .tuple #[iN .i64 x, .bool true]) H0 ky enter382 #[.pointer (some ⟨t.q, 0, none⟩), .string s] ky (by have := num_any (H0.get 0 rfl) (by omega) s; rw [hn] at this; exact this) ?_
  intro w1 h2
  refine zv (.tuple #[iN .i64 x, .bool true]) ?_
  refine zv (iN .i64 x) ?_
  refine zv (.bool true) ?_
  refine zv (iN .i64 x) ?_
  refine zv (.bool true) ?_
  refine wl_nil (then_at rfl (wp_seq (wl_region ?_)))
  refine zv (.bool true) ?_
  refine wl_nil (then_at rfl ?_)
  refine wp_cond_true ky ?_
  refine wp_seq (wl_region ?_)
  refine zv (iN .i64 x) ?_
  refine zv (iN .i64 x) ?_
  refine zv (.bool true) ?_
  refine wl_nil (then_at rfl ?_)
  refine wp_ret ?_
  repeat first | refine then_ret ?_ | refine block_ret ?_
  exact bodyPost_ret (v := .tuple #[iN .i64 x, .bool true]) ky rfl ⟨by rw [hF], by rw [hF]; exact ⟨_, _, hR, h2⟩⟩
set_option maxRecDepth 100000 in
set_option maxHeartbeats 2000000 in
theorem part_b {w0 w : World} {M : ML} {t : Tb} {es : List Ent} {L : BL} (H : TH w0 M t es L w) (hf : es.length < 59000) (s : ByteArray) (hs : s.size ≤ 281474976710656) {x : Nat} (hn : numT es.length s = none) (hl : lkT (dts es 0) s = some x) (hF : partF es s = (es, x)) :
    Calls Tryz.prog 379 #[pt t.q, .string s] w fun e w' => e = .returned (.tuple #[iN .i64 (partF es s).2, .bool true]) ∧ TH w0 M t (partF es s).1 L w' := by
  obtain ⟨v, Lr, hR, H0⟩ := H
  obtain ⟨p, c, rfl⟩ := hR.form
  go_enter Tryz.func379, Tryz.ntmps379
  refine wp_seq (wl_region ?_)
  refine zv (iN .i64 0) ?_
  refine zv (.bool false) ?_
  refine wl_nil (then_at rfl (wp_seq (wp_seq (wl_region ?_))))
  refine zv (.pointer (some ⟨t.q, 0, none⟩)) ?_
  refine zv (.string s) ?_
  refine wl_call (v := .tuple #[iN .i64 0, .bool false]) H0 ky enter382 #[.pointer (some ⟨t.q, 0, none⟩), .string s] ky (by have := num_any (H0.get 0 rfl) (by omega) s; rw [hn] at this; exact this) ?_
  intro w1 h2
  refine zv (.tuple #[iN .i64 0, .bool false]) ?_
  refine zv (iN .i64 0) ?_
  refine zv (.bool false) ?_
  refine zv (iN .i64 0) ?_
  refine zv (.bool false) ?_
  refine wl_nil (then_at rfl (wp_seq (wl_region ?_)))
  refine zv (.bool false) ?_
  refine wl_nil (then_at rfl ?_)
  refine wp_cond_false ky ?_
  refine wp_skip (then_at rfl (wp_seq (wp_seq (wl_region ?_))))
  refine zv (.pointer (some ⟨t.q, 0, none⟩)) ?_
  refine zv (.pointer (some ⟨t.q, 0, none⟩)) ?_
  refine zv (.pointer (some ⟨t.q, 2, none⟩)) ?_
  refine zu (.map (some t.mb)) (run_load1 (fun w => Tryz.isAgg142 w) ky (((h2.get 0 rfl).cell 2).trans rfl)) ?_
  refine zv (.string s) ?_
  refine zu (.tuple #[iN .i64 x, .bool true]) (run_lk71 (s := s) ky ky h2.mapB (some x) hl) ?_
  refine zv (.tuple #[iN .i64 x, .bool true]) ?_
  refine zv (iN .i64 x) ?_
  refine zv (.bool true) ?_
  refine zv (iN .i64 x) ?_
  refine zv (.bool true) ?_
  refine wl_nil (then_at rfl (wp_seq (wl_region ?_)))
  refine zv (.bool true) ?_
  refine wl_nil (then_at rfl ?_)
  refine wp_cond_true ky ?_
  refine wp_seq (wl_region ?_)
  refine zv (iN .i64 x) ?_
  refine zv (iN .i64 x) ?_
  refine zv (.bool true) ?_
  refine wl_nil (then_at rfl ?_)
  refine wp_ret ?_
  repeat first | refine then_ret ?_ | refine block_ret ?_
  exact bodyPost_ret (v := .tuple #[iN .i64 x, .bool true]) ky rfl ⟨by rw [hF], by rw [hF]; exact ⟨_, _, hR, h2⟩⟩
set_option maxRecDepth 100000 in
set_option maxHeartbeats 2000000 in
theorem part_c {w0 w : World} {M : ML} {t : Tb} {es : List Ent} {L : BL} (H : TH w0 M t es L w) (hf : es.length < 59000) (s : ByteArray) (hs : s.size ≤ 281474976710656) (hn : numT es.length s = none) (hl : lkT (dts es 0) s = none) (hF : partF es s = (es ++ [.dt s], es.length)) :
    Calls Tryz.prog 379 #[pt t.q, .string s] w fun e w' => e = .returned (.tuple #[iN .i64 (partF es s).2, .bool true]) ∧ TH w0 M t (partF es s).1 L w' := by
  obtain ⟨v, Lr, hR, H0⟩ := H
  obtain ⟨p, c, rfl⟩ := hR.form
  go_enter Tryz.func379, Tryz.ntmps379
  refine wp_seq (wl_region ?_)
  refine zv (iN .i64 0) ?_
  refine zv (.bool false) ?_
  refine wl_nil (then_at rfl (wp_seq (wp_seq (wl_region ?_))))
  refine zv (.pointer (some ⟨t.q, 0, none⟩)) ?_
  refine zv (.string s) ?_
  refine wl_call (v := .tuple #[iN .i64 0, .bool false]) H0 ky enter382 #[.pointer (some ⟨t.q, 0, none⟩), .string s] ky (by have := num_any (H0.get 0 rfl) (by omega) s; rw [hn] at this; exact this) ?_
  intro w1 h2
  refine zv (.tuple #[iN .i64 0, .bool false]) ?_
  refine zv (iN .i64 0) ?_
  refine zv (.bool false) ?_
  refine zv (iN .i64 0) ?_
  refine zv (.bool false) ?_
  refine wl_nil (then_at rfl (wp_seq (wl_region ?_)))
  refine zv (.bool false) ?_
  refine wl_nil (then_at rfl ?_)
  refine wp_cond_false ky ?_
  refine wp_skip (then_at rfl (wp_seq (wp_seq (wl_region ?_))))
  refine zv (.pointer (some ⟨t.q, 0, none⟩)) ?_
  refine zv (.pointer (some ⟨t.q, 0, none⟩)) ?_
  refine zv (.pointer (some ⟨t.q, 2, none⟩)) ?_
  refine zu (.map (some t.mb)) (run_load1 (fun w => Tryz.isAgg142 w) ky (((h2.get 0 rfl).cell 2).trans rfl)) ?_
  refine zv (.string s) ?_
  refine zu (.tuple #[iN .i64 0, .bool false]) (run_lk71 (s := s) ky ky h2.mapB none hl) ?_
  refine zv (.tuple #[iN .i64 0, .bool false]) ?_
  refine zv (iN .i64 0) ?_
  refine zv (.bool false) ?_
  refine zv (iN .i64 0) ?_
  refine zv (.bool false) ?_
  refine wl_nil (then_at rfl (wp_seq (wl_region ?_)))
  refine zv (.bool false) ?_
  refine wl_nil (then_at rfl ?_)
  refine wp_cond_false ky ?_
  refine wp_skip (then_at rfl (wp_seq (wl_region ?_)))
  refine zv (.string s) ?_
  refine wl_call (v := .string s) h2 ky enter113 #[.string s] ky (clone_any s hs w1) ?_
  intro w3 h4
  refine zv (.string s) ?_
  refine wl_nil (then_at rfl (wp_seq (wl_region ?_)))
  refine zv (.pointer (some ⟨t.q, 0, none⟩)) ?_
  refine zv (.string s) ?_
  refine zv (.agg #[.string s]) ?_
  refine zv (.iface 187 (.agg #[.string s])) ?_
  refine wl_callx ky enter365 #[.pointer (some ⟨t.q, 0, none⟩), .iface 187 (.agg #[.string s])] ky (add_any hR h4 (by omega) (ev (.dt s)) rfl) ?_
  rintro _ w5 ⟨v1, Lr1, rfl, hR1, hA1⟩
  refine ⟨_, rfl, ?_⟩
  refine zv (.tuple #[iN .i64 es.length, .bool true]) ?_
  refine zv (iN .i64 es.length) ?_
  refine zv (.bool true) ?_
  refine zv (iN .i64 es.length) ?_
  refine zv (.bool true) ?_
  refine wl_nil (then_at rfl (wp_seq (wp_seq (wl_region ?_))))
  refine zv (.bool true) ?_
  refine wl_nil (then_at rfl ?_)
  refine wp_cond_true ky ?_
  refine wl_region ?_
  refine zv (.pointer (some ⟨t.q, 0, none⟩)) ?_
  refine zv (.pointer (some ⟨t.q, 0, none⟩)) ?_
  refine zv (.pointer (some ⟨t.q, 2, none⟩)) ?_
  refine zu (.map (some t.mb)) (run_load1 (fun w => Tryz.isAgg142 w) ky (((hA1.get 0 rfl).cell 2).trans rfl)) ?_
  refine zv (.string s) ?_
  refine zv (iN .i64 es.length) ?_
  refine wl_anyS ky (run_up71 (s := s) (n := es.length) ky ky ky hA1.mapB hl) ?_
  have h7 : HA (zb w0 M t (es ++ [.dt s])) ((t.q, 145, tcell t (nms es) v1) :: (Lr1 ++ (PB es ++ L))) (World.setMap w5 t.mb (entA (txtK (dts es 0 ++ [(s, es.length)]))) ((dts es 0).length + 1)) := by rw [zb_dt]; exact hA1.setMap 0 rfl (es' := entA (txtK (dts es 0 ++ [(s, es.length)]))) (c' := (dts es 0).length + 1)
  generalize World.setMap w5 t.mb (entA (txtK (dts es 0 ++ [(s, es.length)]))) ((dts es 0).length + 1) = w6 at h7 ⊢
  refine wl_nil (then_at rfl (wp_seq (wl_region ?_)))
  refine zv (iN .i64 es.length) ?_
  refine zv (.bool true) ?_
  refine zv (iN .i64 es.length) ?_
  refine zv (.bool true) ?_
  refine wl_nil (then_at rfl ?_)
  refine wp_ret ?_
  repeat first | refine then_ret ?_ | refine block_ret ?_
  exact bodyPost_ret (v := .tuple #[iN .i64 es.length, .bool true]) ky rfl ⟨by rw [hF], by rw [hF]; exact TH.dt hR1 h7⟩
theorem part_any {w0 w : World} {M : ML} {t : Tb} {es : List Ent} {L : BL} (H : TH w0 M t es L w) (hf : es.length < 59000) (s : ByteArray) (hs : s.size ≤ 281474976710656) :
    Calls Tryz.prog 379 #[pt t.q, .string s] w fun e w' => e = .returned (.tuple #[iN .i64 (partF es s).2, .bool true]) ∧ TH w0 M t (partF es s).1 L w' := by
  cases hn : numT es.length s with
  | some x => exact part_a H hf s hs hn (by simp [partF, hn])
  | none =>
    cases hl : lkT (dts es 0) s with
    | some x => exact part_b H hf s hs hn hl (by simp [partF, hn, hl])
    | none => exact part_c H hf s hs hn hl (by simp [partF, hn, hl])
theorem nms_le : ∀ es : List Ent, nms es ≤ es.length
  | [] => Nat.le_refl _
  | e :: es => by
    have := nms_le es
    cases e <;> simp only [nms, List.length_cons] <;> omega
theorem partF_lt (es : List Ent) (s : ByteArray) (h : ∀ x ∈ dts es 0, x.2 < es.length) : (partF es s).2 < (partF es s).1.length := by
  unfold partF
  split
  · rename_i n hn
    unfold numT at hn
    split at hn
    · unfold firstT at hn
      split at hn
      · rename_i h1
        obtain rfl := Option.some.inj hn
        exact h1.2.2
      · cases hn
    · cases hn
  · split
    · rename_i n hn
      unfold lkT at hn
      obtain ⟨x, hx, rfl⟩ := Option.map_eq_some_iff.1 hn
      exact h x (List.mem_of_find?_eq_some hx)
    · simp
theorem dts_lt : ∀ (es : List Ent) (i : Nat), ∀ x ∈ dts es i, x.2 < i + es.length
  | [], _, x, hx => by cases hx
  | e :: es, i, x, hx => by
    have ih := dts_lt es (i + 1)
    cases e with
    | dt s =>
      rcases List.mem_cons.1 hx with rfl | hx
      · simp
      · have := ih x hx; simp only [List.length_cons]; omega
    | nm n => have := ih x hx; simp only [List.length_cons]; omega
    | mk k n s ps b => have := ih x hx; simp only [List.length_cons]; omega
theorem partF_ok (es : List Ent) (s : ByteArray) : (partF es s).2 < (partF es s).1.length := partF_lt es s (fun x hx => by have := dts_lt es 0 x hx; omega)
set_option maxRecDepth 100000 in
set_option maxHeartbeats 2000000 in
theorem Fresh_any {w0 w : World} {M : ML} {t : Tb} {es : List Ent} {L : BL} (H : TH w0 M t es L w) (hf : es.length < 59000) :
    Calls Tryz.prog 234 #[pt t.q] w fun e w' => e = .returned (.string (txt es.length)) ∧ TH w0 M t (es ++ [.nm (nms es)]) L w' := by
  obtain ⟨v, Lr, hR, H0⟩ := H
  obtain ⟨p, c, rfl⟩ := hR.form
  have hnm := nms_le es
  go_enter Tryz.func234, Tryz.ntmps234
  refine wp_seq (wl_region ?_)
  refine zv (.string ({ data := #[] })) ?_
  refine wl_nil (then_at rfl (wp_seq (wp_seq (wl_region ?_))))
  refine zv (.pointer (some ⟨t.q, 0, none⟩)) ?_
  refine wl_call (v := .bool false) H0 ky enter80 #[.pointer (some ⟨t.q, 0, none⟩)] ky (none_no (H0.get 0 rfl)) ?_
  intro w1 h2
  refine wl_nil (then_at rfl ?_)
  refine wp_cond_false ky ?_
  refine wp_skip (then_at rfl (wp_seq (wl_region ?_)))
  refine zv (.pointer (some ⟨t.q, 0, none⟩)) ?_
  refine zv (.pointer (some ⟨t.q, 0, none⟩)) ?_
  refine zv (.pointer (some ⟨t.q, 0, none⟩)) ?_
  refine zv (.pointer (some ⟨t.q, 1, none⟩)) ?_
  refine zu (iN .i64 (nms es)) (run_load1 (fun w => Tryz.isAgg3 w) ky (((h2.get 0 rfl).cell 1).trans rfl)) ?_
  refine zv (.agg #[iN .i64 (nms es)]) ?_
  refine zv (.iface 185 (.agg #[iN .i64 (nms es)])) ?_
  refine wl_callx ky enter365 #[.pointer (some ⟨t.q, 0, none⟩), .iface 185 (.agg #[iN .i64 (nms es)])] ky (add_any hR h2 (by omega) (ev (.nm (nms es))) rfl) ?_
  rintro _ w3 ⟨v1, Lr1, rfl, hR1, hA1⟩
  refine ⟨_, rfl, ?_⟩
  refine zv (.tuple #[iN .i64 es.length, .bool true]) ?_
  refine zv (iN .i64 es.length) ?_
  refine zv (.bool true) ?_
  refine zv (iN .i64 es.length) ?_
  refine zv (.bool true) ?_
  refine wl_nil (then_at rfl (wp_seq (wp_seq (wl_region ?_))))
  refine zv (.bool true) ?_
  refine zv (.bool false) ?_
  refine wl_nil (then_at rfl ?_)
  refine wp_cond_false ky ?_
  refine wp_skip (then_at rfl (wp_seq (wl_region ?_)))
  refine zv (.pointer (some ⟨t.q, 0, none⟩)) ?_
  refine zv (.pointer (some ⟨t.q, 0, none⟩)) ?_
  refine zv (.pointer (some ⟨t.q, 1, none⟩)) ?_
  refine zu (iN .i64 (nms es)) (run_load1 (fun w => Tryz.isAgg3 w) ky (((hA1.get 0 rfl).cell 1).trans rfl)) ?_
  refine zu (iN .i64 ((nms es) + 1)) (run_add (k := .i64) (a := nms es) (b := 1) ky ky (by simp only [top]; omega)) ?_
  refine zv (.pointer (some ⟨t.q, 0, none⟩)) ?_
  refine zv (.pointer (some ⟨t.q, 1, none⟩)) ?_
  refine wl_putv (v := iN .i64 ((nms es) + 1)) hA1 0 rfl 1 (by show 1 < 4; decide) ky (fun w => Tryz.sizeOf3 w) ky ky ky ?_
  intro w4 (h5 : HA (zb w0 M t es) ((t.q, 145, tcell t ((nms es) + 1) v1) :: (Lr1 ++ (PB es ++ L))) w4)
  refine wl_nil (then_at rfl (wp_seq (wl_region ?_)))
  refine zv (iN .i64 es.length) ?_
  refine wl_call (v := .string (txt es.length)) h5 ky enter366 #[iN .i64 es.length] ky (textOf_any es.length (by omega) w4) ?_
  intro w6 h7
  refine zv (.string (txt es.length)) ?_
  refine wl_nil (then_at rfl ?_)
  refine wp_ret ?_
  repeat first | refine then_ret ?_ | refine block_ret ?_
  exact bodyPost_ret (v := .string (txt es.length)) ky rfl ⟨rfl, TH.nm hR1 h7⟩
theorem TH.keep {w0 w w' : World} {M : ML} {t : Tb} {es : List Ent} {L : BL} (H : TH w0 M t es L w) (hb : Below w.heap.size w w') : TH w0 M t es L w' := by
  obtain ⟨v, Lr, hR, H⟩ := H
  exact ⟨v, Lr, hR, H.keep _ _ hb⟩
theorem partF_len (es : List Ent) (s : ByteArray) : (partF es s).1.length ≤ es.length + 1 := by
  unfold partF
  split
  · simp
  · split <;> simp
end Go.Proofs.YtoogiblkommdfaaGreat
