/-
  The kit of terms: is it that term; what was sealed is opened.
-/
import Derived.Test.YtcjjbpbehapjpaaGreatP2
set_option linter.unusedVariables false
namespace Go.Proofs.YtcjjbpbehapjpaaGreat
open Go.RowKit

theorem n4_txt {i : Nat} (hi : i < 4294967296) : n4 (txt i) = i := by
  have e : ((txt i).extract 4 8).data.toList = [UInt8.ofNat (i / 2 ^ 24), UInt8.ofNat (i / 2 ^ 16), UInt8.ofNat (i / 2 ^ 8), UInt8.ofNat (i / 2 ^ 0)] := by
    unfold txt putS p4 hdS bl
    simp
  unfold n4
  rw [e]
  simp only [val, List.foldl_cons, List.foldl_nil, UInt8.toNat_ofNat']
  omega
theorem numT_txt {m i : Nat} (hi : i < m) (hm : m ≤ 60000) : numT m (txt i) = some i := by
  unfold numT firstT
  rw [if_pos (txt_size i), n4_txt (by omega), if_pos]
  refine ⟨by rw [txt_size]; decide, ?_, hi⟩
  unfold txt putS p4 hdS bl
  apply ByteArray.ext
  simp
/-- has the text that term -/
def isA (A : List Ent) (m : Nat) (s : ByteArray) : Bool := match numT A.length s with
  | some _ => decide (s = txt m)
  | none => match A[m]? with
    | some (.dt x) => decide (x = s)
    | _ => false
/-- the text of a term that stands as a part -/
def parT (A : List Ent) (m : Nat) : ByteArray := match A[m]? with
  | some (.dt x) => x
  | _ => txt m
/-- what was sealed -/
def opnA (A : List Ent) (key nonce ad sealed : ByteArray) : Option ByteArray := match numT A.length sealed with
  | none => none
  | some x => match A[x]? with
    | some (.mk k _ _ ps _) => if k = 6 ∧ isA A (ps.getD 0 0) key = true ∧ isA A (ps.getD 1 0) nonce = true ∧ isA A (ps.getD 2 0) ad = true then some (parT A (ps.getD 3 0)) else none
    | _ => none
theorem numT_lt {m : Nat} {s : ByteArray} {x : Nat} (h : numT m s = some x) : x < m := by
  unfold numT firstT at h
  split at h
  · split at h
    · next h2 => obtain rfl := Option.some.inj h; exact h2.2.2
    · cases h
  · cases h
section
variable {w0 w : World} {M : ML} {p : Pr} {A : List Ent} {n : Nat} {L : BL}
theorem PH.mk (h : PH w0 M p A n L w) {x k m : Nat} {s : ByteArray} {ps : List Nat} {b : Nat} (he : A[x]? = some (.mk k m s ps b)) : 3 ≤ k ∧ (∀ y ∈ ps, y < A.length) ∧ (k = 6 → ps.length = 4) := by
  obtain ⟨es, jv, xs, Lj, rfl, h2, h3, H⟩ := h
  rw [Z_get] at he
  obtain ⟨q, he2, hq⟩ := Option.map_eq_some_iff.1 he
  cases q with
  | nm y => cases hq
  | dt y => cases hq
  | mk k' n' s' ps' b' =>
    obtain ⟨rfl, rfl, rfl, rfl, rfl⟩ := Ent.mk.inj hq
    refine ⟨h2.kk _ _ _ _ _ (List.mem_of_getElem? he2), fun y hy => by rw [Z_len]; exact h2.wg.lt _ _ _ _ _ _ he2 y hy, ?_⟩
    rintro rfl
    exact h2.wg.four _ _ _ _ _ he2
theorem PH.not2 (h : PH w0 M p A n L w) {x : Nat} {q : Ent} (he : A[x]? = some q) (hq : ∀ s, q ≠ .dt s) : ¬ kE q = 2 := by
  cases q with
  | nm y => simp [kE]
  | dt s => exact absurd rfl (hq s)
  | mk k m s ps b => have := (h.mk he).1; simp only [kE]; omega
end
set_option maxRecDepth 100000 in
set_option maxHeartbeats 2000000 in
theorem ptext_any (n : Nat) (hn : n < 9223372036854775808) (w : World) :
    Calls Tryz.prog 314 #[iN .i64 n] w fun e w' => e = .returned (.string (txt n)) ∧ Below w.heap.size w w' := by
  have H0 := HA.start w
  go_enter Tryz.func314, Tryz.ntmps314
  refine wp_seq (wl_region ?_)
  refine zv (.string ({ data := #[] })) ?_
  refine wl_nil (then_at rfl (wp_seq (wl_region ?_)))
  refine zv (iN .i64 n) ?_
  refine zu (iN .u64 n) (run_conv .u64 Tryz.underlying3 Tryz.underlying117 ky (by first | omega | (simp only [top]; omega))) ?_
  refine wl_call (v := .string (putS ({ data := #[240, 84, 82, 77] }) n)) H0 ky enter94 #[.string ({ data := #[240, 84, 82, 77] }), iN .i64 4, iN .u64 n] ky (PutNumber_4 ({ data := #[240, 84, 82, 77] }) n (by decide) (by omega) w) ?_
  intro w1 h2
  refine zv (.string (putS ({ data := #[240, 84, 82, 77] }) n)) ?_
  refine wl_nil (then_at rfl ?_)
  refine wp_ret ?_
  repeat first | refine then_ret ?_ | refine block_ret ?_
  exact bodyPost_ret (v := .string (txt n)) ky rfl ⟨rfl, h2.old.old⟩
set_option maxRecDepth 100000 in
set_option maxHeartbeats 2000000 in
theorem po_n {w0 w : World} {M : ML} {p : Pr} {A : List Ent} {n : Nat} {L : BL} (H : PH w0 M p A n L w) (s : ByteArray) (hn : numT A.length s = none) :
    Calls Tryz.prog 311 #[.agg #[pt p.t.q], iN .i64 6, .string s] w fun e w' => e = .returned (.tuple #[.slice none 0 0, .bool false]) ∧ Below w.heap.size w w' := by
  have H0 := HA.start w
  go_enter Tryz.func311, Tryz.ntmps311
  refine wp_seq (wl_region ?_)
  refine wl_make (c := #[.pointer (some ⟨p.t.q, 0, none⟩)]) H0 97 ky ky ?_
  intro q1 w2 (h3 : HA (bs w) [(q1, 97, #[.pointer (some ⟨p.t.q, 0, none⟩)])] w2)
  refine zv (.slice none 0 0) ?_
  refine zv (.bool false) ?_
  refine wl_nil (then_at rfl (wp_seq (wl_region ?_)))
  refine zv (.pointer (some ⟨q1, 0, none⟩)) ?_
  refine zu (.pointer (some ⟨p.t.q, 0, none⟩)) (run_load1 (fun w => Tryz.isAgg77 w) ky (((h3.get 0 rfl).cell 0).trans rfl)) ?_
  refine zv (.string s) ?_
  refine wl_call (v := .tuple #[.agg #[iN .i64 0, iN .i64 0, .string ({ data := #[] }), .slice none 0 0], .bool false]) h3 ky enter313 #[.pointer (some ⟨p.t.q, 0, none⟩), .string s] ky (Of_n (PH.keep H h3.old.old) hn) ?_
  intro w4 h5
  refine zv (.tuple #[.agg #[iN .i64 0, iN .i64 0, .string ({ data := #[] }), .slice none 0 0], .bool false]) ?_
  refine zv (.agg #[iN .i64 0, iN .i64 0, .string ({ data := #[] }), .slice none 0 0]) ?_
  refine zv (.bool false) ?_
  refine wl_make (c := #[iN .i64 0, iN .i64 0, .string ({ data := #[] }), .slice none 0 0]) h5 168 ky ky ?_
  intro q6 w7 (h8 : HA (bs w) [(q6, 168, #[iN .i64 0, iN .i64 0, .string ({ data := #[] }), .slice none 0 0]), (q1, 97, #[.pointer (some ⟨p.t.q, 0, none⟩)])] w7)
  refine wl_fill (c' := #[iN .i64 0, iN .i64 0, .string ({ data := #[] }), .slice none 0 0]) h8 0 rfl ky ky ky rfl ky ky ?_
  intro w9 (h10 : HA (bs w) [(q6, 168, #[iN .i64 0, iN .i64 0, .string ({ data := #[] }), .slice none 0 0]), (q1, 97, #[.pointer (some ⟨p.t.q, 0, none⟩)])] w9)
  refine zv (.bool false) ?_
  refine wl_nil (then_at rfl (wp_seq (wp_seq (wl_region ?_))))
  refine zv (.bool false) ?_
  refine zv (.bool true) ?_
  refine zv (.bool true) ?_
  refine wl_skip ky ?_
  refine wl_skip ky ?_
  refine wl_skip ky ?_
  refine wl_skip ky ?_
  refine zv (.bool true) ?_
  refine wl_nil (then_at rfl ?_)
  refine wp_cond_true ky ?_
  refine wp_seq (wl_region ?_)
  refine zv (.slice none 0 0) ?_
  refine zv (.bool false) ?_
  refine wl_nil (then_at rfl ?_)
  refine wp_ret ?_
  repeat first | refine then_ret ?_ | refine block_ret ?_
  exact bodyPost_ret (v := .tuple #[.slice none 0 0, .bool false]) ky rfl ⟨rfl, h10.old.old⟩
set_option maxRecDepth 100000 in
set_option maxHeartbeats 2000000 in
theorem po_o {w0 w : World} {M : ML} {p : Pr} {A : List Ent} {n : Nat} {L : BL} (H : PH w0 M p A n L w) (s : ByteArray) {x : Nat} {q : Ent} (hn : numT A.length s = some x) (he : A[x]? = some q) (hk : ¬ kE q = 6) :
    Calls Tryz.prog 311 #[.agg #[pt p.t.q], iN .i64 6, .string s] w fun e w' => e = .returned (.tuple #[.slice none 0 0, .bool false]) ∧ Below w.heap.size w w' := by
  have H0 := HA.start w
  go_enter Tryz.func311, Tryz.ntmps311
  refine wp_seq (wl_region ?_)
  refine wl_make (c := #[.pointer (some ⟨p.t.q, 0, none⟩)]) H0 97 ky ky ?_
  intro q1 w2 (h3 : HA (bs w) [(q1, 97, #[.pointer (some ⟨p.t.q, 0, none⟩)])] w2)
  refine zv (.slice none 0 0) ?_
  refine zv (.bool false) ?_
  refine wl_nil (then_at rfl (wp_seq (wl_region ?_)))
  refine zv (.pointer (some ⟨q1, 0, none⟩)) ?_
  refine zu (.pointer (some ⟨p.t.q, 0, none⟩)) (run_load1 (fun w => Tryz.isAgg77 w) ky (((h3.get 0 rfl).cell 0).trans rfl)) ?_
  refine zv (.string s) ?_
  refine wl_callx ky enter313 #[.pointer (some ⟨p.t.q, 0, none⟩), .string s] ky (Of_y (PH.keep H h3.old.old) hn he) ?_
  rintro _ w8 ⟨po4, pc5, rfl, hpo6, hb7⟩
  refine ⟨_, rfl, ?_⟩
  have h9 := HA.keep _ _ h3 hb7
  refine zv (.tuple #[.agg #[iN .i64 (kE q), iN .i64 (nE q), .string (sE q), .slice po4 (psE q).length pc5], .bool true]) ?_
  refine zv (.agg #[iN .i64 (kE q), iN .i64 (nE q), .string (sE q), .slice po4 (psE q).length pc5]) ?_
  refine zv (.bool true) ?_
  refine wl_make (c := #[iN .i64 0, iN .i64 0, .string ({ data := #[] }), .slice none 0 0]) h9 168 ky ky ?_
  intro q10 w11 (h12 : HA (bs w) [(q10, 168, #[iN .i64 0, iN .i64 0, .string ({ data := #[] }), .slice none 0 0]), (q1, 97, #[.pointer (some ⟨p.t.q, 0, none⟩)])] w11)
  refine wl_fill (c' := #[iN .i64 (kE q), iN .i64 (nE q), .string (sE q), .slice po4 (psE q).length pc5]) h12 0 rfl ky ky ky rfl ky ky ?_
  intro w13 (h14 : HA (bs w) [(q10, 168, #[iN .i64 (kE q), iN .i64 (nE q), .string (sE q), .slice po4 (psE q).length pc5]), (q1, 97, #[.pointer (some ⟨p.t.q, 0, none⟩)])] w13)
  refine zv (.bool true) ?_
  refine wl_nil (then_at rfl (wp_seq (wp_seq (wl_region ?_))))
  refine zv (.bool true) ?_
  refine zv (.bool false) ?_
  refine zv (.bool false) ?_
  refine zv (.pointer (some ⟨q10, 0, none⟩)) ?_
  refine zu (iN .i64 (kE q)) (run_load1 (fun w => Tryz.isAgg3 w) ky (((h14.get 0 rfl).cell 0).trans rfl)) ?_
  refine zv (iN .i64 6) ?_
  refine zu (.bool true) (run_nei (k := .i64) (a := kE q) (b := 6) ky ky true (decide_eq_true (by omega))) ?_
  refine zv (.bool true) ?_
  refine wl_nil (then_at rfl ?_)
  refine wp_cond_true ky ?_
  refine wp_seq (wl_region ?_)
  refine zv (.slice none 0 0) ?_
  refine zv (.bool false) ?_
  refine wl_nil (then_at rfl ?_)
  refine wp_ret ?_
  repeat first | refine then_ret ?_ | refine block_ret ?_
  exact bodyPost_ret (v := .tuple #[.slice none 0 0, .bool false]) ky rfl ⟨rfl, h14.old.old⟩
set_option maxRecDepth 100000 in
set_option maxHeartbeats 2000000 in
theorem po_y {w0 w : World} {M : ML} {p : Pr} {A : List Ent} {n : Nat} {L : BL} (H : PH w0 M p A n L w) (s : ByteArray) {x : Nat} {q : Ent} (hn : numT A.length s = some x) (he : A[x]? = some q) (hk : kE q = 6) (hl4 : (psE q).length = 4) :
    Calls Tryz.prog 311 #[.agg #[pt p.t.q], iN .i64 6, .string s] w fun e w' => ∃ b c cc, e = .returned (.tuple #[.slice (some ⟨b, 0, none⟩) 4 cc, .bool true]) ∧ (∀ j, j < 4 → c[j]? = some (iN .i64 ((psE q).getD j 0))) ∧ w.heap.size ≤ b ∧ Blk w' b 3 c ∧ Below w.heap.size w w' := by
  have H0 := HA.start w
  go_enter Tryz.func311, Tryz.ntmps311
  refine wp_seq (wl_region ?_)
  refine wl_make (c := #[.pointer (some ⟨p.t.q, 0, none⟩)]) H0 97 ky ky ?_
  intro q1 w2 (h3 : HA (bs w) [(q1, 97, #[.pointer (some ⟨p.t.q, 0, none⟩)])] w2)
  refine zv (.slice none 0 0) ?_
  refine zv (.bool false) ?_
  refine wl_nil (then_at rfl (wp_seq (wl_region ?_)))
  refine zv (.pointer (some ⟨q1, 0, none⟩)) ?_
  refine zu (.pointer (some ⟨p.t.q, 0, none⟩)) (run_load1 (fun w => Tryz.isAgg77 w) ky (((h3.get 0 rfl).cell 0).trans rfl)) ?_
  refine zv (.string s) ?_
  refine wl_callx ky enter313 #[.pointer (some ⟨p.t.q, 0, none⟩), .string s] ky (Of_y (PH.keep H h3.old.old) hn he) ?_
  rintro _ w8 ⟨po4, pc5, rfl, hpo6, hb7⟩
  refine ⟨_, rfl, ?_⟩
  obtain ⟨b10, c11, rfl, hl12, hk13, hc14⟩ := hpo6.resolve_left (fun e => by rw [e] at hl4; cases hl4)
  have h9 := HA.addNew h3 hb7 hl12 hk13
  refine zv (.tuple #[.agg #[iN .i64 (kE q), iN .i64 (nE q), .string (sE q), .slice (some ⟨b10, 0, none⟩) (psE q).length pc5], .bool true]) ?_
  refine zv (.agg #[iN .i64 (kE q), iN .i64 (nE q), .string (sE q), .slice (some ⟨b10, 0, none⟩) (psE q).length pc5]) ?_
  refine zv (.bool true) ?_
  refine wl_make (c := #[iN .i64 0, iN .i64 0, .string ({ data := #[] }), .slice none 0 0]) h9 168 ky ky ?_
  intro q15 w16 (h17 : HA (bs w) [(q15, 168, #[iN .i64 0, iN .i64 0, .string ({ data := #[] }), .slice none 0 0]), (b10, 3, c11), (q1, 97, #[.pointer (some ⟨p.t.q, 0, none⟩)])] w16)
  refine wl_fill (c' := #[iN .i64 (kE q), iN .i64 (nE q), .string (sE q), .slice (some ⟨b10, 0, none⟩) (psE q).length pc5]) h17 0 rfl ky ky ky rfl ky ky ?_
  intro w18 (h19 : HA (bs w) [(q15, 168, #[iN .i64 (kE q), iN .i64 (nE q), .string (sE q), .slice (some ⟨b10, 0, none⟩) (psE q).length pc5]), (b10, 3, c11), (q1, 97, #[.pointer (some ⟨p.t.q, 0, none⟩)])] w18)
  refine zv (.bool true) ?_
  refine wl_nil (then_at rfl (wp_seq (wp_seq (wl_region ?_))))
  refine zv (.bool true) ?_
  refine zv (.bool false) ?_
  refine zv (.bool false) ?_
  refine zv (.pointer (some ⟨q15, 0, none⟩)) ?_
  refine zu (iN .i64 (kE q)) (run_load1 (fun w => Tryz.isAgg3 w) ky (((h19.get 0 rfl).cell 0).trans rfl)) ?_
  refine zv (iN .i64 6) ?_
  refine zu (.bool false) (run_nei (k := .i64) (a := kE q) (b := 6) ky ky false (decide_eq_false (by omega))) ?_
  refine zv (.bool false) ?_
  refine wl_nil (then_at rfl ?_)
  refine wp_cond_false ky ?_
  refine wp_skip (then_at rfl (wp_seq (wl_region ?_)))
  refine zv (.pointer (some ⟨q15, 3, none⟩)) ?_
  refine zu (.slice (some ⟨b10, 0, none⟩) (psE q).length pc5) (run_load1 (fun w => Tryz.isAgg81 w) ky (((h19.get 0 rfl).cell 3).trans rfl)) ?_
  refine zv (.slice (some ⟨b10, 0, none⟩) (psE q).length pc5) ?_
  refine zv (.bool true) ?_
  refine wl_nil (then_at rfl ?_)
  refine wp_ret ?_
  repeat first | refine then_ret ?_ | refine block_ret ?_
  exact bodyPost_ret (v := .tuple #[.slice (some ⟨b10, 0, none⟩) 4 pc5, .bool true]) (by rw [← hl4]; kernel_rfl) rfl ⟨b10, c11, pc5, rfl, (fun j hj => hc14 j (by rw [hl4]; exact hj)), h19.own _ (List.mem_of_getElem? (i := 1) rfl), h19.get 1 rfl, h19.old.old⟩
set_option maxRecDepth 100000 in
set_option maxHeartbeats 2000000 in
theorem is_t {w0 w : World} {M : ML} {p : Pr} {A : List Ent} {n : Nat} {L : BL} (H : PH w0 M p A n L w) (m : Nat) (s : ByteArray) (hm : m < 60000) {x : Nat} {q : Ent} (hn : numT A.length s = some x) (he : A[x]? = some q) (b : Bool) (hb : decide (s = txt m) = b) :
    Calls Tryz.prog 312 #[.agg #[pt p.t.q], iN .i64 m, .string s] w fun e w' => e = .returned (.bool b) ∧ Below w.heap.size w w' := by
  have H0 := HA.start w
  go_enter Tryz.func312, Tryz.ntmps312
  refine wp_seq (wl_region ?_)
  refine wl_make (c := #[.pointer (some ⟨p.t.q, 0, none⟩)]) H0 97 ky ky ?_
  intro q1 w2 (h3 : HA (bs w) [(q1, 97, #[.pointer (some ⟨p.t.q, 0, none⟩)])] w2)
  refine zv (.bool false) ?_
  refine wl_nil (then_at rfl (wp_seq (wp_seq (wl_region ?_))))
  refine zv (.pointer (some ⟨q1, 0, none⟩)) ?_
  refine zu (.pointer (some ⟨p.t.q, 0, none⟩)) (run_load1 (fun w => Tryz.isAgg77 w) ky (((h3.get 0 rfl).cell 0).trans rfl)) ?_
  refine zv (.string s) ?_
  refine wl_callx ky enter313 #[.pointer (some ⟨p.t.q, 0, none⟩), .string s] ky (Of_y (PH.keep H h3.old.old) hn he) ?_
  rintro _ w8 ⟨po4, pc5, rfl, hpo6, hb7⟩
  refine ⟨_, rfl, ?_⟩
  have h9 := HA.keep _ _ h3 hb7
  refine zv (.tuple #[.agg #[iN .i64 (kE q), iN .i64 (nE q), .string (sE q), .slice po4 (psE q).length pc5], .bool true]) ?_
  refine zv (.agg #[iN .i64 (kE q), iN .i64 (nE q), .string (sE q), .slice po4 (psE q).length pc5]) ?_
  refine zv (.bool true) ?_
  refine wl_make (c := #[iN .i64 0, iN .i64 0, .string ({ data := #[] }), .slice none 0 0]) h9 168 ky ky ?_
  intro q10 w11 (h12 : HA (bs w) [(q10, 168, #[iN .i64 0, iN .i64 0, .string ({ data := #[] }), .slice none 0 0]), (q1, 97, #[.pointer (some ⟨p.t.q, 0, none⟩)])] w11)
  refine wl_fill (c' := #[iN .i64 (kE q), iN .i64 (nE q), .string (sE q), .slice po4 (psE q).length pc5]) h12 0 rfl ky ky ky rfl ky ky ?_
  intro w13 (h14 : HA (bs w) [(q10, 168, #[iN .i64 (kE q), iN .i64 (nE q), .string (sE q), .slice po4 (psE q).length pc5]), (q1, 97, #[.pointer (some ⟨p.t.q, 0, none⟩)])] w13)
  refine zv (.bool true) ?_
  refine wl_nil (then_at rfl (wp_seq (wl_region ?_)))
  refine zv (.bool true) ?_
  refine wl_nil (then_at rfl ?_)
  refine wp_cond_true ky ?_
  refine wp_seq (wl_region ?_)
  refine zv (.string s) ?_
  refine zv (iN .i64 m) ?_
  refine wl_call (v := .string (txt m)) h14 ky enter314 #[iN .i64 m] ky (ptext_any m (by omega) w13) ?_
  intro w15 h16
  refine zu (.bool b) (run_eqs (s := s) (t := txt m) ky ky b hb) ?_
  refine zv (.bool b) ?_
  refine wl_nil (then_at rfl ?_)
  refine wp_ret ?_
  repeat first | refine then_ret ?_ | refine block_ret ?_
  exact bodyPost_ret (v := .bool b) ky rfl ⟨rfl, h16.old.old⟩
set_option maxRecDepth 100000 in
set_option maxHeartbeats 2000000 in
theorem is_d {w0 w : World} {M : ML} {p : Pr} {A : List Ent} {n : Nat} {L : BL} (H : PH w0 M p A n L w) (m : Nat) (s : ByteArray) (hm : m < 60000) {y : ByteArray} (hn : numT A.length s = none) (hn2 : numT A.length (txt m) = some m) (he : A[m]? = some (.dt y)) (b : Bool) (hb : decide (y = s) = b) :
    Calls Tryz.prog 312 #[.agg #[pt p.t.q], iN .i64 m, .string s] w fun e w' => e = .returned (.bool b) ∧ Below w.heap.size w w' := by
  have H0 := HA.start w
  go_enter Tryz.func312, Tryz.ntmps312
  refine wp_seq (wl_region ?_)
  refine wl_make (c := #[.pointer (some ⟨p.t.q, 0, none⟩)]) H0 97 ky ky ?_
  intro q1 w2 (h3 : HA (bs w) [(q1, 97, #[.pointer (some ⟨p.t.q, 0, none⟩)])] w2)
  refine zv (.bool false) ?_
  refine wl_nil (then_at rfl (wp_seq (wp_seq (wl_region ?_))))
  refine zv (.pointer (some ⟨q1, 0, none⟩)) ?_
  refine zu (.pointer (some ⟨p.t.q, 0, none⟩)) (run_load1 (fun w => Tryz.isAgg77 w) ky (((h3.get 0 rfl).cell 0).trans rfl)) ?_
  refine zv (.string s) ?_
  refine wl_call (v := .tuple #[.agg #[iN .i64 0, iN .i64 0, .string ({ data := #[] }), .slice none 0 0], .bool false]) h3 ky enter313 #[.pointer (some ⟨p.t.q, 0, none⟩), .string s] ky (Of_n (PH.keep H h3.old.old) hn) ?_
  intro w4 h5
  refine zv (.tuple #[.agg #[iN .i64 0, iN .i64 0, .string ({ data := #[] }), .slice none 0 0], .bool false]) ?_
  refine zv (.agg #[iN .i64 0, iN .i64 0, .string ({ data := #[] }), .slice none 0 0]) ?_
  refine zv (.bool false) ?_
  refine wl_make (c := #[iN .i64 0, iN .i64 0, .string ({ data := #[] }), .slice none 0 0]) h5 168 ky ky ?_
  intro q6 w7 (h8 : HA (bs w) [(q6, 168, #[iN .i64 0, iN .i64 0, .string ({ data := #[] }), .slice none 0 0]), (q1, 97, #[.pointer (some ⟨p.t.q, 0, none⟩)])] w7)
  refine wl_fill (c' := #[iN .i64 0, iN .i64 0, .string ({ data := #[] }), .slice none 0 0]) h8 0 rfl ky ky ky rfl ky ky ?_
  intro w9 (h10 : HA (bs w) [(q6, 168, #[iN .i64 0, iN .i64 0, .string ({ data := #[] }), .slice none 0 0]), (q1, 97, #[.pointer (some ⟨p.t.q, 0, none⟩)])] w9)
  refine zv (.bool false) ?_
  refine wl_nil (then_at rfl (wp_seq (wl_region ?_)))
  refine zv (.bool false) ?_
  refine wl_nil (then_at rfl ?_)
  refine wp_cond_false ky ?_
  refine wp_skip (then_at rfl (wp_seq ?_))
  refine wp_region_wx (HA (bs w) [(q6, 168, #[iN .i64 0, iN .i64 0, .string ({ data := #[] }), .slice none 0 0]), (q1, 97, #[.pointer (some ⟨p.t.q, 0, none⟩)])]) (fun AQ w' => ∃ (po16 : Option Addr) (pc17 : Nat) (q26 : Nat), AQ = ⟨(.agg #[pt p.t.q] :: iN .i64 m :: .string s :: pt q1 :: un :: un :: .bool false :: pt q6 :: .bool false :: pt q26 :: .bool true :: .tuple #[.agg #[iN .i64 0, iN .i64 0, .string ({ data := #[] }), .slice none 0 0], .bool false] :: pt q1 :: pt p.t.q :: .string s :: .tuple #[.agg #[iN .i64 0, iN .i64 0, .string ({ data := #[] }), .slice none 0 0], .bool false] :: .agg #[iN .i64 0, iN .i64 0, .string ({ data := #[] }), .slice none 0 0] :: .bool false :: .bool false :: un :: un :: un :: un :: .tuple #[.agg #[iN .i64 (kE (.dt y)), iN .i64 (nE (.dt y)), .string (sE (.dt y)), .slice po16 (psE (.dt y)).length pc17], .bool true] :: pt q1 :: pt p.t.q :: iN .i64 m :: .string (txt m) :: .tuple #[.agg #[iN .i64 (kE (.dt y)), iN .i64 (nE (.dt y)), .string (sE (.dt y)), .slice po16 (psE (.dt y)).length pc17], .bool true] :: .agg #[iN .i64 (kE (.dt y)), iN .i64 (nE (.dt y)), .string (sE (.dt y)), .slice po16 (psE (.dt y)).length pc17] :: .bool true :: List.replicate 12 un).toArray, []⟩ ∧ HA (bs w) [(q26, 168, #[iN .i64 (kE (.dt y)), iN .i64 (nE (.dt y)), .string (sE (.dt y)), .slice po16 (psE (.dt y)).length pc17]), (q6, 168, #[iN .i64 0, iN .i64 0, .string ({ data := #[] }), .slice none 0 0]), (q1, 97, #[.pointer (some ⟨p.t.q, 0, none⟩)])] w') 11 ky ky ky ky ky (h10.drew) ?_ ?_
  · have h11 := h10.drew
    refine zp 0 (.pointer (some ⟨q1, 0, none⟩)) ?_
    refine wx_val (i := 1) (.pointer (some ⟨p.t.q, 0, none⟩)) rfl rfl ky ky (fun w' h' => run_load1 (fun w => Tryz.isAgg77 w) ky (((h'.get 1 rfl).cell 0).trans rfl)) ?_
    refine zp 2 (iN .i64 m) ?_
    refine wx_call (i := 3) (.string (txt m)) (fun _ _ h hb => HA.keep _ _ h hb) rfl rfl ky ky enter314 #[iN .i64 m] ky (fun w' h' => ptext_any m (by omega) w') ?_
    refine wx_two 4 8 ky ?_ ?_
    · refine ex_callx rfl ky h11 enter313 #[.pointer (some ⟨p.t.q, 0, none⟩), .string (txt m)] ky (fun w20 h21 => Of_y (PH.keep H h21.old.old) hn2 he) ?_
      rintro w20 h21 _ w22 ⟨po16, pc17, rfl, hpo18, hb19⟩
      have h23 := HA.keep _ _ h21 hb19
      refine ⟨_, rfl, _, .inl ky, h23, ?_⟩
      refine zp 5 (.tuple #[.agg #[iN .i64 (kE (.dt y)), iN .i64 (nE (.dt y)), .string (sE (.dt y)), .slice po16 (psE (.dt y)).length pc17], .bool true]) ?_
      refine zp 6 (.agg #[iN .i64 (kE (.dt y)), iN .i64 (nE (.dt y)), .string (sE (.dt y)), .slice po16 (psE (.dt y)).length pc17]) ?_
      refine zp 7 (.bool true) ?_
      refine wx_one 8 ky ?_
      refine ex_makeT (c := #[iN .i64 0, iN .i64 0, .string ({ data := #[] }), .slice none 0 0]) rfl ky h23 168 (fun q => .pointer (some ⟨q, 0, none⟩)) (fun _ => ky) ?_
      intro q26 w24 (h25 : HA (bs w) [(q26, 168, #[iN .i64 0, iN .i64 0, .string ({ data := #[] }), .slice none 0 0]), (q6, 168, #[iN .i64 0, iN .i64 0, .string ({ data := #[] }), .slice none 0 0]), (q1, 97, #[.pointer (some ⟨p.t.q, 0, none⟩)])] w24)
      refine ⟨_, .inr rfl, (HA.sub h25 (List.Sublist.cons _ (List.Sublist.cons_cons _ (List.Sublist.cons_cons _ (List.Sublist.refl _))))), ?_⟩
      refine wx_one 9 ky ?_
      refine ex_skipT rfl ky h25 fun w27 h28 => ⟨_, run_store_blk (c' := #[iN .i64 (kE (.dt y)), iN .i64 (nE (.dt y)), .string (sE (.dt y)), .slice po16 (psE (.dt y)).length pc17]) ky ky (h28.get 0 rfl) rfl ky ky, ?_⟩
      have h29 : HA (bs w) [(q26, 168, #[iN .i64 (kE (.dt y)), iN .i64 (nE (.dt y)), .string (sE (.dt y)), .slice po16 (psE (.dt y)).length pc17]), (q6, 168, #[iN .i64 0, iN .i64 0, .string ({ data := #[] }), .slice none 0 0]), (q1, 97, #[.pointer (some ⟨p.t.q, 0, none⟩)])] _ := h28.fill 0 rfl (c' := #[iN .i64 (kE (.dt y)), iN .i64 (nE (.dt y)), .string (sE (.dt y)), .slice po16 (psE (.dt y)).length pc17]) rfl
      refine ⟨_, .inl ky, h29, ?_⟩
      refine zp 10 (.bool true) ?_
      refine wx_end fun w30 hbx _ => ?_
      have h31 := HA.keep _ _ h29 hbx
      exact ⟨po16, pc17, q26, by kernel_rfl, h31⟩
    · refine ex_makeT (c := #[iN .i64 0, iN .i64 0, .string ({ data := #[] }), .slice none 0 0]) rfl ky h11 168 (fun q => .pointer (some ⟨q, 0, none⟩)) (fun _ => ky) ?_
      intro q34 w32 (h33 : HA (bs w) [(q34, 168, #[iN .i64 0, iN .i64 0, .string ({ data := #[] }), .slice none 0 0]), (q6, 168, #[iN .i64 0, iN .i64 0, .string ({ data := #[] }), .slice none 0 0]), (q1, 97, #[.pointer (some ⟨p.t.q, 0, none⟩)])] w32)
      refine ⟨_, .inr rfl, (HA.sub h33 (List.Sublist.cons _ (List.Sublist.cons_cons _ (List.Sublist.cons_cons _ (List.Sublist.refl _))))), ?_⟩
      refine wx_one 4 ky ?_
      refine ex_callx rfl ky h33 enter313 #[.pointer (some ⟨p.t.q, 0, none⟩), .string (txt m)] ky (fun w43 h44 => Of_y (PH.keep H h44.old.old) hn2 he) ?_
      rintro w43 h44 _ w45 ⟨po39, pc40, rfl, hpo41, hb42⟩
      have h46 := HA.keep _ _ h44 hb42
      refine ⟨_, rfl, _, .inr rfl, (HA.sub h46 (List.Sublist.cons _ (List.Sublist.cons_cons _ (List.Sublist.cons_cons _ (List.Sublist.refl _))))), ?_⟩
      refine zp 5 (.tuple #[.agg #[iN .i64 (kE (.dt y)), iN .i64 (nE (.dt y)), .string (sE (.dt y)), .slice po39 (psE (.dt y)).length pc40], .bool true]) ?_
      refine zp 6 (.agg #[iN .i64 (kE (.dt y)), iN .i64 (nE (.dt y)), .string (sE (.dt y)), .slice po39 (psE (.dt y)).length pc40]) ?_
      refine zp 7 (.bool true) ?_
      refine wx_one 9 ky ?_
      refine ex_skipT rfl ky h46 fun w47 h48 => ⟨_, run_store_blk (c' := #[iN .i64 (kE (.dt y)), iN .i64 (nE (.dt y)), .string (sE (.dt y)), .slice po39 (psE (.dt y)).length pc40]) ky ky (h48.get 0 rfl) rfl ky ky, ?_⟩
      have h49 : HA (bs w) [(q34, 168, #[iN .i64 (kE (.dt y)), iN .i64 (nE (.dt y)), .string (sE (.dt y)), .slice po39 (psE (.dt y)).length pc40]), (q6, 168, #[iN .i64 0, iN .i64 0, .string ({ data := #[] }), .slice none 0 0]), (q1, 97, #[.pointer (some ⟨p.t.q, 0, none⟩)])] _ := h48.fill 0 rfl (c' := #[iN .i64 (kE (.dt y)), iN .i64 (nE (.dt y)), .string (sE (.dt y)), .slice po39 (psE (.dt y)).length pc40]) rfl
      refine ⟨_, .inl ky, h49, ?_⟩
      refine zp 10 (.bool true) ?_
      refine wx_end fun w50 hbx _ => ?_
      have h51 := HA.keep _ _ h49 hbx
      exact ⟨po39, pc40, q34, by kernel_rfl, h51⟩
  · rintro _ w52 ⟨po16, pc17, q26, rfl, h53⟩
    refine then_at rfl (wp_seq (wl_region ?_))
    refine zv (.bool true) ?_
    refine zv (.bool true) ?_
    refine zv (.pointer (some ⟨q26, 0, none⟩)) ?_
    refine zu (iN .i64 (kE (.dt y))) (run_load1 (fun w => Tryz.isAgg3 w) ky (((h53.get 0 rfl).cell 0).trans rfl)) ?_
    refine zu (.bool true) (run_eqi (k := .i64) (a := kE (.dt y)) (b := 2) ky ky true rfl) ?_
    refine zv (.bool true) ?_
    refine zv (.bool true) ?_
    refine zv (.pointer (some ⟨q26, 2, none⟩)) ?_
    refine zu (.string (sE (.dt y))) (run_load1 (fun w => Tryz.isAgg9 w) ky (((h53.get 0 rfl).cell 2).trans rfl)) ?_
    refine zv (.string s) ?_
    refine zu (.bool b) (run_eqs (s := sE (.dt y)) (t := s) ky ky b hb) ?_
    refine zv (.bool b) ?_
    refine zv (.bool b) ?_
    refine wl_nil (then_at rfl ?_)
    refine wp_ret ?_
    repeat first | refine then_ret ?_ | refine block_ret ?_
    exact bodyPost_ret (v := .bool b) ky rfl ⟨rfl, h53.old.old⟩
set_option maxRecDepth 100000 in
set_option maxHeartbeats 2000000 in
theorem is_o {w0 w : World} {M : ML} {p : Pr} {A : List Ent} {n : Nat} {L : BL} (H : PH w0 M p A n L w) (m : Nat) (s : ByteArray) (hm : m < 60000) {q : Ent} (hn : numT A.length s = none) (hn2 : numT A.length (txt m) = some m) (he : A[m]? = some q) (hk : ¬ kE q = 2) :
    Calls Tryz.prog 312 #[.agg #[pt p.t.q], iN .i64 m, .string s] w fun e w' => e = .returned (.bool false) ∧ Below w.heap.size w w' := by
  have H0 := HA.start w
  go_enter Tryz.func312, Tryz.ntmps312
  refine wp_seq (wl_region ?_)
  refine wl_make (c := #[.pointer (some ⟨p.t.q, 0, none⟩)]) H0 97 ky ky ?_
  intro q1 w2 (h3 : HA (bs w) [(q1, 97, #[.pointer (some ⟨p.t.q, 0, none⟩)])] w2)
  refine zv (.bool false) ?_
  refine wl_nil (then_at rfl (wp_seq (wp_seq (wl_region ?_))))
  refine zv (.pointer (some ⟨q1, 0, none⟩)) ?_
  refine zu (.pointer (some ⟨p.t.q, 0, none⟩)) (run_load1 (fun w => Tryz.isAgg77 w) ky (((h3.get 0 rfl).cell 0).trans rfl)) ?_
  refine zv (.string s) ?_
  refine wl_call (v := .tuple #[.agg #[iN .i64 0, iN .i64 0, .string ({ data := #[] }), .slice none 0 0], .bool false]) h3 ky enter313 #[.pointer (some ⟨p.t.q, 0, none⟩), .string s] ky (Of_n (PH.keep H h3.old.old) hn) ?_
  intro w4 h5
  refine zv (.tuple #[.agg #[iN .i64 0, iN .i64 0, .string ({ data := #[] }), .slice none 0 0], .bool false]) ?_
  refine zv (.agg #[iN .i64 0, iN .i64 0, .string ({ data := #[] }), .slice none 0 0]) ?_
  refine zv (.bool false) ?_
  refine wl_make (c := #[iN .i64 0, iN .i64 0, .string ({ data := #[] }), .slice none 0 0]) h5 168 ky ky ?_
  intro q6 w7 (h8 : HA (bs w) [(q6, 168, #[iN .i64 0, iN .i64 0, .string ({ data := #[] }), .slice none 0 0]), (q1, 97, #[.pointer (some ⟨p.t.q, 0, none⟩)])] w7)
  refine wl_fill (c' := #[iN .i64 0, iN .i64 0, .string ({ data := #[] }), .slice none 0 0]) h8 0 rfl ky ky ky rfl ky ky ?_
  intro w9 (h10 : HA (bs w) [(q6, 168, #[iN .i64 0, iN .i64 0, .string ({ data := #[] }), .slice none 0 0]), (q1, 97, #[.pointer (some ⟨p.t.q, 0, none⟩)])] w9)
  refine zv (.bool false) ?_
  refine wl_nil (then_at rfl (wp_seq (wl_region ?_)))
  refine zv (.bool false) ?_
  refine wl_nil (then_at rfl ?_)
  refine wp_cond_false ky ?_
  refine wp_skip (then_at rfl (wp_seq ?_))
  refine wp_region_wx (HA (bs w) [(q6, 168, #[iN .i64 0, iN .i64 0, .string ({ data := #[] }), .slice none 0 0]), (q1, 97, #[.pointer (some ⟨p.t.q, 0, none⟩)])]) (fun AQ w' => ∃ (po16 : Option Addr) (pc17 : Nat) (q26 : Nat), AQ = ⟨(.agg #[pt p.t.q] :: iN .i64 m :: .string s :: pt q1 :: un :: un :: .bool false :: pt q6 :: .bool false :: pt q26 :: .bool true :: .tuple #[.agg #[iN .i64 0, iN .i64 0, .string ({ data := #[] }), .slice none 0 0], .bool false] :: pt q1 :: pt p.t.q :: .string s :: .tuple #[.agg #[iN .i64 0, iN .i64 0, .string ({ data := #[] }), .slice none 0 0], .bool false] :: .agg #[iN .i64 0, iN .i64 0, .string ({ data := #[] }), .slice none 0 0] :: .bool false :: .bool false :: un :: un :: un :: un :: .tuple #[.agg #[iN .i64 (kE q), iN .i64 (nE q), .string (sE q), .slice po16 (psE q).length pc17], .bool true] :: pt q1 :: pt p.t.q :: iN .i64 m :: .string (txt m) :: .tuple #[.agg #[iN .i64 (kE q), iN .i64 (nE q), .string (sE q), .slice po16 (psE q).length pc17], .bool true] :: .agg #[iN .i64 (kE q), iN .i64 (nE q), .string (sE q), .slice po16 (psE q).length pc17] :: .bool true :: List.replicate 12 un).toArray, []⟩ ∧ HA (bs w) [(q26, 168, #[iN .i64 (kE q), iN .i64 (nE q), .string (sE q), .slice po16 (psE q).length pc17]), (q6, 168, #[iN .i64 0, iN .i64 0, .string ({ data := #[] }), .slice none 0 0]), (q1, 97, #[.pointer (some ⟨p.t.q, 0, none⟩)])] w') 11 ky ky ky ky ky (h10.drew) ?_ ?_
  · have h11 := h10.drew
    refine zp 0 (.pointer (some ⟨q1, 0, none⟩)) ?_
    refine wx_val (i := 1) (.pointer (some ⟨p.t.q, 0, none⟩)) rfl rfl ky ky (fun w' h' => run_load1 (fun w => Tryz.isAgg77 w) ky (((h'.get 1 rfl).cell 0).trans rfl)) ?_
    refine zp 2 (iN .i64 m) ?_
    refine wx_call (i := 3) (.string (txt m)) (fun _ _ h hb => HA.keep _ _ h hb) rfl rfl ky ky enter314 #[iN .i64 m] ky (fun w' h' => ptext_any m (by omega) w') ?_
    refine wx_two 4 8 ky ?_ ?_
    · refine ex_callx rfl ky h11 enter313 #[.pointer (some ⟨p.t.q, 0, none⟩), .string (txt m)] ky (fun w20 h21 => Of_y (PH.keep H h21.old.old) hn2 he) ?_
      rintro w20 h21 _ w22 ⟨po16, pc17, rfl, hpo18, hb19⟩
      have h23 := HA.keep _ _ h21 hb19
      refine ⟨_, rfl, _, .inl ky, h23, ?_⟩
      refine zp 5 (.tuple #[.agg #[iN .i64 (kE q), iN .i64 (nE q), .string (sE q), .slice po16 (psE q).length pc17], .bool true]) ?_
      refine zp 6 (.agg #[iN .i64 (kE q), iN .i64 (nE q), .string (sE q), .slice po16 (psE q).length pc17]) ?_
      refine zp 7 (.bool true) ?_
      refine wx_one 8 ky ?_
      refine ex_makeT (c := #[iN .i64 0, iN .i64 0, .string ({ data := #[] }), .slice none 0 0]) rfl ky h23 168 (fun q => .pointer (some ⟨q, 0, none⟩)) (fun _ => ky) ?_
      intro q26 w24 (h25 : HA (bs w) [(q26, 168, #[iN .i64 0, iN .i64 0, .string ({ data := #[] }), .slice none 0 0]), (q6, 168, #[iN .i64 0, iN .i64 0, .string ({ data := #[] }), .slice none 0 0]), (q1, 97, #[.pointer (some ⟨p.t.q, 0, none⟩)])] w24)
      refine ⟨_, .inr rfl, (HA.sub h25 (List.Sublist.cons _ (List.Sublist.cons_cons _ (List.Sublist.cons_cons _ (List.Sublist.refl _))))), ?_⟩
      refine wx_one 9 ky ?_
      refine ex_skipT rfl ky h25 fun w27 h28 => ⟨_, run_store_blk (c' := #[iN .i64 (kE q), iN .i64 (nE q), .string (sE q), .slice po16 (psE q).length pc17]) ky ky (h28.get 0 rfl) rfl ky ky, ?_⟩
      have h29 : HA (bs w) [(q26, 168, #[iN .i64 (kE q), iN .i64 (nE q), .string (sE q), .slice po16 (psE q).length pc17]), (q6, 168, #[iN .i64 0, iN .i64 0, .string ({ data := #[] }), .slice none 0 0]), (q1, 97, #[.pointer (some ⟨p.t.q, 0, none⟩)])] _ := h28.fill 0 rfl (c' := #[iN .i64 (kE q), iN .i64 (nE q), .string (sE q), .slice po16 (psE q).length pc17]) rfl
      refine ⟨_, .inl ky, h29, ?_⟩
      refine zp 10 (.bool true) ?_
      refine wx_end fun w30 hbx _ => ?_
      have h31 := HA.keep _ _ h29 hbx
      exact ⟨po16, pc17, q26, by kernel_rfl, h31⟩
    · refine ex_makeT (c := #[iN .i64 0, iN .i64 0, .string ({ data := #[] }), .slice none 0 0]) rfl ky h11 168 (fun q => .pointer (some ⟨q, 0, none⟩)) (fun _ => ky) ?_
      intro q34 w32 (h33 : HA (bs w) [(q34, 168, #[iN .i64 0, iN .i64 0, .string ({ data := #[] }), .slice none 0 0]), (q6, 168, #[iN .i64 0, iN .i64 0, .string ({ data := #[] }), .slice none 0 0]), (q1, 97, #[.pointer (some ⟨p.t.q, 0, none⟩)])] w32)
      refine ⟨_, .inr rfl, (HA.sub h33 (List.Sublist.cons _ (List.Sublist.cons_cons _ (List.Sublist.cons_cons _ (List.Sublist.refl _))))), ?_⟩
      refine wx_one 4 ky ?_
      refine ex_callx rfl ky h33 enter313 #[.pointer (some ⟨p.t.q, 0, none⟩), .string (txt m)] ky (fun w43 h44 => Of_y (PH.keep H h44.old.old) hn2 he) ?_
      rintro w43 h44 _ w45 ⟨po39, pc40, rfl, hpo41, hb42⟩
      have h46 := HA.keep _ _ h44 hb42
      refine ⟨_, rfl, _, .inr rfl, (HA.sub h46 (List.Sublist.cons _ (List.Sublist.cons_cons _ (List.Sublist.cons_cons _ (List.Sublist.refl _))))), ?_⟩
      refine zp 5 (.tuple #[.agg #[iN .i64 (kE q), iN .i64 (nE q), .string (sE q), .slice po39 (psE q).length pc40], .bool true]) ?_
      refine zp 6 (.agg #[iN .i64 (kE q), iN .i64 (nE q), .string (sE q), .slice po39 (psE q).length pc40]) ?_
      refine zp 7 (.bool true) ?_
      refine wx_one 9 ky ?_
      refine ex_skipT rfl ky h46 fun w47 h48 => ⟨_, run_store_blk (c' := #[iN .i64 (kE q), iN .i64 (nE q), .string (sE q), .slice po39 (psE q).length pc40]) ky ky (h48.get 0 rfl) rfl ky ky, ?_⟩
      have h49 : HA (bs w) [(q34, 168, #[iN .i64 (kE q), iN .i64 (nE q), .string (sE q), .slice po39 (psE q).length pc40]), (q6, 168, #[iN .i64 0, iN .i64 0, .string ({ data := #[] }), .slice none 0 0]), (q1, 97, #[.pointer (some ⟨p.t.q, 0, none⟩)])] _ := h48.fill 0 rfl (c' := #[iN .i64 (kE q), iN .i64 (nE q), .string (sE q), .slice po39 (psE q).length pc40]) rfl
      refine ⟨_, .inl ky, h49, ?_⟩
      refine zp 10 (.bool true) ?_
      refine wx_end fun w50 hbx _ => ?_
      have h51 := HA.keep _ _ h49 hbx
      exact ⟨po39, pc40, q34, by kernel_rfl, h51⟩
  · rintro _ w52 ⟨po16, pc17, q26, rfl, h53⟩
    refine then_at rfl (wp_seq (wl_region ?_))
    refine zv (.bool true) ?_
    refine zv (.bool true) ?_
    refine zv (.pointer (some ⟨q26, 0, none⟩)) ?_
    refine zu (iN .i64 (kE q)) (run_load1 (fun w => Tryz.isAgg3 w) ky (((h53.get 0 rfl).cell 0).trans rfl)) ?_
    refine zu (.bool false) (run_eqi (k := .i64) (a := kE q) (b := 2) ky ky false (decide_eq_false hk)) ?_
    refine zv (.bool false) ?_
    refine zv (.bool false) ?_
    refine wl_skip ky ?_
    refine wl_skip ky ?_
    refine wl_skip ky ?_
    refine wl_skip ky ?_
    refine zv (.bool false) ?_
    refine zv (.bool false) ?_
    refine wl_nil (then_at rfl ?_)
    refine wp_ret ?_
    repeat first | refine then_ret ?_ | refine block_ret ?_
    exact bodyPost_ret (v := .bool false) ky rfl ⟨rfl, h53.old.old⟩
theorem is_P {w0 w : World} {M : ML} {p : Pr} {A : List Ent} {n : Nat} {L : BL} (H : PH w0 M p A n L w) (m : Nat) (s : ByteArray) (hm : m < A.length) :
    Calls Tryz.prog 312 #[.agg #[pt p.t.q], iN .i64 m, .string s] w fun e w' => e = .returned (.bool (isA A m s)) ∧ Below w.heap.size w w' := by
  have hf := H.few
  unfold isA
  cases hn : numT A.length s with
  | some x => exact is_t H m s (by omega) hn (List.getElem?_eq_getElem (numT_lt hn)) _ rfl
  | none =>
    obtain ⟨q, he⟩ : ∃ q, A[m]? = some q := ⟨_, List.getElem?_eq_getElem hm⟩
    have hn2 := numT_txt hm hf
    cases q with
    | dt y => simp only [he]; exact is_d H m s (by omega) hn hn2 he _ rfl
    | nm y => simp only [he]; exact is_o H m s (by omega) hn hn2 he (H.not2 he (fun s e => by cases e))
    | mk k y z ps b => simp only [he]; exact is_o H m s (by omega) hn hn2 he (H.not2 he (fun s e => by cases e))
set_option maxRecDepth 100000 in
set_option maxHeartbeats 2000000 in
theorem pt_d {w0 w : World} {M : ML} {p : Pr} {A : List Ent} {n : Nat} {L : BL} (H : PH w0 M p A n L w) (m : Nat) (hm : m < 60000) {y : ByteArray} (hn2 : numT A.length (txt m) = some m) (he : A[m]? = some (.dt y)) :
    Calls Tryz.prog 302 #[.agg #[pt p.t.q], iN .i64 m] w fun e w' => e = .returned (.string y) ∧ Below w.heap.size w w' := by
  have H0 := HA.start w
  go_enter Tryz.func302, Tryz.ntmps302
  refine wp_seq (wl_region ?_)
  refine wl_make (c := #[.pointer (some ⟨p.t.q, 0, none⟩)]) H0 97 ky ky ?_
  intro q1 w2 (h3 : HA (bs w) [(q1, 97, #[.pointer (some ⟨p.t.q, 0, none⟩)])] w2)
  refine zv (.string ({ data := #[] })) ?_
  refine wl_nil (then_at rfl (wp_seq (wp_seq ?_)))
  refine wp_region_wx (HA (bs w) [(q1, 97, #[.pointer (some ⟨p.t.q, 0, none⟩)])]) (fun AQ w' => ∃ (po9 : Option Addr) (pc10 : Nat) (q19 : Nat), AQ = ⟨(.agg #[pt p.t.q] :: iN .i64 m :: pt q1 :: un :: .string ({ data := #[] }) :: pt q19 :: .bool true :: .tuple #[.agg #[iN .i64 (kE (.dt y)), iN .i64 (nE (.dt y)), .string (sE (.dt y)), .slice po9 (psE (.dt y)).length pc10], .bool true] :: pt q1 :: pt p.t.q :: iN .i64 m :: .string (txt m) :: .tuple #[.agg #[iN .i64 (kE (.dt y)), iN .i64 (nE (.dt y)), .string (sE (.dt y)), .slice po9 (psE (.dt y)).length pc10], .bool true] :: .agg #[iN .i64 (kE (.dt y)), iN .i64 (nE (.dt y)), .string (sE (.dt y)), .slice po9 (psE (.dt y)).length pc10] :: .bool true :: List.replicate 10 un).toArray, []⟩ ∧ HA (bs w) [(q19, 168, #[iN .i64 (kE (.dt y)), iN .i64 (nE (.dt y)), .string (sE (.dt y)), .slice po9 (psE (.dt y)).length pc10]), (q1, 97, #[.pointer (some ⟨p.t.q, 0, none⟩)])] w') 11 ky ky ky ky ky (h3.drew) ?_ ?_
  · have h4 := h3.drew
    refine zp 0 (.pointer (some ⟨q1, 0, none⟩)) ?_
    refine wx_val (i := 1) (.pointer (some ⟨p.t.q, 0, none⟩)) rfl rfl ky ky (fun w' h' => run_load1 (fun w => Tryz.isAgg77 w) ky (((h'.get 0 rfl).cell 0).trans rfl)) ?_
    refine zp 2 (iN .i64 m) ?_
    refine wx_call (i := 3) (.string (txt m)) (fun _ _ h hb => HA.keep _ _ h hb) rfl rfl ky ky enter314 #[iN .i64 m] ky (fun w' h' => ptext_any m (by omega) w') ?_
    refine wx_two 4 8 ky ?_ ?_
    · refine ex_callx rfl ky h4 enter313 #[.pointer (some ⟨p.t.q, 0, none⟩), .string (txt m)] ky (fun w13 h14 => Of_y (PH.keep H h14.old.old) hn2 he) ?_
      rintro w13 h14 _ w15 ⟨po9, pc10, rfl, hpo11, hb12⟩
      have h16 := HA.keep _ _ h14 hb12
      refine ⟨_, rfl, _, .inl ky, h16, ?_⟩
      refine zp 5 (.tuple #[.agg #[iN .i64 (kE (.dt y)), iN .i64 (nE (.dt y)), .string (sE (.dt y)), .slice po9 (psE (.dt y)).length pc10], .bool true]) ?_
      refine zp 6 (.agg #[iN .i64 (kE (.dt y)), iN .i64 (nE (.dt y)), .string (sE (.dt y)), .slice po9 (psE (.dt y)).length pc10]) ?_
      refine zp 7 (.bool true) ?_
      refine wx_one 8 ky ?_
      refine ex_makeT (c := #[iN .i64 0, iN .i64 0, .string ({ data := #[] }), .slice none 0 0]) rfl ky h16 168 (fun q => .pointer (some ⟨q, 0, none⟩)) (fun _ => ky) ?_
      intro q19 w17 (h18 : HA (bs w) [(q19, 168, #[iN .i64 0, iN .i64 0, .string ({ data := #[] }), .slice none 0 0]), (q1, 97, #[.pointer (some ⟨p.t.q, 0, none⟩)])] w17)
      refine ⟨_, .inr rfl, (HA.sub h18 (List.Sublist.cons _ (List.Sublist.cons_cons _ (List.Sublist.refl _)))), ?_⟩
      refine wx_one 9 ky ?_
      refine ex_skipT rfl ky h18 fun w20 h21 => ⟨_, run_store_blk (c' := #[iN .i64 (kE (.dt y)), iN .i64 (nE (.dt y)), .string (sE (.dt y)), .slice po9 (psE (.dt y)).length pc10]) ky ky (h21.get 0 rfl) rfl ky ky, ?_⟩
      have h22 : HA (bs w) [(q19, 168, #[iN .i64 (kE (.dt y)), iN .i64 (nE (.dt y)), .string (sE (.dt y)), .slice po9 (psE (.dt y)).length pc10]), (q1, 97, #[.pointer (some ⟨p.t.q, 0, none⟩)])] _ := h21.fill 0 rfl (c' := #[iN .i64 (kE (.dt y)), iN .i64 (nE (.dt y)), .string (sE (.dt y)), .slice po9 (psE (.dt y)).length pc10]) rfl
      refine ⟨_, .inl ky, h22, ?_⟩
      refine zp 10 (.bool true) ?_
      refine wx_end fun w23 hbx _ => ?_
      have h24 := HA.keep _ _ h22 hbx
      exact ⟨po9, pc10, q19, by kernel_rfl, h24⟩
    · refine ex_makeT (c := #[iN .i64 0, iN .i64 0, .string ({ data := #[] }), .slice none 0 0]) rfl ky h4 168 (fun q => .pointer (some ⟨q, 0, none⟩)) (fun _ => ky) ?_
      intro q27 w25 (h26 : HA (bs w) [(q27, 168, #[iN .i64 0, iN .i64 0, .string ({ data := #[] }), .slice none 0 0]), (q1, 97, #[.pointer (some ⟨p.t.q, 0, none⟩)])] w25)
      refine ⟨_, .inr rfl, (HA.sub h26 (List.Sublist.cons _ (List.Sublist.cons_cons _ (List.Sublist.refl _)))), ?_⟩
      refine wx_one 4 ky ?_
      refine ex_callx rfl ky h26 enter313 #[.pointer (some ⟨p.t.q, 0, none⟩), .string (txt m)] ky (fun w36 h37 => Of_y (PH.keep H h37.old.old) hn2 he) ?_
      rintro w36 h37 _ w38 ⟨po32, pc33, rfl, hpo34, hb35⟩
      have h39 := HA.keep _ _ h37 hb35
      refine ⟨_, rfl, _, .inr rfl, (HA.sub h39 (List.Sublist.cons _ (List.Sublist.cons_cons _ (List.Sublist.refl _)))), ?_⟩
      refine zp 5 (.tuple #[.agg #[iN .i64 (kE (.dt y)), iN .i64 (nE (.dt y)), .string (sE (.dt y)), .slice po32 (psE (.dt y)).length pc33], .bool true]) ?_
      refine zp 6 (.agg #[iN .i64 (kE (.dt y)), iN .i64 (nE (.dt y)), .string (sE (.dt y)), .slice po32 (psE (.dt y)).length pc33]) ?_
      refine zp 7 (.bool true) ?_
      refine wx_one 9 ky ?_
      refine ex_skipT rfl ky h39 fun w40 h41 => ⟨_, run_store_blk (c' := #[iN .i64 (kE (.dt y)), iN .i64 (nE (.dt y)), .string (sE (.dt y)), .slice po32 (psE (.dt y)).length pc33]) ky ky (h41.get 0 rfl) rfl ky ky, ?_⟩
      have h42 : HA (bs w) [(q27, 168, #[iN .i64 (kE (.dt y)), iN .i64 (nE (.dt y)), .string (sE (.dt y)), .slice po32 (psE (.dt y)).length pc33]), (q1, 97, #[.pointer (some ⟨p.t.q, 0, none⟩)])] _ := h41.fill 0 rfl (c' := #[iN .i64 (kE (.dt y)), iN .i64 (nE (.dt y)), .string (sE (.dt y)), .slice po32 (psE (.dt y)).length pc33]) rfl
      refine ⟨_, .inl ky, h42, ?_⟩
      refine zp 10 (.bool true) ?_
      refine wx_end fun w43 hbx _ => ?_
      have h44 := HA.keep _ _ h42 hbx
      exact ⟨po32, pc33, q27, by kernel_rfl, h44⟩
  · rintro _ w45 ⟨po9, pc10, q19, rfl, h46⟩
    refine then_at rfl (wp_seq (wl_region ?_))
    refine zv (.bool true) ?_
    refine zv (.bool true) ?_
    refine zv (.pointer (some ⟨q19, 0, none⟩)) ?_
    refine zu (iN .i64 (kE (.dt y))) (run_load1 (fun w => Tryz.isAgg3 w) ky (((h46.get 0 rfl).cell 0).trans rfl)) ?_
    refine zu (.bool true) (run_eqi (k := .i64) (a := kE (.dt y)) (b := 2) ky ky true rfl) ?_
    refine zv (.bool true) ?_
    refine wl_nil (then_at rfl ?_)
    refine wp_cond_true ky ?_
    refine wp_seq (wl_region ?_)
    refine zv (.pointer (some ⟨q19, 2, none⟩)) ?_
    refine zu (.string (sE (.dt y))) (run_load1 (fun w => Tryz.isAgg9 w) ky (((h46.get 0 rfl).cell 2).trans rfl)) ?_
    refine zv (.string (sE (.dt y))) ?_
    refine wl_nil (then_at rfl ?_)
    refine wp_ret ?_
    repeat first | refine then_ret ?_ | refine block_ret ?_
    exact bodyPost_ret (v := .string y) ky rfl ⟨rfl, h46.old.old⟩
set_option maxRecDepth 100000 in
set_option maxHeartbeats 2000000 in
theorem pt_o {w0 w : World} {M : ML} {p : Pr} {A : List Ent} {n : Nat} {L : BL} (H : PH w0 M p A n L w) (m : Nat) (hm : m < 60000) {q : Ent} (hn2 : numT A.length (txt m) = some m) (he : A[m]? = some q) (hk : ¬ kE q = 2) :
    Calls Tryz.prog 302 #[.agg #[pt p.t.q], iN .i64 m] w fun e w' => e = .returned (.string (txt m)) ∧ Below w.heap.size w w' := by
  have H0 := HA.start w
  go_enter Tryz.func302, Tryz.ntmps302
  refine wp_seq (wl_region ?_)
  refine wl_make (c := #[.pointer (some ⟨p.t.q, 0, none⟩)]) H0 97 ky ky ?_
  intro q1 w2 (h3 : HA (bs w) [(q1, 97, #[.pointer (some ⟨p.t.q, 0, none⟩)])] w2)
  refine zv (.string ({ data := #[] })) ?_
  refine wl_nil (then_at rfl (wp_seq (wp_seq ?_)))
  refine wp_region_wx (HA (bs w) [(q1, 97, #[.pointer (some ⟨p.t.q, 0, none⟩)])]) (fun AQ w' => ∃ (po9 : Option Addr) (pc10 : Nat) (q19 : Nat), AQ = ⟨(.agg #[pt p.t.q] :: iN .i64 m :: pt q1 :: un :: .string ({ data := #[] }) :: pt q19 :: .bool true :: .tuple #[.agg #[iN .i64 (kE q), iN .i64 (nE q), .string (sE q), .slice po9 (psE q).length pc10], .bool true] :: pt q1 :: pt p.t.q :: iN .i64 m :: .string (txt m) :: .tuple #[.agg #[iN .i64 (kE q), iN .i64 (nE q), .string (sE q), .slice po9 (psE q).length pc10], .bool true] :: .agg #[iN .i64 (kE q), iN .i64 (nE q), .string (sE q), .slice po9 (psE q).length pc10] :: .bool true :: List.replicate 10 un).toArray, []⟩ ∧ HA (bs w) [(q19, 168, #[iN .i64 (kE q), iN .i64 (nE q), .string (sE q), .slice po9 (psE q).length pc10]), (q1, 97, #[.pointer (some ⟨p.t.q, 0, none⟩)])] w') 11 ky ky ky ky ky (h3.drew) ?_ ?_
  · have h4 := h3.drew
    refine zp 0 (.pointer (some ⟨q1, 0, none⟩)) ?_
    refine wx_val (i := 1) (.pointer (some ⟨p.t.q, 0, none⟩)) rfl rfl ky ky (fun w' h' => run_load1 (fun w => Tryz.isAgg77 w) ky (((h'.get 0 rfl).cell 0).trans rfl)) ?_
    refine zp 2 (iN .i64 m) ?_
    refine wx_call (i := 3) (.string (txt m)) (fun _ _ h hb => HA.keep _ _ h hb) rfl rfl ky ky enter314 #[iN .i64 m] ky (fun w' h' => ptext_any m (by omega) w') ?_
    refine wx_two 4 8 ky ?_ ?_
    · refine ex_callx rfl ky h4 enter313 #[.pointer (some ⟨p.t.q, 0, none⟩), .string (txt m)] ky (fun w13 h14 => Of_y (PH.keep H h14.old.old) hn2 he) ?_
      rintro w13 h14 _ w15 ⟨po9, pc10, rfl, hpo11, hb12⟩
      have h16 := HA.keep _ _ h14 hb12
      refine ⟨_, rfl, _, .inl ky, h16, ?_⟩
      refine zp 5 (.tuple #[.agg #[iN .i64 (kE q), iN .i64 (nE q), .string (sE q), .slice po9 (psE q).length pc10], .bool true]) ?_
      refine zp 6 (.agg #[iN .i64 (kE q), iN .i64 (nE q), .string (sE q), .slice po9 (psE q).length pc10]) ?_
      refine zp 7 (.bool true) ?_
      refine wx_one 8 ky ?_
      refine ex_makeT (c := #[iN .i64 0, iN .i64 0, .string ({ data := #[] }), .slice none 0 0]) rfl ky h16 168 (fun q => .pointer (some ⟨q, 0, none⟩)) (fun _ => ky) ?_
      intro q19 w17 (h18 : HA (bs w) [(q19, 168, #[iN .i64 0, iN .i64 0, .string ({ data := #[] }), .slice none 0 0]), (q1, 97, #[.pointer (some ⟨p.t.q, 0, none⟩)])] w17)
      refine ⟨_, .inr rfl, (HA.sub h18 (List.Sublist.cons _ (List.Sublist.cons_cons _ (List.Sublist.refl _)))), ?_⟩
      refine wx_one 9 ky ?_
      refine ex_skipT rfl ky h18 fun w20 h21 => ⟨_, run_store_blk (c' := #[iN .i64 (kE q), iN .i64 (nE q), .string (sE q), .slice po9 (psE q).length pc10]) ky ky (h21.get 0 rfl) rfl ky ky, ?_⟩
      have h22 : HA (bs w) [(q19, 168, #[iN .i64 (kE q), iN .i64 (nE q), .string (sE q), .slice po9 (psE q).length pc10]), (q1, 97, #[.pointer (some ⟨p.t.q, 0, none⟩)])] _ := h21.fill 0 rfl (c' := #[iN .i64 (kE q), iN .i64 (nE q), .string (sE q), .slice po9 (psE q).length pc10]) rfl
      refine ⟨_, .inl ky, h22, ?_⟩
      refine zp 10 (.bool true) ?_
      refine wx_end fun w23 hbx _ => ?_
      have h24 := HA.keep _ _ h22 hbx
      exact ⟨po9, pc10, q19, by kernel_rfl, h24⟩
    · refine ex_makeT (c := #[iN .i64 0, iN .i64 0, .string ({ data := #[] }), .slice none 0 0]) rfl ky h4 168 (fun q => .pointer (some ⟨q, 0, none⟩)) (fun _ => ky) ?_
      intro q27 w25 (h26 : HA (bs w) [(q27, 168, #[iN .i64 0, iN .i64 0, .string ({ data := #[] }), .slice none 0 0]), (q1, 97, #[.pointer (some ⟨p.t.q, 0, none⟩)])] w25)
      refine ⟨_, .inr rfl, (HA.sub h26 (List.Sublist.cons _ (List.Sublist.cons_cons _ (List.Sublist.refl _)))), ?_⟩
      refine wx_one 4 ky ?_
      refine ex_callx rfl ky h26 enter313 #[.pointer (some ⟨p.t.q, 0, none⟩), .string (txt m)] ky (fun w36 h37 => Of_y (PH.keep H h37.old.old) hn2 he) ?_
      rintro w36 h37 _ w38 ⟨po32, pc33, rfl, hpo34, hb35⟩
      have h39 := HA.keep _ _ h37 hb35
      refine ⟨_, rfl, _, .inr rfl, (HA.sub h39 (List.Sublist.cons _ (List.Sublist.cons_cons _ (List.Sublist.refl _)))), ?_⟩
      refine zp 5 (.tuple #[.agg #[iN .i64 (kE q), iN .i64 (nE q), .string (sE q), .slice po32 (psE q).length pc33], .bool true]) ?_
      refine zp 6 (.agg #[iN .i64 (kE q), iN .i64 (nE q), .string (sE q), .slice po32 (psE q).length pc33]) ?_
      refine zp 7 (.bool true) ?_
      refine wx_one 9 ky ?_
      refine ex_skipT rfl ky h39 fun w40 h41 => ⟨_, run_store_blk (c' := #[iN .i64 (kE q), iN .i64 (nE q), .string (sE q), .slice po32 (psE q).length pc33]) ky ky (h41.get 0 rfl) rfl ky ky, ?_⟩
      have h42 : HA (bs w) [(q27, 168, #[iN .i64 (kE q), iN .i64 (nE q), .string (sE q), .slice po32 (psE q).length pc33]), (q1, 97, #[.pointer (some ⟨p.t.q, 0, none⟩)])] _ := h41.fill 0 rfl (c' := #[iN .i64 (kE q), iN .i64 (nE q), .string (sE q), .slice po32 (psE q).length pc33]) rfl
      refine ⟨_, .inl ky, h42, ?_⟩
      refine zp 10 (.bool true) ?_
      refine wx_end fun w43 hbx _ => ?_
      have h44 := HA.keep _ _ h42 hbx
      exact ⟨po32, pc33, q27, by kernel_rfl, h44⟩
  · rintro _ w45 ⟨po9, pc10, q19, rfl, h46⟩
    refine then_at rfl (wp_seq (wl_region ?_))
    refine zv (.bool true) ?_
    refine zv (.bool true) ?_
    refine zv (.pointer (some ⟨q19, 0, none⟩)) ?_
    refine zu (iN .i64 (kE q)) (run_load1 (fun w => Tryz.isAgg3 w) ky (((h46.get 0 rfl).cell 0).trans rfl)) ?_
    refine zu (.bool false) (run_eqi (k := .i64) (a := kE q) (b := 2) ky ky false (decide_eq_false hk)) ?_
    refine zv (.bool false) ?_
    refine wl_nil (then_at rfl ?_)
    refine wp_cond_false ky ?_
    refine wp_skip (then_at rfl (wp_seq (wl_region ?_)))
    refine zv (iN .i64 m) ?_
    refine wl_call (v := .string (txt m)) h46 ky enter314 #[iN .i64 m] ky (ptext_any m (by omega) w45) ?_
    intro w47 h48
    refine zv (.string (txt m)) ?_
    refine wl_nil (then_at rfl ?_)
    refine wp_ret ?_
    repeat first | refine then_ret ?_ | refine block_ret ?_
    exact bodyPost_ret (v := .string (txt m)) ky rfl ⟨rfl, h48.old.old⟩
theorem parT_P {w0 w : World} {M : ML} {p : Pr} {A : List Ent} {n : Nat} {L : BL} (H : PH w0 M p A n L w) (m : Nat) (hm : m < A.length) :
    Calls Tryz.prog 302 #[.agg #[pt p.t.q], iN .i64 m] w fun e w' => e = .returned (.string (parT A m)) ∧ Below w.heap.size w w' := by
  have hf := H.few
  unfold parT
  obtain ⟨q, he⟩ : ∃ q, A[m]? = some q := ⟨_, List.getElem?_eq_getElem hm⟩
  have hn2 := numT_txt hm hf
  cases q with
  | dt y => simp only [he]; exact pt_d H m (by omega) hn2 he
  | nm y => simp only [he]; exact pt_o H m (by omega) hn2 he (H.not2 he (fun s e => by cases e))
  | mk k y z ps b => simp only [he]; exact pt_o H m (by omega) hn2 he (H.not2 he (fun s e => by cases e))
end Go.Proofs.YtcjjbpbehapjpaaGreat
