/-
  A hello, a reply that was turned is accepted by none.
-/
import Derived.Test.YtcjjbpbehapjpaaGreatLN
namespace Go.Proofs.YtcjjbpbehapjpaaGreat
open Go.RowKit Rs

def P5 : List ByteArray := [txt 2, txt 2, txt 3, { data := #[] }, txt 2]
theorem P5_size : ∀ fr, fr < 5 → (P5.getD fr ByteArray.empty).size ≤ 60000
  | 0, _ => tx_l6 2
  | 1, _ => tx_l6 2
  | 2, _ => tx_l6 3
  | 3, _ => by decide
  | 4, _ => tx_l6 2
  | _ + 5, h => by omega
theorem Accept_bad {w0 w : World} {M : ML} {p : Pr} {n : Nat} {L : BL} (H : PH w0 M p (tk 25) n L w) (pb cc : Nat) (hpb : (pb, 9, strc P5) ∈ L) {i : Nat} {b : UInt8} (hi : i < 26) (hb : b ≠ 0) :
    Calls Tryz.prog 18 #[pt p.q, .string (txt 1), .slice (some ⟨pb, 0, none⟩) 5 cc, .string (trn hello0 i b), .string { data := #[] }] w fun e w' => ∃ er A', ¬ er = 0 ∧ Ext (tk 25) A' ∧ A'.length ≤ 40 ∧ e = .returned (.tuple #[iN .i64 0, .string { data := #[] }, .string { data := #[] }, .string { data := #[] }, iN .i64 er]) ∧ PH w0 M p A' n L w' := by
  have hsz : (trn hello0 i b).size ≤ 60000 := by rw [trn_size, h0_size]; decide
  have h25 : (tk 25).length ≤ 40 := by rw [tk25_len]; decide
  cases h1 : rdHello (trn hello0 i b) with
  | none => exact (Accept_f H (txt 1) P5 pb cc hpb _ { data := #[] } hsz h1).mono fun _ _ h => ⟨4, tk 25, by decide, Ext.refl _, h25, h.1, h.2⟩
  | some q =>
    obtain ⟨fr, pu, pf⟩ := q
    obtain ⟨hfr, hpu, hpf⟩ := rdHello_le h1
    obtain ⟨h8, hne⟩ := hello_bad hi hb h1
    rcases Nat.lt_or_ge fr 5 with hlt | hge
    · by_cases he : P5.getD fr ByteArray.empty = { data := #[] }
      · exact (Accept_1 H (txt 1) P5 pb cc hpb _ { data := #[] } hsz h1 hfr hlt rfl he).mono fun _ _ h => ⟨5, tk 25, by decide, Ext.refl _, h25, h.1, h.2⟩
      · obtain ⟨A2, es, e1⟩ : ∃ a b, mkA (tk 25) 4 { data := #[] } [txt 1, pu] = (a, b) := ⟨_, _, rfl⟩
        obtain ⟨A3, ss, e2⟩ : ∃ a b, mkA A2 4 { data := #[] } [txt 1, P5.getD fr ByteArray.empty] = (a, b) := ⟨_, _, rfl⟩
        have l2 := mkA_len (tk 25) 4 { data := #[] } [txt 1, pu]
        have l3 := mkA_len A2 4 { data := #[] } [txt 1, P5.getD fr ByteArray.empty]
        rw [e1, tk25_len] at l2
        rw [e2] at l3
        simp only [List.length_cons, List.length_nil] at l2 l3
        have l4 := derE_len A3 (layT [txt es, txt ss] 2) { data := #[] } hI 1
        have E : Ext (tk 25) (derE A3 (layT [txt es, txt ss] 2) { data := #[] } hI 1) := ((Ext.make' (by decide) e1).trans (Ext.make' (by decide) e2)).trans (Ext.der _ _ _ _ _)
        have ho := opn_none (key := txt (mkA A3 5 (labK hI 0) [layT [txt es, txt ss] 2, { data := #[] }]).2) (nonce := { data := #[] }) (hd := adrT fr ++ layT [pu] 1) (pf := pf) E (by rw [ByteArray.size_append, adrT_size, lay1_eq, h8]; decide) hne (fun _ e => by
          have := congrArg ByteArray.size e
          rw [ByteArray.size_append, adrT_size, lay1_eq, h8, hdB, lay1_eq, txt_size] at this
          cases this)
        refine (Accept_n H (txt 1) P5 pb cc hpb _ { data := #[] } hsz h1 hfr hlt rfl he (tx_l6 _) (P5_size fr hlt) hpu hpf (tk_lt 25) (tx_l6 _) e1 (by omega) e2 (by omega) (A4 := derE A3 (layT [txt es, txt ss] 2) { data := #[] } hI 1) (key := txt (mkA A3 5 (labK hI 0) [layT [txt es, txt ss] 2, { data := #[] }]).2) rfl (by omega) ho).mono ?_
        intro e w' h
        exact ⟨10, _, by decide, E, by omega, h.1, h.2⟩
    · exact (Accept_0 H (txt 1) P5 pb cc hpb _ { data := #[] } hsz h1 hfr hge).mono fun _ _ h => ⟨5, tk 25, by decide, Ext.refl _, h25, h.1, h.2⟩
theorem Finish_bad {w0 w : World} {M : ML} {p : Pr} {n : Nat} {L : BL} {A : List Ent} (H : PH w0 M p A n L w) (hE : Ext (tk 25) A) (hl : A.length ≤ 40) {xc : Nat} (hxc : (xc, 89, #[pt p.q, .string (txt 0), .string (txt (tk 4).length), .string hello0, .string (txt 6), .string (txt 7)]) ∈ L) {i : Nat} {b : UInt8} (hi : i < 24) (hb : b ≠ 0) :
    Calls Tryz.prog 21 #[pt xc, .string (trn reply0 i b)] w fun e w' => ∃ er A', ¬ er = 0 ∧ e = .returned (.tuple #[.string { data := #[] }, .string { data := #[] }, iN .i64 er]) ∧ PH w0 M p A' n L w' := by
  have hsz : (trn reply0 i b).size ≤ 60000 := by rw [trn_size, y0_size]; decide
  cases h1 : rdTold (bl (trn reply0 i b)) with
  | none => exact (Finish_f H _ hsz hxc h1).mono fun _ _ h => ⟨4, A, by decide, h.1, h.2⟩
  | some q =>
    obtain ⟨pu, pf⟩ := q
    obtain ⟨hpu, hpf⟩ := rdTold_le h1
    obtain ⟨h8, hne⟩ := reply_bad hi hb h1
    obtain ⟨A2, ee, f1⟩ : ∃ a b, mkA A 4 { data := #[] } [txt (tk 4).length, pu] = (a, b) := ⟨_, _, rfl⟩
    obtain ⟨A3, fs, f2⟩ : ∃ a b, mkA A2 4 { data := #[] } [txt 0, pu] = (a, b) := ⟨_, _, rfl⟩
    obtain ⟨A4, d, f3⟩ : ∃ a b, mkA A3 5 { data := #[100, 105, 103, 101, 115, 116] } [hello0, layT [pu] 1] = (a, b) := ⟨_, _, rfl⟩
    have l2 := mkA_len A 4 { data := #[] } [txt (tk 4).length, pu]
    have l3 := mkA_len A2 4 { data := #[] } [txt 0, pu]
    have l4 := mkA_len A3 5 { data := #[100, 105, 103, 101, 115, 116] } [hello0, layT [pu] 1]
    rw [f1] at l2
    rw [f2] at l3
    rw [f3] at l4
    simp only [List.length_cons, List.length_nil] at l2 l3 l4
    have l5 := derE_len A4 (layT [txt 6, txt 7, txt ee, txt fs] 4) (txt d) kI 3
    have E : Ext (tk 25) (derE A4 (layT [txt 6, txt 7, txt ee, txt fs] 4) (txt d) kI 3) := (((hE.trans (Ext.make' (by decide) f1)).trans (Ext.make' (by decide) f2)).trans (Ext.make' (by decide) f3)).trans (Ext.der _ _ _ _ _)
    have ho := opn_none (key := txt (mkA (derE A4 (layT [txt 6, txt 7, txt ee, txt fs] 4) (txt d) kI 2) 5 (labK kI 2) [layT [txt 6, txt 7, txt ee, txt fs] 4, txt d]).2) (nonce := { data := #[] }) (hd := layT [pu] 1) (pf := pf) E (by rw [lay1_eq, h8]; decide) (fun _ e => by
      have := congrArg ByteArray.size e
      rw [hdA, ByteArray.size_append, adrT_size, lay1_eq, lay1_eq, h8, txt_size] at this
      cases this) hne
    refine (Finish_n H _ hsz hxc (tx_l6 _) (tx_l6 _) (by rw [h0_size]; decide) (tx_le _) (tx_le _) (by omega) h1 hpu hpf (tx_l6 _) f1 (by omega) f2 (by omega) f3 (by omega) (A5 := derE A4 (layT [txt 6, txt 7, txt ee, txt fs] 4) (txt d) kI 3) (k1 := txt (mkA (derE A4 (layT [txt 6, txt 7, txt ee, txt fs] 4) (txt d) kI 0) 5 (labK kI 0) [layT [txt 6, txt 7, txt ee, txt fs] 4, txt d]).2) (k2 := txt (mkA (derE A4 (layT [txt 6, txt 7, txt ee, txt fs] 4) (txt d) kI 1) 5 (labK kI 1) [layT [txt 6, txt 7, txt ee, txt fs] 4, txt d]).2) (k3 := txt (mkA (derE A4 (layT [txt 6, txt 7, txt ee, txt fs] 4) (txt d) kI 2) 5 (labK kI 2) [layT [txt 6, txt 7, txt ee, txt fs] 4, txt d]).2) rfl (by omega) ho).mono ?_
    intro e w' h
    exact ⟨10, _, by decide, h.1, h.2⟩
theorem turned_0 (s : ByteArray) {N : Nat} (hs : s.size = N) (hp : 0 < N) (hN2 : N ≤ 1000) (at0 : Nat) (hat : at0 < 65536) (w : World) :
    Calls Tryz.prog 17 #[.string s, iN .u16 at0, by8 0, .string { data := #[] }] w fun e w' => e = .returned (.string s) ∧ Below w.heap.size w w' := by
  have h := turned_P s hs hp hN2 at0 hat 0 w
  rw [trn_zero (by rw [hs]; exact Nat.mod_lt _ hp)] at h
  exact h
def oneB (c : UInt8) : ByteArray := ⟨([c].take 1).toArray⟩
def longH (c : UInt8) : ByteArray := hello0 ++ oneB c
theorem oneB_size (c : UInt8) : (oneB c).size = 1 := rfl
theorem long_size (c : UInt8) : (longH c).size ≤ 60000 := by
  unfold longH
  rw [ByteArray.size_append, h0_size, oneB_size]
  decide
theorem long_none (c : UInt8) : rdHello (longH c) = none := long_no c
section
variable {ρ : Operand → Value} {x y : Operand} {w : World} {dst : Option Tmp} {T T2 ty : TypeId} {pos : String} {aft : Array Edge} {gd : Option (Nat × Bool)}
theorem run_one {q : Nat} {c : UInt8} (hx : ρ x = .slice (some ⟨q, 0, none⟩) 1 1) (h : Blk w q 5 #[by8 c]) : (execOp ρ ⟨dst, .convert 74 9 x, ty, pos, aft, gd⟩).run Tryz.prog w = .ok (.value (.string (oneB c))) w := run_text (l := [c]) hx h (Nat.le_refl 1)
theorem run_long {c : UInt8} {P : Program} (hx : ρ x = .string hello0) (hy : ρ y = .string (oneB c)) : (execOp ρ ⟨dst, .binOp .add T x y T2, ty, pos, aft, gd⟩).run P w = .ok (.value (.string (longH c))) w := run_cat hx hy (by rw [h0_size, oneB_size]; decide)
end
theorem short_size : (reply0.extract 0 (reply0.size - 1)).size ≤ 60000 := by decide +kernel
set_option linter.unusedVariables false in
set_option maxRecDepth 100000 in
set_option maxHeartbeats 2000000 in
theorem turnedL_0 (at0 : Nat) (hat : at0 < 65536) (c : UInt8) (w : World) :
    Calls Tryz.prog 5 #[iN .u16 at0, by8 0, by8 c] w fun e w' => e = .returned (.bool true) ∧ Below w.heap.size w w' := by
  have H0 : HA ⟨w, []⟩ [] w := HA.start w
  go_enter Tryz.func5, Tryz.ntmps5
  refine wp_seq (wl_region ?_)
  refine zv (.bool false) ?_
  refine wl_nil (then_at rfl (wp_seq (wp_seq (wl_region ?_))))
  refine wl_call (v := .bool true) H0 (by kernel_rfl) enter10 #[] (by kernel_rfl) (works_P w) ?_
  intro w1 h2
  refine zv (.bool false) ?_
  refine wl_nil (then_at rfl ?_)
  refine wp_cond_false (by kernel_rfl) ?_
  refine wp_skip (then_at rfl (wp_seq (wl_region ?_)))
  refine wl_callx (by kernel_rfl) enter24 #[iN .i64 1, .string ({ data := #[] }), .string ({ data := #[] })] (by kernel_rfl) (made_P h2) ?_
  rintro _ w5 ⟨p3, rfl, hD4⟩
  refine ⟨_, rfl, ?_⟩
  obtain ⟨z6, X7, hcl8, hbe9, h10⟩ := PH.front hD4
  have h11 : HA z6 X7 w5 := h10
  refine zv (.tuple #[.pointer (some ⟨p3.q, 0, none⟩), .agg #[.string (txt 0), .string (txt 1)], .agg #[.string (txt 2), .string (txt 3)]]) ?_
  refine zv (.pointer (some ⟨p3.q, 0, none⟩)) ?_
  refine zv (.agg #[.string (txt 0), .string (txt 1)]) ?_
  refine zv (.agg #[.string (txt 2), .string (txt 3)]) ?_
  refine wl_make (c := #[.string ({ data := #[] }), .string ({ data := #[] })]) h11 22 (by kernel_rfl) (by kernel_rfl) ?_
  intro q12 w13 (h14 : HA z6 ((q12, 22, #[.string ({ data := #[] }), .string ({ data := #[] })]) :: X7) w13)
  refine wl_make (c := #[.string ({ data := #[] }), .string ({ data := #[] })]) h14 22 (by kernel_rfl) (by kernel_rfl) ?_
  intro q15 w16 (h17 : HA z6 ((q15, 22, #[.string ({ data := #[] }), .string ({ data := #[] })]) :: (q12, 22, #[.string ({ data := #[] }), .string ({ data := #[] })]) :: X7) w16)
  refine zv (.pointer (some ⟨p3.q, 0, none⟩)) ?_
  refine wl_fill (c' := #[.string (txt 0), .string (txt 1)]) h17 1 rfl (by kernel_rfl) (by kernel_rfl) (by kernel_rfl) rfl (by kernel_rfl) (by kernel_rfl) ?_
  intro w18 (h19 : HA z6 ((q15, 22, #[.string ({ data := #[] }), .string ({ data := #[] })]) :: (q12, 22, #[.string (txt 0), .string (txt 1)]) :: X7) w18)
  refine wl_fill (c' := #[.string (txt 2), .string (txt 3)]) h19 0 rfl (by kernel_rfl) (by kernel_rfl) (by kernel_rfl) rfl (by kernel_rfl) (by kernel_rfl) ?_
  intro w20 (h21 : HA z6 ((q15, 22, #[.string (txt 2), .string (txt 3)]) :: (q12, 22, #[.string (txt 0), .string (txt 1)]) :: X7) w20)
  refine wl_nil (then_at rfl (wp_seq (wp_seq (wl_region ?_))))
  refine zv (.pointer (some ⟨p3.q, 0, none⟩)) ?_
  refine zv (.bool false) ?_
  refine wl_nil (then_at rfl ?_)
  refine wp_cond_false (by kernel_rfl) ?_
  refine wp_skip (then_at rfl (wp_seq (wl_region ?_)))
  refine zu (.pointer (some ⟨q15, 0, none⟩)) (run_addr_arr (q := q15) (a := 0) Tryz.underlying22 (fun w => Tryz.sizeOf9 w) (by kernel_rfl) (by kernel_rfl) (by decide)) ?_
  refine zu (.string (txt 2)) (run_load1 (fun w => Tryz.isAgg9 w) (by kernel_rfl) (((h21.get 0 rfl).cell 0).trans rfl)) ?_
  refine zu (.pointer (some ⟨q15, 0, none⟩)) (run_addr_arr (q := q15) (a := 0) Tryz.underlying22 (fun w => Tryz.sizeOf9 w) (by kernel_rfl) (by kernel_rfl) (by decide)) ?_
  refine zu (.string (txt 2)) (run_load1 (fun w => Tryz.isAgg9 w) (by kernel_rfl) (((h21.get 0 rfl).cell 0).trans rfl)) ?_
  refine zu (.pointer (some ⟨q15, 1, none⟩)) (run_addr_arr (q := q15) (a := 1) Tryz.underlying22 (fun w => Tryz.sizeOf9 w) (by kernel_rfl) (by kernel_rfl) (by decide)) ?_
  refine zu (.string (txt 3)) (run_load1 (fun w => Tryz.isAgg9 w) (by kernel_rfl) (((h21.get 0 rfl).cell 1).trans rfl)) ?_
  refine zu (.pointer (some ⟨q15, 0, none⟩)) (run_addr_arr (q := q15) (a := 0) Tryz.underlying22 (fun w => Tryz.sizeOf9 w) (by kernel_rfl) (by kernel_rfl) (by decide)) ?_
  refine zu (.string (txt 2)) (run_load1 (fun w => Tryz.isAgg9 w) (by kernel_rfl) (((h21.get 0 rfl).cell 0).trans rfl)) ?_
  refine wl_mks (n := 5) (m := 5) (c := #[.string (txt 2), .string (txt 2), .string (txt 3), .string ({ data := #[] }), .string (txt 2)]) h21 9 (by kernel_rfl) (by kernel_rfl) ?_
  intro q22 w23 (h24 : HA z6 ((q22, 9, #[.string (txt 2), .string (txt 2), .string (txt 3), .string ({ data := #[] }), .string (txt 2)]) :: (q15, 22, #[.string (txt 2), .string (txt 3)]) :: (q12, 22, #[.string (txt 0), .string (txt 1)]) :: X7) w23)
  refine zv (.slice (some ⟨q22, 0, none⟩) 5 5) ?_
  refine wl_nil (then_at rfl (wp_seq (wl_region ?_)))
  refine zv (.pointer (some ⟨p3.q, 0, none⟩)) ?_
  refine zu (.pointer (some ⟨q12, 0, none⟩)) (run_addr_arr (q := q12) (a := 0) Tryz.underlying22 (fun w => Tryz.sizeOf9 w) (by kernel_rfl) (by kernel_rfl) (by decide)) ?_
  refine zu (.string (txt 0)) (run_load1 (fun w => Tryz.isAgg9 w) (by kernel_rfl) (((h24.get 2 rfl).cell 0).trans rfl)) ?_
  refine zu (.pointer (some ⟨q15, 1, none⟩)) (run_addr_arr (q := q15) (a := 1) Tryz.underlying22 (fun w => Tryz.sizeOf9 w) (by kernel_rfl) (by kernel_rfl) (by decide)) ?_
  refine zu (.string (txt 3)) (run_load1 (fun w => Tryz.isAgg9 w) (by kernel_rfl) (((h24.get 1 rfl).cell 1).trans rfl)) ?_
  refine wl_callx (by kernel_rfl) enter15 #[.pointer (some ⟨p3.q, 0, none⟩), iN .i64 4, .string (txt 0), .string (txt 3), .string ({ data := #[] })] (by kernel_rfl) (Begin_P (hcl8 ((q22, 9, #[.string (txt 2), .string (txt 2), .string (txt 3), .string ({ data := #[] }), .string (txt 2)]) :: (q15, 22, #[.string (txt 2), .string (txt 3)]) :: (q12, 22, #[.string (txt 0), .string (txt 1)]) :: []) _ h24) 4 (txt 0) (txt 3) { data := #[] } (by decide) (tx_l6 _) (tx_l6 _) (tk_lt 4) (by decide) (tx_l6 _) b1 (tk_lt 6) b2 (tk_lt 7) b3 (tk_lt 8) b4 (tk_lt 11) b5) ?_
  rintro _ w27 ⟨qc25, rfl, hD26⟩
  refine ⟨_, rfl, ?_⟩
  obtain ⟨z28, X29, hcl30, hbe31, h32⟩ := PH.front hD26
  have h33 : HA z28 ((qc25, 89, #[.pointer (some ⟨p3.q, 0, none⟩), .string (txt 0), .string (txt (tk 4).length), .string hello0, .string (txt 6), .string (txt 7)]) :: (q22, 9, #[.string (txt 2), .string (txt 2), .string (txt 3), .string ({ data := #[] }), .string (txt 2)]) :: (q15, 22, #[.string (txt 2), .string (txt 3)]) :: (q12, 22, #[.string (txt 0), .string (txt 1)]) :: X29) w27 := h32
  refine zv (.tuple #[.pointer (some ⟨qc25, 0, none⟩), .string hello0, iN .i64 0]) ?_
  refine zv (.pointer (some ⟨qc25, 0, none⟩)) ?_
  refine zv (.string hello0) ?_
  refine zv (iN .i64 0) ?_
  refine zv (.pointer (some ⟨qc25, 0, none⟩)) ?_
  refine zv (.string hello0) ?_
  refine zv (iN .i64 0) ?_
  refine wl_nil (then_at rfl (wp_seq (wl_region ?_)))
  refine zv (.pointer (some ⟨p3.q, 0, none⟩)) ?_
  refine zu (.pointer (some ⟨q12, 1, none⟩)) (run_addr_arr (q := q12) (a := 1) Tryz.underlying22 (fun w => Tryz.sizeOf9 w) (by kernel_rfl) (by kernel_rfl) (by decide)) ?_
  refine zu (.string (txt 1)) (run_load1 (fun w => Tryz.isAgg9 w) (by kernel_rfl) (((h33.get 3 rfl).cell 1).trans rfl)) ?_
  refine zv (.slice (some ⟨q22, 0, none⟩) 5 5) ?_
  refine zv (.string hello0) ?_
  refine wl_callx (by kernel_rfl) enter18 #[.pointer (some ⟨p3.q, 0, none⟩), .string (txt 1), .slice (some ⟨q22, 0, none⟩) 5 5, .string hello0, .string ({ data := #[] })] (by kernel_rfl) (Accept_y (hcl30 ((qc25, 89, #[.pointer (some ⟨p3.q, 0, none⟩), .string (txt 0), .string (txt (tk 4).length), .string hello0, .string (txt 6), .string (txt 7)]) :: (q22, 9, #[.string (txt 2), .string (txt 2), .string (txt 3), .string ({ data := #[] }), .string (txt 2)]) :: (q15, 22, #[.string (txt 2), .string (txt 3)]) :: (q12, 22, #[.string (txt 0), .string (txt 1)]) :: []) _ h33) (txt 1) [txt 2, txt 2, txt 3, { data := #[] }, txt 2] q22 5 (List.mem_of_getElem? (i := 1) rfl) hello0 { data := #[] } (by rw [h0_size]; decide) r1 (by decide) (by decide) (client := txt 2) rfl (tx_ne 2) (tx_l6 _) (tx_l6 _) (by rw [txt_size]; decide) (by rw [txt_size]; decide) (tk_lt 13) (tx_l6 _) c1_13 (tk_lt 13) c2_13 (tk_lt 13) c3_13 (tk_lt 13) c4_13 (by decide) (by decide) (tx_l6 _) a1_13 (tk_lt 15) a2_13 (tk_lt 16) a3_13 (tk_lt 17) a4_13 (tk_lt 20) a5_13 (tk_lt 24) a6_13) ?_
  rintro _ w35 ⟨rfl, hD34⟩
  refine ⟨_, rfl, ?_⟩
  obtain ⟨z36, X37, hcl38, hbe39, h40⟩ := PH.front hD34
  have h41 : HA z36 ((qc25, 89, #[.pointer (some ⟨p3.q, 0, none⟩), .string (txt 0), .string (txt (tk 4).length), .string hello0, .string (txt 6), .string (txt 7)]) :: (q22, 9, #[.string (txt 2), .string (txt 2), .string (txt 3), .string ({ data := #[] }), .string (txt 2)]) :: (q15, 22, #[.string (txt 2), .string (txt 3)]) :: (q12, 22, #[.string (txt 0), .string (txt 1)]) :: X37) w35 := h40
  refine zv (.tuple #[iN .i64 4, .string reply0, .string (txt 22), .string (txt 21), iN .i64 0]) ?_
  refine zv (iN .i64 4) ?_
  refine zv (.string reply0) ?_
  refine zv (.string (txt 22)) ?_
  refine zv (.string (txt 21)) ?_
  refine zv (iN .i64 0) ?_
  refine zv (iN .i64 4) ?_
  refine zv (.string reply0) ?_
  refine zv (.string (txt 22)) ?_
  refine zv (.string (txt 21)) ?_
  refine zv (iN .i64 0) ?_
  refine wl_nil (then_at rfl (wp_seq (wp_seq (wl_region ?_))))
  refine zv (iN .i64 0) ?_
  refine zu (.bool false) (run_nei (k := .i64) (a := 0) (b := 0) (by kernel_rfl) (by kernel_rfl) false (by decide)) ?_
  refine wl_nil (then_at rfl ?_)
  refine wp_cond_false (by kernel_rfl) ?_
  refine wp_skip (then_at rfl (wp_seq (wl_region ?_)))
  refine zv (.string hello0) ?_
  refine zv (iN .u16 at0) ?_
  refine zv (by8 0) ?_
  refine wl_call (v := .string hello0) h41 (by kernel_rfl) enter17 #[.string hello0, iN .u16 at0, by8 0, .string ({ data := #[] })] (by kernel_rfl) (turned_0 hello0 h0_size (by decide) (by decide) at0 hat w35) ?_
  intro w42 h43
  refine zv (.string hello0) ?_
  refine wl_nil ?_
  refine then_at (F := ⟨(iN .u16 at0 :: by8 0 :: by8 c :: un :: un :: un :: .bool false :: pt p3.q :: pt q12 :: pt q15 :: .slice (some ⟨q22, 0, none⟩) 5 5 :: pt qc25 :: .string hello0 :: iN .i64 0 :: iN .i64 4 :: .string reply0 :: .string (txt 22) :: .string (txt 21) :: iN .i64 0 :: .string hello0 :: un :: un :: un :: un :: un :: un :: un :: un :: un :: un :: un :: un :: un :: un :: un :: un :: un :: .bool true :: .bool false :: .tuple #[pt p3.q, .agg #[.string (txt 0), .string (txt 1)], .agg #[.string (txt 2), .string (txt 3)]] :: .tuple #[pt p3.q, .agg #[.string (txt 0), .string (txt 1)], .agg #[.string (txt 2), .string (txt 3)]] :: pt p3.q :: .agg #[.string (txt 0), .string (txt 1)] :: .agg #[.string (txt 2), .string (txt 3)] :: pt p3.q :: .bool false :: pt q15 :: .string (txt 2) :: pt q15 :: .string (txt 2) :: .pointer (some ⟨q15, 1, none⟩) :: .string (txt 3) :: pt q15 :: .string (txt 2) :: .slice (some ⟨q22, 0, none⟩) 5 5 :: .tuple #[pt qc25, .string hello0, iN .i64 0] :: pt p3.q :: pt q12 :: .string (txt 0) :: .pointer (some ⟨q15, 1, none⟩) :: .string (txt 3) :: .tuple #[pt qc25, .string hello0, iN .i64 0] :: pt qc25 :: .string hello0 :: iN .i64 0 :: .tuple #[iN .i64 4, .string reply0, .string (txt 22), .string (txt 21), iN .i64 0] :: pt p3.q :: .pointer (some ⟨q12, 1, none⟩) :: .string (txt 1) :: .slice (some ⟨q22, 0, none⟩) 5 5 :: .string hello0 :: .tuple #[iN .i64 4, .string reply0, .string (txt 22), .string (txt 21), iN .i64 0] :: iN .i64 4 :: .string reply0 :: .string (txt 22) :: .string (txt 21) :: iN .i64 0 :: iN .i64 0 :: .bool false :: .string hello0 :: iN .u16 at0 :: by8 0 :: .string hello0 :: List.replicate 70 un).toArray, []⟩) (by kernel_rfl) ?_
  refine wp_seq (wl_region ?_)
  refine zv (.pointer (some ⟨p3.q, 0, none⟩)) ?_
  refine zu (.pointer (some ⟨q12, 1, none⟩)) (run_addr_arr (q := q12) (a := 1) Tryz.underlying22 (fun w => Tryz.sizeOf9 w) (by kernel_rfl) (by kernel_rfl) (by decide)) ?_
  refine zu (.string (txt 1)) (run_load1 (fun w => Tryz.isAgg9 w) (by kernel_rfl) (((h43.get 3 rfl).cell 1).trans rfl)) ?_
  refine zv (.slice (some ⟨q22, 0, none⟩) 5 5) ?_
  refine zv (.string hello0) ?_
  refine wl_callx (by kernel_rfl) enter18 #[.pointer (some ⟨p3.q, 0, none⟩), .string (txt 1), .slice (some ⟨q22, 0, none⟩) 5 5, .string hello0, .string ({ data := #[] })] (by kernel_rfl) (Accept_y (hcl38 ((qc25, 89, #[.pointer (some ⟨p3.q, 0, none⟩), .string (txt 0), .string (txt (tk 4).length), .string hello0, .string (txt 6), .string (txt 7)]) :: (q22, 9, #[.string (txt 2), .string (txt 2), .string (txt 3), .string ({ data := #[] }), .string (txt 2)]) :: (q15, 22, #[.string (txt 2), .string (txt 3)]) :: (q12, 22, #[.string (txt 0), .string (txt 1)]) :: []) _ h43) (txt 1) [txt 2, txt 2, txt 3, { data := #[] }, txt 2] q22 5 (List.mem_of_getElem? (i := 1) rfl) hello0 { data := #[] } (by rw [h0_size]; decide) r1 (by decide) (by decide) (client := txt 2) rfl (tx_ne 2) (tx_l6 _) (tx_l6 _) (by rw [txt_size]; decide) (by rw [txt_size]; decide) (tk_lt 25) (tx_l6 _) c1_25 (tk_lt 25) c2_25 (tk_lt 25) c3_25 (tk_lt 25) c4_25 (by decide) (by decide) (tx_l6 _) a1_25 (tk_lt 27) a2_25 (tk_lt 28) a3_25 (tk_lt 29) a4_25 (tk_lt 31) a5_25 (tk_lt 35) a6_25) ?_
  rintro _ w45 ⟨rfl, hD44⟩
  refine ⟨_, rfl, ?_⟩
  obtain ⟨z46, X47, hcl48, hbe49, h50⟩ := PH.front hD44
  have h51 : HA z46 ((qc25, 89, #[.pointer (some ⟨p3.q, 0, none⟩), .string (txt 0), .string (txt (tk 4).length), .string hello0, .string (txt 6), .string (txt 7)]) :: (q22, 9, #[.string (txt 2), .string (txt 2), .string (txt 3), .string ({ data := #[] }), .string (txt 2)]) :: (q15, 22, #[.string (txt 2), .string (txt 3)]) :: (q12, 22, #[.string (txt 0), .string (txt 1)]) :: X47) w45 := h50
  refine zv (.tuple #[iN .i64 4, .string ((layT [txt 26] 1 ++ layT [txt 35] 1)), .string (txt 33), .string (txt 32), iN .i64 0]) ?_
  refine zv (iN .i64 4) ?_
  refine zv (.string ((layT [txt 26] 1 ++ layT [txt 35] 1))) ?_
  refine zv (.string (txt 33)) ?_
  refine zv (.string (txt 32)) ?_
  refine zv (iN .i64 0) ?_
  refine zv (iN .i64 4) ?_
  refine zv (.string ((layT [txt 26] 1 ++ layT [txt 35] 1))) ?_
  refine zv (.string (txt 33)) ?_
  refine zv (.string (txt 32)) ?_
  refine zv (iN .i64 0) ?_
  refine wl_nil (then_at rfl (wp_seq (wl_region ?_)))
  refine zv (.string reply0) ?_
  refine zv (iN .u16 at0) ?_
  refine zv (by8 0) ?_
  refine wl_call (v := .string reply0) h51 (by kernel_rfl) enter17 #[.string reply0, iN .u16 at0, by8 0, .string ({ data := #[] })] (by kernel_rfl) (turned_0 reply0 y0_size (by decide) (by decide) at0 hat w45) ?_
  intro w52 h53
  refine zv (.string reply0) ?_
  refine wl_nil (then_at rfl (wp_seq (wl_region ?_)))
  refine zv (.pointer (some ⟨qc25, 0, none⟩)) ?_
  refine zv (.string reply0) ?_
  refine wl_callx (by kernel_rfl) enter21 #[.pointer (some ⟨qc25, 0, none⟩), .string reply0] (by kernel_rfl) (Finish_y (hcl48 ((qc25, 89, #[.pointer (some ⟨p3.q, 0, none⟩), .string (txt 0), .string (txt (tk 4).length), .string hello0, .string (txt 6), .string (txt 7)]) :: (q22, 9, #[.string (txt 2), .string (txt 2), .string (txt 3), .string ({ data := #[] }), .string (txt 2)]) :: (q15, 22, #[.string (txt 2), .string (txt 3)]) :: (q12, 22, #[.string (txt 0), .string (txt 1)]) :: []) _ h53) reply0 (by rw [y0_size]; decide) (xc := qc25) (sc := txt 0) (fr := txt (tk 4).length) (hl := hello0) (es0 := txt 6) (ss0 := txt 7) (List.mem_of_getElem? (i := 0) rfl) (tx_l6 _) (tx_l6 _) (by rw [h0_size]; decide) (tx_le _) (tx_le _) (tk_lt 36) r2 (by rw [txt_size]; decide) (by rw [txt_size]; decide) (tx_l6 _) f1_36 (tk_lt 36) f2_36 (tk_lt 36) f3_36 (tk_lt 36) f4_36 (tk_lt 36) f5_36 (by decide) (by decide)) ?_
  rintro _ w55 ⟨rfl, hD54⟩
  refine ⟨_, rfl, ?_⟩
  obtain ⟨z56, X57, hcl58, hbe59, h60⟩ := PH.front hD54
  have h61 : HA z56 ((qc25, 89, #[.pointer (some ⟨p3.q, 0, none⟩), .string (txt 0), .string (txt (tk 4).length), .string hello0, .string (txt 6), .string (txt 7)]) :: (q22, 9, #[.string (txt 2), .string (txt 2), .string (txt 3), .string ({ data := #[] }), .string (txt 2)]) :: (q15, 22, #[.string (txt 2), .string (txt 3)]) :: (q12, 22, #[.string (txt 0), .string (txt 1)]) :: X57) w55 := h60
  refine zv (.tuple #[.string (txt 21), .string (txt 22), iN .i64 0]) ?_
  refine zv (.string (txt 21)) ?_
  refine zv (.string (txt 22)) ?_
  refine zv (iN .i64 0) ?_
  refine zv (.string (txt 21)) ?_
  refine zv (.string (txt 22)) ?_
  refine zv (iN .i64 0) ?_
  refine wl_nil (then_at rfl (wp_seq (wl_region ?_)))
  refine zv (.pointer (some ⟨p3.q, 0, none⟩)) ?_
  refine zu (.pointer (some ⟨q12, 1, none⟩)) (run_addr_arr (q := q12) (a := 1) Tryz.underlying22 (fun w => Tryz.sizeOf9 w) (by kernel_rfl) (by kernel_rfl) (by decide)) ?_
  refine zu (.string (txt 1)) (run_load1 (fun w => Tryz.isAgg9 w) (by kernel_rfl) (((h61.get 3 rfl).cell 1).trans rfl)) ?_
  refine zv (.slice (some ⟨q22, 0, none⟩) 5 5) ?_
  refine zv (.string hello0) ?_
  refine zv (by8 c) ?_
  refine wl_mks (n := 1) (m := 1) (c := #[by8 c]) h61 5 (by kernel_rfl) (by kernel_rfl) ?_
  intro q62 w63 (h64 : HA z56 ((q62, 5, #[by8 c]) :: (qc25, 89, #[.pointer (some ⟨p3.q, 0, none⟩), .string (txt 0), .string (txt (tk 4).length), .string hello0, .string (txt 6), .string (txt 7)]) :: (q22, 9, #[.string (txt 2), .string (txt 2), .string (txt 3), .string ({ data := #[] }), .string (txt 2)]) :: (q15, 22, #[.string (txt 2), .string (txt 3)]) :: (q12, 22, #[.string (txt 0), .string (txt 1)]) :: X57) w63)
  refine zu (.string (oneB c)) (run_one (q := q62) (c := c) (by kernel_rfl) (h64.get 0 rfl)) ?_
  refine zu (.string (longH c)) (run_long (c := c) (by kernel_rfl) (by kernel_rfl)) ?_
  refine wl_callx (by kernel_rfl) enter18 #[.pointer (some ⟨p3.q, 0, none⟩), .string (txt 1), .slice (some ⟨q22, 0, none⟩) 5 5, .string (longH c), .string ({ data := #[] })] (by kernel_rfl) (Accept_f (hcl58 ((q62, 5, #[by8 c]) :: (qc25, 89, #[.pointer (some ⟨p3.q, 0, none⟩), .string (txt 0), .string (txt (tk 4).length), .string hello0, .string (txt 6), .string (txt 7)]) :: (q22, 9, #[.string (txt 2), .string (txt 2), .string (txt 3), .string ({ data := #[] }), .string (txt 2)]) :: (q15, 22, #[.string (txt 2), .string (txt 3)]) :: (q12, 22, #[.string (txt 0), .string (txt 1)]) :: []) _ h64) (txt 1) [txt 2, txt 2, txt 3, { data := #[] }, txt 2] q22 5 (List.mem_of_getElem? (i := 2) rfl) (longH c) { data := #[] } (long_size c) (long_none c)) ?_
  rintro _ w66 ⟨rfl, hD65⟩
  refine ⟨_, rfl, ?_⟩
  obtain ⟨z67, X68, hcl69, hbe70, h71⟩ := PH.front hD65
  have h72 : HA z67 ((q62, 5, #[by8 c]) :: (qc25, 89, #[.pointer (some ⟨p3.q, 0, none⟩), .string (txt 0), .string (txt (tk 4).length), .string hello0, .string (txt 6), .string (txt 7)]) :: (q22, 9, #[.string (txt 2), .string (txt 2), .string (txt 3), .string ({ data := #[] }), .string (txt 2)]) :: (q15, 22, #[.string (txt 2), .string (txt 3)]) :: (q12, 22, #[.string (txt 0), .string (txt 1)]) :: X68) w66 := h71
  refine zv (.tuple #[iN .i64 0, .string ({ data := #[] }), .string ({ data := #[] }), .string ({ data := #[] }), iN .i64 4]) ?_
  refine zv (iN .i64 0) ?_
  refine zv (.string ({ data := #[] })) ?_
  refine zv (.string ({ data := #[] })) ?_
  refine zv (.string ({ data := #[] })) ?_
  refine zv (iN .i64 4) ?_
  refine zv (iN .i64 0) ?_
  refine zv (.string ({ data := #[] })) ?_
  refine zv (.string ({ data := #[] })) ?_
  refine zv (.string ({ data := #[] })) ?_
  refine zv (iN .i64 4) ?_
  refine wl_nil (then_at rfl (wp_seq (wl_region ?_)))
  refine zv (.pointer (some ⟨qc25, 0, none⟩)) ?_
  refine zv (.string reply0) ?_
  refine zv (.string reply0) ?_
  refine zu (iN .i64 reply0.size) (run_len (s := reply0) (by kernel_rfl)) ?_
  refine zu (iN .i64 (reply0.size - 1)) (run_sub (k := .i64) (a := reply0.size) (b := 1) (by kernel_rfl) (by kernel_rfl) (by rw [y0_size]; decide) (by rw [y0_size]; decide)) ?_
  refine zu (.string (reply0.extract 0 (reply0.size - 1))) (run_cut_hi (s := reply0) (b := reply0.size - 1) (by kernel_rfl) (by kernel_rfl) (Nat.sub_le _ _)) ?_
  refine wl_callx (by kernel_rfl) enter21 #[.pointer (some ⟨qc25, 0, none⟩), .string (reply0.extract 0 (reply0.size - 1))] (by kernel_rfl) (Finish_f (hcl69 ((q62, 5, #[by8 c]) :: (qc25, 89, #[.pointer (some ⟨p3.q, 0, none⟩), .string (txt 0), .string (txt (tk 4).length), .string hello0, .string (txt 6), .string (txt 7)]) :: (q22, 9, #[.string (txt 2), .string (txt 2), .string (txt 3), .string ({ data := #[] }), .string (txt 2)]) :: (q15, 22, #[.string (txt 2), .string (txt 3)]) :: (q12, 22, #[.string (txt 0), .string (txt 1)]) :: []) _ h72) (reply0.extract 0 (reply0.size - 1)) short_size (xc := qc25) (sc := txt 0) (fr := txt (tk 4).length) (hl := hello0) (es0 := txt 6) (ss0 := txt 7) (List.mem_of_getElem? (i := 1) rfl) short_no) ?_
  rintro _ w74 ⟨rfl, hD73⟩
  refine ⟨_, rfl, ?_⟩
  obtain ⟨z75, X76, hcl77, hbe78, h79⟩ := PH.front hD73
  have h80 : HA z75 ((q62, 5, #[by8 c]) :: (qc25, 89, #[.pointer (some ⟨p3.q, 0, none⟩), .string (txt 0), .string (txt (tk 4).length), .string hello0, .string (txt 6), .string (txt 7)]) :: (q22, 9, #[.string (txt 2), .string (txt 2), .string (txt 3), .string ({ data := #[] }), .string (txt 2)]) :: (q15, 22, #[.string (txt 2), .string (txt 3)]) :: (q12, 22, #[.string (txt 0), .string (txt 1)]) :: X76) w74 := h79
  refine zv (.tuple #[.string ({ data := #[] }), .string ({ data := #[] }), iN .i64 4]) ?_
  refine zv (.string ({ data := #[] })) ?_
  refine zv (.string ({ data := #[] })) ?_
  refine zv (iN .i64 4) ?_
  refine zv (.string ({ data := #[] })) ?_
  refine zv (.string ({ data := #[] })) ?_
  refine zv (iN .i64 4) ?_
  refine wl_nil (then_at rfl (wp_seq (wl_region ?_)))
  refine zv (iN .i64 0) ?_
  refine zu (.bool true) (run_eqi (k := .i64) (a := 0) (b := 0) (by kernel_rfl) (by kernel_rfl) true (by decide)) ?_
  refine zv (by8 0) ?_
  refine zu (.bool true) (run_eqi (k := .u8) (a := 0) (b := 0) (by kernel_rfl) (by kernel_rfl) true rfl) ?_
  refine zv (.bool true) ?_
  refine zv (.bool true) ?_
  refine zv (iN .i64 0) ?_
  refine zu (.bool true) (run_eqi (k := .i64) (a := 0) (b := 0) (by kernel_rfl) (by kernel_rfl) true (by decide)) ?_
  refine zv (by8 0) ?_
  refine zu (.bool true) (run_eqi (k := .u8) (a := 0) (b := 0) (by kernel_rfl) (by kernel_rfl) true rfl) ?_
  refine zv (.bool true) ?_
  refine zv (.bool true) ?_
  refine zv (.bool true) ?_
  refine zv (iN .i64 4) ?_
  refine zu (.bool true) (run_eqi (k := .i64) (a := 4) (b := 4) (by kernel_rfl) (by kernel_rfl) true (by decide)) ?_
  refine zv (.bool true) ?_
  refine zv (.bool true) ?_
  refine zv (iN .i64 4) ?_
  refine zu (.bool true) (run_eqi (k := .i64) (a := 4) (b := 4) (by kernel_rfl) (by kernel_rfl) true (by decide)) ?_
  refine zv (.bool true) ?_
  refine zv (.bool true) ?_
  refine wl_nil (then_at rfl ?_)
  refine wp_ret ?_
  repeat first | refine then_ret ?_ | refine block_ret ?_
  exact bodyPost_ret (v := .bool true) (by kernel_rfl) rfl ⟨rfl, hbe78 _ _ h80⟩
set_option linter.unusedVariables false in
set_option maxRecDepth 100000 in
set_option maxHeartbeats 2000000 in
theorem turnedL_n (at0 : Nat) (hat : at0 < 65536) (b : UInt8) (hb : b ≠ 0) (c : UInt8) (w : World) :
    Calls Tryz.prog 5 #[iN .u16 at0, by8 b, by8 c] w fun e w' => e = .returned (.bool true) ∧ Below w.heap.size w w' := by
  have H0 : HA ⟨w, []⟩ [] w := HA.start w
  have hbn : ¬ b.toNat = 0 := fun e => hb (by rw [← ofNat_toNat' b, e]; rfl)
  go_enter Tryz.func5, Tryz.ntmps5
  refine wp_seq (wl_region ?_)
  refine zv (.bool false) ?_
  refine wl_nil (then_at rfl (wp_seq (wp_seq (wl_region ?_))))
  refine wl_call (v := .bool true) H0 (by kernel_rfl) enter10 #[] (by kernel_rfl) (works_P w) ?_
  intro w1 h2
  refine zv (.bool false) ?_
  refine wl_nil (then_at rfl ?_)
  refine wp_cond_false (by kernel_rfl) ?_
  refine wp_skip (then_at rfl (wp_seq (wl_region ?_)))
  refine wl_callx (by kernel_rfl) enter24 #[iN .i64 1, .string ({ data := #[] }), .string ({ data := #[] })] (by kernel_rfl) (made_P h2) ?_
  rintro _ w5 ⟨p3, rfl, hD4⟩
  refine ⟨_, rfl, ?_⟩
  obtain ⟨z6, X7, hcl8, hbe9, h10⟩ := PH.front hD4
  have h11 : HA z6 X7 w5 := h10
  refine zv (.tuple #[.pointer (some ⟨p3.q, 0, none⟩), .agg #[.string (txt 0), .string (txt 1)], .agg #[.string (txt 2), .string (txt 3)]]) ?_
  refine zv (.pointer (some ⟨p3.q, 0, none⟩)) ?_
  refine zv (.agg #[.string (txt 0), .string (txt 1)]) ?_
  refine zv (.agg #[.string (txt 2), .string (txt 3)]) ?_
  refine wl_make (c := #[.string ({ data := #[] }), .string ({ data := #[] })]) h11 22 (by kernel_rfl) (by kernel_rfl) ?_
  intro q12 w13 (h14 : HA z6 ((q12, 22, #[.string ({ data := #[] }), .string ({ data := #[] })]) :: X7) w13)
  refine wl_make (c := #[.string ({ data := #[] }), .string ({ data := #[] })]) h14 22 (by kernel_rfl) (by kernel_rfl) ?_
  intro q15 w16 (h17 : HA z6 ((q15, 22, #[.string ({ data := #[] }), .string ({ data := #[] })]) :: (q12, 22, #[.string ({ data := #[] }), .string ({ data := #[] })]) :: X7) w16)
  refine zv (.pointer (some ⟨p3.q, 0, none⟩)) ?_
  refine wl_fill (c' := #[.string (txt 0), .string (txt 1)]) h17 1 rfl (by kernel_rfl) (by kernel_rfl) (by kernel_rfl) rfl (by kernel_rfl) (by kernel_rfl) ?_
  intro w18 (h19 : HA z6 ((q15, 22, #[.string ({ data := #[] }), .string ({ data := #[] })]) :: (q12, 22, #[.string (txt 0), .string (txt 1)]) :: X7) w18)
  refine wl_fill (c' := #[.string (txt 2), .string (txt 3)]) h19 0 rfl (by kernel_rfl) (by kernel_rfl) (by kernel_rfl) rfl (by kernel_rfl) (by kernel_rfl) ?_
  intro w20 (h21 : HA z6 ((q15, 22, #[.string (txt 2), .string (txt 3)]) :: (q12, 22, #[.string (txt 0), .string (txt 1)]) :: X7) w20)
  refine wl_nil (then_at rfl (wp_seq (wp_seq (wl_region ?_))))
  refine zv (.pointer (some ⟨p3.q, 0, none⟩)) ?_
  refine zv (.bool false) ?_
  refine wl_nil (then_at rfl ?_)
  refine wp_cond_false (by kernel_rfl) ?_
  refine wp_skip (then_at rfl (wp_seq (wl_region ?_)))
  refine zu (.pointer (some ⟨q15, 0, none⟩)) (run_addr_arr (q := q15) (a := 0) Tryz.underlying22 (fun w => Tryz.sizeOf9 w) (by kernel_rfl) (by kernel_rfl) (by decide)) ?_
  refine zu (.string (txt 2)) (run_load1 (fun w => Tryz.isAgg9 w) (by kernel_rfl) (((h21.get 0 rfl).cell 0).trans rfl)) ?_
  refine zu (.pointer (some ⟨q15, 0, none⟩)) (run_addr_arr (q := q15) (a := 0) Tryz.underlying22 (fun w => Tryz.sizeOf9 w) (by kernel_rfl) (by kernel_rfl) (by decide)) ?_
  refine zu (.string (txt 2)) (run_load1 (fun w => Tryz.isAgg9 w) (by kernel_rfl) (((h21.get 0 rfl).cell 0).trans rfl)) ?_
  refine zu (.pointer (some ⟨q15, 1, none⟩)) (run_addr_arr (q := q15) (a := 1) Tryz.underlying22 (fun w => Tryz.sizeOf9 w) (by kernel_rfl) (by kernel_rfl) (by decide)) ?_
  refine zu (.string (txt 3)) (run_load1 (fun w => Tryz.isAgg9 w) (by kernel_rfl) (((h21.get 0 rfl).cell 1).trans rfl)) ?_
  refine zu (.pointer (some ⟨q15, 0, none⟩)) (run_addr_arr (q := q15) (a := 0) Tryz.underlying22 (fun w => Tryz.sizeOf9 w) (by kernel_rfl) (by kernel_rfl) (by decide)) ?_
  refine zu (.string (txt 2)) (run_load1 (fun w => Tryz.isAgg9 w) (by kernel_rfl) (((h21.get 0 rfl).cell 0).trans rfl)) ?_
  refine wl_mks (n := 5) (m := 5) (c := #[.string (txt 2), .string (txt 2), .string (txt 3), .string ({ data := #[] }), .string (txt 2)]) h21 9 (by kernel_rfl) (by kernel_rfl) ?_
  intro q22 w23 (h24 : HA z6 ((q22, 9, #[.string (txt 2), .string (txt 2), .string (txt 3), .string ({ data := #[] }), .string (txt 2)]) :: (q15, 22, #[.string (txt 2), .string (txt 3)]) :: (q12, 22, #[.string (txt 0), .string (txt 1)]) :: X7) w23)
  refine zv (.slice (some ⟨q22, 0, none⟩) 5 5) ?_
  refine wl_nil (then_at rfl (wp_seq (wl_region ?_)))
  refine zv (.pointer (some ⟨p3.q, 0, none⟩)) ?_
  refine zu (.pointer (some ⟨q12, 0, none⟩)) (run_addr_arr (q := q12) (a := 0) Tryz.underlying22 (fun w => Tryz.sizeOf9 w) (by kernel_rfl) (by kernel_rfl) (by decide)) ?_
  refine zu (.string (txt 0)) (run_load1 (fun w => Tryz.isAgg9 w) (by kernel_rfl) (((h24.get 2 rfl).cell 0).trans rfl)) ?_
  refine zu (.pointer (some ⟨q15, 1, none⟩)) (run_addr_arr (q := q15) (a := 1) Tryz.underlying22 (fun w => Tryz.sizeOf9 w) (by kernel_rfl) (by kernel_rfl) (by decide)) ?_
  refine zu (.string (txt 3)) (run_load1 (fun w => Tryz.isAgg9 w) (by kernel_rfl) (((h24.get 1 rfl).cell 1).trans rfl)) ?_
  refine wl_callx (by kernel_rfl) enter15 #[.pointer (some ⟨p3.q, 0, none⟩), iN .i64 4, .string (txt 0), .string (txt 3), .string ({ data := #[] })] (by kernel_rfl) (Begin_P (hcl8 ((q22, 9, #[.string (txt 2), .string (txt 2), .string (txt 3), .string ({ data := #[] }), .string (txt 2)]) :: (q15, 22, #[.string (txt 2), .string (txt 3)]) :: (q12, 22, #[.string (txt 0), .string (txt 1)]) :: []) _ h24) 4 (txt 0) (txt 3) { data := #[] } (by decide) (tx_l6 _) (tx_l6 _) (tk_lt 4) (by decide) (tx_l6 _) b1 (tk_lt 6) b2 (tk_lt 7) b3 (tk_lt 8) b4 (tk_lt 11) b5) ?_
  rintro _ w27 ⟨qc25, rfl, hD26⟩
  refine ⟨_, rfl, ?_⟩
  obtain ⟨z28, X29, hcl30, hbe31, h32⟩ := PH.front hD26
  have h33 : HA z28 ((qc25, 89, #[.pointer (some ⟨p3.q, 0, none⟩), .string (txt 0), .string (txt (tk 4).length), .string hello0, .string (txt 6), .string (txt 7)]) :: (q22, 9, #[.string (txt 2), .string (txt 2), .string (txt 3), .string ({ data := #[] }), .string (txt 2)]) :: (q15, 22, #[.string (txt 2), .string (txt 3)]) :: (q12, 22, #[.string (txt 0), .string (txt 1)]) :: X29) w27 := h32
  refine zv (.tuple #[.pointer (some ⟨qc25, 0, none⟩), .string hello0, iN .i64 0]) ?_
  refine zv (.pointer (some ⟨qc25, 0, none⟩)) ?_
  refine zv (.string hello0) ?_
  refine zv (iN .i64 0) ?_
  refine zv (.pointer (some ⟨qc25, 0, none⟩)) ?_
  refine zv (.string hello0) ?_
  refine zv (iN .i64 0) ?_
  refine wl_nil (then_at rfl (wp_seq (wl_region ?_)))
  refine zv (.pointer (some ⟨p3.q, 0, none⟩)) ?_
  refine zu (.pointer (some ⟨q12, 1, none⟩)) (run_addr_arr (q := q12) (a := 1) Tryz.underlying22 (fun w => Tryz.sizeOf9 w) (by kernel_rfl) (by kernel_rfl) (by decide)) ?_
  refine zu (.string (txt 1)) (run_load1 (fun w => Tryz.isAgg9 w) (by kernel_rfl) (((h33.get 3 rfl).cell 1).trans rfl)) ?_
  refine zv (.slice (some ⟨q22, 0, none⟩) 5 5) ?_
  refine zv (.string hello0) ?_
  refine wl_callx (by kernel_rfl) enter18 #[.pointer (some ⟨p3.q, 0, none⟩), .string (txt 1), .slice (some ⟨q22, 0, none⟩) 5 5, .string hello0, .string ({ data := #[] })] (by kernel_rfl) (Accept_y (hcl30 ((qc25, 89, #[.pointer (some ⟨p3.q, 0, none⟩), .string (txt 0), .string (txt (tk 4).length), .string hello0, .string (txt 6), .string (txt 7)]) :: (q22, 9, #[.string (txt 2), .string (txt 2), .string (txt 3), .string ({ data := #[] }), .string (txt 2)]) :: (q15, 22, #[.string (txt 2), .string (txt 3)]) :: (q12, 22, #[.string (txt 0), .string (txt 1)]) :: []) _ h33) (txt 1) [txt 2, txt 2, txt 3, { data := #[] }, txt 2] q22 5 (List.mem_of_getElem? (i := 1) rfl) hello0 { data := #[] } (by rw [h0_size]; decide) r1 (by decide) (by decide) (client := txt 2) rfl (tx_ne 2) (tx_l6 _) (tx_l6 _) (by rw [txt_size]; decide) (by rw [txt_size]; decide) (tk_lt 13) (tx_l6 _) c1_13 (tk_lt 13) c2_13 (tk_lt 13) c3_13 (tk_lt 13) c4_13 (by decide) (by decide) (tx_l6 _) a1_13 (tk_lt 15) a2_13 (tk_lt 16) a3_13 (tk_lt 17) a4_13 (tk_lt 20) a5_13 (tk_lt 24) a6_13) ?_
  rintro _ w35 ⟨rfl, hD34⟩
  refine ⟨_, rfl, ?_⟩
  obtain ⟨z36, X37, hcl38, hbe39, h40⟩ := PH.front hD34
  have h41 : HA z36 ((qc25, 89, #[.pointer (some ⟨p3.q, 0, none⟩), .string (txt 0), .string (txt (tk 4).length), .string hello0, .string (txt 6), .string (txt 7)]) :: (q22, 9, #[.string (txt 2), .string (txt 2), .string (txt 3), .string ({ data := #[] }), .string (txt 2)]) :: (q15, 22, #[.string (txt 2), .string (txt 3)]) :: (q12, 22, #[.string (txt 0), .string (txt 1)]) :: X37) w35 := h40
  refine zv (.tuple #[iN .i64 4, .string reply0, .string (txt 22), .string (txt 21), iN .i64 0]) ?_
  refine zv (iN .i64 4) ?_
  refine zv (.string reply0) ?_
  refine zv (.string (txt 22)) ?_
  refine zv (.string (txt 21)) ?_
  refine zv (iN .i64 0) ?_
  refine zv (iN .i64 4) ?_
  refine zv (.string reply0) ?_
  refine zv (.string (txt 22)) ?_
  refine zv (.string (txt 21)) ?_
  refine zv (iN .i64 0) ?_
  refine wl_nil (then_at rfl (wp_seq (wp_seq (wl_region ?_))))
  refine zv (iN .i64 0) ?_
  refine zu (.bool false) (run_nei (k := .i64) (a := 0) (b := 0) (by kernel_rfl) (by kernel_rfl) false (by decide)) ?_
  refine wl_nil (then_at rfl ?_)
  refine wp_cond_false (by kernel_rfl) ?_
  refine wp_skip (then_at rfl (wp_seq (wl_region ?_)))
  refine zv (.string hello0) ?_
  refine zv (iN .u16 at0) ?_
  refine zv (by8 b) ?_
  refine wl_call (v := .string (trn hello0 (at0 % 26) b)) h41 (by kernel_rfl) enter17 #[.string hello0, iN .u16 at0, by8 b, .string ({ data := #[] })] (by kernel_rfl) (turned_P hello0 h0_size (by decide) (by decide) at0 hat b w35) ?_
  intro w42 h43
  refine zv (.string (trn hello0 (at0 % 26) b)) ?_
  refine wl_nil ?_
  refine then_at (F := ⟨(iN .u16 at0 :: by8 b :: by8 c :: un :: un :: un :: .bool false :: pt p3.q :: pt q12 :: pt q15 :: .slice (some ⟨q22, 0, none⟩) 5 5 :: pt qc25 :: .string hello0 :: iN .i64 0 :: iN .i64 4 :: .string reply0 :: .string (txt 22) :: .string (txt 21) :: iN .i64 0 :: .string (trn hello0 (at0 % 26) b) :: un :: un :: un :: un :: un :: un :: un :: un :: un :: un :: un :: un :: un :: un :: un :: un :: un :: .bool true :: .bool false :: .tuple #[pt p3.q, .agg #[.string (txt 0), .string (txt 1)], .agg #[.string (txt 2), .string (txt 3)]] :: .tuple #[pt p3.q, .agg #[.string (txt 0), .string (txt 1)], .agg #[.string (txt 2), .string (txt 3)]] :: pt p3.q :: .agg #[.string (txt 0), .string (txt 1)] :: .agg #[.string (txt 2), .string (txt 3)] :: pt p3.q :: .bool false :: pt q15 :: .string (txt 2) :: pt q15 :: .string (txt 2) :: .pointer (some ⟨q15, 1, none⟩) :: .string (txt 3) :: pt q15 :: .string (txt 2) :: .slice (some ⟨q22, 0, none⟩) 5 5 :: .tuple #[pt qc25, .string hello0, iN .i64 0] :: pt p3.q :: pt q12 :: .string (txt 0) :: .pointer (some ⟨q15, 1, none⟩) :: .string (txt 3) :: .tuple #[pt qc25, .string hello0, iN .i64 0] :: pt qc25 :: .string hello0 :: iN .i64 0 :: .tuple #[iN .i64 4, .string reply0, .string (txt 22), .string (txt 21), iN .i64 0] :: pt p3.q :: .pointer (some ⟨q12, 1, none⟩) :: .string (txt 1) :: .slice (some ⟨q22, 0, none⟩) 5 5 :: .string hello0 :: .tuple #[iN .i64 4, .string reply0, .string (txt 22), .string (txt 21), iN .i64 0] :: iN .i64 4 :: .string reply0 :: .string (txt 22) :: .string (txt 21) :: iN .i64 0 :: iN .i64 0 :: .bool false :: .string hello0 :: iN .u16 at0 :: by8 b :: .string (trn hello0 (at0 % 26) b) :: List.replicate 70 un).toArray, []⟩) (by kernel_rfl) ?_
  refine wp_seq (wl_region ?_)
  refine zv (.pointer (some ⟨p3.q, 0, none⟩)) ?_
  refine zu (.pointer (some ⟨q12, 1, none⟩)) (run_addr_arr (q := q12) (a := 1) Tryz.underlying22 (fun w => Tryz.sizeOf9 w) (by kernel_rfl) (by kernel_rfl) (by decide)) ?_
  refine zu (.string (txt 1)) (run_load1 (fun w => Tryz.isAgg9 w) (by kernel_rfl) (((h43.get 3 rfl).cell 1).trans rfl)) ?_
  refine zv (.slice (some ⟨q22, 0, none⟩) 5 5) ?_
  refine zv (.string (trn hello0 (at0 % 26) b)) ?_
  refine wl_callx (by kernel_rfl) enter18 #[.pointer (some ⟨p3.q, 0, none⟩), .string (txt 1), .slice (some ⟨q22, 0, none⟩) 5 5, .string (trn hello0 (at0 % 26) b), .string ({ data := #[] })] (by kernel_rfl) (Accept_bad (hcl38 ((qc25, 89, #[.pointer (some ⟨p3.q, 0, none⟩), .string (txt 0), .string (txt (tk 4).length), .string hello0, .string (txt 6), .string (txt 7)]) :: (q22, 9, #[.string (txt 2), .string (txt 2), .string (txt 3), .string ({ data := #[] }), .string (txt 2)]) :: (q15, 22, #[.string (txt 2), .string (txt 3)]) :: (q12, 22, #[.string (txt 0), .string (txt 1)]) :: []) _ h43) q22 5 (List.mem_of_getElem? (i := 1) rfl) (Nat.mod_lt at0 (by decide)) hb) ?_
  rintro _ w50 ⟨er45, Ax46, her47, hE48, hl49, rfl, hD44⟩
  refine ⟨_, rfl, ?_⟩
  obtain ⟨z51, X52, hcl53, hbe54, h55⟩ := PH.front hD44
  have h56 : HA z51 ((qc25, 89, #[.pointer (some ⟨p3.q, 0, none⟩), .string (txt 0), .string (txt (tk 4).length), .string hello0, .string (txt 6), .string (txt 7)]) :: (q22, 9, #[.string (txt 2), .string (txt 2), .string (txt 3), .string ({ data := #[] }), .string (txt 2)]) :: (q15, 22, #[.string (txt 2), .string (txt 3)]) :: (q12, 22, #[.string (txt 0), .string (txt 1)]) :: X52) w50 := h55
  refine zv (.tuple #[iN .i64 0, .string ({ data := #[] }), .string ({ data := #[] }), .string ({ data := #[] }), iN .i64 er45]) ?_
  refine zv (iN .i64 0) ?_
  refine zv (.string ({ data := #[] })) ?_
  refine zv (.string ({ data := #[] })) ?_
  refine zv (.string ({ data := #[] })) ?_
  refine zv (iN .i64 er45) ?_
  refine zv (iN .i64 0) ?_
  refine zv (.string ({ data := #[] })) ?_
  refine zv (.string ({ data := #[] })) ?_
  refine zv (.string ({ data := #[] })) ?_
  refine zv (iN .i64 er45) ?_
  refine wl_nil (then_at rfl (wp_seq (wl_region ?_)))
  refine zv (.string reply0) ?_
  refine zv (iN .u16 at0) ?_
  refine zv (by8 b) ?_
  refine wl_call (v := .string (trn reply0 (at0 % 24) b)) h56 (by kernel_rfl) enter17 #[.string reply0, iN .u16 at0, by8 b, .string ({ data := #[] })] (by kernel_rfl) (turned_P reply0 y0_size (by decide) (by decide) at0 hat b w50) ?_
  intro w57 h58
  refine zv (.string (trn reply0 (at0 % 24) b)) ?_
  refine wl_nil (then_at rfl (wp_seq (wl_region ?_)))
  refine zv (.pointer (some ⟨qc25, 0, none⟩)) ?_
  refine zv (.string (trn reply0 (at0 % 24) b)) ?_
  refine wl_callx (by kernel_rfl) enter21 #[.pointer (some ⟨qc25, 0, none⟩), .string (trn reply0 (at0 % 24) b)] (by kernel_rfl) (Finish_bad (hcl53 ((qc25, 89, #[.pointer (some ⟨p3.q, 0, none⟩), .string (txt 0), .string (txt (tk 4).length), .string hello0, .string (txt 6), .string (txt 7)]) :: (q22, 9, #[.string (txt 2), .string (txt 2), .string (txt 3), .string ({ data := #[] }), .string (txt 2)]) :: (q15, 22, #[.string (txt 2), .string (txt 3)]) :: (q12, 22, #[.string (txt 0), .string (txt 1)]) :: []) _ h58) hE48 hl49 (xc := qc25) (List.mem_of_getElem? (i := 0) rfl) (Nat.mod_lt at0 (by decide)) hb) ?_
  rintro _ w63 ⟨er60, Ay61, her62, rfl, hD59⟩
  refine ⟨_, rfl, ?_⟩
  obtain ⟨z64, X65, hcl66, hbe67, h68⟩ := PH.front hD59
  have h69 : HA z64 ((qc25, 89, #[.pointer (some ⟨p3.q, 0, none⟩), .string (txt 0), .string (txt (tk 4).length), .string hello0, .string (txt 6), .string (txt 7)]) :: (q22, 9, #[.string (txt 2), .string (txt 2), .string (txt 3), .string ({ data := #[] }), .string (txt 2)]) :: (q15, 22, #[.string (txt 2), .string (txt 3)]) :: (q12, 22, #[.string (txt 0), .string (txt 1)]) :: X65) w63 := h68
  refine zv (.tuple #[.string ({ data := #[] }), .string ({ data := #[] }), iN .i64 er60]) ?_
  refine zv (.string ({ data := #[] })) ?_
  refine zv (.string ({ data := #[] })) ?_
  refine zv (iN .i64 er60) ?_
  refine zv (.string ({ data := #[] })) ?_
  refine zv (.string ({ data := #[] })) ?_
  refine zv (iN .i64 er60) ?_
  refine wl_nil (then_at rfl (wp_seq (wl_region ?_)))
  refine zv (.pointer (some ⟨p3.q, 0, none⟩)) ?_
  refine zu (.pointer (some ⟨q12, 1, none⟩)) (run_addr_arr (q := q12) (a := 1) Tryz.underlying22 (fun w => Tryz.sizeOf9 w) (by kernel_rfl) (by kernel_rfl) (by decide)) ?_
  refine zu (.string (txt 1)) (run_load1 (fun w => Tryz.isAgg9 w) (by kernel_rfl) (((h69.get 3 rfl).cell 1).trans rfl)) ?_
  refine zv (.slice (some ⟨q22, 0, none⟩) 5 5) ?_
  refine zv (.string hello0) ?_
  refine zv (by8 c) ?_
  refine wl_mks (n := 1) (m := 1) (c := #[by8 c]) h69 5 (by kernel_rfl) (by kernel_rfl) ?_
  intro q70 w71 (h72 : HA z64 ((q70, 5, #[by8 c]) :: (qc25, 89, #[.pointer (some ⟨p3.q, 0, none⟩), .string (txt 0), .string (txt (tk 4).length), .string hello0, .string (txt 6), .string (txt 7)]) :: (q22, 9, #[.string (txt 2), .string (txt 2), .string (txt 3), .string ({ data := #[] }), .string (txt 2)]) :: (q15, 22, #[.string (txt 2), .string (txt 3)]) :: (q12, 22, #[.string (txt 0), .string (txt 1)]) :: X65) w71)
  refine zu (.string (oneB c)) (run_one (q := q70) (c := c) (by kernel_rfl) (h72.get 0 rfl)) ?_
  refine zu (.string (longH c)) (run_long (c := c) (by kernel_rfl) (by kernel_rfl)) ?_
  refine wl_callx (by kernel_rfl) enter18 #[.pointer (some ⟨p3.q, 0, none⟩), .string (txt 1), .slice (some ⟨q22, 0, none⟩) 5 5, .string (longH c), .string ({ data := #[] })] (by kernel_rfl) (Accept_f (hcl66 ((q70, 5, #[by8 c]) :: (qc25, 89, #[.pointer (some ⟨p3.q, 0, none⟩), .string (txt 0), .string (txt (tk 4).length), .string hello0, .string (txt 6), .string (txt 7)]) :: (q22, 9, #[.string (txt 2), .string (txt 2), .string (txt 3), .string ({ data := #[] }), .string (txt 2)]) :: (q15, 22, #[.string (txt 2), .string (txt 3)]) :: (q12, 22, #[.string (txt 0), .string (txt 1)]) :: []) _ h72) (txt 1) [txt 2, txt 2, txt 3, { data := #[] }, txt 2] q22 5 (List.mem_of_getElem? (i := 2) rfl) (longH c) { data := #[] } (long_size c) (long_none c)) ?_
  rintro _ w74 ⟨rfl, hD73⟩
  refine ⟨_, rfl, ?_⟩
  obtain ⟨z75, X76, hcl77, hbe78, h79⟩ := PH.front hD73
  have h80 : HA z75 ((q70, 5, #[by8 c]) :: (qc25, 89, #[.pointer (some ⟨p3.q, 0, none⟩), .string (txt 0), .string (txt (tk 4).length), .string hello0, .string (txt 6), .string (txt 7)]) :: (q22, 9, #[.string (txt 2), .string (txt 2), .string (txt 3), .string ({ data := #[] }), .string (txt 2)]) :: (q15, 22, #[.string (txt 2), .string (txt 3)]) :: (q12, 22, #[.string (txt 0), .string (txt 1)]) :: X76) w74 := h79
  refine zv (.tuple #[iN .i64 0, .string ({ data := #[] }), .string ({ data := #[] }), .string ({ data := #[] }), iN .i64 4]) ?_
  refine zv (iN .i64 0) ?_
  refine zv (.string ({ data := #[] })) ?_
  refine zv (.string ({ data := #[] })) ?_
  refine zv (.string ({ data := #[] })) ?_
  refine zv (iN .i64 4) ?_
  refine zv (iN .i64 0) ?_
  refine zv (.string ({ data := #[] })) ?_
  refine zv (.string ({ data := #[] })) ?_
  refine zv (.string ({ data := #[] })) ?_
  refine zv (iN .i64 4) ?_
  refine wl_nil (then_at rfl (wp_seq (wl_region ?_)))
  refine zv (.pointer (some ⟨qc25, 0, none⟩)) ?_
  refine zv (.string reply0) ?_
  refine zv (.string reply0) ?_
  refine zu (iN .i64 reply0.size) (run_len (s := reply0) (by kernel_rfl)) ?_
  refine zu (iN .i64 (reply0.size - 1)) (run_sub (k := .i64) (a := reply0.size) (b := 1) (by kernel_rfl) (by kernel_rfl) (by rw [y0_size]; decide) (by rw [y0_size]; decide)) ?_
  refine zu (.string (reply0.extract 0 (reply0.size - 1))) (run_cut_hi (s := reply0) (b := reply0.size - 1) (by kernel_rfl) (by kernel_rfl) (Nat.sub_le _ _)) ?_
  refine wl_callx (by kernel_rfl) enter21 #[.pointer (some ⟨qc25, 0, none⟩), .string (reply0.extract 0 (reply0.size - 1))] (by kernel_rfl) (Finish_f (hcl77 ((q70, 5, #[by8 c]) :: (qc25, 89, #[.pointer (some ⟨p3.q, 0, none⟩), .string (txt 0), .string (txt (tk 4).length), .string hello0, .string (txt 6), .string (txt 7)]) :: (q22, 9, #[.string (txt 2), .string (txt 2), .string (txt 3), .string ({ data := #[] }), .string (txt 2)]) :: (q15, 22, #[.string (txt 2), .string (txt 3)]) :: (q12, 22, #[.string (txt 0), .string (txt 1)]) :: []) _ h80) (reply0.extract 0 (reply0.size - 1)) short_size (xc := qc25) (sc := txt 0) (fr := txt (tk 4).length) (hl := hello0) (es0 := txt 6) (ss0 := txt 7) (List.mem_of_getElem? (i := 1) rfl) short_no) ?_
  rintro _ w82 ⟨rfl, hD81⟩
  refine ⟨_, rfl, ?_⟩
  obtain ⟨z83, X84, hcl85, hbe86, h87⟩ := PH.front hD81
  have h88 : HA z83 ((q70, 5, #[by8 c]) :: (qc25, 89, #[.pointer (some ⟨p3.q, 0, none⟩), .string (txt 0), .string (txt (tk 4).length), .string hello0, .string (txt 6), .string (txt 7)]) :: (q22, 9, #[.string (txt 2), .string (txt 2), .string (txt 3), .string ({ data := #[] }), .string (txt 2)]) :: (q15, 22, #[.string (txt 2), .string (txt 3)]) :: (q12, 22, #[.string (txt 0), .string (txt 1)]) :: X84) w82 := h87
  refine zv (.tuple #[.string ({ data := #[] }), .string ({ data := #[] }), iN .i64 4]) ?_
  refine zv (.string ({ data := #[] })) ?_
  refine zv (.string ({ data := #[] })) ?_
  refine zv (iN .i64 4) ?_
  refine zv (.string ({ data := #[] })) ?_
  refine zv (.string ({ data := #[] })) ?_
  refine zv (iN .i64 4) ?_
  refine wl_nil (then_at rfl (wp_seq (wl_region ?_)))
  refine zv (iN .i64 er45) ?_
  refine zu (.bool false) (run_eqi (k := .i64) (a := er45) (b := 0) (by kernel_rfl) (by kernel_rfl) false (decide_eq_false her47)) ?_
  refine zv (by8 b) ?_
  refine zu (.bool false) (run_eqi (k := .u8) (a := b.toNat) (b := 0) (by kernel_rfl) (by kernel_rfl) false (decide_eq_false hbn)) ?_
  refine zv (.bool true) ?_
  refine zv (.bool true) ?_
  refine zv (iN .i64 er60) ?_
  refine zu (.bool false) (run_eqi (k := .i64) (a := er60) (b := 0) (by kernel_rfl) (by kernel_rfl) false (decide_eq_false her62)) ?_
  refine zv (by8 b) ?_
  refine zu (.bool false) (run_eqi (k := .u8) (a := b.toNat) (b := 0) (by kernel_rfl) (by kernel_rfl) false (decide_eq_false hbn)) ?_
  refine zv (.bool true) ?_
  refine zv (.bool true) ?_
  refine zv (.bool true) ?_
  refine zv (iN .i64 4) ?_
  refine zu (.bool true) (run_eqi (k := .i64) (a := 4) (b := 4) (by kernel_rfl) (by kernel_rfl) true (by decide)) ?_
  refine zv (.bool true) ?_
  refine zv (.bool true) ?_
  refine zv (iN .i64 4) ?_
  refine zu (.bool true) (run_eqi (k := .i64) (a := 4) (b := 4) (by kernel_rfl) (by kernel_rfl) true (by decide)) ?_
  refine zv (.bool true) ?_
  refine zv (.bool true) ?_
  refine wl_nil (then_at rfl ?_)
  refine wp_ret ?_
  repeat first | refine then_ret ?_ | refine block_ret ?_
  exact bodyPost_ret (v := .bool true) (by kernel_rfl) rfl ⟨rfl, hbe86 _ _ h88⟩
theorem turnedL (at0 : Nat) (hat : at0 < 65536) (b c : UInt8) (w : World) :
    Calls Tryz.prog 5 #[iN .u16 at0, by8 b, by8 c] w fun e w' => e = .returned (.bool true) ∧ Below w.heap.size w w' := by
  by_cases hb : b = 0
  · subst hb; exact turnedL_0 at0 hat c w
  · exact turnedL_n at0 hat b hb c w
end Go.Proofs.YtcjjbpbehapjpaaGreat
