/-
 learn: a term is taken for known.
-/
import Derived.Test.YtihfeoanognonaaGreatTQ
namespace Go.Proofs.YtihfeoanognonaaGreat
set_option linter.unusedVariables false
set_option maxRecDepth 100000
set_option maxHeartbeats 2000000
open Go.RowKit
theorem perm_mv (A B C : BL) : (A ++ (B ++ C)).Perm (B ++ (A ++ C)) := by
 rw [← List.append_assoc, ← List.append_assoc]
 exact List.perm_append_comm.append_right C
theorem learn_y {z : Base} {b : Wb} {m : Nat} {st : St} {avs : List Value} {La L : BL} {w : World} (H : WX z b m st avs La L w) (hw : Wok m st) {x : Nat} (hx : x < m) (hnl : st.next.length ≤ 1000000) (hkx : st.known.getD x false = true) :
  Calls Tryz.prog 21 #[pt b.p, iN .i64 x] w fun e w' => e = .returned (.tuple #[]) ∧ WX z b m (learnS st x) avs La L w' := by
 obtain ⟨rv, nv, Lr, Ln, hR, hN, H0⟩ := H
 obtain ⟨pr, cr, rfl⟩ := hR.form
 obtain ⟨pn, cn, rfl⟩ := hN.form
 have hkl := hw.kl
 have hal := hw.al
 go_enter Tryz.func21, Tryz.ntmps21
 refine zsr ?_
 refine zwv (.pointer (some ⟨b.p, 0, none⟩)) ?_
 refine zwv (.pointer (some ⟨b.p, 0, none⟩)) ?_
 refine zwv (.pointer (some ⟨b.p, 2, none⟩)) ?_
 refine zwu (v := .slice (some ⟨b.kb, 0, none⟩) m m) (run_load1 Tryz.isAgg33 (((H0.get 0 rfl).cell 2).trans rfl)) ?_
 refine zwv (iN .i64 x) ?_
 refine zwu (v := .pointer (some ⟨b.kb, x, none⟩)) (run_addr_slice (q := b.kb) (n := m) (m := m) (a := x) Tryz.underlying33 Tryz.sizeOf4 (by omega)) ?_
 refine zwu (v := .bool true) (run_load1 Tryz.isAgg4 (((H0.get 2 rfl).cell x).trans ((boc_get st.known x (by omega)).trans (by rw [hkx])))) ?_
 refine zwv (.bool false) ?_
 refine znt ?_
 refine zcf ?_
 refine wp_skip ?_
 exact bodyPost_end (v := .tuple #[]) (by kernel_rfl) rfl ⟨rfl, by rw [learnS, if_pos hkx]; exact ⟨_, _, Lr, Ln, hR, hN, H0⟩⟩
theorem learn_n {z : Base} {b : Wb} {m : Nat} {st : St} {avs : List Value} {La L : BL} {w : World} (H : WX z b m st avs La L w) (hw : Wok m st) {x : Nat} (hx : x < m) (hnl : st.next.length ≤ 1000000) (hkx : st.known.getD x false = false) :
  Calls Tryz.prog 21 #[pt b.p, iN .i64 x] w fun e w' => e = .returned (.tuple #[]) ∧ WX z b m (learnS st x) avs La L w' := by
 obtain ⟨rv, nv, Lr, Ln, hR, hN, H0⟩ := H
 obtain ⟨pr, cr, rfl⟩ := hR.form
 obtain ⟨pn, cn, rfl⟩ := hN.form
 have hkl := hw.kl
 have hal := hw.al
 go_enter Tryz.func21, Tryz.ntmps21
 refine zsr ?_
 refine zwv (.pointer (some ⟨b.p, 0, none⟩)) ?_
 refine zwv (.pointer (some ⟨b.p, 0, none⟩)) ?_
 refine zwv (.pointer (some ⟨b.p, 2, none⟩)) ?_
 refine zwu (v := .slice (some ⟨b.kb, 0, none⟩) m m) (run_load1 Tryz.isAgg33 (((H0.get 0 rfl).cell 2).trans rfl)) ?_
 refine zwv (iN .i64 x) ?_
 refine zwu (v := .pointer (some ⟨b.kb, x, none⟩)) (run_addr_slice (q := b.kb) (n := m) (m := m) (a := x) Tryz.underlying33 Tryz.sizeOf4 (by omega)) ?_
 refine zwu (v := .bool false) (run_load1 Tryz.isAgg4 (((H0.get 2 rfl).cell x).trans ((boc_get st.known x (by omega)).trans (by rw [hkx])))) ?_
 refine zwv (.bool true) ?_
 refine znt ?_
 refine zct ?_
 refine zsr ?_
 refine zwv (.pointer (some ⟨b.p, 0, none⟩)) ?_
 refine zwv (.pointer (some ⟨b.p, 0, none⟩)) ?_
 refine zwv (.pointer (some ⟨b.p, 2, none⟩)) ?_
 refine zwu (v := .slice (some ⟨b.kb, 0, none⟩) m m) (run_load1 Tryz.isAgg33 (((H0.get 0 rfl).cell 2).trans rfl)) ?_
 refine zwv (iN .i64 x) ?_
 refine zwu (v := .pointer (some ⟨b.kb, x, none⟩)) (run_addr_slice (q := b.kb) (n := m) (m := m) (a := x) Tryz.underlying33 Tryz.sizeOf4 (by omega)) ?_
 refine wl_putv (v := .bool true) H0 2 rfl x (by rw [boc_size]; omega) Tryz.sizeOf4 ?_
 intro w1 h2
 have h3 : HA z ((b.p, 65, wcell b m (.slice pr st.rules.length cr) (.slice pn st.next.length cn)) :: (b.ab, 63, avs.toArray) :: (b.kb, 4, boc (st.known.set x true)) :: (Lr ++ (Ln ++ (La ++ L)))) w1 := (by rw [← boc_put]; exact h2)
 clear h2
 refine znt ?_
 refine wl_region ?_
 refine zwv (.pointer (some ⟨b.p, 0, none⟩)) ?_
 refine zwv (.pointer (some ⟨b.p, 0, none⟩)) ?_
 refine zwv (.pointer (some ⟨b.p, 0, none⟩)) ?_
 refine zwv (.pointer (some ⟨b.p, 3, none⟩)) ?_
 refine zwu (v := .slice pn st.next.length cn) (run_load1 Tryz.isAgg63 (((h3.get 0 rfl).cell 3).trans rfl)) ?_
 refine zwv (iN .i64 x) ?_
 refine wl_mks (n := 1) (m := 1) (c := intc [x]) h3 3 ?_
 intro q4 w5 (h6 : HA z ((q4, 3, intc [x]) :: (b.p, 65, wcell b m (.slice pr st.rules.length cr) (.slice pn st.next.length cn)) :: (b.ab, 63, avs.toArray) :: (b.kb, 4, boc (st.known.set x true)) :: (Lr ++ (Ln ++ (La ++ L)))) w5)
 have h7 : HA z ((q4, 3, intc [x]) :: (Ln ++ (([(b.p, 65, wcell b m (.slice pr st.rules.length cr) (.slice pn st.next.length cn)), (b.ab, 63, avs.toArray), (b.kb, 4, boc (st.known.set x true))] ++ Lr) ++ (La ++ L)))) w5 := h6.perm (List.Perm.cons _ (perm_mv ([(b.p, 65, wcell b m (.slice pr st.rules.length cr) (.slice pn st.next.length cn)), (b.ab, 63, avs.toArray), (b.kb, 4, boc (st.known.set x true))] ++ Lr) Ln (La ++ L)))
 refine wl_append (m := 1) (c := 1) hN h7 (.int .i64 0) 8 Tryz.underlying63 info3 rfl rfl (h1 := (one_intc _)) (by unfold maxLen; omega) (by omega) ?_
 intro v1 w8 Ln1 hN1 h9
 obtain ⟨pn1, cn1, rfl⟩ := hN1.form
 have h10 : HA z ((b.p, 65, wcell b m (.slice pr st.rules.length cr) (.slice pn st.next.length cn)) :: (b.ab, 63, avs.toArray) :: (b.kb, 4, boc (st.known.set x true)) :: (Lr ++ (Ln1 ++ (La ++ L)))) w8 := HA.mv Ln1 ([(b.p, 65, wcell b m (.slice pr st.rules.length cr) (.slice pn st.next.length cn)), (b.ab, 63, avs.toArray), (b.kb, 4, boc (st.known.set x true))] ++ Lr) (La ++ L) h9
 refine zwv (.pointer (some ⟨b.p, 0, none⟩)) ?_
 refine zwv (.pointer (some ⟨b.p, 3, none⟩)) ?_
 refine wl_putv (v := .slice pn1 (st.next.length + 1) cn1) h10 0 rfl 3 (by show 3 < 4; decide) Tryz.sizeOf63 ?_
 intro w11 (h12 : HA z ((b.p, 65, wcell b m (.slice pr st.rules.length cr) (.slice pn1 (st.next.length + 1) cn1)) :: (b.ab, 63, avs.toArray) :: (b.kb, 4, boc (st.known.set x true)) :: (Lr ++ (Ln1 ++ (La ++ L)))) w11)
 refine wl_nil ?_
 exact bodyPost_end (v := .tuple #[]) (by kernel_rfl) rfl ⟨rfl, by rw [learnS, if_neg (by rw [hkx]; decide)]; exact ⟨_, _, Lr, Ln1, hR, by simpa [inl, intc] using hN1, h12⟩⟩
theorem learn_x {z : Base} {b : Wb} {m : Nat} {st : St} {avs : List Value} {La L : BL} {w : World} (H : WX z b m st avs La L w) (hw : Wok m st) {x : Nat} (hx : x < m) (hnl : st.next.length ≤ 1000000) :
  Calls Tryz.prog 21 #[pt b.p, iN .i64 x] w fun e w' => e = .returned (.tuple #[]) ∧ WX z b m (learnS st x) avs La L w' := by
 cases hk : st.known.getD x false with
 | true => exact learn_y H hw hx hnl hk
 | false => exact learn_n H hw hx hnl hk
theorem learn_any {z : Base} {b : Wb} {m : Nat} {st : St} {L : BL} {w : World} (H : WH z b m st L w) (hw : Wok m st) {x : Nat} (hx : x < m) (hnl : st.next.length ≤ 1000000) :
  Calls Tryz.prog 21 #[pt b.p, iN .i64 x] w fun e w' => e = .returned (.tuple #[]) ∧ WH z b m (learnS st x) L w' := by
 obtain ⟨avs, La, hA, h⟩ := H.open
 refine (learn_x h hw hx hnl).mono ?_
 rintro e w' ⟨rfl, h'⟩
 exact ⟨rfl, h'.close (by rw [(learnS_rules st x).2]; exact hA)⟩
end Go.Proofs.YtihfeoanognonaaGreat
