/-
  The reference's DecodeCall.
-/
import Derived.Test.YtiogegoepgkjlaaGI
set_option linter.unusedVariables false
set_option linter.unusedSimpArgs false
namespace Go.Proofs.Ytiogegoepgkjlaa
open Go.RowKit

set_option maxRecDepth 100000 in
set_option maxHeartbeats 8000000 in
theorem rdc_any {w : World} (s : ByteArray) (hs : s.size ≤ 140737488351232) :
    Calls Try.prog 19 #[.string s] w fun e w' => ∃ sv so L1 L2, e = .returned (.tuple #[iN .u64 (decCr s).1, .agg (caC (decCr s).2.1 sv so), iN .i64 (decCr s).2.2]) ∧ Row 67 3 sv (decCr s).2.1.li.ds.length (mcl (decCr s).2.1.li.ds) L1 ∧ Row 9 1 so (decCr s).2.1.on.length (scl (decCr s).2.1.on) L2 ∧ HA (bs w) (L1 ++ (L2 ++ [])) w' := by
  have H0 := HA.start w
  go_enter Try.func19, Try.ntmps19
  refine wp_seq (wl_region (zv (iN .u64 0) (wl_make (c := #[iN .i64 0, iN .i64 0, iN .i64 0, iN .i64 0, iN .i64 0, .string ({ data := #[] }), .slice none 0 0, .string ({ data := #[] }), iN .i64 0, iN .i64 0, .string ({ data := #[] }), .string ({ data := #[] }), iN .i64 0, .string ({ data := #[] }), .string ({ data := #[] }), iN .i64 0, .string ({ data := #[] }), .slice none 0 0, iN .i64 0, iN .u64 0, iN .u64 0, .string ({ data := #[] }), iN .i64 0, .string ({ data := #[] })]) H0 30 ky ky ?_)))
  intro q1 w2 (h3 : HA (bs w) [(q1, 30, #[iN .i64 0, iN .i64 0, iN .i64 0, iN .i64 0, iN .i64 0, .string ({ data := #[] }), .slice none 0 0, .string ({ data := #[] }), iN .i64 0, iN .i64 0, .string ({ data := #[] }), .string ({ data := #[] }), iN .i64 0, .string ({ data := #[] }), .string ({ data := #[] }), iN .i64 0, .string ({ data := #[] }), .slice none 0 0, iN .i64 0, iN .u64 0, iN .u64 0, .string ({ data := #[] }), iN .i64 0, .string ({ data := #[] })])] w2)
  refine zv (iN .i64 0) (wl_nil (then_at rfl (wp_seq (wl_region (zv (.string s) ?_)))))
  refine wl_callx ky enter49 _ ky (rNew_h h3 s) ?_
  rintro _ w6 ⟨b4, rfl, h5⟩
  refine ⟨_, rfl, ?_⟩
  have h7 := h5
  have hS8 : RR s (bl s) := ⟨rfl, hs⟩
  refine zv (.pointer (some ⟨b4, 0, none⟩)) (wl_nil (then_at rfl (wp_seq (wl_region (zv (.pointer (some ⟨b4, 0, none⟩)) ?_)))))
  obtain ⟨x9, o10, r11, i12⟩ : ∃ x o r, Rs.nxn 8 (bl s) = (x, o, r) := ⟨_, _, _, rfl⟩
  refine wl_callx ky enter50 _ ky (rN_F hS8 h7 (by decide) (by decide) i12) ?_
  rintro _ w16 ⟨rfl, s13, hS15, h14⟩
  refine ⟨_, rfl, ?_⟩
  have h17 := h14
  refine zv (.tuple #[iN .u64 x9, .bool o10]) (zv (iN .u64 x9) (zv (.bool o10) (zv (iN .u64 x9) (zv (.bool o10) (wl_nil (then_at rfl (wp_seq (wl_region (zv (.pointer (some ⟨b4, 0, none⟩)) ?_)))))))))
  obtain ⟨x18, o19, r20, i21⟩ : ∃ x o r, Rs.nxn 1 r11 = (x, o, r) := ⟨_, _, _, rfl⟩
  refine wl_callx ky enter51 _ ky (rfew_E hS15 h17 (by decide) (by decide) (Rs.nxn_lt (by decide) i21) i21) ?_
  rintro _ w25 ⟨rfl, s22, hS24, h23⟩
  refine ⟨_, rfl, ?_⟩
  have h26 := h23
  refine zv (.agg #[iN .i64 x18, iN .i64 0, iN .i64 0, iN .i64 0, iN .i64 0, .string ({ data := #[] }), .slice none 0 0, .string ({ data := #[] }), iN .i64 0, iN .i64 0, .string ({ data := #[] }), .string ({ data := #[] }), iN .i64 0, .string ({ data := #[] }), .string ({ data := #[] }), iN .i64 0, .string ({ data := #[] }), .slice none 0 0, iN .i64 0, iN .u64 0, iN .u64 0, .string ({ data := #[] }), iN .i64 0, .string ({ data := #[] })]) (wl_make (c := #[iN .i64 0, iN .i64 0, iN .i64 0, iN .i64 0, iN .i64 0, .string ({ data := #[] }), .slice none 0 0, .string ({ data := #[] }), iN .i64 0, iN .i64 0, .string ({ data := #[] }), .string ({ data := #[] }), iN .i64 0, .string ({ data := #[] }), .string ({ data := #[] }), iN .i64 0, .string ({ data := #[] }), .slice none 0 0, iN .i64 0, iN .u64 0, iN .u64 0, .string ({ data := #[] }), iN .i64 0, .string ({ data := #[] })]) h26 30 ky ky ?_)
  intro q27 w28 (h29 : HA (bs w) [(q27, 30, #[iN .i64 0, iN .i64 0, iN .i64 0, iN .i64 0, iN .i64 0, .string ({ data := #[] }), .slice none 0 0, .string ({ data := #[] }), iN .i64 0, iN .i64 0, .string ({ data := #[] }), .string ({ data := #[] }), iN .i64 0, .string ({ data := #[] }), .string ({ data := #[] }), iN .i64 0, .string ({ data := #[] }), .slice none 0 0, iN .i64 0, iN .u64 0, iN .u64 0, .string ({ data := #[] }), iN .i64 0, .string ({ data := #[] })]), (b4, 116, #[.string s22]), (q1, 30, #[iN .i64 0, iN .i64 0, iN .i64 0, iN .i64 0, iN .i64 0, .string ({ data := #[] }), .slice none 0 0, .string ({ data := #[] }), iN .i64 0, iN .i64 0, .string ({ data := #[] }), .string ({ data := #[] }), iN .i64 0, .string ({ data := #[] }), .string ({ data := #[] }), iN .i64 0, .string ({ data := #[] }), .slice none 0 0, iN .i64 0, iN .u64 0, iN .u64 0, .string ({ data := #[] }), iN .i64 0, .string ({ data := #[] })])] w28)
  refine wl_fill (c' := #[iN .i64 x18, iN .i64 0, iN .i64 0, iN .i64 0, iN .i64 0, .string ({ data := #[] }), .slice none 0 0, .string ({ data := #[] }), iN .i64 0, iN .i64 0, .string ({ data := #[] }), .string ({ data := #[] }), iN .i64 0, .string ({ data := #[] }), .string ({ data := #[] }), iN .i64 0, .string ({ data := #[] }), .slice none 0 0, iN .i64 0, iN .u64 0, iN .u64 0, .string ({ data := #[] }), iN .i64 0, .string ({ data := #[] })]) h29 0 rfl ky ky ky rfl ky ky (fun w30 h31 => (wl_nil (then_at rfl (wp_seq ?_))))
  refine wp_meet (fun AQ w' => ∃ (cc : Ca) (pa : Option Addr) (ca : Nat) (pb : Option Addr) (cb : Nat) (La Lb : BL) (u32 : Nat → Value), AQ = ⟨(.string s :: un :: iN .u64 0 :: pt q1 :: iN .i64 0 :: pt b4 :: iN .u64 x9 :: .bool o10 :: pt q27 :: u32 9 :: u32 10 :: un :: un :: .string s :: pt b4 :: .tuple #[iN .u64 x9, .bool o10] :: pt b4 :: .tuple #[iN .u64 x9, .bool o10] :: iN .u64 x9 :: .bool o10 :: pt b4 :: iN .i64 x18 :: .agg #[iN .i64 x18, iN .i64 0, iN .i64 0, iN .i64 0, iN .i64 0, .string ({ data := #[] }), .slice none 0 0, .string ({ data := #[] }), iN .i64 0, iN .i64 0, .string ({ data := #[] }), .string ({ data := #[] }), iN .i64 0, .string ({ data := #[] }), .string ({ data := #[] }), iN .i64 0, .string ({ data := #[] }), .slice none 0 0, iN .i64 0, iN .u64 0, iN .u64 0, .string ({ data := #[] }), iN .i64 0, .string ({ data := #[] })] :: u32 23 :: u32 24 :: u32 25 :: u32 26 :: u32 27 :: u32 28 :: u32 29 :: u32 30 :: u32 31 :: u32 32 :: u32 33 :: u32 34 :: u32 35 :: u32 36 :: u32 37 :: u32 38 :: u32 39 :: u32 40 :: u32 41 :: u32 42 :: u32 43 :: u32 44 :: u32 45 :: u32 46 :: u32 47 :: u32 48 :: u32 49 :: u32 50 :: u32 51 :: u32 52 :: u32 53 :: u32 54 :: u32 55 :: u32 56 :: u32 57 :: u32 58 :: u32 59 :: u32 60 :: u32 61 :: u32 62 :: u32 63 :: u32 64 :: u32 65 :: u32 66 :: u32 67 :: u32 68 :: u32 69 :: u32 70 :: u32 71 :: u32 72 :: u32 73 :: u32 74 :: u32 75 :: u32 76 :: u32 77 :: u32 78 :: u32 79 :: u32 80 :: u32 81 :: u32 82 :: u32 83 :: u32 84 :: u32 85 :: u32 86 :: u32 87 :: u32 88 :: u32 89 :: u32 90 :: u32 91 :: u32 92 :: u32 93 :: u32 94 :: u32 95 :: u32 96 :: u32 97 :: u32 98 :: u32 99 :: u32 100 :: u32 101 :: u32 102 :: u32 103 :: u32 104 :: u32 105 :: u32 106 :: u32 107 :: u32 108 :: u32 109 :: u32 110 :: u32 111 :: u32 112 :: u32 113 :: u32 114 :: u32 115 :: List.replicate 16 un).toArray, []⟩ ∧ rdKr x18 r20 = cc ∧ cc.li.ds.length ≤ 1000000 ∧ cc.on.length ≤ 1000000 ∧ Row 67 3 (.slice pa cc.li.ds.length ca) cc.li.ds.length (mcl cc.li.ds) La ∧ Row 9 1 (.slice pb cc.on.length cb) cc.on.length (scl cc.on) Lb ∧ HA (bs w) ((q27, 30, caC cc (.slice pa cc.li.ds.length ca) (.slice pb cc.on.length cb)) :: (q1, 30, #[iN .i64 0, iN .i64 0, iN .i64 0, iN .i64 0, iN .i64 0, .string ({ data := #[] }), .slice none 0 0, .string ({ data := #[] }), iN .i64 0, iN .i64 0, .string ({ data := #[] }), .string ({ data := #[] }), iN .i64 0, .string ({ data := #[] }), .string ({ data := #[] }), iN .i64 0, .string ({ data := #[] }), .slice none 0 0, iN .i64 0, iN .u64 0, iN .u64 0, .string ({ data := #[] }), iN .i64 0, .string ({ data := #[] })]) :: (La ++ (Lb ++ []))) w') ?_ ?_
  {refine wp_seq (wl_region (zv (.pointer (some ⟨q27, 0, none⟩)) (zu (iN .i64 x18) (run_load1 (fun w => Try.isAgg3 w) ky (((h31.get 0 rfl).cell 0).trans rfl)) (wl_nil (then_at rfl (wp_block (wp_seq (wl_region ?_))))))))
   rcases q33 : decide (x18 = 1) with _ | _; rotate_left
   {refine zu (.bool true) (run_eqi (k := .i64) (a := x18) (b := 1) ky ky true q33) (zv (.bool true) (wl_nil (then_at rfl (wp_cond_true ky (wl_region (zv (.pointer (some ⟨b4, 0, none⟩)) ?_))))))
    obtain ⟨x34, o35, r36, i37⟩ : ∃ x o r, Rs.nxn 1 r20 = (x, o, r) := ⟨_, _, _, rfl⟩
    refine wl_callx ky enter51 #[.pointer (some ⟨b4, 0, none⟩), iN .i64 1] ky (rfew_E hS24 (HA.perm h31 (List.Perm.swap _ _ _)) (by decide) (by decide) (Rs.nxn_lt (by decide) i37) i37) ?_
    rintro _ w41 ⟨rfl, s38, hS40, h39⟩
    refine ⟨_, rfl, ?_⟩
    have h42 := h39
    refine zv (.pointer (some ⟨q27, 1, none⟩)) (wl_putv (v := iN .i64 x34) h42 1 rfl 1 (by show 1 < 24; decide) ky (fun w => Try.sizeOf3 w) ky ky ky (fun w43 h44 => (wl_nil (block_normal ?_))))
    have h45 := h44.sub (List.Sublist.cons _ (List.Sublist.cons_cons _ (List.Sublist.cons_cons _ (List.Sublist.slnil))))
    exact then_I ⟨⟨((x18 : Nat) : Int), ((x34 : Nat) : Int), 0, ⟨0, 0, { data := #[] }, [], { data := #[] }⟩, ⟨0, 0, { data := #[] }, { data := #[] }, 0, { data := #[] }, { data := #[] }, 0, { data := #[] }⟩, [], 0, 0, 0, { data := #[] }, 0, { data := #[] }⟩, none, 0, none, 0, [], [], exu ky ⟨(by rw [rdKr_1 q33]; simp only [i37]), (Nat.zero_le 1000000), (Nat.zero_le 1000000), Row.nil 67 3, Row.nil 9 1, h45⟩⟩}
   refine zu (.bool false) (run_eqi (k := .i64) (a := x18) (b := 1) ky ky false q33) (zv (.bool false) (wl_nil (then_at rfl (wp_cond_false ky (wp_seq (wl_region ?_))))))
   rcases q46 : decide (x18 = 2) with _ | _; rotate_left
   {refine zu (.bool true) (run_eqi (k := .i64) (a := x18) (b := 2) ky ky true q46) (zv (.bool true) (wl_nil (then_at rfl (wp_cond_true ky (wp_seq (wl_region (zv (.pointer (some ⟨b4, 0, none⟩)) ?_)))))))
    obtain ⟨x47, o48, r49, i50⟩ : ∃ x o r, Rs.nxn 1 r20 = (x, o, r) := ⟨_, _, _, rfl⟩
    refine wl_callx ky enter51 #[.pointer (some ⟨b4, 0, none⟩), iN .i64 1] ky (rfew_E hS24 (HA.perm h31 (List.Perm.swap _ _ _)) (by decide) (by decide) (Rs.nxn_lt (by decide) i50) i50) ?_
    rintro _ w54 ⟨rfl, s51, hS53, h52⟩
    refine ⟨_, rfl, ?_⟩
    have h55 := h52
    refine zv (.pointer (some ⟨q27, 1, none⟩)) (wl_putv (v := iN .i64 x47) h55 1 rfl 1 (by show 1 < 24; decide) ky (fun w => Try.sizeOf3 w) ky ky ky (fun w56 h57 => (wl_nil (then_at rfl (wl_region (zv (.pointer (some ⟨b4, 0, none⟩)) ?_))))))
    obtain ⟨x58, o59, r60, i61⟩ : ∃ x o r, Rs.nxn 1 r49 = (x, o, r) := ⟨_, _, _, rfl⟩
    refine wl_callx ky enter51 _ ky (rfew_E hS53 h57 (by decide) (by decide) (Rs.nxn_lt (by decide) i61) i61) ?_
    rintro _ w65 ⟨rfl, s62, hS64, h63⟩
    refine ⟨_, rfl, ?_⟩
    have h66 := h63
    refine zv (.pointer (some ⟨q27, 2, none⟩)) (wl_putv (v := iN .i64 x58) h66 1 rfl 2 (by show 2 < 24; decide) ky (fun w => Try.sizeOf3 w) ky ky ky (fun w67 h68 => (wl_nil (block_normal ?_))))
    have h69 := h68.sub (List.Sublist.cons _ (List.Sublist.cons_cons _ (List.Sublist.cons_cons _ (List.Sublist.slnil))))
    exact then_I ⟨⟨((x18 : Nat) : Int), ((x47 : Nat) : Int), ((x58 : Nat) : Int), ⟨0, 0, { data := #[] }, [], { data := #[] }⟩, ⟨0, 0, { data := #[] }, { data := #[] }, 0, { data := #[] }, { data := #[] }, 0, { data := #[] }⟩, [], 0, 0, 0, { data := #[] }, 0, { data := #[] }⟩, none, 0, none, 0, [], [], exu ky ⟨(by rw [rdKr_2 q33 q46]; simp only [i50, i61]), (Nat.zero_le 1000000), (Nat.zero_le 1000000), Row.nil 67 3, Row.nil 9 1, h69⟩⟩}
   refine zu (.bool false) (run_eqi (k := .i64) (a := x18) (b := 2) ky ky false q46) (zv (.bool false) (wl_nil (then_at rfl (wp_cond_false ky (wp_seq (wl_region ?_))))))
   rcases q70 : decide (x18 = 3) with _ | _; rotate_left
   {refine zu (.bool true) (run_eqi (k := .i64) (a := x18) (b := 3) ky ky true q70) (zv (.bool true) (wl_nil (then_at rfl (wp_cond_true ky (wl_region (zv (.pointer (some ⟨b4, 0, none⟩)) ?_))))))
    obtain ⟨x71, o72, r73, i74⟩ : ∃ x o r, Rs.nxt 16384 r20 = (x, o, r) := ⟨_, _, _, rfl⟩
    refine wl_callx ky enter53 #[.pointer (some ⟨b4, 0, none⟩), iN .i64 16384] ky (rsom_E hS24 (HA.perm h31 (List.Perm.swap _ _ _)) (by decide) i74) ?_
    rintro _ w78 ⟨rfl, s75, hS77, h76⟩
    refine ⟨_, rfl, ?_⟩
    have h79 := h76
    refine wl_callx ky enter52 _ ky (rlo_any x71 (Nat.le_trans (Rs.nxt_le i74) (by decide))) ?_
    rintro _ w86 ⟨sv80, Lr81, rfl, hR82, h83⟩
    refine ⟨_, rfl, ?_⟩
    obtain ⟨l84, hl85⟩ : ∃ l, lisRr x71 = l := ⟨_, rfl⟩
    rw [hl85] at hR82 ⊢
    have h87 := HA.join_n 3 h79 h83
    obtain ⟨po88, pc89, hvpo88⟩ := hR82.form
    subst hvpo88
    refine zv (.pointer (some ⟨q27, 3, none⟩)) (wl_puts (d := liC l84 (.slice po88 l84.ds.length pc89)) (c' := #[iN .i64 x18, iN .i64 0, iN .i64 0, .int .i64 l84.u, .int .i64 l84.v, .string l84.ac, .slice po88 l84.ds.length pc89, .string l84.sg, iN .i64 0, iN .i64 0, .string ({ data := #[] }), .string ({ data := #[] }), iN .i64 0, .string ({ data := #[] }), .string ({ data := #[] }), iN .i64 0, .string ({ data := #[] }), .slice none 0 0, iN .i64 0, iN .u64 0, iN .u64 0, .string ({ data := #[] }), iN .i64 0, .string ({ data := #[] })]) h87 1 rfl (off := 3) ky ky ky ky ky ky ky (fun w90 h91 => (wl_nil (block_normal ?_))))
    have h92 := h91.sub (List.Sublist.cons _ (List.Sublist.cons_cons _ (List.Sublist.cons_cons _ (List.Sublist.refl _))))
    exact then_I ⟨⟨((x18 : Nat) : Int), 0, 0, l84, ⟨0, 0, { data := #[] }, { data := #[] }, 0, { data := #[] }, { data := #[] }, 0, { data := #[] }⟩, [], 0, 0, 0, { data := #[] }, 0, { data := #[] }⟩, po88, pc89, none, 0, Lr81, [], exu ky ⟨(by rw [rdKr_3 q33 q46 q70]; simp only [i74, hl85]), (lisr_bk hl85), (Nat.zero_le 1000000), hR82, Row.nil 9 1, h92⟩⟩}
   refine zu (.bool false) (run_eqi (k := .i64) (a := x18) (b := 3) ky ky false q70) (zv (.bool false) (wl_nil (then_at rfl (wp_cond_false ky (wp_seq (wl_region ?_))))))
   rcases q93 : decide (x18 = 4) with _ | _; rotate_left
   {refine zu (.bool true) (run_eqi (k := .i64) (a := x18) (b := 4) ky ky true q93) (zv (.bool true) (wl_nil (then_at rfl (wp_cond_true ky (wp_seq (wl_region (zv (.pointer (some ⟨b4, 0, none⟩)) ?_)))))))
    obtain ⟨x94, o95, r96, i97⟩ : ∃ x o r, Rs.nxt 16384 r20 = (x, o, r) := ⟨_, _, _, rfl⟩
    refine wl_callx ky enter53 #[.pointer (some ⟨b4, 0, none⟩), iN .i64 16384] ky (rsom_E hS24 (HA.perm h31 (List.Perm.swap _ _ _)) (by decide) i97) ?_
    rintro _ w101 ⟨rfl, s98, hS100, h99⟩
    refine ⟨_, rfl, ?_⟩
    have h102 := h99
    refine zl (.tuple #[.agg (buC (decA x94).1), iN .i64 ((decA x94).2)]) h102 enter54 _ (rdec_any x94 (Nat.le_trans (Rs.nxt_le i97) (by decide))) (fun w103 h104 => (zv (.tuple #[.agg (buC (decA x94).1), iN .i64 ((decA x94).2)]) (zv (.agg (buC (decA x94).1)) (zv (iN .i64 ((decA x94).2)) (zv (.pointer (some ⟨q27, 8, none⟩)) (wl_puts (d := buC (decA x94).1) (c' := #[iN .i64 x18, iN .i64 0, iN .i64 0, iN .i64 0, iN .i64 0, .string ({ data := #[] }), .slice none 0 0, .string ({ data := #[] }), .int .i64 ((decA x94).1.u), .int .i64 ((decA x94).1.d), .string ((decA x94).1.sg), .string ((decA x94).1.dh), .int .i64 ((decA x94).1.pi), .string ((decA x94).1.pr), .string ((decA x94).1.ps), .int .i64 ((decA x94).1.oi), .string ((decA x94).1.on), .slice none 0 0, iN .i64 0, iN .u64 0, iN .u64 0, .string ({ data := #[] }), iN .i64 0, .string ({ data := #[] })]) h104 1 rfl (off := 8) ky ky ky ky ky ky ky (fun w105 h106 => (wl_nil (then_at rfl (wp_seq (wl_region (zv (.pointer (some ⟨b4, 0, none⟩)) ?_))))))))))))
    obtain ⟨x107, o108, r109, i110⟩ : ∃ x o r, Rs.nxn 4 r96 = (x, o, r) := ⟨_, _, _, rfl⟩
    refine wl_callx ky enter51 _ ky (rfew_E hS100 h106 (by decide) (by decide) (Rs.nxn_lt (by decide) i110) i110) ?_
    rintro _ w114 ⟨rfl, s111, hS113, h112⟩
    refine ⟨_, rfl, ?_⟩
    have h115 := h112
    refine zv (.pointer (some ⟨q27, 22, none⟩)) (wl_putv (v := iN .i64 x107) h115 1 rfl 22 (by show 22 < 24; decide) ky (fun w => Try.sizeOf3 w) ky ky ky (fun w116 h117 => (wl_nil (then_at rfl (wp_seq (wl_region (zv (.pointer (some ⟨b4, 0, none⟩)) ?_)))))))
    obtain ⟨x118, o119, r120, i121⟩ : ∃ x o r, Rs.nxn 1 r109 = (x, o, r) := ⟨_, _, _, rfl⟩
    refine wl_callx ky enter51 _ ky (rfew_E hS113 h117 (by decide) (by decide) (Rs.nxn_lt (by decide) i121) i121) ?_
    rintro _ w125 ⟨rfl, s122, hS124, h123⟩
    refine ⟨_, rfl, ?_⟩
    have h126 := h123
    refine zv (iN .i64 x118) (wl_nil (then_at rfl (wp_seq (wl_region (zv (iN .i64 0) (wl_nil (then_at rfl ?_)))))))
    obtain ⟨R127, hQ128⟩ : ∃ R1, txr (min x118 30) r120 [] = R1 := ⟨_, rfl⟩
    refine wp_block ?_
    refine wp_while (fun mq AQ w' => ∃ (n i : Nat) (us : List UInt8) (acc : List ByteArray) (cs : ByteArray) (pp : Option Addr) (cp : Nat) (Lp : BL) (u129 : Nat → Value), mq = n + 1 ∧ AQ = ⟨(.string s :: un :: iN .u64 0 :: pt q1 :: iN .i64 0 :: pt b4 :: iN .u64 x9 :: .bool o10 :: pt q27 :: iN .i64 x118 :: iN .i64 i :: un :: un :: .string s :: pt b4 :: .tuple #[iN .u64 x9, .bool o10] :: pt b4 :: .tuple #[iN .u64 x9, .bool o10] :: iN .u64 x9 :: .bool o10 :: pt b4 :: iN .i64 x18 :: .agg #[iN .i64 x18, iN .i64 0, iN .i64 0, iN .i64 0, iN .i64 0, .string ({ data := #[] }), .slice none 0 0, .string ({ data := #[] }), iN .i64 0, iN .i64 0, .string ({ data := #[] }), .string ({ data := #[] }), iN .i64 0, .string ({ data := #[] }), .string ({ data := #[] }), iN .i64 0, .string ({ data := #[] }), .slice none 0 0, iN .i64 0, iN .u64 0, iN .u64 0, .string ({ data := #[] }), iN .i64 0, .string ({ data := #[] })] :: pt q27 :: iN .i64 x18 :: .bool false :: .bool false :: un :: un :: un :: .bool false :: .bool false :: un :: un :: un :: un :: un :: un :: .bool false :: .bool false :: un :: un :: un :: un :: .bool true :: .bool true :: .tuple #[.agg (buC (decA x94).1), iN .i64 ((decA x94).2)] :: pt b4 :: .string x94 :: .tuple #[.agg (buC (decA x94).1), iN .i64 ((decA x94).2)] :: .agg (buC (decA x94).1) :: iN .i64 ((decA x94).2) :: .pointer (some ⟨q27, 8, none⟩) :: pt b4 :: iN .i64 x107 :: .pointer (some ⟨q27, 22, none⟩) :: pt b4 :: iN .i64 x118 :: u129 58 :: u129 59 :: u129 60 :: u129 61 :: u129 62 :: u129 63 :: u129 64 :: u129 65 :: u129 66 :: u129 67 :: u129 68 :: u129 69 :: u129 70 :: u129 71 :: u129 72 :: u129 73 :: List.replicate 58 un).toArray, []⟩ ∧ txr n us acc = R127 ∧ i + n = min x118 30 ∧ acc.length + n ≤ 30 ∧ RR cs us ∧ Row 9 1 (.slice pp acc.length cp) acc.length (scl acc) Lp ∧ HA (bs w) ([(b4, 116, #[.string cs]), (q27, 30, #[iN .i64 x18, iN .i64 0, iN .i64 0, iN .i64 0, iN .i64 0, .string ({ data := #[] }), .slice none 0 0, .string ({ data := #[] }), .int .i64 ((decA x94).1.u), .int .i64 ((decA x94).1.d), .string ((decA x94).1.sg), .string ((decA x94).1.dh), .int .i64 ((decA x94).1.pi), .string ((decA x94).1.pr), .string ((decA x94).1.ps), .int .i64 ((decA x94).1.oi), .string ((decA x94).1.on), .slice pp acc.length cp, iN .i64 0, iN .u64 0, iN .u64 0, .string ({ data := #[] }), iN .i64 x107, .string ({ data := #[] })]), (q1, 30, #[iN .i64 0, iN .i64 0, iN .i64 0, iN .i64 0, iN .i64 0, .string ({ data := #[] }), .slice none 0 0, .string ({ data := #[] }), iN .i64 0, iN .i64 0, .string ({ data := #[] }), .string ({ data := #[] }), iN .i64 0, .string ({ data := #[] }), .string ({ data := #[] }), iN .i64 0, .string ({ data := #[] }), .slice none 0 0, iN .i64 0, iN .u64 0, iN .u64 0, .string ({ data := #[] }), iN .i64 0, .string ({ data := #[] })])] ++ (Lp ++ [])) w') (min x118 30 + 1) ?_ ?_
    {exact ⟨min x118 30, 0, r120, [], s122, none, 0, [], exm rfl ky ⟨hQ128, Nat.zero_add _, (by simp only [List.length_nil]; omega), hS124, Row.nil 9 1, h126⟩⟩}
    rintro _ _ w130 ⟨n, i, us, acc, cs, pp, cp, Lp, u129, rfl, rfl, hR1, hin, hnl, hS, hRow, hL⟩
    have hL2 := hL
    rcases n with _ | n
    {rcases Nat.lt_or_ge i x118 with hc | hc
     {refine wp_seq (wp_seq (wl_region (zv (iN .i64 i) (zv (iN .i64 x118) (zu (.bool true) (run_lss (k := .i64) (a := i) (b := x118) ky ky true (decide_eq_true (by omega))) (zv (.bool true) (zv (iN .i64 i) (zu (.bool false) (run_lss (k := .i64) (a := i) (b := 30) ky ky false (decide_eq_false (by omega))) (zv (.bool false) (wl_nil (then_at rfl (wp_cond_false ky ?_))))))))))))
      refine wp_exit ?_
      repeat first | refine then_exit ?_ | refine block_exit ?_ | refine block_exit_ne (by decide) ?_
      have hR2 : R127 = (acc, us) := hR1.symm.trans (txr_z _ _)
      rw [hR2] at hQ128
      refine block_normal ?_
      have h131 := hL2.sub (List.Sublist.cons _ (List.Sublist.cons_cons _ (List.Sublist.cons_cons _ (List.Sublist.refl _))))
      exact then_I ⟨⟨((x18 : Nat) : Int), 0, 0, ⟨0, 0, { data := #[] }, [], { data := #[] }⟩, (decA x94).1, acc, 0, 0, 0, { data := #[] }, ((x107 : Nat) : Int), { data := #[] }⟩, none, 0, pp, cp, [], Lp, exu ky ⟨(by rw [rdKr_4 q33 q46 q70 q93]; simp only [i97, i110, i121, hQ128]), (Nat.zero_le 1000000), (show acc.length ≤ 1000000 by omega), Row.nil 67 3, hRow, h131⟩⟩}
     refine wp_seq (wp_seq (wl_region (zv (iN .i64 i) (zv (iN .i64 x118) (zu (.bool false) (run_lss (k := .i64) (a := i) (b := x118) ky ky false (decide_eq_false (by omega))) (zv (.bool false) (zk (zk (zv (.bool false) (wl_nil (then_at rfl (wp_cond_false ky ?_))))))))))))
     refine wp_exit ?_
     repeat first | refine then_exit ?_ | refine block_exit ?_ | refine block_exit_ne (by decide) ?_
     have hR2 : R127 = (acc, us) := hR1.symm.trans (txr_z _ _)
     rw [hR2] at hQ128
     refine block_normal ?_
     have h132 := hL2.sub (List.Sublist.cons _ (List.Sublist.cons_cons _ (List.Sublist.cons_cons _ (List.Sublist.refl _))))
     exact then_I ⟨⟨((x18 : Nat) : Int), 0, 0, ⟨0, 0, { data := #[] }, [], { data := #[] }⟩, (decA x94).1, acc, 0, 0, 0, { data := #[] }, ((x107 : Nat) : Int), { data := #[] }⟩, none, 0, pp, cp, [], Lp, exu ky ⟨(by rw [rdKr_4 q33 q46 q70 q93]; simp only [i97, i110, i121, hQ128]), (Nat.zero_le 1000000), (show acc.length ≤ 1000000 by omega), Row.nil 67 3, hRow, h132⟩⟩}
    refine wp_seq (wp_seq (wl_region (zv (iN .i64 i) (zv (iN .i64 x118) (zu (.bool true) (run_lss (k := .i64) (a := i) (b := x118) ky ky true (decide_eq_true (by omega))) (zv (.bool true) (zv (iN .i64 i) (zu (.bool true) (run_lss (k := .i64) (a := i) (b := 30) ky ky true (decide_eq_true (by omega))) (zv (.bool true) (wl_nil (then_at rfl (wp_cond_true ky (wp_skip (then_at rfl (wp_seq (wp_block ?_))))))))))))))))
    refine wp_region_wx (fun w' => Blk w' q27 30 (#[iN .i64 x18, iN .i64 0, iN .i64 0, iN .i64 0, iN .i64 0, .string ({ data := #[] }), .slice none 0 0, .string ({ data := #[] }), .int .i64 ((decA x94).1.u), .int .i64 ((decA x94).1.d), .string ((decA x94).1.sg), .string ((decA x94).1.dh), .int .i64 ((decA x94).1.pi), .string ((decA x94).1.pr), .string ((decA x94).1.ps), .int .i64 ((decA x94).1.oi), .string ((decA x94).1.on), .slice pp acc.length cp, iN .i64 0, iN .u64 0, iN .u64 0, .string ({ data := #[] }), iN .i64 x107, .string ({ data := #[] })])) (fun AQ w' => ∃ (s134 : ByteArray) (pn152 : Option Addr) (cn153 : Nat) (La147 : BL) (q143 : Nat), AQ = ⟨(.string s :: un :: iN .u64 0 :: pt q1 :: iN .i64 0 :: pt b4 :: iN .u64 x9 :: .bool o10 :: pt q27 :: iN .i64 x118 :: iN .i64 i :: un :: un :: .string s :: pt b4 :: .tuple #[iN .u64 x9, .bool o10] :: pt b4 :: .tuple #[iN .u64 x9, .bool o10] :: iN .u64 x9 :: .bool o10 :: pt b4 :: iN .i64 x18 :: .agg #[iN .i64 x18, iN .i64 0, iN .i64 0, iN .i64 0, iN .i64 0, .string ({ data := #[] }), .slice none 0 0, .string ({ data := #[] }), iN .i64 0, iN .i64 0, .string ({ data := #[] }), .string ({ data := #[] }), iN .i64 0, .string ({ data := #[] }), .string ({ data := #[] }), iN .i64 0, .string ({ data := #[] }), .slice none 0 0, iN .i64 0, iN .u64 0, iN .u64 0, .string ({ data := #[] }), iN .i64 0, .string ({ data := #[] })] :: pt q27 :: iN .i64 x18 :: .bool false :: .bool false :: un :: un :: un :: .bool false :: .bool false :: un :: un :: un :: un :: un :: un :: .bool false :: .bool false :: un :: un :: un :: un :: .bool true :: .bool true :: .tuple #[.agg (buC (decA x94).1), iN .i64 ((decA x94).2)] :: pt b4 :: .string x94 :: .tuple #[.agg (buC (decA x94).1), iN .i64 ((decA x94).2)] :: .agg (buC (decA x94).1) :: iN .i64 ((decA x94).2) :: .pointer (some ⟨q27, 8, none⟩) :: pt b4 :: iN .i64 x107 :: .pointer (some ⟨q27, 22, none⟩) :: pt b4 :: iN .i64 x118 :: iN .i64 i :: iN .i64 x118 :: .bool true :: .bool true :: iN .i64 i :: .bool true :: .bool true :: u129 65 :: u129 66 :: .pointer (some ⟨q27, 17, none⟩) :: .slice pp acc.length cp :: pt b4 :: .string ((Rs.nxt 1000 us).1) :: .slice (some ⟨q143, 0, none⟩) 1 1 :: .slice pn152 (acc.length + 1) cn153 :: .pointer (some ⟨q27, 17, none⟩) :: List.replicate 58 un).toArray, []⟩ ∧ RR s134 ((Rs.nxt 1000 us).2.2) ∧ Row 9 1 (.slice pn152 (acc.length + 1) cn153) (acc.length + 1) (scl acc ++ [.string (Rs.nxt 1000 us).1]) La147 ∧ HA (bs w) ((b4, 116, #[.string s134]) :: (q27, 30, #[iN .i64 x18, iN .i64 0, iN .i64 0, iN .i64 0, iN .i64 0, .string ({ data := #[] }), .slice none 0 0, .string ({ data := #[] }), .int .i64 ((decA x94).1.u), .int .i64 ((decA x94).1.d), .string ((decA x94).1.sg), .string ((decA x94).1.dh), .int .i64 ((decA x94).1.pi), .string ((decA x94).1.pr), .string ((decA x94).1.ps), .int .i64 ((decA x94).1.oi), .string ((decA x94).1.on), .slice pn152 (acc.length + 1) cn153, iN .i64 0, iN .u64 0, iN .u64 0, .string ({ data := #[] }), iN .i64 x107, .string ({ data := #[] })]) :: (q1, 30, #[iN .i64 0, iN .i64 0, iN .i64 0, iN .i64 0, iN .i64 0, .string ({ data := #[] }), .slice none 0 0, .string ({ data := #[] }), iN .i64 0, iN .i64 0, .string ({ data := #[] }), .string ({ data := #[] }), iN .i64 0, .string ({ data := #[] }), .string ({ data := #[] }), iN .i64 0, .string ({ data := #[] }), .slice none 0 0, iN .i64 0, iN .u64 0, iN .u64 0, .string ({ data := #[] }), iN .i64 0, .string ({ data := #[] })]) :: (La147 ++ [])) w') 8 ky ky ky ky ky ((hL2.drew).get 1 rfl) ?_ ?_
    {have h133 := hL2.drew
     refine zp 0 (.pointer (some ⟨q27, 17, none⟩)) (zx 1 (.slice pp acc.length cp) rfl (fun w' h' => run_load1 (fun w => Try.isAgg28 w) ky ((h'.cell 17).trans rfl)) (zp 2 (.pointer (some ⟨b4, 0, none⟩)) (wx_one 3 ky ?_)))
     refine ex_callx rfl ky h133 enter53 #[.pointer (some ⟨b4, 0, none⟩), iN .i64 1000] ky (fun w137 h138 => rsom_E hS h138 (by decide) rfl) ?_
     rintro w137 h138 _ w139 ⟨rfl, s134, hS136, h135⟩
     have h140 := h135
     refine ⟨_, rfl, _, .inr rfl, (h140.get 1 rfl), ?_⟩
     refine wx_one 4 ky ?_
     refine ex_makeT (c := #[.string ((Rs.nxt 1000 us).1)]) rfl ky h140 9 (fun q => .slice (some ⟨q, 0, none⟩) 1 1) (fun _ => ky) ?_
     intro q143 w141 (h142 : HA (bs w) ((q143, 9, #[.string ((Rs.nxt 1000 us).1)]) :: (b4, 116, #[.string s134]) :: (q27, 30, #[iN .i64 x18, iN .i64 0, iN .i64 0, iN .i64 0, iN .i64 0, .string ({ data := #[] }), .slice none 0 0, .string ({ data := #[] }), .int .i64 ((decA x94).1.u), .int .i64 ((decA x94).1.d), .string ((decA x94).1.sg), .string ((decA x94).1.dh), .int .i64 ((decA x94).1.pi), .string ((decA x94).1.pr), .string ((decA x94).1.ps), .int .i64 ((decA x94).1.oi), .string ((decA x94).1.on), .slice pp acc.length cp, iN .i64 0, iN .u64 0, iN .u64 0, .string ({ data := #[] }), iN .i64 x107, .string ({ data := #[] })]) :: (q1, 30, #[iN .i64 0, iN .i64 0, iN .i64 0, iN .i64 0, iN .i64 0, .string ({ data := #[] }), .slice none 0 0, .string ({ data := #[] }), iN .i64 0, iN .i64 0, .string ({ data := #[] }), .string ({ data := #[] }), iN .i64 0, .string ({ data := #[] }), .string ({ data := #[] }), iN .i64 0, .string ({ data := #[] }), .slice none 0 0, iN .i64 0, iN .u64 0, iN .u64 0, .string ({ data := #[] }), iN .i64 0, .string ({ data := #[] })]) :: (Lp ++ [])) w141)
     refine ⟨_, .inr rfl, (h142.get 2 rfl), ?_⟩
     refine wx_one 5 ky ?_
     refine ex_doT rfl ky h142 fun w144 h145 => ?_
     obtain ⟨va146, wa151, La147, hrun150, hRa148, ha149⟩ := row_more (t := 28) hRow ((show HA (bs w) (((q143, 9, #[.string ((Rs.nxt 1000 us).1)]) :: [(b4, 116, #[.string s134]), (q27, 30, #[iN .i64 x18, iN .i64 0, iN .i64 0, iN .i64 0, iN .i64 0, .string ({ data := #[] }), .slice none 0 0, .string ({ data := #[] }), .int .i64 ((decA x94).1.u), .int .i64 ((decA x94).1.d), .string ((decA x94).1.sg), .string ((decA x94).1.dh), .int .i64 ((decA x94).1.pi), .string ((decA x94).1.pr), .string ((decA x94).1.ps), .int .i64 ((decA x94).1.oi), .string ((decA x94).1.on), .slice pp acc.length cp, iN .i64 0, iN .u64 0, iN .u64 0, .string ({ data := #[] }), iN .i64 x107, .string ({ data := #[] })]), (q1, 30, #[iN .i64 0, iN .i64 0, iN .i64 0, iN .i64 0, iN .i64 0, .string ({ data := #[] }), .slice none 0 0, .string ({ data := #[] }), iN .i64 0, iN .i64 0, .string ({ data := #[] }), .string ({ data := #[] }), iN .i64 0, .string ({ data := #[] }), .string ({ data := #[] }), iN .i64 0, .string ({ data := #[] }), .slice none 0 0, iN .i64 0, iN .u64 0, iN .u64 0, .string ({ data := #[] }), iN .i64 0, .string ({ data := #[] })])]) ++ (Lp ++ [])) w144 from h145).perm (List.Perm.cons _ (perm_mv [(b4, 116, #[.string s134]), (q27, 30, #[iN .i64 x18, iN .i64 0, iN .i64 0, iN .i64 0, iN .i64 0, .string ({ data := #[] }), .slice none 0 0, .string ({ data := #[] }), .int .i64 ((decA x94).1.u), .int .i64 ((decA x94).1.d), .string ((decA x94).1.sg), .string ((decA x94).1.dh), .int .i64 ((decA x94).1.pi), .string ((decA x94).1.pr), .string ((decA x94).1.ps), .int .i64 ((decA x94).1.oi), .string ((decA x94).1.on), .slice pp acc.length cp, iN .i64 0, iN .u64 0, iN .u64 0, .string ({ data := #[] }), iN .i64 x107, .string ({ data := #[] })]), (q1, 30, #[iN .i64 0, iN .i64 0, iN .i64 0, iN .i64 0, iN .i64 0, .string ({ data := #[] }), .slice none 0 0, .string ({ data := #[] }), iN .i64 0, iN .i64 0, .string ({ data := #[] }), .string ({ data := #[] }), iN .i64 0, .string ({ data := #[] }), .string ({ data := #[] }), iN .i64 0, .string ({ data := #[] }), .slice none 0 0, iN .i64 0, iN .u64 0, iN .u64 0, .string ({ data := #[] }), iN .i64 0, .string ({ data := #[] })])] Lp []))) (by decide) (.string { data := #[] }) 16 28 Try.underlying28 info9z rfl (by decide) rfl ky (by unfold maxLen; omega) (by omega)
     obtain ⟨pn152, cn153, hvnpn152⟩ := hRa148.form
     subst hvnpn152
     have h154 := ha149.perm (perm_mv [(b4, 116, #[.string s134]), (q27, 30, #[iN .i64 x18, iN .i64 0, iN .i64 0, iN .i64 0, iN .i64 0, .string ({ data := #[] }), .slice none 0 0, .string ({ data := #[] }), .int .i64 ((decA x94).1.u), .int .i64 ((decA x94).1.d), .string ((decA x94).1.sg), .string ((decA x94).1.dh), .int .i64 ((decA x94).1.pi), .string ((decA x94).1.pr), .string ((decA x94).1.ps), .int .i64 ((decA x94).1.oi), .string ((decA x94).1.on), .slice pp acc.length cp, iN .i64 0, iN .u64 0, iN .u64 0, .string ({ data := #[] }), iN .i64 x107, .string ({ data := #[] })]), (q1, 30, #[iN .i64 0, iN .i64 0, iN .i64 0, iN .i64 0, iN .i64 0, .string ({ data := #[] }), .slice none 0 0, .string ({ data := #[] }), iN .i64 0, iN .i64 0, .string ({ data := #[] }), .string ({ data := #[] }), iN .i64 0, .string ({ data := #[] }), .string ({ data := #[] }), iN .i64 0, .string ({ data := #[] }), .slice none 0 0, iN .i64 0, iN .u64 0, iN .u64 0, .string ({ data := #[] }), iN .i64 0, .string ({ data := #[] })])] La147 []).symm
     refine ⟨_, _, run_app_ops ky ky hrun150, _, .inr rfl, (h154.get 1 rfl), ?_⟩
     refine zp 6 (.pointer (some ⟨q27, 17, none⟩)) (wx_one 7 ky ?_)
     refine ex_skipT rfl ky h154 fun w155 h156 => ⟨_, run_storev (q := q27) (i := 17) (v := .slice pn152 (acc.length + 1) cn153) (fun w => Try.sizeOf28 w) ky ky ky (by rw [(h156.get 1 rfl).cell]; rfl) ((h156.get 1 rfl).free _ (by show 17 < 24; decide)), ?_⟩
     have h157 := h156.put 1 rfl 17 (.slice pn152 (acc.length + 1) cn153)
     refine ⟨(fun _ => True), .inl ky, trivial, ?_⟩
     refine wx_end fun w158 hbx _ => ?_
     have h159 := HA.keep _ _ h157 hbx
     exact ⟨s134, pn152, cn153, La147, q143, by kernel_rfl, hS136, hRa148, h159⟩}
    {rintro _ w160 ⟨s134, pn152, cn153, La147, q143, rfl, hS136, hRa148, h161⟩
     refine block_normal (then_at rfl (wl_region (zv (iN .i64 i) (zu (iN .i64 (i + 1)) (run_add (k := .i64) (a := i) (b := 1) ky ky (by first | omega | (simp only [top]; omega))) (zv (iN .i64 (i + 1)) (wl_nil ?_))))))
     exact then_I ⟨n + 1, (by omega), n, i + 1, (Rs.nxt 1000 us).2.2, acc ++ [(Rs.nxt 1000 us).1], s134, pn152, cn153, La147, exm rfl ky ⟨by rw [← hR1, txr_s], by omega, by rw [List.length_append, List.length_singleton]; omega, hS136, by rw [scl_snoc, List.length_append, List.length_singleton]; exact hRa148, by rw [List.length_append, List.length_singleton]; exact h161⟩⟩}}
   refine zu (.bool false) (run_eqi (k := .i64) (a := x18) (b := 4) ky ky false q93) (zv (.bool false) (wl_nil (then_at rfl (wp_cond_false ky (wp_seq (wl_region ?_))))))
   rcases q162 : decide (x18 = 5) with _ | _; rotate_left
   {refine zu (.bool true) (run_eqi (k := .i64) (a := x18) (b := 5) ky ky true q162) (zv (.bool true) (wl_nil (then_at rfl (wp_cond_true ky (wp_seq (wl_region (zv (.pointer (some ⟨b4, 0, none⟩)) ?_)))))))
    obtain ⟨x163, o164, r165, i166⟩ : ∃ x o r, Rs.nxn 1 r20 = (x, o, r) := ⟨_, _, _, rfl⟩
    refine wl_callx ky enter51 #[.pointer (some ⟨b4, 0, none⟩), iN .i64 1] ky (rfew_E hS24 (HA.perm h31 (List.Perm.swap _ _ _)) (by decide) (by decide) (Rs.nxn_lt (by decide) i166) i166) ?_
    rintro _ w170 ⟨rfl, s167, hS169, h168⟩
    refine ⟨_, rfl, ?_⟩
    have h171 := h168
    refine zv (.pointer (some ⟨q27, 18, none⟩)) (wl_putv (v := iN .i64 x163) h171 1 rfl 18 (by show 18 < 24; decide) ky (fun w => Try.sizeOf3 w) ky ky ky (fun w172 h173 => (wl_nil (then_at rfl (wp_seq (wl_region (zv (.pointer (some ⟨b4, 0, none⟩)) ?_)))))))
    obtain ⟨x174, o175, r176, i177⟩ : ∃ x o r, Rs.nxn 8 r165 = (x, o, r) := ⟨_, _, _, rfl⟩
    refine wl_callx ky enter50 _ ky (rN_F hS169 h173 (by decide) (by decide) i177) ?_
    rintro _ w181 ⟨rfl, s178, hS180, h179⟩
    refine ⟨_, rfl, ?_⟩
    have h182 := h179
    refine zv (.tuple #[iN .u64 x174, .bool o175]) (zv (iN .u64 x174) (zv (.bool o175) (zv (.pointer (some ⟨q27, 19, none⟩)) (wl_putv (v := iN .u64 x174) h182 1 rfl 19 (by show 19 < 24; decide) ky (fun w => Try.sizeOf22 w) ky ky ky (fun w183 h184 => (wl_nil (then_at rfl (wl_region (zv (.pointer (some ⟨b4, 0, none⟩)) ?_)))))))))
    obtain ⟨x185, o186, r187, i188⟩ : ∃ x o r, Rs.nxt 16384 r176 = (x, o, r) := ⟨_, _, _, rfl⟩
    refine wl_callx ky enter53 _ ky (rsom_E hS180 h184 (by decide) i188) ?_
    rintro _ w192 ⟨rfl, s189, hS191, h190⟩
    refine ⟨_, rfl, ?_⟩
    have h193 := h190
    refine zv (.pointer (some ⟨q27, 23, none⟩)) (wl_putv (v := .string x185) h193 1 rfl 23 (by show 23 < 24; decide) ky (fun w => Try.sizeOf9 w) ky ky ky (fun w194 h195 => (wl_nil (block_normal ?_))))
    have h196 := h195.sub (List.Sublist.cons _ (List.Sublist.cons_cons _ (List.Sublist.cons_cons _ (List.Sublist.slnil))))
    exact then_I ⟨⟨((x18 : Nat) : Int), 0, 0, ⟨0, 0, { data := #[] }, [], { data := #[] }⟩, ⟨0, 0, { data := #[] }, { data := #[] }, 0, { data := #[] }, { data := #[] }, 0, { data := #[] }⟩, [], ((x163 : Nat) : Int), x174, 0, { data := #[] }, 0, x185⟩, none, 0, none, 0, [], [], exu ky ⟨(by rw [rdKr_5 q33 q46 q70 q93 q162]; simp only [i166, i177, i188]), (Nat.zero_le 1000000), (Nat.zero_le 1000000), Row.nil 67 3, Row.nil 9 1, h196⟩⟩}
   refine zu (.bool false) (run_eqi (k := .i64) (a := x18) (b := 5) ky ky false q162) (zv (.bool false) (wl_nil (then_at rfl (wp_cond_false ky (wp_seq (wp_seq (wl_region ?_)))))))
   rcases q197 : decide (x18 = 6) with _ | _; rotate_left
   {refine zu (.bool true) (run_eqi (k := .i64) (a := x18) (b := 6) ky ky true q197) (zv (.bool true) (wl_nil (then_at rfl (wp_cond_true ky (wp_skip (then_at rfl (wp_cond_true ky (wl_region (zv (.pointer (some ⟨b4, 0, none⟩)) ?_)))))))))
    obtain ⟨x198, o199, r200, i201⟩ : ∃ x o r, Rs.nxn 8 r20 = (x, o, r) := ⟨_, _, _, rfl⟩
    refine wl_callx ky enter50 #[.pointer (some ⟨b4, 0, none⟩), iN .i64 8] ky (rN_F hS24 (HA.perm h31 (List.Perm.swap _ _ _)) (by decide) (by decide) i201) ?_
    rintro _ w205 ⟨rfl, s202, hS204, h203⟩
    refine ⟨_, rfl, ?_⟩
    have h206 := h203
    refine zv (.tuple #[iN .u64 x198, .bool o199]) (zv (iN .u64 x198) (zv (.bool o199) (zv (.pointer (some ⟨q27, 20, none⟩)) (wl_putv (v := iN .u64 x198) h206 1 rfl 20 (by show 20 < 24; decide) ky (fun w => Try.sizeOf22 w) ky ky ky (fun w207 h208 => (wl_nil (block_normal ?_)))))))
    have h209 := h208.sub (List.Sublist.cons _ (List.Sublist.cons_cons _ (List.Sublist.cons_cons _ (List.Sublist.slnil))))
    exact then_I ⟨⟨((x18 : Nat) : Int), 0, 0, ⟨0, 0, { data := #[] }, [], { data := #[] }⟩, ⟨0, 0, { data := #[] }, { data := #[] }, 0, { data := #[] }, { data := #[] }, 0, { data := #[] }⟩, [], 0, 0, x198, { data := #[] }, 0, { data := #[] }⟩, none, 0, none, 0, [], [], exu ky ⟨(by rw [rdKr_6 q33 q46 q70 q93 q162 q197]; simp only [i201]), (Nat.zero_le 1000000), (Nat.zero_le 1000000), Row.nil 67 3, Row.nil 9 1, h209⟩⟩}
   refine zu (.bool false) (run_eqi (k := .i64) (a := x18) (b := 6) ky ky false q197) (zv (.bool false) (wl_nil (then_at rfl (wp_cond_false ky (wl_region ?_)))))
   rcases q210 : decide (x18 = 7) with _ | _; rotate_left
   {refine zu (.bool true) (run_eqi (k := .i64) (a := x18) (b := 7) ky ky true q210) (zv (.bool true) (wl_nil (then_at rfl (wp_cond_true ky (wl_region (zv (.pointer (some ⟨b4, 0, none⟩)) ?_))))))
    obtain ⟨x211, o212, r213, i214⟩ : ∃ x o r, Rs.nxn 8 r20 = (x, o, r) := ⟨_, _, _, rfl⟩
    refine wl_callx ky enter50 #[.pointer (some ⟨b4, 0, none⟩), iN .i64 8] ky (rN_F hS24 (HA.perm h31 (List.Perm.swap _ _ _)) (by decide) (by decide) i214) ?_
    rintro _ w218 ⟨rfl, s215, hS217, h216⟩
    refine ⟨_, rfl, ?_⟩
    have h219 := h216
    refine zv (.tuple #[iN .u64 x211, .bool o212]) (zv (iN .u64 x211) (zv (.bool o212) (zv (.pointer (some ⟨q27, 20, none⟩)) (wl_putv (v := iN .u64 x211) h219 1 rfl 20 (by show 20 < 24; decide) ky (fun w => Try.sizeOf22 w) ky ky ky (fun w220 h221 => (wl_nil (block_normal ?_)))))))
    have h222 := h221.sub (List.Sublist.cons _ (List.Sublist.cons_cons _ (List.Sublist.cons_cons _ (List.Sublist.slnil))))
    exact then_I ⟨⟨((x18 : Nat) : Int), 0, 0, ⟨0, 0, { data := #[] }, [], { data := #[] }⟩, ⟨0, 0, { data := #[] }, { data := #[] }, 0, { data := #[] }, { data := #[] }, 0, { data := #[] }⟩, [], 0, 0, x211, { data := #[] }, 0, { data := #[] }⟩, none, 0, none, 0, [], [], exu ky ⟨(by rw [rdKr_7 q33 q46 q70 q93 q162 q197 q210]; simp only [i214]), (Nat.zero_le 1000000), (Nat.zero_le 1000000), Row.nil 67 3, Row.nil 9 1, h222⟩⟩}
   refine zu (.bool false) (run_eqi (k := .i64) (a := x18) (b := 7) ky ky false q210) (zv (.bool false) (wl_nil (then_at rfl (wp_cond_false ky (wp_seq (wl_region ?_))))))
   rcases q223 : decide (x18 = 8) with _ | _; rotate_left
   {refine zu (.bool true) (run_eqi (k := .i64) (a := x18) (b := 8) ky ky true q223) (zv (.bool true) (wl_nil (then_at rfl (wp_cond_true ky (wp_seq (wl_region (zv (.pointer (some ⟨b4, 0, none⟩)) ?_)))))))
    obtain ⟨x224, o225, r226, i227⟩ : ∃ x o r, Rs.nxt 1000 r20 = (x, o, r) := ⟨_, _, _, rfl⟩
    refine wl_callx ky enter53 #[.pointer (some ⟨b4, 0, none⟩), iN .i64 1000] ky (rsom_E hS24 (HA.perm h31 (List.Perm.swap _ _ _)) (by decide) i227) ?_
    rintro _ w231 ⟨rfl, s228, hS230, h229⟩
    refine ⟨_, rfl, ?_⟩
    have h232 := h229
    refine zv (.pointer (some ⟨q27, 21, none⟩)) (wl_putv (v := .string x224) h232 1 rfl 21 (by show 21 < 24; decide) ky (fun w => Try.sizeOf9 w) ky ky ky (fun w233 h234 => (wl_nil (then_at rfl (wp_seq (wl_region (zv (.pointer (some ⟨b4, 0, none⟩)) ?_)))))))
    obtain ⟨x235, o236, r237, i238⟩ : ∃ x o r, Rs.nxn 1 r226 = (x, o, r) := ⟨_, _, _, rfl⟩
    refine wl_callx ky enter51 _ ky (rfew_E hS230 h234 (by decide) (by decide) (Rs.nxn_lt (by decide) i238) i238) ?_
    rintro _ w242 ⟨rfl, s239, hS241, h240⟩
    refine ⟨_, rfl, ?_⟩
    have h243 := h240
    refine zv (.pointer (some ⟨q27, 22, none⟩)) (wl_putv (v := iN .i64 x235) h243 1 rfl 22 (by show 22 < 24; decide) ky (fun w => Try.sizeOf3 w) ky ky ky (fun w244 h245 => (wl_nil (then_at rfl (wl_region (zv (.pointer (some ⟨b4, 0, none⟩)) ?_))))))
    obtain ⟨x246, o247, r248, i249⟩ : ∃ x o r, Rs.nxt 16384 r237 = (x, o, r) := ⟨_, _, _, rfl⟩
    refine wl_callx ky enter53 _ ky (rsom_E hS241 h245 (by decide) i249) ?_
    rintro _ w253 ⟨rfl, s250, hS252, h251⟩
    refine ⟨_, rfl, ?_⟩
    have h254 := h251
    refine zv (.pointer (some ⟨q27, 23, none⟩)) (wl_putv (v := .string x246) h254 1 rfl 23 (by show 23 < 24; decide) ky (fun w => Try.sizeOf9 w) ky ky ky (fun w255 h256 => (wl_nil (block_normal ?_))))
    have h257 := h256.sub (List.Sublist.cons _ (List.Sublist.cons_cons _ (List.Sublist.cons_cons _ (List.Sublist.slnil))))
    exact then_I ⟨⟨((x18 : Nat) : Int), 0, 0, ⟨0, 0, { data := #[] }, [], { data := #[] }⟩, ⟨0, 0, { data := #[] }, { data := #[] }, 0, { data := #[] }, { data := #[] }, 0, { data := #[] }⟩, [], 0, 0, 0, x224, ((x235 : Nat) : Int), x246⟩, none, 0, none, 0, [], [], exu ky ⟨(by rw [rdKr_8 q33 q46 q70 q93 q162 q197 q210 q223]; simp only [i227, i238, i249]), (Nat.zero_le 1000000), (Nat.zero_le 1000000), Row.nil 67 3, Row.nil 9 1, h257⟩⟩}
   refine zu (.bool false) (run_eqi (k := .i64) (a := x18) (b := 8) ky ky false q223) (zv (.bool false) (wl_nil (then_at rfl (wp_cond_false ky (wp_seq (wl_region ?_))))))
   rcases q258 : decide (x18 = 9) with _ | _; rotate_left
   {refine zu (.bool true) (run_eqi (k := .i64) (a := x18) (b := 9) ky ky true q258) (zv (.bool true) (wl_nil (then_at rfl (wp_cond_true ky (wp_seq (wl_region (zv (.pointer (some ⟨b4, 0, none⟩)) ?_)))))))
    obtain ⟨x259, o260, r261, i262⟩ : ∃ x o r, Rs.nxt 1000 r20 = (x, o, r) := ⟨_, _, _, rfl⟩
    refine wl_callx ky enter53 #[.pointer (some ⟨b4, 0, none⟩), iN .i64 1000] ky (rsom_E hS24 (HA.perm h31 (List.Perm.swap _ _ _)) (by decide) i262) ?_
    rintro _ w266 ⟨rfl, s263, hS265, h264⟩
    refine ⟨_, rfl, ?_⟩
    have h267 := h264
    refine zv (.pointer (some ⟨q27, 21, none⟩)) (wl_putv (v := .string x259) h267 1 rfl 21 (by show 21 < 24; decide) ky (fun w => Try.sizeOf9 w) ky ky ky (fun w268 h269 => (wl_nil (then_at rfl (wl_region (zv (.pointer (some ⟨b4, 0, none⟩)) ?_))))))
    obtain ⟨x270, o271, r272, i273⟩ : ∃ x o r, Rs.nxn 1 r261 = (x, o, r) := ⟨_, _, _, rfl⟩
    refine wl_callx ky enter51 _ ky (rfew_E hS265 h269 (by decide) (by decide) (Rs.nxn_lt (by decide) i273) i273) ?_
    rintro _ w277 ⟨rfl, s274, hS276, h275⟩
    refine ⟨_, rfl, ?_⟩
    have h278 := h275
    refine zv (.pointer (some ⟨q27, 22, none⟩)) (wl_putv (v := iN .i64 x270) h278 1 rfl 22 (by show 22 < 24; decide) ky (fun w => Try.sizeOf3 w) ky ky ky (fun w279 h280 => (wl_nil (block_normal ?_))))
    have h281 := h280.sub (List.Sublist.cons _ (List.Sublist.cons_cons _ (List.Sublist.cons_cons _ (List.Sublist.slnil))))
    exact then_I ⟨⟨((x18 : Nat) : Int), 0, 0, ⟨0, 0, { data := #[] }, [], { data := #[] }⟩, ⟨0, 0, { data := #[] }, { data := #[] }, 0, { data := #[] }, { data := #[] }, 0, { data := #[] }⟩, [], 0, 0, 0, x259, ((x270 : Nat) : Int), { data := #[] }⟩, none, 0, none, 0, [], [], exu ky ⟨(by rw [rdKr_9 q33 q46 q70 q93 q162 q197 q210 q223 q258]; simp only [i262, i273]), (Nat.zero_le 1000000), (Nat.zero_le 1000000), Row.nil 67 3, Row.nil 9 1, h281⟩⟩}
   refine zu (.bool false) (run_eqi (k := .i64) (a := x18) (b := 9) ky ky false q258) (zv (.bool false) (wl_nil (then_at rfl (wp_cond_false ky (wp_skip (block_normal ?_))))))
   have h282 := h31.sub (List.Sublist.cons_cons _ (List.Sublist.cons _ (List.Sublist.cons_cons _ (List.Sublist.slnil))))
   exact then_I ⟨⟨((x18 : Nat) : Int), 0, 0, ⟨0, 0, { data := #[] }, [], { data := #[] }⟩, ⟨0, 0, { data := #[] }, { data := #[] }, 0, { data := #[] }, { data := #[] }, 0, { data := #[] }⟩, [], 0, 0, 0, { data := #[] }, 0, { data := #[] }⟩, none, 0, none, 0, [], [], exu ky ⟨(by rw [rdKr_0 q33 q46 q70 q93 q162 q197 q210 q223 q258]), (Nat.zero_le 1000000), (Nat.zero_le 1000000), Row.nil 67 3, Row.nil 9 1, h282⟩⟩}
  {rintro _ w283 ⟨cc, pa, ca, pb, cb, La, Lb, u32, rfl, hK, hla, hlb, hRa, hRb, h284⟩
   refine wp_seq (wl_region (zv (iN .u64 x9) (wl_load h284 0 rfl ky ky Try.underlying30 rfl ky ?_)))
   obtain ⟨y285, e286, iE287⟩ : ∃ y e, encC x9 cc = (y, e) := ⟨_, _, rfl⟩
   refine zl (.tuple #[.string y285, iN .i64 e286]) h284 enter9 #[iN .u64 x9, .agg (caC cc (.slice pa cc.li.ds.length ca) (.slice pb cc.on.length cb))] (rec_E cc (At.row hRa (fun y hy => h284.blk y (by simp [hy]))) (At.row hRb (fun y hy => h284.blk y (by simp [hy]))) hla hlb iE287) (fun w288 h289 => (zv (.tuple #[.string y285, iN .i64 e286]) (zv (.string y285) (zv (iN .i64 e286) (zv (.string y285) (zv (iN .i64 e286) (wl_nil (then_at rfl (wp_seq (wp_seq (wl_region (zv (iN .i64 e286) ?_))))))))))))
   rcases q290 : decide (e286 = 0) with _ | _
   {refine zu (.bool true) (run_neN (k := .i64) (a := e286) (b := 0) ky ky false q290) (zv (.bool true) (zk (zk (zk (zv (.bool true) (wl_nil (then_at rfl (wp_cond_true ky (wp_seq (wl_region (zv (.agg #[iN .i64 0, iN .i64 0, iN .i64 0, iN .i64 0, iN .i64 0, .string ({ data := #[] }), .slice none 0 0, .string ({ data := #[] }), iN .i64 0, iN .i64 0, .string ({ data := #[] }), .string ({ data := #[] }), iN .i64 0, .string ({ data := #[] }), .string ({ data := #[] }), iN .i64 0, .string ({ data := #[] }), .slice none 0 0, iN .i64 0, iN .u64 0, iN .u64 0, .string ({ data := #[] }), iN .i64 0, .string ({ data := #[] })]) (zv (iN .u64 0) (wl_fill (c' := #[iN .i64 0, iN .i64 0, iN .i64 0, iN .i64 0, iN .i64 0, .string ({ data := #[] }), .slice none 0 0, .string ({ data := #[] }), iN .i64 0, iN .i64 0, .string ({ data := #[] }), .string ({ data := #[] }), iN .i64 0, .string ({ data := #[] }), .string ({ data := #[] }), iN .i64 0, .string ({ data := #[] }), .slice none 0 0, iN .i64 0, iN .u64 0, iN .u64 0, .string ({ data := #[] }), iN .i64 0, .string ({ data := #[] })]) h289 1 rfl ky ky ky rfl ky ky (fun w291 h292 => (zv (iN .i64 4) (wl_nil (then_at rfl (wp_ret ?_))))))))))))))))))
    repeat first|refine tr ?_|refine block_ret ?_
    have hrd : rdCr (bl s) = (x9, cc) := by unfold rdCr; simp only [i12, i21]; rw [hK]
    have hd := decCr_n hrd iE287 (af_1 q290)
    exact bodyPost_ret (v := .tuple #[iN .u64 0, .agg (#[iN .i64 0, iN .i64 0, iN .i64 0, iN .i64 0, iN .i64 0, .string ({ data := #[] }), .slice none 0 0, .string ({ data := #[] }), iN .i64 0, iN .i64 0, .string ({ data := #[] }), .string ({ data := #[] }), iN .i64 0, .string ({ data := #[] }), .string ({ data := #[] }), iN .i64 0, .string ({ data := #[] }), .slice none 0 0, iN .i64 0, iN .u64 0, iN .u64 0, .string ({ data := #[] }), iN .i64 0, .string ({ data := #[] })]), iN .i64 4]) (res3 (r := 2) (p := 3) (r2 := 4) ky ky ky (h292.get 1 rfl) Try.underlying30 rfl ky ky) rfl ⟨.slice none 0 0, .slice none 0 0, [], [], by rw [hd]; rfl, by rw [hd]; exact Row.nil 67 3, by rw [hd]; exact Row.nil 9 1, h292.sub (List.nil_sublist _)⟩}
   refine zu (.bool false) (run_neN (k := .i64) (a := e286) (b := 0) ky ky true q290) (zv (.bool false) (zv (.string y285) (zv (.string s) ?_)))
   rcases q293 : decide (y285 = s) with _ | _
   {refine zu (.bool true) (run_nes (s := y285) (t := s) ky ky true ((q293).trans rfl)) (zv (.bool true) (wl_nil (then_at rfl (wp_cond_true ky (wp_seq (wl_region (zv (.agg #[iN .i64 0, iN .i64 0, iN .i64 0, iN .i64 0, iN .i64 0, .string ({ data := #[] }), .slice none 0 0, .string ({ data := #[] }), iN .i64 0, iN .i64 0, .string ({ data := #[] }), .string ({ data := #[] }), iN .i64 0, .string ({ data := #[] }), .string ({ data := #[] }), iN .i64 0, .string ({ data := #[] }), .slice none 0 0, iN .i64 0, iN .u64 0, iN .u64 0, .string ({ data := #[] }), iN .i64 0, .string ({ data := #[] })]) (zv (iN .u64 0) (wl_fill (c' := #[iN .i64 0, iN .i64 0, iN .i64 0, iN .i64 0, iN .i64 0, .string ({ data := #[] }), .slice none 0 0, .string ({ data := #[] }), iN .i64 0, iN .i64 0, .string ({ data := #[] }), .string ({ data := #[] }), iN .i64 0, .string ({ data := #[] }), .string ({ data := #[] }), iN .i64 0, .string ({ data := #[] }), .slice none 0 0, iN .i64 0, iN .u64 0, iN .u64 0, .string ({ data := #[] }), iN .i64 0, .string ({ data := #[] })]) h289 1 rfl ky ky ky rfl ky ky (fun w294 h295 => (zv (iN .i64 4) (wl_nil (then_at rfl (wp_ret ?_))))))))))))))
    repeat first|refine tr ?_|refine block_ret ?_
    have hrd : rdCr (bl s) = (x9, cc) := by unfold rdCr; simp only [i12, i21]; rw [hK]
    have hd := decCr_n hrd iE287 (af_2 q293)
    exact bodyPost_ret (v := .tuple #[iN .u64 0, .agg (#[iN .i64 0, iN .i64 0, iN .i64 0, iN .i64 0, iN .i64 0, .string ({ data := #[] }), .slice none 0 0, .string ({ data := #[] }), iN .i64 0, iN .i64 0, .string ({ data := #[] }), .string ({ data := #[] }), iN .i64 0, .string ({ data := #[] }), .string ({ data := #[] }), iN .i64 0, .string ({ data := #[] }), .slice none 0 0, iN .i64 0, iN .u64 0, iN .u64 0, .string ({ data := #[] }), iN .i64 0, .string ({ data := #[] })]), iN .i64 4]) (res3 (r := 2) (p := 3) (r2 := 4) ky ky ky (h295.get 1 rfl) Try.underlying30 rfl ky ky) rfl ⟨.slice none 0 0, .slice none 0 0, [], [], by rw [hd]; rfl, by rw [hd]; exact Row.nil 67 3, by rw [hd]; exact Row.nil 9 1, h295.sub (List.nil_sublist _)⟩}
   refine zu (.bool false) (run_nes (s := y285) (t := s) ky ky false ((q293).trans rfl)) (zv (.bool false) (wl_nil (then_at rfl (wp_cond_false ky (wp_skip (then_at rfl (wp_seq ?_)))))))
   refine wp_region_wx (fun w' => Blk w' q27 30 (caC cc (.slice pa cc.li.ds.length ca) (.slice pb cc.on.length cb))) (fun AQ w' => AQ = ⟨(.string s :: un :: iN .u64 x9 :: pt q1 :: iN .i64 0 :: pt b4 :: iN .u64 x9 :: .bool o10 :: pt q27 :: u32 9 :: u32 10 :: .string y285 :: iN .i64 e286 :: .string s :: pt b4 :: .tuple #[iN .u64 x9, .bool o10] :: pt b4 :: .tuple #[iN .u64 x9, .bool o10] :: iN .u64 x9 :: .bool o10 :: pt b4 :: iN .i64 x18 :: .agg #[iN .i64 x18, iN .i64 0, iN .i64 0, iN .i64 0, iN .i64 0, .string ({ data := #[] }), .slice none 0 0, .string ({ data := #[] }), iN .i64 0, iN .i64 0, .string ({ data := #[] }), .string ({ data := #[] }), iN .i64 0, .string ({ data := #[] }), .string ({ data := #[] }), iN .i64 0, .string ({ data := #[] }), .slice none 0 0, iN .i64 0, iN .u64 0, iN .u64 0, .string ({ data := #[] }), iN .i64 0, .string ({ data := #[] })] :: u32 23 :: u32 24 :: u32 25 :: u32 26 :: u32 27 :: u32 28 :: u32 29 :: u32 30 :: u32 31 :: u32 32 :: u32 33 :: u32 34 :: u32 35 :: u32 36 :: u32 37 :: u32 38 :: u32 39 :: u32 40 :: u32 41 :: u32 42 :: u32 43 :: u32 44 :: u32 45 :: u32 46 :: u32 47 :: u32 48 :: u32 49 :: u32 50 :: u32 51 :: u32 52 :: u32 53 :: u32 54 :: u32 55 :: u32 56 :: u32 57 :: u32 58 :: u32 59 :: u32 60 :: u32 61 :: u32 62 :: u32 63 :: u32 64 :: u32 65 :: u32 66 :: u32 67 :: u32 68 :: u32 69 :: u32 70 :: u32 71 :: u32 72 :: u32 73 :: u32 74 :: u32 75 :: u32 76 :: u32 77 :: u32 78 :: u32 79 :: u32 80 :: u32 81 :: u32 82 :: u32 83 :: u32 84 :: u32 85 :: u32 86 :: u32 87 :: u32 88 :: u32 89 :: u32 90 :: u32 91 :: u32 92 :: u32 93 :: u32 94 :: u32 95 :: u32 96 :: u32 97 :: u32 98 :: u32 99 :: u32 100 :: u32 101 :: u32 102 :: u32 103 :: u32 104 :: u32 105 :: u32 106 :: u32 107 :: u32 108 :: u32 109 :: u32 110 :: u32 111 :: u32 112 :: u32 113 :: u32 114 :: u32 115 :: .tuple #[.string y285, iN .i64 e286] :: iN .u64 x9 :: .agg (caC cc (.slice pa cc.li.ds.length ca) (.slice pb cc.on.length cb)) :: .tuple #[.string y285, iN .i64 e286] :: .string y285 :: iN .i64 e286 :: iN .i64 e286 :: .bool false :: .bool false :: .string y285 :: .string s :: .bool false :: .bool false :: un :: iN .u64 x9 :: .agg (caC cc (.slice pa cc.li.ds.length ca) (.slice pb cc.on.length cb)) :: List.replicate 0 un).toArray, []⟩ ∧ HA (bs w) ((q27, 30, caC cc (.slice pa cc.li.ds.length ca) (.slice pb cc.on.length cb)) :: (q1, 30, #[.int .i64 cc.kd, .int .i64 cc.us, .int .i64 cc.dv, .int .i64 cc.li.u, .int .i64 cc.li.v, .string cc.li.ac, .slice pa cc.li.ds.length ca, .string cc.li.sg, .int .i64 cc.bu.u, .int .i64 cc.bu.d, .string cc.bu.sg, .string cc.bu.dh, .int .i64 cc.bu.pi, .string cc.bu.pr, .string cc.bu.ps, .int .i64 cc.bu.oi, .string cc.bu.on, .slice pb cc.on.length cb, .int .i64 cc.tt, iN .u64 cc.no, iN .u64 cc.af, .string cc.nm, .int .i64 cc.ix, .string cc.bt]) :: (La ++ (Lb ++ []))) w') 5 ky ky ky ky ky ((h289.drew).get 0 rfl) ?_ ?_
   {have h296 := h289.drew
    refine zp 0 (iN .u64 x9) (zx 1 (.agg (caC cc (.slice pa cc.li.ds.length ca) (.slice pb cc.on.length cb))) rfl (fun w' h' => run_load_blk ky h' Try.underlying30 rfl ky) (zp 2 (iN .u64 x9) (wx_one 3 ky ?_)))
    refine ex_puts (d := caC cc (.slice pa cc.li.ds.length ca) (.slice pb cc.on.length cb)) (c' := #[.int .i64 cc.kd, .int .i64 cc.us, .int .i64 cc.dv, .int .i64 cc.li.u, .int .i64 cc.li.v, .string cc.li.ac, .slice pa cc.li.ds.length ca, .string cc.li.sg, .int .i64 cc.bu.u, .int .i64 cc.bu.d, .string cc.bu.sg, .string cc.bu.dh, .int .i64 cc.bu.pi, .string cc.bu.pr, .string cc.bu.ps, .int .i64 cc.bu.oi, .string cc.bu.on, .slice pb cc.on.length cb, .int .i64 cc.tt, iN .u64 cc.no, iN .u64 cc.af, .string cc.nm, .int .i64 cc.ix, .string cc.bt]) (off := 0) rfl ky h296 1 rfl ky ky ky ky ky ky ?_
    intro w300 h299
    refine ⟨_, .inr rfl, (h299.get 0 rfl), ?_⟩
    refine zp 4 (iN .i64 0) ?_
    refine wx_end fun w301 hbx _ => ?_
    have h302 := HA.keep _ _ h299 hbx
    exact ⟨by kernel_rfl, h302⟩}
   {rintro _ w303 ⟨rfl, h304⟩
    refine then_at rfl ?_
    refine wp_ret ?_
    repeat first|refine tr ?_|refine block_ret ?_
    have hrd : rdCr (bl s) = (x9, cc) := by unfold rdCr; simp only [i12, i21]; rw [hK]
    have hd := decCr_y hrd iE287 q290 q293
    exact bodyPost_ret (v := .tuple #[iN .u64 x9, .agg (#[.int .i64 cc.kd, .int .i64 cc.us, .int .i64 cc.dv, .int .i64 cc.li.u, .int .i64 cc.li.v, .string cc.li.ac, .slice pa cc.li.ds.length ca, .string cc.li.sg, .int .i64 cc.bu.u, .int .i64 cc.bu.d, .string cc.bu.sg, .string cc.bu.dh, .int .i64 cc.bu.pi, .string cc.bu.pr, .string cc.bu.ps, .int .i64 cc.bu.oi, .string cc.bu.on, .slice pb cc.on.length cb, .int .i64 cc.tt, iN .u64 cc.no, iN .u64 cc.af, .string cc.nm, .int .i64 cc.ix, .string cc.bt]), iN .i64 0]) (res3 (r := 2) (p := 3) (r2 := 4) ky ky ky (h304.get 1 rfl) Try.underlying30 rfl ky ky) rfl ⟨.slice pa cc.li.ds.length ca, .slice pb cc.on.length cb, La, Lb, by rw [hd]; rfl, by rw [hd]; exact hRa, by rw [hd]; exact hRb, h304.sub (List.Sublist.cons _ (List.Sublist.cons _ (List.Sublist.refl _)))⟩}}
end Go.Proofs.Ytiogegoepgkjlaa
