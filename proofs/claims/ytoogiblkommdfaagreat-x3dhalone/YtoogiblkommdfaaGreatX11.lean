/-
  X3dhAlone: the law.
-/
import Derived.Test.YtoogiblkommdfaaGreatX10
namespace Go.Proofs.YtoogiblkommdfaaGreat
open Go.RowKit

def tS : ByteArray := { data := #[115] }
theorem wo_tS : wo tS = true := by kernel_rfl
def tD : ByteArray := { data := #[100] }
theorem wo_tD : wo tD = true := by kernel_rfl
def tP : ByteArray := { data := #[112] }
theorem wo_tP : wo tP = true := by kernel_rfl
def tG : ByteArray := { data := #[103] }
theorem wo_tG : wo tG = true := by kernel_rfl
def tO : ByteArray := { data := #[111] }
theorem wo_tO : wo tO = true := by kernel_rfl
theorem mayX_eq (u d p o : Int) (sg dh pr ps on : ByteArray) : mayX ⟨u, d, sg, dh, p, pr, ps, o, on⟩ = (wi u 0 2 && wi d 0 1 && wi p 1 1073741824 && (wo sg && wo dh && wo pr && wo ps) && (decide (o = 0 ∧ on = { data := #[] }) || (wi o 1 1073741824 && wo on))) := by
  unfold mayX
  have e : decide ((⟨u, d, sg, dh, p, pr, ps, o, on⟩ : Bu) = bare ⟨u, d, sg, dh, p, pr, ps, o, on⟩) = decide (o = 0 ∧ on = { data := #[] }) := by
    apply decide_eq_decide.2
    unfold bare
    simp only [Bu.mk.injEq, true_and]
  rw [e]
theorem w_1 : wi 1 0 2 = true := by kernel_rfl
theorem w_2 : wi 1 0 1 = true := by kernel_rfl
theorem w_3 : wi 1 1 1073741824 = true := by kernel_rfl
theorem wi_y {v lo hi : Int} (h : lo ≤ v) (h2 : v ≤ hi) : wi v lo hi = true := by rw [wi, decide_eq_true h, decide_eq_true h2]; rfl
theorem wi_n1 {v lo hi : Int} (h : ¬ lo ≤ v) : wi v lo hi = false := by rw [wi, decide_eq_false h]; rfl
theorem wi_n2 {v lo hi : Int} (h : ¬ v ≤ hi) : wi v lo hi = false := by rw [wi, decide_eq_false h, Bool.and_false]
theorem tO_ne : ¬ tO = { data := #[] } := by decide +kernel
theorem firstT_0 (s : ByteArray) : firstT 0 s = none := by unfold firstT; rw [if_neg (fun h => absurd h.2.2 (Nat.not_lt_zero _))]
theorem vrf_nil (pub txs sg : ByteArray) : vrfA [] pub txs sg = false := by
  unfold vrfA numT
  split
  · rfl
  · next h =>
    rw [show ([] : List Ent).length = 0 from rfl, firstT_0] at h
    split at h <;> cases h
theorem al_0 (n : Int) : mayX ⟨n, 1, tS, tD, 1, tP, tG, 1, tO⟩ = wi n 0 2 := by
  rw [mayX_eq]
  simp [w_2, w_3, wo_tS, wo_tD, wo_tP, wo_tG, wo_tO, tO_ne]
theorem al_1 (n : Int) : mayX ⟨1, n, tS, tD, 1, tP, tG, 1, tO⟩ = wi n 0 1 := by
  rw [mayX_eq]
  simp [w_1, w_3, wo_tS, wo_tD, wo_tP, wo_tG, wo_tO, tO_ne]
theorem al_2 (n : Int) : mayX ⟨1, 1, tS, tD, n, tP, tG, 1, tO⟩ = wi n 1 1073741824 := by
  rw [mayX_eq]
  simp [w_1, w_2, w_3, wo_tS, wo_tD, wo_tP, wo_tG, wo_tO, tO_ne]
theorem al_3 (n : Int) : mayX ⟨1, 1, tS, tD, 1, tP, tG, n, tO⟩ = wi n 1 1073741824 := by
  rw [mayX_eq]
  simp [w_1, w_2, w_3, wo_tS, wo_tD, wo_tP, wo_tG, wo_tO, tO_ne]
theorem al_4 (s : ByteArray) : mayX ⟨1, 1, s, tD, 1, tP, tG, 1, tO⟩ = wo s := by
  rw [mayX_eq]
  simp [w_1, w_2, w_3, wo_tD, wo_tP, wo_tG, wo_tO, tO_ne]
theorem al_5 (s : ByteArray) : mayX ⟨1, 1, tS, s, 1, tP, tG, 1, tO⟩ = wo s := by
  rw [mayX_eq]
  simp [w_1, w_2, w_3, wo_tS, wo_tP, wo_tG, wo_tO, tO_ne]
theorem al_6 (s : ByteArray) : mayX ⟨1, 1, tS, tD, 1, s, tG, 1, tO⟩ = wo s := by
  rw [mayX_eq]
  simp [w_1, w_2, w_3, wo_tS, wo_tD, wo_tG, wo_tO, tO_ne]
theorem al_7 (s : ByteArray) : mayX ⟨1, 1, tS, tD, 1, tP, s, 1, tO⟩ = wo s := by
  rw [mayX_eq]
  simp [w_1, w_2, w_3, wo_tS, wo_tD, wo_tP, wo_tO, tO_ne]
theorem al_8 (s : ByteArray) : mayX ⟨1, 1, tS, tD, 1, tP, tG, 1, s⟩ = wo s := by
  rw [mayX_eq]
  simp [w_1, w_2, w_3, wo_tS, wo_tD, wo_tP, wo_tG]
set_option linter.unusedVariables false in
set_option maxRecDepth 100000 in
set_option maxHeartbeats 2000000 in
theorem aloneL {w : World} (which : Nat) (hw : which < 256) (n : Int) (hn : -9223372036854775808 ≤ n ∧ n ≤ 9223372036854775807) (s : ByteArray) (hs : s.size ≤ 140737488351232) :
    Calls Tryz.prog 8 #[iN .u8 which, .int .i64 n, .string s] w fun e w' => e = .returned (.bool true) ∧ Below w.heap.size w w' := by
  have H0 : HA ⟨w, []⟩ [] w := HA.start w
  go_enter Tryz.func8, Tryz.ntmps8
  refine wp_seq (wl_region ?_)
  refine zv (.bool false) ?_
  refine wl_nil (then_at rfl (wp_seq (wp_seq (wl_region ?_))))
  refine wl_call (v := .bool true) H0 ky enter14 #[] ky (works_P w) ?_
  intro w1 h2
  refine zv (.bool false) ?_
  refine wl_nil (then_at rfl ?_)
  refine wp_cond_false ky ?_
  refine wp_skip (then_at rfl (wp_seq (wl_region ?_)))
  refine zv (.agg (buC (⟨1, 1, tS, tD, 1, tP, tG, 1, tO⟩ : Bu))) ?_
  refine wl_make (c := #[iN .i64 0, iN .i64 0, .string ({ data := #[] }), .string ({ data := #[] }), iN .i64 0, .string ({ data := #[] }), .string ({ data := #[] }), iN .i64 0, .string ({ data := #[] })]) h2 23 ky ky ?_
  intro q3 w4 (h5 : HA ⟨w, []⟩ [(q3, 23, #[iN .i64 0, iN .i64 0, .string ({ data := #[] }), .string ({ data := #[] }), iN .i64 0, .string ({ data := #[] }), .string ({ data := #[] }), iN .i64 0, .string ({ data := #[] })])] w4)
  refine wl_fill (c' := buC (⟨1, 1, tS, tD, 1, tP, tG, 1, tO⟩ : Bu)) h5 0 rfl ky ky ky rfl ky ky ?_
  intro w6 (h7 : HA ⟨w, []⟩ [(q3, 23, buC (⟨1, 1, tS, tD, 1, tP, tG, 1, tO⟩ : Bu))] w6)
  refine wl_nil (then_at rfl (wp_seq ?_))
  refine Code.wp_mono (Q := fun ex AQ w' => ex = Exit.normal ∧ ∃ (bt : Bool) (u8 : Nat → Value), AQ = ⟨(iN .u8 which :: .int .i64 n :: .string s :: un :: un :: un :: .bool false :: pt q3 :: .bool bt :: un :: un :: un :: un :: un :: un :: .bool true :: .bool false :: .agg (buC (⟨1, 1, tS, tD, 1, tP, tG, 1, tO⟩ : Bu)) :: u8 18 :: u8 19 :: u8 20 :: u8 21 :: u8 22 :: u8 23 :: u8 24 :: u8 25 :: List.replicate 94 un).toArray, []⟩ ∧ wo s = bt ∧ HA ⟨w, []⟩ [(q3, 23, buC (⟨1, 1, tS, tD, 1, tP, tG, 1, tO⟩ : Bu))] w') ?_ ?_
  · rintro _ _ w9 ⟨rfl, bt, u8, rfl, hbt, hT4⟩
    refine then_at rfl (wp_seq (wl_region ?_))
    refine zv (.bool bt) ?_
    refine zv (.bool bt) ?_
    refine wl_nil (then_at rfl (wp_seq ?_))
    refine Code.wp_mono (Q := fun ex AQ w' => ex = Exit.normal ∧ ∃ (x : Bu) (bm : Bool) (u10 : Nat → Value), AQ = ⟨(iN .u8 which :: .int .i64 n :: .string s :: un :: un :: un :: .bool false :: pt q3 :: .bool bt :: .bool bm :: un :: un :: un :: un :: un :: .bool true :: .bool false :: .agg (buC (⟨1, 1, tS, tD, 1, tP, tG, 1, tO⟩ : Bu)) :: u8 18 :: u8 19 :: u8 20 :: u8 21 :: u8 22 :: u8 23 :: u8 24 :: u8 25 :: .bool bt :: u10 27 :: u10 28 :: u10 29 :: u10 30 :: u10 31 :: u10 32 :: u10 33 :: u10 34 :: u10 35 :: u10 36 :: u10 37 :: u10 38 :: u10 39 :: u10 40 :: u10 41 :: u10 42 :: u10 43 :: u10 44 :: u10 45 :: u10 46 :: u10 47 :: u10 48 :: u10 49 :: u10 50 :: u10 51 :: u10 52 :: u10 53 :: u10 54 :: u10 55 :: u10 56 :: u10 57 :: u10 58 :: u10 59 :: u10 60 :: u10 61 :: u10 62 :: u10 63 :: u10 64 :: u10 65 :: u10 66 :: u10 67 :: u10 68 :: u10 69 :: u10 70 :: u10 71 :: u10 72 :: u10 73 :: u10 74 :: u10 75 :: u10 76 :: u10 77 :: u10 78 :: u10 79 :: u10 80 :: u10 81 :: u10 82 :: u10 83 :: u10 84 :: u10 85 :: u10 86 :: List.replicate 33 un).toArray, []⟩ ∧ mayX x = bm ∧ HA ⟨w, []⟩ [(q3, 23, buC x)] w') ?_ ?_
    · rintro _ _ w11 ⟨rfl, x, bm, u10, rfl, hbm, hT0⟩
      rcases bm with _ | _
      · clear hbt
        refine then_at rfl (wp_seq (wl_region ?_))
        refine wl_load hT0 0 rfl ky ky Tryz.underlying23 rfl ky ?_
        refine wl_call (v := .tuple #[.string ({ data := #[] }), iN .i64 2]) hT0 ky enter10 #[.agg (buC x)] ky (enc_E (show encA x = _ by unfold encA; rw [hbm]; rfl)) ?_
        intro w12 h13
        refine zv (.tuple #[.string ({ data := #[] }), iN .i64 2]) ?_
        refine zv (.string ({ data := #[] })) ?_
        refine zv (iN .i64 2) ?_
        refine zv (.string ({ data := #[] })) ?_
        refine zv (iN .i64 2) ?_
        refine wl_nil (then_at rfl (wp_seq (wl_region ?_)))
        refine wl_callx ky enter15 #[iN .i64 1] ky (New_P h13) ?_
        rintro _ w16 ⟨p14, rfl, hD15⟩
        refine ⟨_, rfl, ?_⟩
        obtain ⟨z17, X18, hcl19, hbe20, h21⟩ := PH.front hD15
        have h22 : HA z17 ((q3, 23, buC x) :: X18) w16 := h21
        refine zv (.tuple #[.pointer (some ⟨p14.q, 0, none⟩), iN .i64 0]) ?_
        refine zv (.pointer (some ⟨p14.q, 0, none⟩)) ?_
        refine zv (iN .i64 0) ?_
        refine zv (.pointer (some ⟨p14.q, 0, none⟩)) ?_
        refine zv (iN .i64 0) ?_
        refine wl_nil (then_at rfl (wp_seq (wl_region ?_)))
        refine zv (.pointer (some ⟨p14.q, 0, none⟩)) ?_
        refine wl_load h22 0 rfl ky ky Tryz.underlying23 rfl ky ?_
        refine wl_callx ky enter26 #[.pointer (some ⟨p14.q, 0, none⟩), .agg (buC x)] ky (chk_a (hcl19 ((q3, 23, buC x) :: []) _ h22) x hbm) ?_
        rintro _ w24 ⟨rfl, hD23⟩
        refine ⟨_, rfl, ?_⟩
        obtain ⟨z25, X26, hcl27, hbe28, h29⟩ := PH.front hD23
        have h30 : HA z25 ((q3, 23, buC x) :: X26) w24 := h29
        refine zv (iN .i64 2) ?_
        refine wl_nil (then_at rfl (wp_seq (wl_region ?_)))
        refine zv (.bool false) ?_
        refine zv (.bool false) ?_
        refine wl_skip ky ?_
        refine wl_skip ky ?_
        refine zv (.bool false) ?_
        refine zv (.bool false) ?_
        refine wl_skip ky ?_
        refine wl_skip ky ?_
        refine zv (.bool false) ?_
        refine zv (.bool false) ?_
        refine zv (.bool false) ?_
        refine zv (.bool true) ?_
        refine zv (.bool true) ?_
        refine zv (iN .i64 2) ?_
        refine zu (.bool true) (run_eqi (k := .i64) (a := 2) (b := 2) ky ky true (by decide)) ?_
        refine zv (.bool true) ?_
        refine zv (.bool true) ?_
        refine zv (iN .i64 2) ?_
        refine zu (.bool true) (run_eqi (k := .i64) (a := 2) (b := 2) ky ky true (by decide)) ?_
        refine zv (.bool true) ?_
        refine zv (.bool true) ?_
        refine zv (.bool true) ?_
        refine wl_nil (then_at rfl ?_)
        refine wp_ret ?_
        repeat first | refine then_ret ?_ | refine block_ret ?_
        exact bodyPost_ret (v := .bool true) ky rfl ⟨rfl, hbe28 _ _ h30⟩
      · clear hbt
        refine then_at (F := ⟨(iN .u8 which :: .int .i64 n :: .string s :: un :: un :: un :: .bool false :: pt q3 :: .bool bt :: .bool true :: un :: un :: un :: un :: un :: .bool true :: .bool false :: .agg (buC (⟨1, 1, tS, tD, 1, tP, tG, 1, tO⟩ : Bu)) :: u8 18 :: u8 19 :: u8 20 :: u8 21 :: u8 22 :: u8 23 :: u8 24 :: u8 25 :: .bool bt :: u10 27 :: u10 28 :: u10 29 :: u10 30 :: u10 31 :: u10 32 :: u10 33 :: u10 34 :: u10 35 :: u10 36 :: u10 37 :: u10 38 :: u10 39 :: u10 40 :: u10 41 :: u10 42 :: u10 43 :: u10 44 :: u10 45 :: u10 46 :: u10 47 :: u10 48 :: u10 49 :: u10 50 :: u10 51 :: u10 52 :: u10 53 :: u10 54 :: u10 55 :: u10 56 :: u10 57 :: u10 58 :: u10 59 :: u10 60 :: u10 61 :: u10 62 :: u10 63 :: u10 64 :: u10 65 :: u10 66 :: u10 67 :: u10 68 :: u10 69 :: u10 70 :: u10 71 :: u10 72 :: u10 73 :: u10 74 :: u10 75 :: u10 76 :: u10 77 :: u10 78 :: u10 79 :: u10 80 :: u10 81 :: u10 82 :: u10 83 :: u10 84 :: u10 85 :: u10 86 :: List.replicate 33 un).toArray, []⟩) ky ?_
        refine wp_seq (wl_region ?_)
        refine wl_load hT0 0 rfl ky ky Tryz.underlying23 rfl ky ?_
        refine wl_call (v := .tuple #[.string ((encB x)), iN .i64 0]) hT0 ky enter10 #[.agg (buC x)] ky (enc_E (show encA x = _ by unfold encA; rw [hbm]; rfl)) ?_
        intro w31 h32
        refine zv (.tuple #[.string ((encB x)), iN .i64 0]) ?_
        refine zv (.string ((encB x))) ?_
        refine zv (iN .i64 0) ?_
        refine zv (.string ((encB x))) ?_
        refine zv (iN .i64 0) ?_
        refine wl_nil (then_at rfl (wp_seq (wl_region ?_)))
        refine wl_callx ky enter15 #[iN .i64 1] ky (New_P h32) ?_
        rintro _ w35 ⟨p33, rfl, hD34⟩
        refine ⟨_, rfl, ?_⟩
        obtain ⟨z36, X37, hcl38, hbe39, h40⟩ := PH.front hD34
        have h41 : HA z36 ((q3, 23, buC x) :: X37) w35 := h40
        refine zv (.tuple #[.pointer (some ⟨p33.q, 0, none⟩), iN .i64 0]) ?_
        refine zv (.pointer (some ⟨p33.q, 0, none⟩)) ?_
        refine zv (iN .i64 0) ?_
        refine zv (.pointer (some ⟨p33.q, 0, none⟩)) ?_
        refine zv (iN .i64 0) ?_
        refine wl_nil (then_at rfl (wp_seq (wl_region ?_)))
        refine zv (.pointer (some ⟨p33.q, 0, none⟩)) ?_
        refine wl_load h41 0 rfl ky ky Tryz.underlying23 rfl ky ?_
        refine wl_callx ky enter26 #[.pointer (some ⟨p33.q, 0, none⟩), .agg (buC x)] ky (chk_n (hcl38 ((q3, 23, buC x) :: []) _ h41) x hbm (mayX_iff hbm) (vrf_nil _ _ _)) ?_
        rintro _ w43 ⟨rfl, hD42⟩
        refine ⟨_, rfl, ?_⟩
        obtain ⟨z44, X45, hcl46, hbe47, h48⟩ := PH.front hD42
        have h49 : HA z44 ((q3, 23, buC x) :: X45) w43 := h48
        refine zv (iN .i64 9) ?_
        refine wl_nil (then_at rfl (wp_seq (wl_region ?_)))
        refine zv (.bool true) ?_
        refine zv (.bool true) ?_
        refine zv (iN .i64 0) ?_
        refine zu (.bool true) (run_eqi (k := .i64) (a := 0) (b := 0) ky ky true (by decide)) ?_
        refine zv (.bool true) ?_
        refine zv (.bool true) ?_
        refine zv (iN .i64 9) ?_
        refine zu (.bool true) (run_eqi (k := .i64) (a := 9) (b := 9) ky ky true (by decide)) ?_
        refine zv (.bool true) ?_
        refine zv (.bool true) ?_
        refine wl_skip ky ?_
        refine wl_skip ky ?_
        refine wl_skip ky ?_
        refine wl_skip ky ?_
        refine wl_skip ky ?_
        refine wl_skip ky ?_
        refine wl_skip ky ?_
        refine wl_skip ky ?_
        refine wl_skip ky ?_
        refine wl_skip ky ?_
        refine zv (.bool true) ?_
        refine zv (.bool true) ?_
        refine wl_nil (then_at rfl ?_)
        refine wp_ret ?_
        repeat first | refine then_ret ?_ | refine block_ret ?_
        exact bodyPost_ret (v := .bool true) ky rfl ⟨rfl, hbe47 _ _ h49⟩
    · skip
      obtain hk | hk | hk | hk | hk | hk | hk | hk | hk : which % 9 = 0 ∨ which % 9 = 1 ∨ which % 9 = 2 ∨ which % 9 = 3 ∨ which % 9 = 4 ∨ which % 9 = 5 ∨ which % 9 = 6 ∨ which % 9 = 7 ∨ which % 9 = 8 := by omega
      · by_cases jj3 : 0 ≤ n
        · by_cases jj4 : n ≤ 2
          · refine wp_seq ?_
            refine wl_region ?_
            refine zv (iN .u8 which) ?_
            refine zu (iN .u8 (which % 9)) (run_rem (k := .u8) (a := which) (b := 9) ky ky (by omega)) ?_
            refine wl_nil (then_at rfl (wp_block (wp_seq (wl_region ?_))))
            refine zu (.bool true) (run_eqi (k := .u8) (a := which % 9) (b := 0) ky ky true (decide_eq_true (by omega))) ?_
            refine zv (.bool true) ?_
            refine wl_nil (then_at rfl ?_)
            refine wp_cond_true ky ?_
            refine wp_seq (wl_region ?_)
            refine zv (.int .i64 n) ?_
            refine zv (.pointer (some ⟨q3, 0, none⟩)) ?_
            refine wl_putv (v := .int .i64 n) hT4 0 rfl 0 (by show 0 < 9; decide) ky (fun w => Tryz.sizeOf3 w) ky ky ky ?_
            intro w50 (h51 : HA ⟨w, []⟩ [(q3, 23, buC (⟨n, 1, tS, tD, 1, tP, tG, 1, tO⟩ : Bu))] w50)
            refine wl_nil (then_at rfl (wl_region ?_))
            refine zv (.int .i64 n) ?_
            refine zu (.bool true) (run_geZ (k := .i64) (a := n) (b := (0 : Int)) ky ky true (decide_eq_true (by omega))) ?_
            refine zv (.bool true) ?_
            refine zv (.int .i64 n) ?_
            refine zu (.bool true) (run_ltZ (k := .i64) (a := n) (b := (3 : Int)) ky ky true (decide_eq_true (by omega))) ?_
            refine zv (.bool true) ?_
            refine zv (.bool true) ?_
            refine wl_nil (block_normal ?_)
            exact ⟨rfl, (⟨n, 1, tS, tD, 1, tP, tG, 1, tO⟩ : Bu), true, fun ii => (([(27, iN .u8 which), (28, iN .u8 (which % 9)), (29, undef), (30, undef), (31, .bool true), (32, .bool true), (33, .int .i64 n), (34, .pointer (some ⟨q3, 0, none⟩)), (35, .int .i64 n), (36, .bool true), (37, .bool true), (38, .int .i64 n), (39, .bool true), (40, .bool true), (41, undef), (42, undef), (43, undef), (44, undef), (45, undef), (46, undef), (47, undef), (48, undef), (49, undef), (50, undef), (51, undef), (52, undef), (53, undef), (54, undef), (55, undef), (56, undef), (57, undef), (58, undef), (59, undef), (60, undef), (61, undef), (62, undef), (63, undef), (64, undef), (65, undef), (66, undef), (67, undef), (68, undef), (69, undef), (70, undef), (71, undef), (72, undef), (73, undef), (74, undef), (75, undef), (76, undef), (77, undef), (78, undef), (79, undef), (80, undef), (81, undef), (82, undef), (83, undef), (84, undef), (85, undef), (86, undef)] : List (Nat × Value)).find? (·.1 == ii)).elim undef (·.2), by kernel_rfl, (al_0 n).trans (wi_y (by omega) (by omega)), h51⟩
          · refine wp_seq ?_
            refine wl_region ?_
            refine zv (iN .u8 which) ?_
            refine zu (iN .u8 (which % 9)) (run_rem (k := .u8) (a := which) (b := 9) ky ky (by omega)) ?_
            refine wl_nil (then_at rfl (wp_block (wp_seq (wl_region ?_))))
            refine zu (.bool true) (run_eqi (k := .u8) (a := which % 9) (b := 0) ky ky true (decide_eq_true (by omega))) ?_
            refine zv (.bool true) ?_
            refine wl_nil (then_at rfl ?_)
            refine wp_cond_true ky ?_
            refine wp_seq (wl_region ?_)
            refine zv (.int .i64 n) ?_
            refine zv (.pointer (some ⟨q3, 0, none⟩)) ?_
            refine wl_putv (v := .int .i64 n) hT4 0 rfl 0 (by show 0 < 9; decide) ky (fun w => Tryz.sizeOf3 w) ky ky ky ?_
            intro w52 (h53 : HA ⟨w, []⟩ [(q3, 23, buC (⟨n, 1, tS, tD, 1, tP, tG, 1, tO⟩ : Bu))] w52)
            refine wl_nil (then_at rfl (wl_region ?_))
            refine zv (.int .i64 n) ?_
            refine zu (.bool true) (run_geZ (k := .i64) (a := n) (b := (0 : Int)) ky ky true (decide_eq_true (by omega))) ?_
            refine zv (.bool true) ?_
            refine zv (.int .i64 n) ?_
            refine zu (.bool false) (run_ltZ (k := .i64) (a := n) (b := (3 : Int)) ky ky false (decide_eq_false (by omega))) ?_
            refine zv (.bool false) ?_
            refine zv (.bool false) ?_
            refine wl_nil (block_normal ?_)
            exact ⟨rfl, (⟨n, 1, tS, tD, 1, tP, tG, 1, tO⟩ : Bu), false, fun ii => (([(27, iN .u8 which), (28, iN .u8 (which % 9)), (29, undef), (30, undef), (31, .bool true), (32, .bool true), (33, .int .i64 n), (34, .pointer (some ⟨q3, 0, none⟩)), (35, .int .i64 n), (36, .bool true), (37, .bool true), (38, .int .i64 n), (39, .bool false), (40, .bool false), (41, undef), (42, undef), (43, undef), (44, undef), (45, undef), (46, undef), (47, undef), (48, undef), (49, undef), (50, undef), (51, undef), (52, undef), (53, undef), (54, undef), (55, undef), (56, undef), (57, undef), (58, undef), (59, undef), (60, undef), (61, undef), (62, undef), (63, undef), (64, undef), (65, undef), (66, undef), (67, undef), (68, undef), (69, undef), (70, undef), (71, undef), (72, undef), (73, undef), (74, undef), (75, undef), (76, undef), (77, undef), (78, undef), (79, undef), (80, undef), (81, undef), (82, undef), (83, undef), (84, undef), (85, undef), (86, undef)] : List (Nat × Value)).find? (·.1 == ii)).elim undef (·.2), by kernel_rfl, (al_0 n).trans (wi_n2 (by omega)), h53⟩
        · refine wp_seq ?_
          refine wl_region ?_
          refine zv (iN .u8 which) ?_
          refine zu (iN .u8 (which % 9)) (run_rem (k := .u8) (a := which) (b := 9) ky ky (by omega)) ?_
          refine wl_nil (then_at rfl (wp_block (wp_seq (wl_region ?_))))
          refine zu (.bool true) (run_eqi (k := .u8) (a := which % 9) (b := 0) ky ky true (decide_eq_true (by omega))) ?_
          refine zv (.bool true) ?_
          refine wl_nil ?_
          refine then_at (F := ⟨(iN .u8 which :: .int .i64 n :: .string s :: un :: un :: un :: .bool false :: pt q3 :: .bool bt :: .bool bt :: un :: un :: un :: un :: un :: .bool true :: .bool false :: .agg (buC (⟨1, 1, tS, tD, 1, tP, tG, 1, tO⟩ : Bu)) :: u8 18 :: u8 19 :: u8 20 :: u8 21 :: u8 22 :: u8 23 :: u8 24 :: u8 25 :: .bool bt :: iN .u8 which :: iN .u8 (which % 9) :: un :: un :: .bool true :: .bool true :: List.replicate 87 un).toArray, []⟩) ky ?_
          refine wp_cond_true ky ?_
          refine wp_seq (wl_region ?_)
          refine zv (.int .i64 n) ?_
          refine zv (.pointer (some ⟨q3, 0, none⟩)) ?_
          refine wl_putv (v := .int .i64 n) hT4 0 rfl 0 (by show 0 < 9; decide) ky (fun w => Tryz.sizeOf3 w) ky ky ky ?_
          intro w54 (h55 : HA ⟨w, []⟩ [(q3, 23, buC (⟨n, 1, tS, tD, 1, tP, tG, 1, tO⟩ : Bu))] w54)
          refine wl_nil (then_at rfl (wl_region ?_))
          refine zv (.int .i64 n) ?_
          refine zu (.bool false) (run_geZ (k := .i64) (a := n) (b := (0 : Int)) ky ky false (decide_eq_false (by omega))) ?_
          refine zv (.bool false) ?_
          refine wl_skip ky ?_
          refine wl_skip ky ?_
          refine zv (.bool false) ?_
          refine zv (.bool false) ?_
          refine wl_nil (block_normal ?_)
          exact ⟨rfl, (⟨n, 1, tS, tD, 1, tP, tG, 1, tO⟩ : Bu), false, fun ii => (([(27, iN .u8 which), (28, iN .u8 (which % 9)), (29, undef), (30, undef), (31, .bool true), (32, .bool true), (33, .int .i64 n), (34, .pointer (some ⟨q3, 0, none⟩)), (35, .int .i64 n), (36, .bool false), (37, .bool false), (38, undef), (39, undef), (40, .bool false), (41, undef), (42, undef), (43, undef), (44, undef), (45, undef), (46, undef), (47, undef), (48, undef), (49, undef), (50, undef), (51, undef), (52, undef), (53, undef), (54, undef), (55, undef), (56, undef), (57, undef), (58, undef), (59, undef), (60, undef), (61, undef), (62, undef), (63, undef), (64, undef), (65, undef), (66, undef), (67, undef), (68, undef), (69, undef), (70, undef), (71, undef), (72, undef), (73, undef), (74, undef), (75, undef), (76, undef), (77, undef), (78, undef), (79, undef), (80, undef), (81, undef), (82, undef), (83, undef), (84, undef), (85, undef), (86, undef)] : List (Nat × Value)).find? (·.1 == ii)).elim undef (·.2), by kernel_rfl, (al_0 n).trans (wi_n1 (by omega)), h55⟩
      · by_cases jj3 : 0 ≤ n
        · by_cases jj4 : n ≤ 1
          · refine wp_seq ?_
            refine wl_region ?_
            refine zv (iN .u8 which) ?_
            refine zu (iN .u8 (which % 9)) (run_rem (k := .u8) (a := which) (b := 9) ky ky (by omega)) ?_
            refine wl_nil (then_at rfl (wp_block (wp_seq (wl_region ?_))))
            refine zu (.bool false) (run_eqi (k := .u8) (a := which % 9) (b := 0) ky ky false (decide_eq_false (by omega))) ?_
            refine zv (.bool false) ?_
            refine wl_nil (then_at rfl ?_)
            refine wp_cond_false ky ?_
            refine wp_seq (wl_region ?_)
            refine zu (.bool true) (run_eqi (k := .u8) (a := which % 9) (b := 1) ky ky true (decide_eq_true (by omega))) ?_
            refine zv (.bool true) ?_
            refine wl_nil (then_at rfl ?_)
            refine wp_cond_true ky ?_
            refine wp_seq (wl_region ?_)
            refine zv (.int .i64 n) ?_
            refine zv (.pointer (some ⟨q3, 1, none⟩)) ?_
            refine wl_putv (v := .int .i64 n) hT4 0 rfl 1 (by show 1 < 9; decide) ky (fun w => Tryz.sizeOf3 w) ky ky ky ?_
            intro w56 (h57 : HA ⟨w, []⟩ [(q3, 23, buC (⟨1, n, tS, tD, 1, tP, tG, 1, tO⟩ : Bu))] w56)
            refine wl_nil (then_at rfl (wl_region ?_))
            refine zv (.int .i64 n) ?_
            refine zu (.bool true) (run_geZ (k := .i64) (a := n) (b := (0 : Int)) ky ky true (decide_eq_true (by omega))) ?_
            refine zv (.bool true) ?_
            refine zv (.int .i64 n) ?_
            refine zu (.bool true) (run_ltZ (k := .i64) (a := n) (b := (2 : Int)) ky ky true (decide_eq_true (by omega))) ?_
            refine zv (.bool true) ?_
            refine zv (.bool true) ?_
            refine wl_nil (block_normal ?_)
            exact ⟨rfl, (⟨1, n, tS, tD, 1, tP, tG, 1, tO⟩ : Bu), true, fun ii => (([(27, iN .u8 which), (28, iN .u8 (which % 9)), (29, undef), (30, undef), (31, .bool false), (32, .bool false), (33, undef), (34, undef), (35, undef), (36, undef), (37, undef), (38, undef), (39, undef), (40, undef), (41, .bool true), (42, .bool true), (43, .int .i64 n), (44, .pointer (some ⟨q3, 1, none⟩)), (45, .int .i64 n), (46, .bool true), (47, .bool true), (48, .int .i64 n), (49, .bool true), (50, .bool true), (51, undef), (52, undef), (53, undef), (54, undef), (55, undef), (56, undef), (57, undef), (58, undef), (59, undef), (60, undef), (61, undef), (62, undef), (63, undef), (64, undef), (65, undef), (66, undef), (67, undef), (68, undef), (69, undef), (70, undef), (71, undef), (72, undef), (73, undef), (74, undef), (75, undef), (76, undef), (77, undef), (78, undef), (79, undef), (80, undef), (81, undef), (82, undef), (83, undef), (84, undef), (85, undef), (86, undef)] : List (Nat × Value)).find? (·.1 == ii)).elim undef (·.2), by kernel_rfl, (al_1 n).trans (wi_y (by omega) (by omega)), h57⟩
          · refine wp_seq ?_
            refine wl_region ?_
            refine zv (iN .u8 which) ?_
            refine zu (iN .u8 (which % 9)) (run_rem (k := .u8) (a := which) (b := 9) ky ky (by omega)) ?_
            refine wl_nil (then_at rfl (wp_block (wp_seq (wl_region ?_))))
            refine zu (.bool false) (run_eqi (k := .u8) (a := which % 9) (b := 0) ky ky false (decide_eq_false (by omega))) ?_
            refine zv (.bool false) ?_
            refine wl_nil (then_at rfl ?_)
            refine wp_cond_false ky ?_
            refine wp_seq (wl_region ?_)
            refine zu (.bool true) (run_eqi (k := .u8) (a := which % 9) (b := 1) ky ky true (decide_eq_true (by omega))) ?_
            refine zv (.bool true) ?_
            refine wl_nil (then_at rfl ?_)
            refine wp_cond_true ky ?_
            refine wp_seq (wl_region ?_)
            refine zv (.int .i64 n) ?_
            refine zv (.pointer (some ⟨q3, 1, none⟩)) ?_
            refine wl_putv (v := .int .i64 n) hT4 0 rfl 1 (by show 1 < 9; decide) ky (fun w => Tryz.sizeOf3 w) ky ky ky ?_
            intro w58 (h59 : HA ⟨w, []⟩ [(q3, 23, buC (⟨1, n, tS, tD, 1, tP, tG, 1, tO⟩ : Bu))] w58)
            refine wl_nil (then_at rfl (wl_region ?_))
            refine zv (.int .i64 n) ?_
            refine zu (.bool true) (run_geZ (k := .i64) (a := n) (b := (0 : Int)) ky ky true (decide_eq_true (by omega))) ?_
            refine zv (.bool true) ?_
            refine zv (.int .i64 n) ?_
            refine zu (.bool false) (run_ltZ (k := .i64) (a := n) (b := (2 : Int)) ky ky false (decide_eq_false (by omega))) ?_
            refine zv (.bool false) ?_
            refine zv (.bool false) ?_
            refine wl_nil (block_normal ?_)
            exact ⟨rfl, (⟨1, n, tS, tD, 1, tP, tG, 1, tO⟩ : Bu), false, fun ii => (([(27, iN .u8 which), (28, iN .u8 (which % 9)), (29, undef), (30, undef), (31, .bool false), (32, .bool false), (33, undef), (34, undef), (35, undef), (36, undef), (37, undef), (38, undef), (39, undef), (40, undef), (41, .bool true), (42, .bool true), (43, .int .i64 n), (44, .pointer (some ⟨q3, 1, none⟩)), (45, .int .i64 n), (46, .bool true), (47, .bool true), (48, .int .i64 n), (49, .bool false), (50, .bool false), (51, undef), (52, undef), (53, undef), (54, undef), (55, undef), (56, undef), (57, undef), (58, undef), (59, undef), (60, undef), (61, undef), (62, undef), (63, undef), (64, undef), (65, undef), (66, undef), (67, undef), (68, undef), (69, undef), (70, undef), (71, undef), (72, undef), (73, undef), (74, undef), (75, undef), (76, undef), (77, undef), (78, undef), (79, undef), (80, undef), (81, undef), (82, undef), (83, undef), (84, undef), (85, undef), (86, undef)] : List (Nat × Value)).find? (·.1 == ii)).elim undef (·.2), by kernel_rfl, (al_1 n).trans (wi_n2 (by omega)), h59⟩
        · refine wp_seq ?_
          refine wl_region ?_
          refine zv (iN .u8 which) ?_
          refine zu (iN .u8 (which % 9)) (run_rem (k := .u8) (a := which) (b := 9) ky ky (by omega)) ?_
          refine wl_nil (then_at rfl (wp_block (wp_seq (wl_region ?_))))
          refine zu (.bool false) (run_eqi (k := .u8) (a := which % 9) (b := 0) ky ky false (decide_eq_false (by omega))) ?_
          refine zv (.bool false) ?_
          refine wl_nil (then_at rfl ?_)
          refine wp_cond_false ky ?_
          refine wp_seq (wl_region ?_)
          refine zu (.bool true) (run_eqi (k := .u8) (a := which % 9) (b := 1) ky ky true (decide_eq_true (by omega))) ?_
          refine zv (.bool true) ?_
          refine wl_nil ?_
          refine then_at (F := ⟨(iN .u8 which :: .int .i64 n :: .string s :: un :: un :: un :: .bool false :: pt q3 :: .bool bt :: .bool bt :: un :: un :: un :: un :: un :: .bool true :: .bool false :: .agg (buC (⟨1, 1, tS, tD, 1, tP, tG, 1, tO⟩ : Bu)) :: u8 18 :: u8 19 :: u8 20 :: u8 21 :: u8 22 :: u8 23 :: u8 24 :: u8 25 :: .bool bt :: iN .u8 which :: iN .u8 (which % 9) :: un :: un :: .bool false :: .bool false :: un :: un :: un :: un :: un :: un :: un :: un :: .bool true :: .bool true :: List.replicate 77 un).toArray, []⟩) ky ?_
          refine wp_cond_true ky ?_
          refine wp_seq (wl_region ?_)
          refine zv (.int .i64 n) ?_
          refine zv (.pointer (some ⟨q3, 1, none⟩)) ?_
          refine wl_putv (v := .int .i64 n) hT4 0 rfl 1 (by show 1 < 9; decide) ky (fun w => Tryz.sizeOf3 w) ky ky ky ?_
          intro w60 (h61 : HA ⟨w, []⟩ [(q3, 23, buC (⟨1, n, tS, tD, 1, tP, tG, 1, tO⟩ : Bu))] w60)
          refine wl_nil (then_at rfl (wl_region ?_))
          refine zv (.int .i64 n) ?_
          refine zu (.bool false) (run_geZ (k := .i64) (a := n) (b := (0 : Int)) ky ky false (decide_eq_false (by omega))) ?_
          refine zv (.bool false) ?_
          refine wl_skip ky ?_
          refine wl_skip ky ?_
          refine zv (.bool false) ?_
          refine zv (.bool false) ?_
          refine wl_nil (block_normal ?_)
          exact ⟨rfl, (⟨1, n, tS, tD, 1, tP, tG, 1, tO⟩ : Bu), false, fun ii => (([(27, iN .u8 which), (28, iN .u8 (which % 9)), (29, undef), (30, undef), (31, .bool false), (32, .bool false), (33, undef), (34, undef), (35, undef), (36, undef), (37, undef), (38, undef), (39, undef), (40, undef), (41, .bool true), (42, .bool true), (43, .int .i64 n), (44, .pointer (some ⟨q3, 1, none⟩)), (45, .int .i64 n), (46, .bool false), (47, .bool false), (48, undef), (49, undef), (50, .bool false), (51, undef), (52, undef), (53, undef), (54, undef), (55, undef), (56, undef), (57, undef), (58, undef), (59, undef), (60, undef), (61, undef), (62, undef), (63, undef), (64, undef), (65, undef), (66, undef), (67, undef), (68, undef), (69, undef), (70, undef), (71, undef), (72, undef), (73, undef), (74, undef), (75, undef), (76, undef), (77, undef), (78, undef), (79, undef), (80, undef), (81, undef), (82, undef), (83, undef), (84, undef), (85, undef), (86, undef)] : List (Nat × Value)).find? (·.1 == ii)).elim undef (·.2), by kernel_rfl, (al_1 n).trans (wi_n1 (by omega)), h61⟩
      · by_cases jj3 : 1 ≤ n
        · by_cases jj4 : n ≤ 1073741824
          · refine wp_seq ?_
            refine wl_region ?_
            refine zv (iN .u8 which) ?_
            refine zu (iN .u8 (which % 9)) (run_rem (k := .u8) (a := which) (b := 9) ky ky (by omega)) ?_
            refine wl_nil (then_at rfl (wp_block (wp_seq (wl_region ?_))))
            refine zu (.bool false) (run_eqi (k := .u8) (a := which % 9) (b := 0) ky ky false (decide_eq_false (by omega))) ?_
            refine zv (.bool false) ?_
            refine wl_nil (then_at rfl ?_)
            refine wp_cond_false ky ?_
            refine wp_seq (wl_region ?_)
            refine zu (.bool false) (run_eqi (k := .u8) (a := which % 9) (b := 1) ky ky false (decide_eq_false (by omega))) ?_
            refine zv (.bool false) ?_
            refine wl_nil (then_at rfl ?_)
            refine wp_cond_false ky ?_
            refine wp_seq (wl_region ?_)
            refine zu (.bool true) (run_eqi (k := .u8) (a := which % 9) (b := 2) ky ky true (decide_eq_true (by omega))) ?_
            refine zv (.bool true) ?_
            refine wl_nil (then_at rfl ?_)
            refine wp_cond_true ky ?_
            refine wp_seq (wl_region ?_)
            refine zv (.int .i64 n) ?_
            refine zv (.pointer (some ⟨q3, 4, none⟩)) ?_
            refine wl_putv (v := .int .i64 n) hT4 0 rfl 4 (by show 4 < 9; decide) ky (fun w => Tryz.sizeOf3 w) ky ky ky ?_
            intro w62 (h63 : HA ⟨w, []⟩ [(q3, 23, buC (⟨1, 1, tS, tD, n, tP, tG, 1, tO⟩ : Bu))] w62)
            refine wl_nil (then_at rfl (wl_region ?_))
            refine zv (.int .i64 n) ?_
            refine zu (.bool true) (run_geZ (k := .i64) (a := n) (b := (1 : Int)) ky ky true (decide_eq_true (by omega))) ?_
            refine zv (.bool true) ?_
            refine zv (.int .i64 n) ?_
            refine zu (.bool true) (run_leZ (k := .i64) (a := n) (b := (1073741824 : Int)) ky ky true (decide_eq_true (by omega))) ?_
            refine zv (.bool true) ?_
            refine zv (.bool true) ?_
            refine wl_nil (block_normal ?_)
            exact ⟨rfl, (⟨1, 1, tS, tD, n, tP, tG, 1, tO⟩ : Bu), true, fun ii => (([(27, iN .u8 which), (28, iN .u8 (which % 9)), (29, undef), (30, undef), (31, .bool false), (32, .bool false), (33, undef), (34, undef), (35, undef), (36, undef), (37, undef), (38, undef), (39, undef), (40, undef), (41, .bool false), (42, .bool false), (43, undef), (44, undef), (45, undef), (46, undef), (47, undef), (48, undef), (49, undef), (50, undef), (51, .bool true), (52, .bool true), (53, .int .i64 n), (54, .pointer (some ⟨q3, 4, none⟩)), (55, .int .i64 n), (56, .bool true), (57, .bool true), (58, .int .i64 n), (59, .bool true), (60, .bool true), (61, undef), (62, undef), (63, undef), (64, undef), (65, undef), (66, undef), (67, undef), (68, undef), (69, undef), (70, undef), (71, undef), (72, undef), (73, undef), (74, undef), (75, undef), (76, undef), (77, undef), (78, undef), (79, undef), (80, undef), (81, undef), (82, undef), (83, undef), (84, undef), (85, undef), (86, undef)] : List (Nat × Value)).find? (·.1 == ii)).elim undef (·.2), by kernel_rfl, (al_2 n).trans (wi_y (by omega) (by omega)), h63⟩
          · refine wp_seq ?_
            refine wl_region ?_
            refine zv (iN .u8 which) ?_
            refine zu (iN .u8 (which % 9)) (run_rem (k := .u8) (a := which) (b := 9) ky ky (by omega)) ?_
            refine wl_nil (then_at rfl (wp_block (wp_seq (wl_region ?_))))
            refine zu (.bool false) (run_eqi (k := .u8) (a := which % 9) (b := 0) ky ky false (decide_eq_false (by omega))) ?_
            refine zv (.bool false) ?_
            refine wl_nil (then_at rfl ?_)
            refine wp_cond_false ky ?_
            refine wp_seq (wl_region ?_)
            refine zu (.bool false) (run_eqi (k := .u8) (a := which % 9) (b := 1) ky ky false (decide_eq_false (by omega))) ?_
            refine zv (.bool false) ?_
            refine wl_nil (then_at rfl ?_)
            refine wp_cond_false ky ?_
            refine wp_seq (wl_region ?_)
            refine zu (.bool true) (run_eqi (k := .u8) (a := which % 9) (b := 2) ky ky true (decide_eq_true (by omega))) ?_
            refine zv (.bool true) ?_
            refine wl_nil (then_at rfl ?_)
            refine wp_cond_true ky ?_
            refine wp_seq (wl_region ?_)
            refine zv (.int .i64 n) ?_
            refine zv (.pointer (some ⟨q3, 4, none⟩)) ?_
            refine wl_putv (v := .int .i64 n) hT4 0 rfl 4 (by show 4 < 9; decide) ky (fun w => Tryz.sizeOf3 w) ky ky ky ?_
            intro w64 (h65 : HA ⟨w, []⟩ [(q3, 23, buC (⟨1, 1, tS, tD, n, tP, tG, 1, tO⟩ : Bu))] w64)
            refine wl_nil (then_at rfl (wl_region ?_))
            refine zv (.int .i64 n) ?_
            refine zu (.bool true) (run_geZ (k := .i64) (a := n) (b := (1 : Int)) ky ky true (decide_eq_true (by omega))) ?_
            refine zv (.bool true) ?_
            refine zv (.int .i64 n) ?_
            refine zu (.bool false) (run_leZ (k := .i64) (a := n) (b := (1073741824 : Int)) ky ky false (decide_eq_false (by omega))) ?_
            refine zv (.bool false) ?_
            refine zv (.bool false) ?_
            refine wl_nil (block_normal ?_)
            exact ⟨rfl, (⟨1, 1, tS, tD, n, tP, tG, 1, tO⟩ : Bu), false, fun ii => (([(27, iN .u8 which), (28, iN .u8 (which % 9)), (29, undef), (30, undef), (31, .bool false), (32, .bool false), (33, undef), (34, undef), (35, undef), (36, undef), (37, undef), (38, undef), (39, undef), (40, undef), (41, .bool false), (42, .bool false), (43, undef), (44, undef), (45, undef), (46, undef), (47, undef), (48, undef), (49, undef), (50, undef), (51, .bool true), (52, .bool true), (53, .int .i64 n), (54, .pointer (some ⟨q3, 4, none⟩)), (55, .int .i64 n), (56, .bool true), (57, .bool true), (58, .int .i64 n), (59, .bool false), (60, .bool false), (61, undef), (62, undef), (63, undef), (64, undef), (65, undef), (66, undef), (67, undef), (68, undef), (69, undef), (70, undef), (71, undef), (72, undef), (73, undef), (74, undef), (75, undef), (76, undef), (77, undef), (78, undef), (79, undef), (80, undef), (81, undef), (82, undef), (83, undef), (84, undef), (85, undef), (86, undef)] : List (Nat × Value)).find? (·.1 == ii)).elim undef (·.2), by kernel_rfl, (al_2 n).trans (wi_n2 (by omega)), h65⟩
        · refine wp_seq ?_
          refine wl_region ?_
          refine zv (iN .u8 which) ?_
          refine zu (iN .u8 (which % 9)) (run_rem (k := .u8) (a := which) (b := 9) ky ky (by omega)) ?_
          refine wl_nil ?_
          refine then_at (F := ⟨(iN .u8 which :: .int .i64 n :: .string s :: un :: un :: un :: .bool false :: pt q3 :: .bool bt :: .bool bt :: un :: un :: un :: un :: un :: .bool true :: .bool false :: .agg (buC (⟨1, 1, tS, tD, 1, tP, tG, 1, tO⟩ : Bu)) :: u8 18 :: u8 19 :: u8 20 :: u8 21 :: u8 22 :: u8 23 :: u8 24 :: u8 25 :: .bool bt :: iN .u8 which :: iN .u8 (which % 9) :: List.replicate 91 un).toArray, []⟩) ky ?_
          refine wp_block (wp_seq (wl_region ?_))
          refine zu (.bool false) (run_eqi (k := .u8) (a := which % 9) (b := 0) ky ky false (decide_eq_false (by omega))) ?_
          refine zv (.bool false) ?_
          refine wl_nil (then_at rfl ?_)
          refine wp_cond_false ky ?_
          refine wp_seq (wl_region ?_)
          refine zu (.bool false) (run_eqi (k := .u8) (a := which % 9) (b := 1) ky ky false (decide_eq_false (by omega))) ?_
          refine zv (.bool false) ?_
          refine wl_nil (then_at rfl ?_)
          refine wp_cond_false ky ?_
          refine wp_seq (wl_region ?_)
          refine zu (.bool true) (run_eqi (k := .u8) (a := which % 9) (b := 2) ky ky true (decide_eq_true (by omega))) ?_
          refine zv (.bool true) ?_
          refine wl_nil (then_at rfl ?_)
          refine wp_cond_true ky ?_
          refine wp_seq (wl_region ?_)
          refine zv (.int .i64 n) ?_
          refine zv (.pointer (some ⟨q3, 4, none⟩)) ?_
          refine wl_putv (v := .int .i64 n) hT4 0 rfl 4 (by show 4 < 9; decide) ky (fun w => Tryz.sizeOf3 w) ky ky ky ?_
          intro w66 (h67 : HA ⟨w, []⟩ [(q3, 23, buC (⟨1, 1, tS, tD, n, tP, tG, 1, tO⟩ : Bu))] w66)
          refine wl_nil (then_at rfl (wl_region ?_))
          refine zv (.int .i64 n) ?_
          refine zu (.bool false) (run_geZ (k := .i64) (a := n) (b := (1 : Int)) ky ky false (decide_eq_false (by omega))) ?_
          refine zv (.bool false) ?_
          refine wl_skip ky ?_
          refine wl_skip ky ?_
          refine zv (.bool false) ?_
          refine zv (.bool false) ?_
          refine wl_nil (block_normal ?_)
          exact ⟨rfl, (⟨1, 1, tS, tD, n, tP, tG, 1, tO⟩ : Bu), false, fun ii => (([(27, iN .u8 which), (28, iN .u8 (which % 9)), (29, undef), (30, undef), (31, .bool false), (32, .bool false), (33, undef), (34, undef), (35, undef), (36, undef), (37, undef), (38, undef), (39, undef), (40, undef), (41, .bool false), (42, .bool false), (43, undef), (44, undef), (45, undef), (46, undef), (47, undef), (48, undef), (49, undef), (50, undef), (51, .bool true), (52, .bool true), (53, .int .i64 n), (54, .pointer (some ⟨q3, 4, none⟩)), (55, .int .i64 n), (56, .bool false), (57, .bool false), (58, undef), (59, undef), (60, .bool false), (61, undef), (62, undef), (63, undef), (64, undef), (65, undef), (66, undef), (67, undef), (68, undef), (69, undef), (70, undef), (71, undef), (72, undef), (73, undef), (74, undef), (75, undef), (76, undef), (77, undef), (78, undef), (79, undef), (80, undef), (81, undef), (82, undef), (83, undef), (84, undef), (85, undef), (86, undef)] : List (Nat × Value)).find? (·.1 == ii)).elim undef (·.2), by kernel_rfl, (al_2 n).trans (wi_n1 (by omega)), h67⟩
      · by_cases jj3 : 1 ≤ n
        · by_cases jj4 : n ≤ 1073741824
          · refine wp_seq ?_
            refine wl_region ?_
            refine zv (iN .u8 which) ?_
            refine zu (iN .u8 (which % 9)) (run_rem (k := .u8) (a := which) (b := 9) ky ky (by omega)) ?_
            refine wl_nil (then_at rfl (wp_block (wp_seq (wl_region ?_))))
            refine zu (.bool false) (run_eqi (k := .u8) (a := which % 9) (b := 0) ky ky false (decide_eq_false (by omega))) ?_
            refine zv (.bool false) ?_
            refine wl_nil (then_at rfl ?_)
            refine wp_cond_false ky ?_
            refine wp_seq (wl_region ?_)
            refine zu (.bool false) (run_eqi (k := .u8) (a := which % 9) (b := 1) ky ky false (decide_eq_false (by omega))) ?_
            refine zv (.bool false) ?_
            refine wl_nil (then_at rfl ?_)
            refine wp_cond_false ky ?_
            refine wp_seq (wl_region ?_)
            refine zu (.bool false) (run_eqi (k := .u8) (a := which % 9) (b := 2) ky ky false (decide_eq_false (by omega))) ?_
            refine zv (.bool false) ?_
            refine wl_nil (then_at rfl ?_)
            refine wp_cond_false ky ?_
            refine wp_seq (wl_region ?_)
            refine zu (.bool true) (run_eqi (k := .u8) (a := which % 9) (b := 3) ky ky true (decide_eq_true (by omega))) ?_
            refine zv (.bool true) ?_
            refine wl_nil (then_at rfl ?_)
            refine wp_cond_true ky ?_
            refine wp_seq (wl_region ?_)
            refine zv (.int .i64 n) ?_
            refine zv (.pointer (some ⟨q3, 7, none⟩)) ?_
            refine wl_putv (v := .int .i64 n) hT4 0 rfl 7 (by show 7 < 9; decide) ky (fun w => Tryz.sizeOf3 w) ky ky ky ?_
            intro w68 (h69 : HA ⟨w, []⟩ [(q3, 23, buC (⟨1, 1, tS, tD, 1, tP, tG, n, tO⟩ : Bu))] w68)
            refine wl_nil (then_at rfl (wl_region ?_))
            refine zv (.int .i64 n) ?_
            refine zu (.bool true) (run_geZ (k := .i64) (a := n) (b := (1 : Int)) ky ky true (decide_eq_true (by omega))) ?_
            refine zv (.bool true) ?_
            refine zv (.int .i64 n) ?_
            refine zu (.bool true) (run_leZ (k := .i64) (a := n) (b := (1073741824 : Int)) ky ky true (decide_eq_true (by omega))) ?_
            refine zv (.bool true) ?_
            refine zv (.bool true) ?_
            refine wl_nil (block_normal ?_)
            exact ⟨rfl, (⟨1, 1, tS, tD, 1, tP, tG, n, tO⟩ : Bu), true, fun ii => (([(27, iN .u8 which), (28, iN .u8 (which % 9)), (29, undef), (30, undef), (31, .bool false), (32, .bool false), (33, undef), (34, undef), (35, undef), (36, undef), (37, undef), (38, undef), (39, undef), (40, undef), (41, .bool false), (42, .bool false), (43, undef), (44, undef), (45, undef), (46, undef), (47, undef), (48, undef), (49, undef), (50, undef), (51, .bool false), (52, .bool false), (53, undef), (54, undef), (55, undef), (56, undef), (57, undef), (58, undef), (59, undef), (60, undef), (61, .bool true), (62, .bool true), (63, .int .i64 n), (64, .pointer (some ⟨q3, 7, none⟩)), (65, .int .i64 n), (66, .bool true), (67, .bool true), (68, .int .i64 n), (69, .bool true), (70, .bool true), (71, undef), (72, undef), (73, undef), (74, undef), (75, undef), (76, undef), (77, undef), (78, undef), (79, undef), (80, undef), (81, undef), (82, undef), (83, undef), (84, undef), (85, undef), (86, undef)] : List (Nat × Value)).find? (·.1 == ii)).elim undef (·.2), by kernel_rfl, (al_3 n).trans (wi_y (by omega) (by omega)), h69⟩
          · refine wp_seq ?_
            refine wl_region ?_
            refine zv (iN .u8 which) ?_
            refine zu (iN .u8 (which % 9)) (run_rem (k := .u8) (a := which) (b := 9) ky ky (by omega)) ?_
            refine wl_nil (then_at rfl (wp_block (wp_seq (wl_region ?_))))
            refine zu (.bool false) (run_eqi (k := .u8) (a := which % 9) (b := 0) ky ky false (decide_eq_false (by omega))) ?_
            refine zv (.bool false) ?_
            refine wl_nil ?_
            refine then_at (F := ⟨(iN .u8 which :: .int .i64 n :: .string s :: un :: un :: un :: .bool false :: pt q3 :: .bool bt :: .bool bt :: un :: un :: un :: un :: un :: .bool true :: .bool false :: .agg (buC (⟨1, 1, tS, tD, 1, tP, tG, 1, tO⟩ : Bu)) :: u8 18 :: u8 19 :: u8 20 :: u8 21 :: u8 22 :: u8 23 :: u8 24 :: u8 25 :: .bool bt :: iN .u8 which :: iN .u8 (which % 9) :: un :: un :: .bool false :: .bool false :: List.replicate 87 un).toArray, []⟩) ky ?_
            refine wp_cond_false ky ?_
            refine wp_seq (wl_region ?_)
            refine zu (.bool false) (run_eqi (k := .u8) (a := which % 9) (b := 1) ky ky false (decide_eq_false (by omega))) ?_
            refine zv (.bool false) ?_
            refine wl_nil (then_at rfl ?_)
            refine wp_cond_false ky ?_
            refine wp_seq (wl_region ?_)
            refine zu (.bool false) (run_eqi (k := .u8) (a := which % 9) (b := 2) ky ky false (decide_eq_false (by omega))) ?_
            refine zv (.bool false) ?_
            refine wl_nil (then_at rfl ?_)
            refine wp_cond_false ky ?_
            refine wp_seq (wl_region ?_)
            refine zu (.bool true) (run_eqi (k := .u8) (a := which % 9) (b := 3) ky ky true (decide_eq_true (by omega))) ?_
            refine zv (.bool true) ?_
            refine wl_nil (then_at rfl ?_)
            refine wp_cond_true ky ?_
            refine wp_seq (wl_region ?_)
            refine zv (.int .i64 n) ?_
            refine zv (.pointer (some ⟨q3, 7, none⟩)) ?_
            refine wl_putv (v := .int .i64 n) hT4 0 rfl 7 (by show 7 < 9; decide) ky (fun w => Tryz.sizeOf3 w) ky ky ky ?_
            intro w70 (h71 : HA ⟨w, []⟩ [(q3, 23, buC (⟨1, 1, tS, tD, 1, tP, tG, n, tO⟩ : Bu))] w70)
            refine wl_nil (then_at rfl (wl_region ?_))
            refine zv (.int .i64 n) ?_
            refine zu (.bool true) (run_geZ (k := .i64) (a := n) (b := (1 : Int)) ky ky true (decide_eq_true (by omega))) ?_
            refine zv (.bool true) ?_
            refine zv (.int .i64 n) ?_
            refine zu (.bool false) (run_leZ (k := .i64) (a := n) (b := (1073741824 : Int)) ky ky false (decide_eq_false (by omega))) ?_
            refine zv (.bool false) ?_
            refine zv (.bool false) ?_
            refine wl_nil (block_normal ?_)
            exact ⟨rfl, (⟨1, 1, tS, tD, 1, tP, tG, n, tO⟩ : Bu), false, fun ii => (([(27, iN .u8 which), (28, iN .u8 (which % 9)), (29, undef), (30, undef), (31, .bool false), (32, .bool false), (33, undef), (34, undef), (35, undef), (36, undef), (37, undef), (38, undef), (39, undef), (40, undef), (41, .bool false), (42, .bool false), (43, undef), (44, undef), (45, undef), (46, undef), (47, undef), (48, undef), (49, undef), (50, undef), (51, .bool false), (52, .bool false), (53, undef), (54, undef), (55, undef), (56, undef), (57, undef), (58, undef), (59, undef), (60, undef), (61, .bool true), (62, .bool true), (63, .int .i64 n), (64, .pointer (some ⟨q3, 7, none⟩)), (65, .int .i64 n), (66, .bool true), (67, .bool true), (68, .int .i64 n), (69, .bool false), (70, .bool false), (71, undef), (72, undef), (73, undef), (74, undef), (75, undef), (76, undef), (77, undef), (78, undef), (79, undef), (80, undef), (81, undef), (82, undef), (83, undef), (84, undef), (85, undef), (86, undef)] : List (Nat × Value)).find? (·.1 == ii)).elim undef (·.2), by kernel_rfl, (al_3 n).trans (wi_n2 (by omega)), h71⟩
        · refine wp_seq ?_
          refine wl_region ?_
          refine zv (iN .u8 which) ?_
          refine zu (iN .u8 (which % 9)) (run_rem (k := .u8) (a := which) (b := 9) ky ky (by omega)) ?_
          refine wl_nil (then_at rfl (wp_block (wp_seq (wl_region ?_))))
          refine zu (.bool false) (run_eqi (k := .u8) (a := which % 9) (b := 0) ky ky false (decide_eq_false (by omega))) ?_
          refine zv (.bool false) ?_
          refine wl_nil (then_at rfl ?_)
          refine wp_cond_false ky ?_
          refine wp_seq (wl_region ?_)
          refine zu (.bool false) (run_eqi (k := .u8) (a := which % 9) (b := 1) ky ky false (decide_eq_false (by omega))) ?_
          refine zv (.bool false) ?_
          refine wl_nil (then_at rfl ?_)
          refine wp_cond_false ky ?_
          refine wp_seq (wl_region ?_)
          refine zu (.bool false) (run_eqi (k := .u8) (a := which % 9) (b := 2) ky ky false (decide_eq_false (by omega))) ?_
          refine zv (.bool false) ?_
          refine wl_nil (then_at rfl ?_)
          refine wp_cond_false ky ?_
          refine wp_seq (wl_region ?_)
          refine zu (.bool true) (run_eqi (k := .u8) (a := which % 9) (b := 3) ky ky true (decide_eq_true (by omega))) ?_
          refine zv (.bool true) ?_
          refine wl_nil (then_at rfl ?_)
          refine wp_cond_true ky ?_
          refine wp_seq (wl_region ?_)
          refine zv (.int .i64 n) ?_
          refine zv (.pointer (some ⟨q3, 7, none⟩)) ?_
          refine wl_putv (v := .int .i64 n) hT4 0 rfl 7 (by show 7 < 9; decide) ky (fun w => Tryz.sizeOf3 w) ky ky ky ?_
          intro w72 (h73 : HA ⟨w, []⟩ [(q3, 23, buC (⟨1, 1, tS, tD, 1, tP, tG, n, tO⟩ : Bu))] w72)
          refine wl_nil (then_at rfl (wl_region ?_))
          refine zv (.int .i64 n) ?_
          refine zu (.bool false) (run_geZ (k := .i64) (a := n) (b := (1 : Int)) ky ky false (decide_eq_false (by omega))) ?_
          refine zv (.bool false) ?_
          refine wl_skip ky ?_
          refine wl_skip ky ?_
          refine zv (.bool false) ?_
          refine zv (.bool false) ?_
          refine wl_nil (block_normal ?_)
          exact ⟨rfl, (⟨1, 1, tS, tD, 1, tP, tG, n, tO⟩ : Bu), false, fun ii => (([(27, iN .u8 which), (28, iN .u8 (which % 9)), (29, undef), (30, undef), (31, .bool false), (32, .bool false), (33, undef), (34, undef), (35, undef), (36, undef), (37, undef), (38, undef), (39, undef), (40, undef), (41, .bool false), (42, .bool false), (43, undef), (44, undef), (45, undef), (46, undef), (47, undef), (48, undef), (49, undef), (50, undef), (51, .bool false), (52, .bool false), (53, undef), (54, undef), (55, undef), (56, undef), (57, undef), (58, undef), (59, undef), (60, undef), (61, .bool true), (62, .bool true), (63, .int .i64 n), (64, .pointer (some ⟨q3, 7, none⟩)), (65, .int .i64 n), (66, .bool false), (67, .bool false), (68, undef), (69, undef), (70, .bool false), (71, undef), (72, undef), (73, undef), (74, undef), (75, undef), (76, undef), (77, undef), (78, undef), (79, undef), (80, undef), (81, undef), (82, undef), (83, undef), (84, undef), (85, undef), (86, undef)] : List (Nat × Value)).find? (·.1 == ii)).elim undef (·.2), by kernel_rfl, (al_3 n).trans (wi_n1 (by omega)), h73⟩
      · refine wp_seq ?_
        refine wl_region ?_
        refine zv (iN .u8 which) ?_
        refine zu (iN .u8 (which % 9)) (run_rem (k := .u8) (a := which) (b := 9) ky ky (by omega)) ?_
        refine wl_nil (then_at rfl (wp_block (wp_seq (wl_region ?_))))
        refine zu (.bool false) (run_eqi (k := .u8) (a := which % 9) (b := 0) ky ky false (decide_eq_false (by omega))) ?_
        refine zv (.bool false) ?_
        refine wl_nil ?_
        refine then_at (F := ⟨(iN .u8 which :: .int .i64 n :: .string s :: un :: un :: un :: .bool false :: pt q3 :: .bool bt :: .bool bt :: un :: un :: un :: un :: un :: .bool true :: .bool false :: .agg (buC (⟨1, 1, tS, tD, 1, tP, tG, 1, tO⟩ : Bu)) :: u8 18 :: u8 19 :: u8 20 :: u8 21 :: u8 22 :: u8 23 :: u8 24 :: u8 25 :: .bool bt :: iN .u8 which :: iN .u8 (which % 9) :: un :: un :: .bool false :: .bool false :: List.replicate 87 un).toArray, []⟩) ky ?_
        refine wp_cond_false ky ?_
        refine wp_seq (wl_region ?_)
        refine zu (.bool false) (run_eqi (k := .u8) (a := which % 9) (b := 1) ky ky false (decide_eq_false (by omega))) ?_
        refine zv (.bool false) ?_
        refine wl_nil (then_at rfl ?_)
        refine wp_cond_false ky ?_
        refine wp_seq (wl_region ?_)
        refine zu (.bool false) (run_eqi (k := .u8) (a := which % 9) (b := 2) ky ky false (decide_eq_false (by omega))) ?_
        refine zv (.bool false) ?_
        refine wl_nil (then_at rfl ?_)
        refine wp_cond_false ky ?_
        refine wp_seq (wl_region ?_)
        refine zu (.bool false) (run_eqi (k := .u8) (a := which % 9) (b := 3) ky ky false (decide_eq_false (by omega))) ?_
        refine zv (.bool false) ?_
        refine wl_nil (then_at rfl ?_)
        refine wp_cond_false ky ?_
        refine wp_seq (wl_region ?_)
        refine zu (.bool true) (run_eqi (k := .u8) (a := which % 9) (b := 4) ky ky true (decide_eq_true (by omega))) ?_
        refine zv (.bool true) ?_
        refine wl_nil (then_at rfl ?_)
        refine wp_cond_true ky ?_
        refine wl_region ?_
        refine zv (.string s) ?_
        refine zv (.pointer (some ⟨q3, 2, none⟩)) ?_
        refine wl_putv (v := .string s) hT4 0 rfl 2 (by show 2 < 9; decide) ky (fun w => Tryz.sizeOf9 w) ky ky ky ?_
        intro w74 (h75 : HA ⟨w, []⟩ [(q3, 23, buC (⟨1, 1, s, tD, 1, tP, tG, 1, tO⟩ : Bu))] w74)
        refine wl_nil (block_normal ?_)
        exact ⟨rfl, (⟨1, 1, s, tD, 1, tP, tG, 1, tO⟩ : Bu), bt, fun ii => (([(27, iN .u8 which), (28, iN .u8 (which % 9)), (29, undef), (30, undef), (31, .bool false), (32, .bool false), (33, undef), (34, undef), (35, undef), (36, undef), (37, undef), (38, undef), (39, undef), (40, undef), (41, .bool false), (42, .bool false), (43, undef), (44, undef), (45, undef), (46, undef), (47, undef), (48, undef), (49, undef), (50, undef), (51, .bool false), (52, .bool false), (53, undef), (54, undef), (55, undef), (56, undef), (57, undef), (58, undef), (59, undef), (60, undef), (61, .bool false), (62, .bool false), (63, undef), (64, undef), (65, undef), (66, undef), (67, undef), (68, undef), (69, undef), (70, undef), (71, .bool true), (72, .bool true), (73, .string s), (74, .pointer (some ⟨q3, 2, none⟩)), (75, undef), (76, undef), (77, undef), (78, undef), (79, undef), (80, undef), (81, undef), (82, undef), (83, undef), (84, undef), (85, undef), (86, undef)] : List (Nat × Value)).find? (·.1 == ii)).elim undef (·.2), by kernel_rfl, (al_4 s).trans hbt, h75⟩
      · refine wp_seq ?_
        refine wl_region ?_
        refine zv (iN .u8 which) ?_
        refine zu (iN .u8 (which % 9)) (run_rem (k := .u8) (a := which) (b := 9) ky ky (by omega)) ?_
        refine wl_nil (then_at rfl (wp_block (wp_seq (wl_region ?_))))
        refine zu (.bool false) (run_eqi (k := .u8) (a := which % 9) (b := 0) ky ky false (decide_eq_false (by omega))) ?_
        refine zv (.bool false) ?_
        refine wl_nil (then_at rfl ?_)
        refine wp_cond_false ky ?_
        refine wp_seq (wl_region ?_)
        refine zu (.bool false) (run_eqi (k := .u8) (a := which % 9) (b := 1) ky ky false (decide_eq_false (by omega))) ?_
        refine zv (.bool false) ?_
        refine wl_nil (then_at rfl ?_)
        refine wp_cond_false ky ?_
        refine wp_seq (wl_region ?_)
        refine zu (.bool false) (run_eqi (k := .u8) (a := which % 9) (b := 2) ky ky false (decide_eq_false (by omega))) ?_
        refine zv (.bool false) ?_
        refine wl_nil (then_at rfl ?_)
        refine wp_cond_false ky ?_
        refine wp_seq (wl_region ?_)
        refine zu (.bool false) (run_eqi (k := .u8) (a := which % 9) (b := 3) ky ky false (decide_eq_false (by omega))) ?_
        refine zv (.bool false) ?_
        refine wl_nil (then_at rfl ?_)
        refine wp_cond_false ky ?_
        refine wp_seq (wl_region ?_)
        refine zu (.bool false) (run_eqi (k := .u8) (a := which % 9) (b := 4) ky ky false (decide_eq_false (by omega))) ?_
        refine zv (.bool false) ?_
        refine wl_nil (then_at rfl ?_)
        refine wp_cond_false ky ?_
        refine wp_seq (wl_region ?_)
        refine zu (.bool true) (run_eqi (k := .u8) (a := which % 9) (b := 5) ky ky true (decide_eq_true (by omega))) ?_
        refine zv (.bool true) ?_
        refine wl_nil (then_at rfl ?_)
        refine wp_cond_true ky ?_
        refine wl_region ?_
        refine zv (.string s) ?_
        refine zv (.pointer (some ⟨q3, 3, none⟩)) ?_
        refine wl_putv (v := .string s) hT4 0 rfl 3 (by show 3 < 9; decide) ky (fun w => Tryz.sizeOf9 w) ky ky ky ?_
        intro w76 (h77 : HA ⟨w, []⟩ [(q3, 23, buC (⟨1, 1, tS, s, 1, tP, tG, 1, tO⟩ : Bu))] w76)
        refine wl_nil (block_normal ?_)
        exact ⟨rfl, (⟨1, 1, tS, s, 1, tP, tG, 1, tO⟩ : Bu), bt, fun ii => (([(27, iN .u8 which), (28, iN .u8 (which % 9)), (29, undef), (30, undef), (31, .bool false), (32, .bool false), (33, undef), (34, undef), (35, undef), (36, undef), (37, undef), (38, undef), (39, undef), (40, undef), (41, .bool false), (42, .bool false), (43, undef), (44, undef), (45, undef), (46, undef), (47, undef), (48, undef), (49, undef), (50, undef), (51, .bool false), (52, .bool false), (53, undef), (54, undef), (55, undef), (56, undef), (57, undef), (58, undef), (59, undef), (60, undef), (61, .bool false), (62, .bool false), (63, undef), (64, undef), (65, undef), (66, undef), (67, undef), (68, undef), (69, undef), (70, undef), (71, .bool false), (72, .bool false), (73, undef), (74, undef), (75, .bool true), (76, .bool true), (77, .string s), (78, .pointer (some ⟨q3, 3, none⟩)), (79, undef), (80, undef), (81, undef), (82, undef), (83, undef), (84, undef), (85, undef), (86, undef)] : List (Nat × Value)).find? (·.1 == ii)).elim undef (·.2), by kernel_rfl, (al_5 s).trans hbt, h77⟩
      · refine wp_seq ?_
        refine wl_region ?_
        refine zv (iN .u8 which) ?_
        refine zu (iN .u8 (which % 9)) (run_rem (k := .u8) (a := which) (b := 9) ky ky (by omega)) ?_
        refine wl_nil ?_
        refine then_at (F := ⟨(iN .u8 which :: .int .i64 n :: .string s :: un :: un :: un :: .bool false :: pt q3 :: .bool bt :: .bool bt :: un :: un :: un :: un :: un :: .bool true :: .bool false :: .agg (buC (⟨1, 1, tS, tD, 1, tP, tG, 1, tO⟩ : Bu)) :: u8 18 :: u8 19 :: u8 20 :: u8 21 :: u8 22 :: u8 23 :: u8 24 :: u8 25 :: .bool bt :: iN .u8 which :: iN .u8 (which % 9) :: List.replicate 91 un).toArray, []⟩) ky ?_
        refine wp_block (wp_seq (wl_region ?_))
        refine zu (.bool false) (run_eqi (k := .u8) (a := which % 9) (b := 0) ky ky false (decide_eq_false (by omega))) ?_
        refine zv (.bool false) ?_
        refine wl_nil (then_at rfl ?_)
        refine wp_cond_false ky ?_
        refine wp_seq (wl_region ?_)
        refine zu (.bool false) (run_eqi (k := .u8) (a := which % 9) (b := 1) ky ky false (decide_eq_false (by omega))) ?_
        refine zv (.bool false) ?_
        refine wl_nil (then_at rfl ?_)
        refine wp_cond_false ky ?_
        refine wp_seq (wl_region ?_)
        refine zu (.bool false) (run_eqi (k := .u8) (a := which % 9) (b := 2) ky ky false (decide_eq_false (by omega))) ?_
        refine zv (.bool false) ?_
        refine wl_nil (then_at rfl ?_)
        refine wp_cond_false ky ?_
        refine wp_seq (wl_region ?_)
        refine zu (.bool false) (run_eqi (k := .u8) (a := which % 9) (b := 3) ky ky false (decide_eq_false (by omega))) ?_
        refine zv (.bool false) ?_
        refine wl_nil (then_at rfl ?_)
        refine wp_cond_false ky ?_
        refine wp_seq (wl_region ?_)
        refine zu (.bool false) (run_eqi (k := .u8) (a := which % 9) (b := 4) ky ky false (decide_eq_false (by omega))) ?_
        refine zv (.bool false) ?_
        refine wl_nil (then_at rfl ?_)
        refine wp_cond_false ky ?_
        refine wp_seq (wl_region ?_)
        refine zu (.bool false) (run_eqi (k := .u8) (a := which % 9) (b := 5) ky ky false (decide_eq_false (by omega))) ?_
        refine zv (.bool false) ?_
        refine wl_nil (then_at rfl ?_)
        refine wp_cond_false ky ?_
        refine wp_seq (wl_region ?_)
        refine zu (.bool true) (run_eqi (k := .u8) (a := which % 9) (b := 6) ky ky true (decide_eq_true (by omega))) ?_
        refine zv (.bool true) ?_
        refine wl_nil (then_at rfl ?_)
        refine wp_cond_true ky ?_
        refine wl_region ?_
        refine zv (.string s) ?_
        refine zv (.pointer (some ⟨q3, 5, none⟩)) ?_
        refine wl_putv (v := .string s) hT4 0 rfl 5 (by show 5 < 9; decide) ky (fun w => Tryz.sizeOf9 w) ky ky ky ?_
        intro w78 (h79 : HA ⟨w, []⟩ [(q3, 23, buC (⟨1, 1, tS, tD, 1, s, tG, 1, tO⟩ : Bu))] w78)
        refine wl_nil (block_normal ?_)
        exact ⟨rfl, (⟨1, 1, tS, tD, 1, s, tG, 1, tO⟩ : Bu), bt, fun ii => (([(27, iN .u8 which), (28, iN .u8 (which % 9)), (29, undef), (30, undef), (31, .bool false), (32, .bool false), (33, undef), (34, undef), (35, undef), (36, undef), (37, undef), (38, undef), (39, undef), (40, undef), (41, .bool false), (42, .bool false), (43, undef), (44, undef), (45, undef), (46, undef), (47, undef), (48, undef), (49, undef), (50, undef), (51, .bool false), (52, .bool false), (53, undef), (54, undef), (55, undef), (56, undef), (57, undef), (58, undef), (59, undef), (60, undef), (61, .bool false), (62, .bool false), (63, undef), (64, undef), (65, undef), (66, undef), (67, undef), (68, undef), (69, undef), (70, undef), (71, .bool false), (72, .bool false), (73, undef), (74, undef), (75, .bool false), (76, .bool false), (77, undef), (78, undef), (79, .bool true), (80, .bool true), (81, .string s), (82, .pointer (some ⟨q3, 5, none⟩)), (83, undef), (84, undef), (85, undef), (86, undef)] : List (Nat × Value)).find? (·.1 == ii)).elim undef (·.2), by kernel_rfl, (al_6 s).trans hbt, h79⟩
      · refine wp_seq ?_
        refine wl_region ?_
        refine zv (iN .u8 which) ?_
        refine zu (iN .u8 (which % 9)) (run_rem (k := .u8) (a := which) (b := 9) ky ky (by omega)) ?_
        refine wl_nil (then_at rfl (wp_block (wp_seq (wl_region ?_))))
        refine zu (.bool false) (run_eqi (k := .u8) (a := which % 9) (b := 0) ky ky false (decide_eq_false (by omega))) ?_
        refine zv (.bool false) ?_
        refine wl_nil (then_at rfl ?_)
        refine wp_cond_false ky ?_
        refine wp_seq (wl_region ?_)
        refine zu (.bool false) (run_eqi (k := .u8) (a := which % 9) (b := 1) ky ky false (decide_eq_false (by omega))) ?_
        refine zv (.bool false) ?_
        refine wl_nil (then_at rfl ?_)
        refine wp_cond_false ky ?_
        refine wp_seq (wl_region ?_)
        refine zu (.bool false) (run_eqi (k := .u8) (a := which % 9) (b := 2) ky ky false (decide_eq_false (by omega))) ?_
        refine zv (.bool false) ?_
        refine wl_nil (then_at rfl ?_)
        refine wp_cond_false ky ?_
        refine wp_seq (wl_region ?_)
        refine zu (.bool false) (run_eqi (k := .u8) (a := which % 9) (b := 3) ky ky false (decide_eq_false (by omega))) ?_
        refine zv (.bool false) ?_
        refine wl_nil ?_
        refine then_at (F := ⟨(iN .u8 which :: .int .i64 n :: .string s :: un :: un :: un :: .bool false :: pt q3 :: .bool bt :: .bool bt :: un :: un :: un :: un :: un :: .bool true :: .bool false :: .agg (buC (⟨1, 1, tS, tD, 1, tP, tG, 1, tO⟩ : Bu)) :: u8 18 :: u8 19 :: u8 20 :: u8 21 :: u8 22 :: u8 23 :: u8 24 :: u8 25 :: .bool bt :: iN .u8 which :: iN .u8 (which % 9) :: un :: un :: .bool false :: .bool false :: un :: un :: un :: un :: un :: un :: un :: un :: .bool false :: .bool false :: un :: un :: un :: un :: un :: un :: un :: un :: .bool false :: .bool false :: un :: un :: un :: un :: un :: un :: un :: un :: .bool false :: .bool false :: List.replicate 57 un).toArray, []⟩) ky ?_
        refine wp_cond_false ky ?_
        refine wp_seq (wl_region ?_)
        refine zu (.bool false) (run_eqi (k := .u8) (a := which % 9) (b := 4) ky ky false (decide_eq_false (by omega))) ?_
        refine zv (.bool false) ?_
        refine wl_nil (then_at rfl ?_)
        refine wp_cond_false ky ?_
        refine wp_seq (wl_region ?_)
        refine zu (.bool false) (run_eqi (k := .u8) (a := which % 9) (b := 5) ky ky false (decide_eq_false (by omega))) ?_
        refine zv (.bool false) ?_
        refine wl_nil (then_at rfl ?_)
        refine wp_cond_false ky ?_
        refine wp_seq (wl_region ?_)
        refine zu (.bool false) (run_eqi (k := .u8) (a := which % 9) (b := 6) ky ky false (decide_eq_false (by omega))) ?_
        refine zv (.bool false) ?_
        refine wl_nil (then_at rfl ?_)
        refine wp_cond_false ky ?_
        refine wp_seq (wl_region ?_)
        refine zu (.bool true) (run_eqi (k := .u8) (a := which % 9) (b := 7) ky ky true (decide_eq_true (by omega))) ?_
        refine zv (.bool true) ?_
        refine wl_nil (then_at rfl ?_)
        refine wp_cond_true ky ?_
        refine wl_region ?_
        refine zv (.string s) ?_
        refine zv (.pointer (some ⟨q3, 6, none⟩)) ?_
        refine wl_putv (v := .string s) hT4 0 rfl 6 (by show 6 < 9; decide) ky (fun w => Tryz.sizeOf9 w) ky ky ky ?_
        intro w80 (h81 : HA ⟨w, []⟩ [(q3, 23, buC (⟨1, 1, tS, tD, 1, tP, s, 1, tO⟩ : Bu))] w80)
        refine wl_nil (block_normal ?_)
        exact ⟨rfl, (⟨1, 1, tS, tD, 1, tP, s, 1, tO⟩ : Bu), bt, fun ii => (([(27, iN .u8 which), (28, iN .u8 (which % 9)), (29, undef), (30, undef), (31, .bool false), (32, .bool false), (33, undef), (34, undef), (35, undef), (36, undef), (37, undef), (38, undef), (39, undef), (40, undef), (41, .bool false), (42, .bool false), (43, undef), (44, undef), (45, undef), (46, undef), (47, undef), (48, undef), (49, undef), (50, undef), (51, .bool false), (52, .bool false), (53, undef), (54, undef), (55, undef), (56, undef), (57, undef), (58, undef), (59, undef), (60, undef), (61, .bool false), (62, .bool false), (63, undef), (64, undef), (65, undef), (66, undef), (67, undef), (68, undef), (69, undef), (70, undef), (71, .bool false), (72, .bool false), (73, undef), (74, undef), (75, .bool false), (76, .bool false), (77, undef), (78, undef), (79, .bool false), (80, .bool false), (81, undef), (82, undef), (83, .bool true), (84, .bool true), (85, .string s), (86, .pointer (some ⟨q3, 6, none⟩))] : List (Nat × Value)).find? (·.1 == ii)).elim undef (·.2), by kernel_rfl, (al_7 s).trans hbt, h81⟩
      · refine wp_seq ?_
        refine wl_region ?_
        refine zv (iN .u8 which) ?_
        refine zu (iN .u8 (which % 9)) (run_rem (k := .u8) (a := which) (b := 9) ky ky (by omega)) ?_
        refine wl_nil (then_at rfl (wp_block (wp_seq (wl_region ?_))))
        refine zu (.bool false) (run_eqi (k := .u8) (a := which % 9) (b := 0) ky ky false (decide_eq_false (by omega))) ?_
        refine zv (.bool false) ?_
        refine wl_nil (then_at rfl ?_)
        refine wp_cond_false ky ?_
        refine wp_seq (wl_region ?_)
        refine zu (.bool false) (run_eqi (k := .u8) (a := which % 9) (b := 1) ky ky false (decide_eq_false (by omega))) ?_
        refine zv (.bool false) ?_
        refine wl_nil (then_at rfl ?_)
        refine wp_cond_false ky ?_
        refine wp_seq (wl_region ?_)
        refine zu (.bool false) (run_eqi (k := .u8) (a := which % 9) (b := 2) ky ky false (decide_eq_false (by omega))) ?_
        refine zv (.bool false) ?_
        refine wl_nil (then_at rfl ?_)
        refine wp_cond_false ky ?_
        refine wp_seq (wl_region ?_)
        refine zu (.bool false) (run_eqi (k := .u8) (a := which % 9) (b := 3) ky ky false (decide_eq_false (by omega))) ?_
        refine zv (.bool false) ?_
        refine wl_nil (then_at rfl ?_)
        refine wp_cond_false ky ?_
        refine wp_seq (wl_region ?_)
        refine zu (.bool false) (run_eqi (k := .u8) (a := which % 9) (b := 4) ky ky false (decide_eq_false (by omega))) ?_
        refine zv (.bool false) ?_
        refine wl_nil (then_at rfl ?_)
        refine wp_cond_false ky ?_
        refine wp_seq (wl_region ?_)
        refine zu (.bool false) (run_eqi (k := .u8) (a := which % 9) (b := 5) ky ky false (decide_eq_false (by omega))) ?_
        refine zv (.bool false) ?_
        refine wl_nil (then_at rfl ?_)
        refine wp_cond_false ky ?_
        refine wp_seq (wl_region ?_)
        refine zu (.bool false) (run_eqi (k := .u8) (a := which % 9) (b := 6) ky ky false (decide_eq_false (by omega))) ?_
        refine zv (.bool false) ?_
        refine wl_nil ?_
        refine then_at (F := ⟨(iN .u8 which :: .int .i64 n :: .string s :: un :: un :: un :: .bool false :: pt q3 :: .bool bt :: .bool bt :: un :: un :: un :: un :: un :: .bool true :: .bool false :: .agg (buC (⟨1, 1, tS, tD, 1, tP, tG, 1, tO⟩ : Bu)) :: u8 18 :: u8 19 :: u8 20 :: u8 21 :: u8 22 :: u8 23 :: u8 24 :: u8 25 :: .bool bt :: iN .u8 which :: iN .u8 (which % 9) :: un :: un :: .bool false :: .bool false :: un :: un :: un :: un :: un :: un :: un :: un :: .bool false :: .bool false :: un :: un :: un :: un :: un :: un :: un :: un :: .bool false :: .bool false :: un :: un :: un :: un :: un :: un :: un :: un :: .bool false :: .bool false :: un :: un :: un :: un :: un :: un :: un :: un :: .bool false :: .bool false :: un :: un :: .bool false :: .bool false :: un :: un :: .bool false :: .bool false :: List.replicate 39 un).toArray, []⟩) ky ?_
        refine wp_cond_false ky ?_
        refine wp_seq (wl_region ?_)
        refine zu (.bool false) (run_eqi (k := .u8) (a := which % 9) (b := 7) ky ky false (decide_eq_false (by omega))) ?_
        refine zv (.bool false) ?_
        refine wl_nil (then_at rfl ?_)
        refine wp_cond_false ky ?_
        refine wl_region ?_
        refine zv (.string s) ?_
        refine zv (.pointer (some ⟨q3, 8, none⟩)) ?_
        refine wl_putv (v := .string s) hT4 0 rfl 8 (by show 8 < 9; decide) ky (fun w => Tryz.sizeOf9 w) ky ky ky ?_
        intro w82 (h83 : HA ⟨w, []⟩ [(q3, 23, buC (⟨1, 1, tS, tD, 1, tP, tG, 1, s⟩ : Bu))] w82)
        refine wl_nil (block_normal ?_)
        exact ⟨rfl, (⟨1, 1, tS, tD, 1, tP, tG, 1, s⟩ : Bu), bt, fun ii => (([(27, iN .u8 which), (28, iN .u8 (which % 9)), (29, .string s), (30, .pointer (some ⟨q3, 8, none⟩)), (31, .bool false), (32, .bool false), (33, undef), (34, undef), (35, undef), (36, undef), (37, undef), (38, undef), (39, undef), (40, undef), (41, .bool false), (42, .bool false), (43, undef), (44, undef), (45, undef), (46, undef), (47, undef), (48, undef), (49, undef), (50, undef), (51, .bool false), (52, .bool false), (53, undef), (54, undef), (55, undef), (56, undef), (57, undef), (58, undef), (59, undef), (60, undef), (61, .bool false), (62, .bool false), (63, undef), (64, undef), (65, undef), (66, undef), (67, undef), (68, undef), (69, undef), (70, undef), (71, .bool false), (72, .bool false), (73, undef), (74, undef), (75, .bool false), (76, .bool false), (77, undef), (78, undef), (79, .bool false), (80, .bool false), (81, undef), (82, undef), (83, .bool false), (84, .bool false), (85, undef), (86, undef)] : List (Nat × Value)).find? (·.1 == ii)).elim undef (·.2), by kernel_rfl, (al_8 s).trans hbt, h83⟩
  · skip
    by_cases jj1 : 1 ≤ s.size
    · by_cases jj2 : s.size ≤ 16384
      · refine wl_region ?_
        refine zv (.string s) ?_
        refine zu (iN .i64 s.size) (run_len (s := s) ky) ?_
        refine zu (.bool true) (run_geq (k := .i64) (a := s.size) (b := 1) ky ky true (decide_eq_true (by omega))) ?_
        refine zv (.bool true) ?_
        refine zv (.string s) ?_
        refine zu (iN .i64 s.size) (run_len (s := s) ky) ?_
        refine zu (.bool true) (run_leq (k := .i64) (a := s.size) (b := 16384) ky ky true (decide_eq_true (by omega))) ?_
        refine zv (.bool true) ?_
        refine zv (.bool true) ?_
        refine wl_nil ?_
        exact ⟨rfl, true, fun ii => (([(18, .string s), (19, iN .i64 s.size), (20, .bool true), (21, .bool true), (22, .string s), (23, iN .i64 s.size), (24, .bool true), (25, .bool true)] : List (Nat × Value)).find? (·.1 == ii)).elim undef (·.2), by kernel_rfl, wi_y (by omega) (by omega), h7⟩
      · refine wl_region ?_
        refine zv (.string s) ?_
        refine zu (iN .i64 s.size) (run_len (s := s) ky) ?_
        refine zu (.bool true) (run_geq (k := .i64) (a := s.size) (b := 1) ky ky true (decide_eq_true (by omega))) ?_
        refine zv (.bool true) ?_
        refine zv (.string s) ?_
        refine zu (iN .i64 s.size) (run_len (s := s) ky) ?_
        refine zu (.bool false) (run_leq (k := .i64) (a := s.size) (b := 16384) ky ky false (decide_eq_false (by omega))) ?_
        refine zv (.bool false) ?_
        refine zv (.bool false) ?_
        refine wl_nil ?_
        exact ⟨rfl, false, fun ii => (([(18, .string s), (19, iN .i64 s.size), (20, .bool true), (21, .bool true), (22, .string s), (23, iN .i64 s.size), (24, .bool false), (25, .bool false)] : List (Nat × Value)).find? (·.1 == ii)).elim undef (·.2), by kernel_rfl, wi_n2 (by omega), h7⟩
    · refine wl_region ?_
      refine zv (.string s) ?_
      refine zu (iN .i64 s.size) (run_len (s := s) ky) ?_
      refine zu (.bool false) (run_geq (k := .i64) (a := s.size) (b := 1) ky ky false (decide_eq_false (by omega))) ?_
      refine zv (.bool false) ?_
      refine wl_skip ky ?_
      refine wl_skip ky ?_
      refine wl_skip ky ?_
      refine zv (.bool false) ?_
      refine zv (.bool false) ?_
      refine wl_nil ?_
      exact ⟨rfl, false, fun ii => (([(18, .string s), (19, iN .i64 s.size), (20, .bool false), (21, .bool false), (22, undef), (23, undef), (24, undef), (25, .bool false)] : List (Nat × Value)).find? (·.1 == ii)).elim undef (·.2), by kernel_rfl, wi_n1 (by omega), h7⟩
end Go.Proofs.YtoogiblkommdfaaGreat
