/-
  the law SignOther: another number is none; nor what is longer or shorter.
-/
import Derived.Test.YtefjnfeckenmkaaDoorSg6a
namespace Go.Proofs.YtefjnfeckenmkaaDoor
open Go.RowKit Num

def zS : ByteArray := { data := #[0] }
theorem zS_size : zS.size = 1 := rfl
theorem aS_size (a b : ByteArray) : (Sc.aS a b).size = 32 := bytesOf_size _
theorem other_above (s t : ByteArray) : ¬ verP (pkS (hS s)) t (RbS s t ++ plS (numS (SsS s t)) (numS sL)) := fun h => by
  have e := congrArg numS (sig_other s t _ (plS_size _ _) h)
  have hl : numS (SsS s t) < ordL := by rw [Ss_num]; exact Nat.mod_lt _ ordL_pos
  have h0 := ordL_pos
  rw [sL_num, plS_num _ _ (Nat.lt_of_lt_of_le (Nat.add_lt_add_right hl _) (by decide))] at e
  omega
theorem other_key (s t g : ByteArray) : ¬ verP (pkS (hS s) ++ zS) t g := fun h => by
  obtain ⟨_, _, _, A, _, hA, _⟩ := h
  have e := congrArg ByteArray.size hA
  rw [encP_size, app_size, pk_size] at e
  exact absurd e (by decide)

def zSg6_0 (l : List UInt8) (t : ByteArray) (m : List UInt8) q1 q4 (zx7 zx8 : Value) (zt : List Value) := (.agg (cs l).toArray :: .string t :: .agg (cs m).toArray :: pt q1 :: un :: pt q4 :: .bool false :: zx7 :: zx8 :: un :: un :: un :: un :: un :: .bool true :: .bool false :: zt : List Value)
def zSg6_1 (l : List UInt8) (t : ByteArray) (m : List UInt8) q1 q4 (p : ByteArray) (g : ByteArray) (zt : List Value) := (.agg (cs l).toArray :: .string t :: .agg (cs m).toArray :: pt q1 :: un :: pt q4 :: .bool false :: .string p :: iN .i64 0 :: .string g :: iN .i64 0 :: un :: un :: un :: .bool true :: .bool false :: .tuple #[.string p, iN .i64 0] :: .slice (some ⟨q1, 0, none⟩) 32 32 :: .string (ByteArray.mk l.toArray) :: .tuple #[.string p, iN .i64 0] :: .string p :: iN .i64 0 :: .tuple #[.string g, iN .i64 0] :: .slice (some ⟨q1, 0, none⟩) 32 32 :: .string (ByteArray.mk l.toArray) :: .string t :: .tuple #[.string g, iN .i64 0] :: .string g :: iN .i64 0 :: zt : List Value)
def zSg6_2 (l : List UInt8) (t : ByteArray) (m : List UInt8) q1 q4 (p : ByteArray) (g : ByteArray) (M : ByteArray) (S : ByteArray) (zx6 zx12 zx13 : Value) (zt : List Value) := (.agg (cs l).toArray :: .string t :: .agg (cs m).toArray :: pt q1 :: un :: pt q4 :: zx6 :: .string p :: iN .i64 0 :: .string g :: iN .i64 0 :: .string M :: zx12 :: zx13 :: .bool true :: .bool false :: .tuple #[.string p, iN .i64 0] :: .slice (some ⟨q1, 0, none⟩) 32 32 :: .string (ByteArray.mk l.toArray) :: .tuple #[.string p, iN .i64 0] :: .string p :: iN .i64 0 :: .tuple #[.string g, iN .i64 0] :: .slice (some ⟨q1, 0, none⟩) 32 32 :: .string (ByteArray.mk l.toArray) :: .string t :: .tuple #[.string g, iN .i64 0] :: .string g :: iN .i64 0 :: iN .i64 0 :: .bool false :: .bool false :: iN .i64 0 :: .bool false :: .bool false :: .string g :: .string S :: .slice (some ⟨q4, 0, none⟩) 32 32 :: .string (ByteArray.mk m.toArray) :: .string M :: zt : List Value)
set_option linter.unusedVariables false in
set_option maxRecDepth 100000 in
set_option maxHeartbeats 2000000 in
theorem other_yes (l : List UInt8) (hl : l.length = 32) (t : ByteArray) (m : List UInt8) (hm32 : m.length = 32) (p g R S M A : ByteArray) (psz : p.size = 32) (gsz : g.size = 64) (rsz : R.size = 32) (msz : M.size = 32) (asz : A.size = 32) (hlo : g.extract 0 32 = R) (hhi : g.extract 32 g.size = S) (hm : M = S)
    (hpub : (∀ w, VA w → Calls Tryd.prog 8 #[.string (ByteArray.mk l.toArray)] w fun e w' => e = .returned (.tuple #[.string p, iN .i64 0]) ∧ Below w.heap.size w w')) (hsig : (∀ w, VA w → Calls Tryd.prog 9 #[.string (ByteArray.mk l.toArray), .string t] w fun e w' => e = .returned (.tuple #[.string g, iN .i64 0]) ∧ Below w.heap.size w w')) (hadd : (∀ w, VA w → Calls Tryd.prog 11 #[.string S, .string (ByteArray.mk m.toArray)] w fun e w' => e = .returned (.string M) ∧ Below w.heap.size w w')) (hplu : (∀ w, VA w → Calls Tryd.prog 12 #[.string S, .string sL] w fun e w' => e = .returned (.string A) ∧ Below w.heap.size w w'))
    (v1 : (∀ w, VA w → Calls Tryd.prog 10 #[.string p, .string t, .string (R ++ M)] w fun e w' => e = .returned (.bool true) ∧ Below w.heap.size w w')) (v2 : (∀ w, VA w → Calls Tryd.prog 10 #[.string p, .string t, .string (R ++ A)] w fun e w' => e = .returned (.bool false) ∧ Below w.heap.size w w')) (v3 : (∀ w, VA w → Calls Tryd.prog 10 #[.string p, .string t, .string (g ++ zS)] w fun e w' => e = .returned (.bool false) ∧ Below w.heap.size w w')) (v4 : (∀ w, VA w → Calls Tryd.prog 10 #[.string p, .string t, .string (g.extract 0 63)] w fun e w' => e = .returned (.bool false) ∧ Below w.heap.size w w')) (v5 : (∀ w, VA w → Calls Tryd.prog 10 #[.string (p ++ zS), .string t, .string g] w fun e w' => e = .returned (.bool false) ∧ Below w.heap.size w w')) (w : World) (VV : VA w) :
    Calls Tryd.prog 4 #[.agg (cs l).toArray, .string t, .agg (cs m).toArray] w fun e w' => e = .returned (.bool true) ∧ Below w.heap.size w w' := by
  have H0 := HA.start w
  go_enter Tryd.func4, Tryd.ntmps4
  refine wp_seq ?_
  refine wl_region ?_
  refine wl_make H0 22 (by kernel_rfl) (run_boxA (c := (cs l).toArray) (by kernel_rfl)) ?_
  intro q1 w2 h3
  refine wl_make h3 22 (by kernel_rfl) (run_boxA (c := (cs m).toArray) (by kernel_rfl)) ?_
  intro q4 w5 h6
  refine wl_val (.bool false) (by kernel_rfl) (by kernel_rfl) ?_
  refine wl_nil ?_
  refine then_at (F := ⟨(.agg (cs l).toArray :: .string t :: .agg (cs m).toArray :: pt q1 :: un :: pt q4 :: .bool false :: List.replicate 83 un).toArray, []⟩) (by kernel_rfl) ?_
  refine wp_seq ?_
  refine wp_seq ?_
  refine wl_region ?_
  refine wl_call (v := .bool true) h6 (by kernel_rfl) ent7 #[] (by kernel_rfl) (works_any w5 (VV.below h6.old VV.big)) ?_
  intro w7 h8
  refine wl_val (.bool false) (by kernel_rfl) (by kernel_rfl) ?_
  refine wl_nil ?_
  refine then_at (F := ⟨(zSg6_0 l t m q1 q4 un un (List.replicate 74 un)).toArray, []⟩) (by kernel_rfl) ?_
  refine wp_cond_false (by kernel_rfl) ?_
  refine wp_skip ?_
  refine then_at (F := ⟨(zSg6_0 l t m q1 q4 un un (List.replicate 74 un)).toArray, []⟩) (by kernel_rfl) ?_
  refine wp_seq ?_
  refine wl_region ?_
  refine wl_val (.slice (some ⟨q1, 0, none⟩) 32 32) (by kernel_rfl) (run_cut41 (q := q1) (by kernel_rfl)) ?_
  refine wl_val (.string (ByteArray.mk l.toArray)) (by kernel_rfl) (run_arrText (l := l) hl (by kernel_rfl) (h8.get 1 rfl)) ?_
  refine wl_call (v := .tuple #[.string p, iN .i64 0]) h8 (by kernel_rfl) ent8 #[.string (ByteArray.mk l.toArray)] (by kernel_rfl) (hpub w7 (VV.below h8.old VV.big)) ?_
  intro w9 h10
  refine wl_val (.tuple #[.string p, iN .i64 0]) (by kernel_rfl) (by kernel_rfl) ?_
  refine wl_val (.string p) (by kernel_rfl) (by kernel_rfl) ?_
  refine wl_val (iN .i64 0) (by kernel_rfl) (by kernel_rfl) ?_
  refine wl_val (.string p) (by kernel_rfl) (by kernel_rfl) ?_
  refine wl_val (iN .i64 0) (by kernel_rfl) (by kernel_rfl) ?_
  refine wl_nil ?_
  refine then_at (F := ⟨(zSg6_0 l t m q1 q4 (.string p) (iN .i64 0) (.tuple #[.string p, iN .i64 0] :: .slice (some ⟨q1, 0, none⟩) 32 32 :: .string (ByteArray.mk l.toArray) :: .tuple #[.string p, iN .i64 0] :: .string p :: iN .i64 0 :: List.replicate 68 un)).toArray, []⟩) (by kernel_rfl) ?_
  refine wp_seq ?_
  refine wl_region ?_
  refine wl_val (.slice (some ⟨q1, 0, none⟩) 32 32) (by kernel_rfl) (run_cut41 (q := q1) (by kernel_rfl)) ?_
  refine wl_val (.string (ByteArray.mk l.toArray)) (by kernel_rfl) (run_arrText (l := l) hl (by kernel_rfl) (h10.get 1 rfl)) ?_
  refine wl_val (.string t) (by kernel_rfl) (by kernel_rfl) ?_
  refine wl_call (v := .tuple #[.string g, iN .i64 0]) h10 (by kernel_rfl) ent9 #[.string (ByteArray.mk l.toArray), .string t] (by kernel_rfl) (hsig w9 (VV.below h10.old VV.big)) ?_
  intro w11 h12
  refine wl_val (.tuple #[.string g, iN .i64 0]) (by kernel_rfl) (by kernel_rfl) ?_
  refine wl_val (.string g) (by kernel_rfl) (by kernel_rfl) ?_
  refine wl_val (iN .i64 0) (by kernel_rfl) (by kernel_rfl) ?_
  refine wl_val (.string g) (by kernel_rfl) (by kernel_rfl) ?_
  refine wl_val (iN .i64 0) (by kernel_rfl) (by kernel_rfl) ?_
  refine wl_nil ?_
  refine then_at (F := ⟨(zSg6_1 l t m q1 q4 p g (List.replicate 61 un)).toArray, []⟩) (by kernel_rfl) ?_
  refine wp_seq ?_
  refine wp_seq ?_
  refine wl_region ?_
  refine wl_val (iN .i64 0) (by kernel_rfl) (by kernel_rfl) ?_
  refine wl_val (.bool false) (by kernel_rfl) (run_nei (k := .i64) (a := 0) (b := 0) (by kernel_rfl) (by kernel_rfl) false (by decide)) ?_
  refine wl_val (.bool false) (by kernel_rfl) (by kernel_rfl) ?_
  refine wl_val (iN .i64 0) (by kernel_rfl) (by kernel_rfl) ?_
  refine wl_val (.bool false) (by kernel_rfl) (run_nei (k := .i64) (a := 0) (b := 0) (by kernel_rfl) (by kernel_rfl) false (by decide)) ?_
  refine wl_val (.bool false) (by kernel_rfl) (by kernel_rfl) ?_
  refine wl_nil ?_
  refine then_at (F := ⟨(zSg6_1 l t m q1 q4 p g (iN .i64 0 :: .bool false :: .bool false :: iN .i64 0 :: .bool false :: .bool false :: List.replicate 55 un)).toArray, []⟩) (by kernel_rfl) ?_
  refine wp_cond_false (by kernel_rfl) ?_
  refine wp_skip ?_
  refine then_at (F := ⟨(zSg6_1 l t m q1 q4 p g (iN .i64 0 :: .bool false :: .bool false :: iN .i64 0 :: .bool false :: .bool false :: List.replicate 55 un)).toArray, []⟩) (by kernel_rfl) ?_
  refine wp_seq ?_
  refine wp_region_sure ⟨(zSg6_2 l t m q1 q4 p g M S (.bool false) un un (List.replicate 50 un)).toArray, []⟩ (HA w [(q4, 22, (cs m).toArray), (q1, 22, (cs l).toArray)]) [.string g, .string S, .slice (some ⟨q4, 0, none⟩) 32 32, .string (ByteArray.mk m.toArray), .string M, .string M] (by kernel_rfl) (by kernel_rfl) (by kernel_rfl) (by kernel_rfl) (fun _ _ _ h => h) h12.drew ?_ ?_
  · refine AllSure.cons (OpSure.take (v := .string g) (by kernel_rfl) (by kernel_rfl) (fun _ _ => (by kernel_rfl))) ?_
    refine AllSure.cons (OpSure.take (v := .string S) (by kernel_rfl) (by kernel_rfl) (fun _ _ => (run_cut_loE (s := g) (a := 32) (by kernel_rfl) (by kernel_rfl) (by rw [gsz]; decide) hhi))) ?_
    refine AllSure.cons (OpSure.take (v := .slice (some ⟨q4, 0, none⟩) 32 32) (by kernel_rfl) (by kernel_rfl) (fun _ _ => (run_cut41 (q := q4) (by kernel_rfl)))) ?_
    refine AllSure.cons (OpSure.take (v := .string (ByteArray.mk m.toArray)) (by kernel_rfl) (by kernel_rfl) (fun w' h' => run_arrText (l := m) hm32 (by kernel_rfl) (h'.get 0 rfl))) ?_
    refine AllSure.cons (sure_call (v := .string M) (by kernel_rfl) (by kernel_rfl) ent11 HA.keep #[.string S, .string (ByteArray.mk m.toArray)] (by kernel_rfl) (fun w' h' => hadd w' (VV.below h'.old VV.big))) ?_
    refine AllSure.cons (OpSure.take (v := .string M) (by kernel_rfl) (by kernel_rfl) (fun _ _ => (by kernel_rfl))) ?_
    exact AllSure.nil
  intro w13 h14
  refine then_at (F := ⟨(zSg6_2 l t m q1 q4 p g M S (.bool false) un un (List.replicate 50 un)).toArray, []⟩) (by kernel_rfl) ?_
  refine wp_seq ?_
  refine wl_region ?_
  refine wl_val (.string sL) (by kernel_rfl) (by kernel_rfl) ?_
  refine wl_nil ?_
  refine then_at (F := ⟨(zSg6_2 l t m q1 q4 p g M S (.bool false) (.string sL) un (List.replicate 50 un)).toArray, []⟩) (by kernel_rfl) ?_
  refine wp_seq ?_
  refine wl_region ?_
  refine wl_val (.string g) (by kernel_rfl) (by kernel_rfl) ?_
  refine wl_val (.string S) (by kernel_rfl) (run_cut_loE (s := g) (a := 32) (by kernel_rfl) (by kernel_rfl) (by rw [gsz]; decide) hhi) ?_
  refine wl_val (.string sL) (by kernel_rfl) (by kernel_rfl) ?_
  refine wl_call (v := .string A) h14 (by kernel_rfl) ent12 #[.string S, .string sL] (by kernel_rfl) (hplu w13 (VV.below h14.old VV.big)) ?_
  intro w15 h16
  refine wl_val (.string A) (by kernel_rfl) (by kernel_rfl) ?_
  refine wl_nil ?_
  refine then_at (F := ⟨(zSg6_2 l t m q1 q4 p g M S (.bool false) (.string sL) (.string A) (.string g :: .string S :: .string sL :: .string A :: List.replicate 46 un)).toArray, []⟩) (by kernel_rfl) ?_
  refine wp_seq ?_
  refine wp_region_sure ⟨(zSg6_2 l t m q1 q4 p g M S (.bool true) (.string sL) (.string A) (.string g :: .string S :: .string sL :: .string A :: .string p :: .string t :: .string g :: .string R :: .string M :: .string (R ++ M) :: .bool true :: .string M :: .string g :: .string S :: .bool true :: .bool true :: .bool true :: .string p :: .string t :: .string g :: .string R :: .string A :: .string (R ++ A) :: .bool false :: .bool true :: .bool true :: .bool true :: .string p :: .string t :: .string g :: .string (g ++ zS) :: .bool false :: .bool true :: .bool true :: .bool true :: .string p :: .string t :: .string g :: .string (g.extract 0 63) :: .bool false :: .bool true :: .bool true :: .bool true :: .string p :: .string (p ++ zS) :: .string t :: .string g :: .bool false :: .bool true :: .bool true :: [])).toArray, []⟩ (HA w [(q4, 22, (cs m).toArray), (q1, 22, (cs l).toArray)]) [.string p, .string t, .string g, .string R, .string M, .string (R ++ M), .bool true, .string M, .string g, .string S, .bool true, .bool true, .bool true, .string p, .string t, .string g, .string R, .string A, .string (R ++ A), .bool false, .bool true, .bool true, .bool true, .string p, .string t, .string g, .string (g ++ zS), .bool false, .bool true, .bool true, .bool true, .string p, .string t, .string g, .string (g.extract 0 63), .bool false, .bool true, .bool true, .bool true, .string p, .string (p ++ zS), .string t, .string g, .bool false, .bool true, .bool true, .bool true] (by kernel_rfl) (by kernel_rfl) (by kernel_rfl) (by kernel_rfl) (fun _ _ _ h => h) h16.drew ?_ ?_
  · refine AllSure.cons (OpSure.take (v := .string p) (by kernel_rfl) (by kernel_rfl) (fun _ _ => (by kernel_rfl))) ?_
    refine AllSure.cons (OpSure.take (v := .string t) (by kernel_rfl) (by kernel_rfl) (fun _ _ => (by kernel_rfl))) ?_
    refine AllSure.cons (OpSure.take (v := .string g) (by kernel_rfl) (by kernel_rfl) (fun _ _ => (by kernel_rfl))) ?_
    refine AllSure.cons (OpSure.take (v := .string R) (by kernel_rfl) (by kernel_rfl) (fun _ _ => (run_cut_hiE (s := g) (b := 32) (by kernel_rfl) (by kernel_rfl) (by rw [gsz]; decide) hlo))) ?_
    refine AllSure.cons (OpSure.take (v := .string M) (by kernel_rfl) (by kernel_rfl) (fun _ _ => (by kernel_rfl))) ?_
    refine AllSure.cons (OpSure.take (v := .string (R ++ M)) (by kernel_rfl) (by kernel_rfl) (fun _ _ => (run_cat (s := R) (t := M) (by kernel_rfl) (by kernel_rfl) (by rw [rsz, msz]; decide)))) ?_
    refine AllSure.cons (sure_call (v := .bool true) (by kernel_rfl) (by kernel_rfl) ent10 HA.keep #[.string p, .string t, .string (R ++ M)] (by kernel_rfl) (fun w' h' => v1 w' (VV.below h'.old VV.big))) ?_
    refine AllSure.cons (OpSure.take (v := .string M) (by kernel_rfl) (by kernel_rfl) (fun _ _ => (by kernel_rfl))) ?_
    refine AllSure.cons (OpSure.take (v := .string g) (by kernel_rfl) (by kernel_rfl) (fun _ _ => (by kernel_rfl))) ?_
    refine AllSure.cons (OpSure.take (v := .string S) (by kernel_rfl) (by kernel_rfl) (fun _ _ => (run_cut_loE (s := g) (a := 32) (by kernel_rfl) (by kernel_rfl) (by rw [gsz]; decide) hhi))) ?_
    refine AllSure.cons (OpSure.take (v := .bool true) (by kernel_rfl) (by kernel_rfl) (fun _ _ => (run_eqs (s := M) (t := S) (by kernel_rfl) (by kernel_rfl) true (decide_eq_true hm)))) ?_
    refine AllSure.cons (OpSure.take (v := .bool true) (by kernel_rfl) (by kernel_rfl) (fun _ _ => (run_eqb true true (by kernel_rfl) (by kernel_rfl)))) ?_
    refine AllSure.cons (OpSure.take (v := .bool true) (by kernel_rfl) (by kernel_rfl) (fun _ _ => (by kernel_rfl))) ?_
    refine AllSure.cons (OpSure.take (v := .string p) (by kernel_rfl) (by kernel_rfl) (fun _ _ => (by kernel_rfl))) ?_
    refine AllSure.cons (OpSure.take (v := .string t) (by kernel_rfl) (by kernel_rfl) (fun _ _ => (by kernel_rfl))) ?_
    refine AllSure.cons (OpSure.take (v := .string g) (by kernel_rfl) (by kernel_rfl) (fun _ _ => (by kernel_rfl))) ?_
    refine AllSure.cons (OpSure.take (v := .string R) (by kernel_rfl) (by kernel_rfl) (fun _ _ => (run_cut_hiE (s := g) (b := 32) (by kernel_rfl) (by kernel_rfl) (by rw [gsz]; decide) hlo))) ?_
    refine AllSure.cons (OpSure.take (v := .string A) (by kernel_rfl) (by kernel_rfl) (fun _ _ => (by kernel_rfl))) ?_
    refine AllSure.cons (OpSure.take (v := .string (R ++ A)) (by kernel_rfl) (by kernel_rfl) (fun _ _ => (run_cat (s := R) (t := A) (by kernel_rfl) (by kernel_rfl) (by rw [rsz, asz]; decide)))) ?_
    refine AllSure.cons (sure_call (v := .bool false) (by kernel_rfl) (by kernel_rfl) ent10 HA.keep #[.string p, .string t, .string (R ++ A)] (by kernel_rfl) (fun w' h' => v2 w' (VV.below h'.old VV.big))) ?_
    refine AllSure.cons (OpSure.take (v := .bool true) (by kernel_rfl) (by kernel_rfl) (fun _ _ => (by kernel_rfl))) ?_
    refine AllSure.cons (OpSure.take (v := .bool true) (by kernel_rfl) (by kernel_rfl) (fun _ _ => (by kernel_rfl))) ?_
    refine AllSure.cons (OpSure.take (v := .bool true) (by kernel_rfl) (by kernel_rfl) (fun _ _ => (by kernel_rfl))) ?_
    refine AllSure.cons (OpSure.take (v := .string p) (by kernel_rfl) (by kernel_rfl) (fun _ _ => (by kernel_rfl))) ?_
    refine AllSure.cons (OpSure.take (v := .string t) (by kernel_rfl) (by kernel_rfl) (fun _ _ => (by kernel_rfl))) ?_
    refine AllSure.cons (OpSure.take (v := .string g) (by kernel_rfl) (by kernel_rfl) (fun _ _ => (by kernel_rfl))) ?_
    refine AllSure.cons (OpSure.take (v := .string (g ++ zS)) (by kernel_rfl) (by kernel_rfl) (fun _ _ => (run_cat (s := g) (t := zS) (by kernel_rfl) (by kernel_rfl) (by rw [gsz, zS_size]; decide)))) ?_
    refine AllSure.cons (sure_call (v := .bool false) (by kernel_rfl) (by kernel_rfl) ent10 HA.keep #[.string p, .string t, .string (g ++ zS)] (by kernel_rfl) (fun w' h' => v3 w' (VV.below h'.old VV.big))) ?_
    refine AllSure.cons (OpSure.take (v := .bool true) (by kernel_rfl) (by kernel_rfl) (fun _ _ => (by kernel_rfl))) ?_
    refine AllSure.cons (OpSure.take (v := .bool true) (by kernel_rfl) (by kernel_rfl) (fun _ _ => (by kernel_rfl))) ?_
    refine AllSure.cons (OpSure.take (v := .bool true) (by kernel_rfl) (by kernel_rfl) (fun _ _ => (by kernel_rfl))) ?_
    refine AllSure.cons (OpSure.take (v := .string p) (by kernel_rfl) (by kernel_rfl) (fun _ _ => (by kernel_rfl))) ?_
    refine AllSure.cons (OpSure.take (v := .string t) (by kernel_rfl) (by kernel_rfl) (fun _ _ => (by kernel_rfl))) ?_
    refine AllSure.cons (OpSure.take (v := .string g) (by kernel_rfl) (by kernel_rfl) (fun _ _ => (by kernel_rfl))) ?_
    refine AllSure.cons (OpSure.take (v := .string (g.extract 0 63)) (by kernel_rfl) (by kernel_rfl) (fun _ _ => (Sc.run_cut_hi (s := g) (b := 63) (by kernel_rfl) (by kernel_rfl) (by rw [gsz]; decide)))) ?_
    refine AllSure.cons (sure_call (v := .bool false) (by kernel_rfl) (by kernel_rfl) ent10 HA.keep #[.string p, .string t, .string (g.extract 0 63)] (by kernel_rfl) (fun w' h' => v4 w' (VV.below h'.old VV.big))) ?_
    refine AllSure.cons (OpSure.take (v := .bool true) (by kernel_rfl) (by kernel_rfl) (fun _ _ => (by kernel_rfl))) ?_
    refine AllSure.cons (OpSure.take (v := .bool true) (by kernel_rfl) (by kernel_rfl) (fun _ _ => (by kernel_rfl))) ?_
    refine AllSure.cons (OpSure.take (v := .bool true) (by kernel_rfl) (by kernel_rfl) (fun _ _ => (by kernel_rfl))) ?_
    refine AllSure.cons (OpSure.take (v := .string p) (by kernel_rfl) (by kernel_rfl) (fun _ _ => (by kernel_rfl))) ?_
    refine AllSure.cons (OpSure.take (v := .string (p ++ zS)) (by kernel_rfl) (by kernel_rfl) (fun _ _ => (run_cat (s := p) (t := zS) (by kernel_rfl) (by kernel_rfl) (by rw [psz, zS_size]; decide)))) ?_
    refine AllSure.cons (OpSure.take (v := .string t) (by kernel_rfl) (by kernel_rfl) (fun _ _ => (by kernel_rfl))) ?_
    refine AllSure.cons (OpSure.take (v := .string g) (by kernel_rfl) (by kernel_rfl) (fun _ _ => (by kernel_rfl))) ?_
    refine AllSure.cons (sure_call (v := .bool false) (by kernel_rfl) (by kernel_rfl) ent10 HA.keep #[.string (p ++ zS), .string t, .string g] (by kernel_rfl) (fun w' h' => v5 w' (VV.below h'.old VV.big))) ?_
    refine AllSure.cons (OpSure.take (v := .bool true) (by kernel_rfl) (by kernel_rfl) (fun _ _ => (by kernel_rfl))) ?_
    refine AllSure.cons (OpSure.take (v := .bool true) (by kernel_rfl) (by kernel_rfl) (fun _ _ => (by kernel_rfl))) ?_
    refine AllSure.cons (OpSure.take (v := .bool true) (by kernel_rfl) (by kernel_rfl) (fun _ _ => (by kernel_rfl))) ?_
    exact AllSure.nil
  intro w17 h18
  refine then_at (F := ⟨(zSg6_2 l t m q1 q4 p g M S (.bool true) (.string sL) (.string A) (.string g :: .string S :: .string sL :: .string A :: .string p :: .string t :: .string g :: .string R :: .string M :: .string (R ++ M) :: .bool true :: .string M :: .string g :: .string S :: .bool true :: .bool true :: .bool true :: .string p :: .string t :: .string g :: .string R :: .string A :: .string (R ++ A) :: .bool false :: .bool true :: .bool true :: .bool true :: .string p :: .string t :: .string g :: .string (g ++ zS) :: .bool false :: .bool true :: .bool true :: .bool true :: .string p :: .string t :: .string g :: .string (g.extract 0 63) :: .bool false :: .bool true :: .bool true :: .bool true :: .string p :: .string (p ++ zS) :: .string t :: .string g :: .bool false :: .bool true :: .bool true :: [])).toArray, []⟩) (by kernel_rfl) ?_
  refine wp_ret ?_
  repeat first | refine then_ret ?_ | refine block_ret ?_
  exact bodyPost_ret (v := .bool true) (by kernel_rfl) rfl ⟨rfl, h18.old⟩

def zSg6_3 (l : List UInt8) (t : ByteArray) (m : List UInt8) q1 q4 (zx7 zx8 : Value) (zt : List Value) := (.agg (cs l).toArray :: .string t :: .agg (cs m).toArray :: pt q1 :: un :: pt q4 :: .bool false :: zx7 :: zx8 :: un :: un :: un :: un :: un :: .bool true :: .bool false :: zt : List Value)
def zSg6_4 (l : List UInt8) (t : ByteArray) (m : List UInt8) q1 q4 (p : ByteArray) (g : ByteArray) (zt : List Value) := (.agg (cs l).toArray :: .string t :: .agg (cs m).toArray :: pt q1 :: un :: pt q4 :: .bool false :: .string p :: iN .i64 0 :: .string g :: iN .i64 0 :: un :: un :: un :: .bool true :: .bool false :: .tuple #[.string p, iN .i64 0] :: .slice (some ⟨q1, 0, none⟩) 32 32 :: .string (ByteArray.mk l.toArray) :: .tuple #[.string p, iN .i64 0] :: .string p :: iN .i64 0 :: .tuple #[.string g, iN .i64 0] :: .slice (some ⟨q1, 0, none⟩) 32 32 :: .string (ByteArray.mk l.toArray) :: .string t :: .tuple #[.string g, iN .i64 0] :: .string g :: iN .i64 0 :: zt : List Value)
def zSg6_5 (l : List UInt8) (t : ByteArray) (m : List UInt8) q1 q4 (p : ByteArray) (g : ByteArray) (M : ByteArray) (S : ByteArray) (zx6 zx12 zx13 : Value) (zt : List Value) := (.agg (cs l).toArray :: .string t :: .agg (cs m).toArray :: pt q1 :: un :: pt q4 :: zx6 :: .string p :: iN .i64 0 :: .string g :: iN .i64 0 :: .string M :: zx12 :: zx13 :: .bool true :: .bool false :: .tuple #[.string p, iN .i64 0] :: .slice (some ⟨q1, 0, none⟩) 32 32 :: .string (ByteArray.mk l.toArray) :: .tuple #[.string p, iN .i64 0] :: .string p :: iN .i64 0 :: .tuple #[.string g, iN .i64 0] :: .slice (some ⟨q1, 0, none⟩) 32 32 :: .string (ByteArray.mk l.toArray) :: .string t :: .tuple #[.string g, iN .i64 0] :: .string g :: iN .i64 0 :: iN .i64 0 :: .bool false :: .bool false :: iN .i64 0 :: .bool false :: .bool false :: .string g :: .string S :: .slice (some ⟨q4, 0, none⟩) 32 32 :: .string (ByteArray.mk m.toArray) :: .string M :: zt : List Value)
set_option linter.unusedVariables false in
set_option maxRecDepth 100000 in
set_option maxHeartbeats 2000000 in
theorem other_no (l : List UInt8) (hl : l.length = 32) (t : ByteArray) (m : List UInt8) (hm32 : m.length = 32) (p g R S M A : ByteArray) (psz : p.size = 32) (gsz : g.size = 64) (rsz : R.size = 32) (msz : M.size = 32) (asz : A.size = 32) (hlo : g.extract 0 32 = R) (hhi : g.extract 32 g.size = S) (hm : ¬ M = S)
    (hpub : (∀ w, VA w → Calls Tryd.prog 8 #[.string (ByteArray.mk l.toArray)] w fun e w' => e = .returned (.tuple #[.string p, iN .i64 0]) ∧ Below w.heap.size w w')) (hsig : (∀ w, VA w → Calls Tryd.prog 9 #[.string (ByteArray.mk l.toArray), .string t] w fun e w' => e = .returned (.tuple #[.string g, iN .i64 0]) ∧ Below w.heap.size w w')) (hadd : (∀ w, VA w → Calls Tryd.prog 11 #[.string S, .string (ByteArray.mk m.toArray)] w fun e w' => e = .returned (.string M) ∧ Below w.heap.size w w')) (hplu : (∀ w, VA w → Calls Tryd.prog 12 #[.string S, .string sL] w fun e w' => e = .returned (.string A) ∧ Below w.heap.size w w'))
    (v1 : (∀ w, VA w → Calls Tryd.prog 10 #[.string p, .string t, .string (R ++ M)] w fun e w' => e = .returned (.bool false) ∧ Below w.heap.size w w')) (v2 : (∀ w, VA w → Calls Tryd.prog 10 #[.string p, .string t, .string (R ++ A)] w fun e w' => e = .returned (.bool false) ∧ Below w.heap.size w w')) (v3 : (∀ w, VA w → Calls Tryd.prog 10 #[.string p, .string t, .string (g ++ zS)] w fun e w' => e = .returned (.bool false) ∧ Below w.heap.size w w')) (v4 : (∀ w, VA w → Calls Tryd.prog 10 #[.string p, .string t, .string (g.extract 0 63)] w fun e w' => e = .returned (.bool false) ∧ Below w.heap.size w w')) (v5 : (∀ w, VA w → Calls Tryd.prog 10 #[.string (p ++ zS), .string t, .string g] w fun e w' => e = .returned (.bool false) ∧ Below w.heap.size w w')) (w : World) (VV : VA w) :
    Calls Tryd.prog 4 #[.agg (cs l).toArray, .string t, .agg (cs m).toArray] w fun e w' => e = .returned (.bool true) ∧ Below w.heap.size w w' := by
  have H0 := HA.start w
  go_enter Tryd.func4, Tryd.ntmps4
  refine wp_seq ?_
  refine wl_region ?_
  refine wl_make H0 22 (by kernel_rfl) (run_boxA (c := (cs l).toArray) (by kernel_rfl)) ?_
  intro q1 w2 h3
  refine wl_make h3 22 (by kernel_rfl) (run_boxA (c := (cs m).toArray) (by kernel_rfl)) ?_
  intro q4 w5 h6
  refine wl_val (.bool false) (by kernel_rfl) (by kernel_rfl) ?_
  refine wl_nil ?_
  refine then_at (F := ⟨(.agg (cs l).toArray :: .string t :: .agg (cs m).toArray :: pt q1 :: un :: pt q4 :: .bool false :: List.replicate 83 un).toArray, []⟩) (by kernel_rfl) ?_
  refine wp_seq ?_
  refine wp_seq ?_
  refine wl_region ?_
  refine wl_call (v := .bool true) h6 (by kernel_rfl) ent7 #[] (by kernel_rfl) (works_any w5 (VV.below h6.old VV.big)) ?_
  intro w7 h8
  refine wl_val (.bool false) (by kernel_rfl) (by kernel_rfl) ?_
  refine wl_nil ?_
  refine then_at (F := ⟨(zSg6_3 l t m q1 q4 un un (List.replicate 74 un)).toArray, []⟩) (by kernel_rfl) ?_
  refine wp_cond_false (by kernel_rfl) ?_
  refine wp_skip ?_
  refine then_at (F := ⟨(zSg6_3 l t m q1 q4 un un (List.replicate 74 un)).toArray, []⟩) (by kernel_rfl) ?_
  refine wp_seq ?_
  refine wl_region ?_
  refine wl_val (.slice (some ⟨q1, 0, none⟩) 32 32) (by kernel_rfl) (run_cut41 (q := q1) (by kernel_rfl)) ?_
  refine wl_val (.string (ByteArray.mk l.toArray)) (by kernel_rfl) (run_arrText (l := l) hl (by kernel_rfl) (h8.get 1 rfl)) ?_
  refine wl_call (v := .tuple #[.string p, iN .i64 0]) h8 (by kernel_rfl) ent8 #[.string (ByteArray.mk l.toArray)] (by kernel_rfl) (hpub w7 (VV.below h8.old VV.big)) ?_
  intro w9 h10
  refine wl_val (.tuple #[.string p, iN .i64 0]) (by kernel_rfl) (by kernel_rfl) ?_
  refine wl_val (.string p) (by kernel_rfl) (by kernel_rfl) ?_
  refine wl_val (iN .i64 0) (by kernel_rfl) (by kernel_rfl) ?_
  refine wl_val (.string p) (by kernel_rfl) (by kernel_rfl) ?_
  refine wl_val (iN .i64 0) (by kernel_rfl) (by kernel_rfl) ?_
  refine wl_nil ?_
  refine then_at (F := ⟨(zSg6_3 l t m q1 q4 (.string p) (iN .i64 0) (.tuple #[.string p, iN .i64 0] :: .slice (some ⟨q1, 0, none⟩) 32 32 :: .string (ByteArray.mk l.toArray) :: .tuple #[.string p, iN .i64 0] :: .string p :: iN .i64 0 :: List.replicate 68 un)).toArray, []⟩) (by kernel_rfl) ?_
  refine wp_seq ?_
  refine wl_region ?_
  refine wl_val (.slice (some ⟨q1, 0, none⟩) 32 32) (by kernel_rfl) (run_cut41 (q := q1) (by kernel_rfl)) ?_
  refine wl_val (.string (ByteArray.mk l.toArray)) (by kernel_rfl) (run_arrText (l := l) hl (by kernel_rfl) (h10.get 1 rfl)) ?_
  refine wl_val (.string t) (by kernel_rfl) (by kernel_rfl) ?_
  refine wl_call (v := .tuple #[.string g, iN .i64 0]) h10 (by kernel_rfl) ent9 #[.string (ByteArray.mk l.toArray), .string t] (by kernel_rfl) (hsig w9 (VV.below h10.old VV.big)) ?_
  intro w11 h12
  refine wl_val (.tuple #[.string g, iN .i64 0]) (by kernel_rfl) (by kernel_rfl) ?_
  refine wl_val (.string g) (by kernel_rfl) (by kernel_rfl) ?_
  refine wl_val (iN .i64 0) (by kernel_rfl) (by kernel_rfl) ?_
  refine wl_val (.string g) (by kernel_rfl) (by kernel_rfl) ?_
  refine wl_val (iN .i64 0) (by kernel_rfl) (by kernel_rfl) ?_
  refine wl_nil ?_
  refine then_at (F := ⟨(zSg6_4 l t m q1 q4 p g (List.replicate 61 un)).toArray, []⟩) (by kernel_rfl) ?_
  refine wp_seq ?_
  refine wp_seq ?_
  refine wl_region ?_
  refine wl_val (iN .i64 0) (by kernel_rfl) (by kernel_rfl) ?_
  refine wl_val (.bool false) (by kernel_rfl) (run_nei (k := .i64) (a := 0) (b := 0) (by kernel_rfl) (by kernel_rfl) false (by decide)) ?_
  refine wl_val (.bool false) (by kernel_rfl) (by kernel_rfl) ?_
  refine wl_val (iN .i64 0) (by kernel_rfl) (by kernel_rfl) ?_
  refine wl_val (.bool false) (by kernel_rfl) (run_nei (k := .i64) (a := 0) (b := 0) (by kernel_rfl) (by kernel_rfl) false (by decide)) ?_
  refine wl_val (.bool false) (by kernel_rfl) (by kernel_rfl) ?_
  refine wl_nil ?_
  refine then_at (F := ⟨(zSg6_4 l t m q1 q4 p g (iN .i64 0 :: .bool false :: .bool false :: iN .i64 0 :: .bool false :: .bool false :: List.replicate 55 un)).toArray, []⟩) (by kernel_rfl) ?_
  refine wp_cond_false (by kernel_rfl) ?_
  refine wp_skip ?_
  refine then_at (F := ⟨(zSg6_4 l t m q1 q4 p g (iN .i64 0 :: .bool false :: .bool false :: iN .i64 0 :: .bool false :: .bool false :: List.replicate 55 un)).toArray, []⟩) (by kernel_rfl) ?_
  refine wp_seq ?_
  refine wp_region_sure ⟨(zSg6_5 l t m q1 q4 p g M S (.bool false) un un (List.replicate 50 un)).toArray, []⟩ (HA w [(q4, 22, (cs m).toArray), (q1, 22, (cs l).toArray)]) [.string g, .string S, .slice (some ⟨q4, 0, none⟩) 32 32, .string (ByteArray.mk m.toArray), .string M, .string M] (by kernel_rfl) (by kernel_rfl) (by kernel_rfl) (by kernel_rfl) (fun _ _ _ h => h) h12.drew ?_ ?_
  · refine AllSure.cons (OpSure.take (v := .string g) (by kernel_rfl) (by kernel_rfl) (fun _ _ => (by kernel_rfl))) ?_
    refine AllSure.cons (OpSure.take (v := .string S) (by kernel_rfl) (by kernel_rfl) (fun _ _ => (run_cut_loE (s := g) (a := 32) (by kernel_rfl) (by kernel_rfl) (by rw [gsz]; decide) hhi))) ?_
    refine AllSure.cons (OpSure.take (v := .slice (some ⟨q4, 0, none⟩) 32 32) (by kernel_rfl) (by kernel_rfl) (fun _ _ => (run_cut41 (q := q4) (by kernel_rfl)))) ?_
    refine AllSure.cons (OpSure.take (v := .string (ByteArray.mk m.toArray)) (by kernel_rfl) (by kernel_rfl) (fun w' h' => run_arrText (l := m) hm32 (by kernel_rfl) (h'.get 0 rfl))) ?_
    refine AllSure.cons (sure_call (v := .string M) (by kernel_rfl) (by kernel_rfl) ent11 HA.keep #[.string S, .string (ByteArray.mk m.toArray)] (by kernel_rfl) (fun w' h' => hadd w' (VV.below h'.old VV.big))) ?_
    refine AllSure.cons (OpSure.take (v := .string M) (by kernel_rfl) (by kernel_rfl) (fun _ _ => (by kernel_rfl))) ?_
    exact AllSure.nil
  intro w13 h14
  refine then_at (F := ⟨(zSg6_5 l t m q1 q4 p g M S (.bool false) un un (List.replicate 50 un)).toArray, []⟩) (by kernel_rfl) ?_
  refine wp_seq ?_
  refine wl_region ?_
  refine wl_val (.string sL) (by kernel_rfl) (by kernel_rfl) ?_
  refine wl_nil ?_
  refine then_at (F := ⟨(zSg6_5 l t m q1 q4 p g M S (.bool false) (.string sL) un (List.replicate 50 un)).toArray, []⟩) (by kernel_rfl) ?_
  refine wp_seq ?_
  refine wl_region ?_
  refine wl_val (.string g) (by kernel_rfl) (by kernel_rfl) ?_
  refine wl_val (.string S) (by kernel_rfl) (run_cut_loE (s := g) (a := 32) (by kernel_rfl) (by kernel_rfl) (by rw [gsz]; decide) hhi) ?_
  refine wl_val (.string sL) (by kernel_rfl) (by kernel_rfl) ?_
  refine wl_call (v := .string A) h14 (by kernel_rfl) ent12 #[.string S, .string sL] (by kernel_rfl) (hplu w13 (VV.below h14.old VV.big)) ?_
  intro w15 h16
  refine wl_val (.string A) (by kernel_rfl) (by kernel_rfl) ?_
  refine wl_nil ?_
  refine then_at (F := ⟨(zSg6_5 l t m q1 q4 p g M S (.bool false) (.string sL) (.string A) (.string g :: .string S :: .string sL :: .string A :: List.replicate 46 un)).toArray, []⟩) (by kernel_rfl) ?_
  refine wp_seq ?_
  refine wp_region_sure ⟨(zSg6_5 l t m q1 q4 p g M S (.bool true) (.string sL) (.string A) (.string g :: .string S :: .string sL :: .string A :: .string p :: .string t :: .string g :: .string R :: .string M :: .string (R ++ M) :: .bool false :: .string M :: .string g :: .string S :: .bool false :: .bool true :: .bool true :: .string p :: .string t :: .string g :: .string R :: .string A :: .string (R ++ A) :: .bool false :: .bool true :: .bool true :: .bool true :: .string p :: .string t :: .string g :: .string (g ++ zS) :: .bool false :: .bool true :: .bool true :: .bool true :: .string p :: .string t :: .string g :: .string (g.extract 0 63) :: .bool false :: .bool true :: .bool true :: .bool true :: .string p :: .string (p ++ zS) :: .string t :: .string g :: .bool false :: .bool true :: .bool true :: [])).toArray, []⟩ (HA w [(q4, 22, (cs m).toArray), (q1, 22, (cs l).toArray)]) [.string p, .string t, .string g, .string R, .string M, .string (R ++ M), .bool false, .string M, .string g, .string S, .bool false, .bool true, .bool true, .string p, .string t, .string g, .string R, .string A, .string (R ++ A), .bool false, .bool true, .bool true, .bool true, .string p, .string t, .string g, .string (g ++ zS), .bool false, .bool true, .bool true, .bool true, .string p, .string t, .string g, .string (g.extract 0 63), .bool false, .bool true, .bool true, .bool true, .string p, .string (p ++ zS), .string t, .string g, .bool false, .bool true, .bool true, .bool true] (by kernel_rfl) (by kernel_rfl) (by kernel_rfl) (by kernel_rfl) (fun _ _ _ h => h) h16.drew ?_ ?_
  · refine AllSure.cons (OpSure.take (v := .string p) (by kernel_rfl) (by kernel_rfl) (fun _ _ => (by kernel_rfl))) ?_
    refine AllSure.cons (OpSure.take (v := .string t) (by kernel_rfl) (by kernel_rfl) (fun _ _ => (by kernel_rfl))) ?_
    refine AllSure.cons (OpSure.take (v := .string g) (by kernel_rfl) (by kernel_rfl) (fun _ _ => (by kernel_rfl))) ?_
    refine AllSure.cons (OpSure.take (v := .string R) (by kernel_rfl) (by kernel_rfl) (fun _ _ => (run_cut_hiE (s := g) (b := 32) (by kernel_rfl) (by kernel_rfl) (by rw [gsz]; decide) hlo))) ?_
    refine AllSure.cons (OpSure.take (v := .string M) (by kernel_rfl) (by kernel_rfl) (fun _ _ => (by kernel_rfl))) ?_
    refine AllSure.cons (OpSure.take (v := .string (R ++ M)) (by kernel_rfl) (by kernel_rfl) (fun _ _ => (run_cat (s := R) (t := M) (by kernel_rfl) (by kernel_rfl) (by rw [rsz, msz]; decide)))) ?_
    refine AllSure.cons (sure_call (v := .bool false) (by kernel_rfl) (by kernel_rfl) ent10 HA.keep #[.string p, .string t, .string (R ++ M)] (by kernel_rfl) (fun w' h' => v1 w' (VV.below h'.old VV.big))) ?_
    refine AllSure.cons (OpSure.take (v := .string M) (by kernel_rfl) (by kernel_rfl) (fun _ _ => (by kernel_rfl))) ?_
    refine AllSure.cons (OpSure.take (v := .string g) (by kernel_rfl) (by kernel_rfl) (fun _ _ => (by kernel_rfl))) ?_
    refine AllSure.cons (OpSure.take (v := .string S) (by kernel_rfl) (by kernel_rfl) (fun _ _ => (run_cut_loE (s := g) (a := 32) (by kernel_rfl) (by kernel_rfl) (by rw [gsz]; decide) hhi))) ?_
    refine AllSure.cons (OpSure.take (v := .bool false) (by kernel_rfl) (by kernel_rfl) (fun _ _ => (run_eqs (s := M) (t := S) (by kernel_rfl) (by kernel_rfl) false (decide_eq_false hm)))) ?_
    refine AllSure.cons (OpSure.take (v := .bool true) (by kernel_rfl) (by kernel_rfl) (fun _ _ => (run_eqb false false (by kernel_rfl) (by kernel_rfl)))) ?_
    refine AllSure.cons (OpSure.take (v := .bool true) (by kernel_rfl) (by kernel_rfl) (fun _ _ => (by kernel_rfl))) ?_
    refine AllSure.cons (OpSure.take (v := .string p) (by kernel_rfl) (by kernel_rfl) (fun _ _ => (by kernel_rfl))) ?_
    refine AllSure.cons (OpSure.take (v := .string t) (by kernel_rfl) (by kernel_rfl) (fun _ _ => (by kernel_rfl))) ?_
    refine AllSure.cons (OpSure.take (v := .string g) (by kernel_rfl) (by kernel_rfl) (fun _ _ => (by kernel_rfl))) ?_
    refine AllSure.cons (OpSure.take (v := .string R) (by kernel_rfl) (by kernel_rfl) (fun _ _ => (run_cut_hiE (s := g) (b := 32) (by kernel_rfl) (by kernel_rfl) (by rw [gsz]; decide) hlo))) ?_
    refine AllSure.cons (OpSure.take (v := .string A) (by kernel_rfl) (by kernel_rfl) (fun _ _ => (by kernel_rfl))) ?_
    refine AllSure.cons (OpSure.take (v := .string (R ++ A)) (by kernel_rfl) (by kernel_rfl) (fun _ _ => (run_cat (s := R) (t := A) (by kernel_rfl) (by kernel_rfl) (by rw [rsz, asz]; decide)))) ?_
    refine AllSure.cons (sure_call (v := .bool false) (by kernel_rfl) (by kernel_rfl) ent10 HA.keep #[.string p, .string t, .string (R ++ A)] (by kernel_rfl) (fun w' h' => v2 w' (VV.below h'.old VV.big))) ?_
    refine AllSure.cons (OpSure.take (v := .bool true) (by kernel_rfl) (by kernel_rfl) (fun _ _ => (by kernel_rfl))) ?_
    refine AllSure.cons (OpSure.take (v := .bool true) (by kernel_rfl) (by kernel_rfl) (fun _ _ => (by kernel_rfl))) ?_
    refine AllSure.cons (OpSure.take (v := .bool true) (by kernel_rfl) (by kernel_rfl) (fun _ _ => (by kernel_rfl))) ?_
    refine AllSure.cons (OpSure.take (v := .string p) (by kernel_rfl) (by kernel_rfl) (fun _ _ => (by kernel_rfl))) ?_
    refine AllSure.cons (OpSure.take (v := .string t) (by kernel_rfl) (by kernel_rfl) (fun _ _ => (by kernel_rfl))) ?_
    refine AllSure.cons (OpSure.take (v := .string g) (by kernel_rfl) (by kernel_rfl) (fun _ _ => (by kernel_rfl))) ?_
    refine AllSure.cons (OpSure.take (v := .string (g ++ zS)) (by kernel_rfl) (by kernel_rfl) (fun _ _ => (run_cat (s := g) (t := zS) (by kernel_rfl) (by kernel_rfl) (by rw [gsz, zS_size]; decide)))) ?_
    refine AllSure.cons (sure_call (v := .bool false) (by kernel_rfl) (by kernel_rfl) ent10 HA.keep #[.string p, .string t, .string (g ++ zS)] (by kernel_rfl) (fun w' h' => v3 w' (VV.below h'.old VV.big))) ?_
    refine AllSure.cons (OpSure.take (v := .bool true) (by kernel_rfl) (by kernel_rfl) (fun _ _ => (by kernel_rfl))) ?_
    refine AllSure.cons (OpSure.take (v := .bool true) (by kernel_rfl) (by kernel_rfl) (fun _ _ => (by kernel_rfl))) ?_
    refine AllSure.cons (OpSure.take (v := .bool true) (by kernel_rfl) (by kernel_rfl) (fun _ _ => (by kernel_rfl))) ?_
    refine AllSure.cons (OpSure.take (v := .string p) (by kernel_rfl) (by kernel_rfl) (fun _ _ => (by kernel_rfl))) ?_
    refine AllSure.cons (OpSure.take (v := .string t) (by kernel_rfl) (by kernel_rfl) (fun _ _ => (by kernel_rfl))) ?_
    refine AllSure.cons (OpSure.take (v := .string g) (by kernel_rfl) (by kernel_rfl) (fun _ _ => (by kernel_rfl))) ?_
    refine AllSure.cons (OpSure.take (v := .string (g.extract 0 63)) (by kernel_rfl) (by kernel_rfl) (fun _ _ => (Sc.run_cut_hi (s := g) (b := 63) (by kernel_rfl) (by kernel_rfl) (by rw [gsz]; decide)))) ?_
    refine AllSure.cons (sure_call (v := .bool false) (by kernel_rfl) (by kernel_rfl) ent10 HA.keep #[.string p, .string t, .string (g.extract 0 63)] (by kernel_rfl) (fun w' h' => v4 w' (VV.below h'.old VV.big))) ?_
    refine AllSure.cons (OpSure.take (v := .bool true) (by kernel_rfl) (by kernel_rfl) (fun _ _ => (by kernel_rfl))) ?_
    refine AllSure.cons (OpSure.take (v := .bool true) (by kernel_rfl) (by kernel_rfl) (fun _ _ => (by kernel_rfl))) ?_
    refine AllSure.cons (OpSure.take (v := .bool true) (by kernel_rfl) (by kernel_rfl) (fun _ _ => (by kernel_rfl))) ?_
    refine AllSure.cons (OpSure.take (v := .string p) (by kernel_rfl) (by kernel_rfl) (fun _ _ => (by kernel_rfl))) ?_
    refine AllSure.cons (OpSure.take (v := .string (p ++ zS)) (by kernel_rfl) (by kernel_rfl) (fun _ _ => (run_cat (s := p) (t := zS) (by kernel_rfl) (by kernel_rfl) (by rw [psz, zS_size]; decide)))) ?_
    refine AllSure.cons (OpSure.take (v := .string t) (by kernel_rfl) (by kernel_rfl) (fun _ _ => (by kernel_rfl))) ?_
    refine AllSure.cons (OpSure.take (v := .string g) (by kernel_rfl) (by kernel_rfl) (fun _ _ => (by kernel_rfl))) ?_
    refine AllSure.cons (sure_call (v := .bool false) (by kernel_rfl) (by kernel_rfl) ent10 HA.keep #[.string (p ++ zS), .string t, .string g] (by kernel_rfl) (fun w' h' => v5 w' (VV.below h'.old VV.big))) ?_
    refine AllSure.cons (OpSure.take (v := .bool true) (by kernel_rfl) (by kernel_rfl) (fun _ _ => (by kernel_rfl))) ?_
    refine AllSure.cons (OpSure.take (v := .bool true) (by kernel_rfl) (by kernel_rfl) (fun _ _ => (by kernel_rfl))) ?_
    refine AllSure.cons (OpSure.take (v := .bool true) (by kernel_rfl) (by kernel_rfl) (fun _ _ => (by kernel_rfl))) ?_
    exact AllSure.nil
  intro w17 h18
  refine then_at (F := ⟨(zSg6_5 l t m q1 q4 p g M S (.bool true) (.string sL) (.string A) (.string g :: .string S :: .string sL :: .string A :: .string p :: .string t :: .string g :: .string R :: .string M :: .string (R ++ M) :: .bool false :: .string M :: .string g :: .string S :: .bool false :: .bool true :: .bool true :: .string p :: .string t :: .string g :: .string R :: .string A :: .string (R ++ A) :: .bool false :: .bool true :: .bool true :: .bool true :: .string p :: .string t :: .string g :: .string (g ++ zS) :: .bool false :: .bool true :: .bool true :: .bool true :: .string p :: .string t :: .string g :: .string (g.extract 0 63) :: .bool false :: .bool true :: .bool true :: .bool true :: .string p :: .string (p ++ zS) :: .string t :: .string g :: .bool false :: .bool true :: .bool true :: [])).toArray, []⟩) (by kernel_rfl) ?_
  refine wp_ret ?_
  repeat first | refine then_ret ?_ | refine block_ret ?_
  exact bodyPost_ret (v := .bool true) (by kernel_rfl) rfl ⟨rfl, h18.old⟩

theorem SignOther_any (l : List UInt8) (hl : l.length = 32) (t : ByteArray) (ht : t.size ≤ 562949953421312) (m : List UInt8) (hm32 : m.length = 32) (w : World) (VV : VA w) : Calls Tryd.prog 4 #[.agg (cs l).toArray, .string t, .agg (cs m).toArray] w fun e w' => e = .returned (.bool true) ∧ Below w.heap.size w w' := by
  have hpk : (pkS (hS (ByteArray.mk l.toArray))).size ≤ 562949953421312 := by rw [pk_size]; decide
  by_cases hm : Sc.aS (SsS (ByteArray.mk l.toArray) t) (ByteArray.mk m.toArray) = SsS (ByteArray.mk l.toArray) t
  · exact other_yes l hl t m hm32 (pkS (hS (ByteArray.mk l.toArray))) (sigS (ByteArray.mk l.toArray) t) (RbS (ByteArray.mk l.toArray) t) (SsS (ByteArray.mk l.toArray) t) (Sc.aS (SsS (ByteArray.mk l.toArray) t) (ByteArray.mk m.toArray)) (plS (numS (SsS (ByteArray.mk l.toArray) t)) (numS sL)) (pk_size _) (sigS_size _ _) (RbS_size _ _) (aS_size _ _) (plS_size _ _) (sig_lo _ _) (sig_hi _ _) hm
      (fun w V => Public_yes _ (sz_l l hl) w V) (fun w V => Sign_yes _ t (sz_l l hl) ht w V) (fun w V => Sc.Add_any _ _ w V.s) (fun w V => plus_any _ sL (SsS_size _ _) sL_size w)
      (fun w V => Verify_yes _ _ _ hpk ht (by rw [hm]; exact sig_ver _ _) w V) (fun w V => Verify_no _ _ _ hpk ht (other_above _ _) w V) (fun w V => ver_len _ _ _ hpk ht (by rw [app_size, sigS_size, zS_size]; decide) w V) (fun w V => ver_len _ _ _ hpk ht (by rw [ext_size _ 0 63 (by rw [sigS_size]; decide)]; decide) w V) (fun w V => Verify_no _ _ _ (by rw [app_size, pk_size]; decide) ht (other_key _ _ _) w V) w VV
  · exact other_no l hl t m hm32 (pkS (hS (ByteArray.mk l.toArray))) (sigS (ByteArray.mk l.toArray) t) (RbS (ByteArray.mk l.toArray) t) (SsS (ByteArray.mk l.toArray) t) (Sc.aS (SsS (ByteArray.mk l.toArray) t) (ByteArray.mk m.toArray)) (plS (numS (SsS (ByteArray.mk l.toArray) t)) (numS sL)) (pk_size _) (sigS_size _ _) (RbS_size _ _) (aS_size _ _) (plS_size _ _) (sig_lo _ _) (sig_hi _ _) hm
      (fun w V => Public_yes _ (sz_l l hl) w V) (fun w V => Sign_yes _ t (sz_l l hl) ht w V) (fun w V => Sc.Add_any _ _ w V.s) (fun w V => plus_any _ sL (SsS_size _ _) sL_size w)
      (fun w V => Verify_no _ _ _ hpk ht (fun h => hm (sig_other _ _ _ (aS_size _ _) h)) w V) (fun w V => Verify_no _ _ _ hpk ht (other_above _ _) w V) (fun w V => ver_len _ _ _ hpk ht (by rw [app_size, sigS_size, zS_size]; decide) w V) (fun w V => ver_len _ _ _ hpk ht (by rw [ext_size _ 0 63 (by rw [sigS_size]; decide)]; decide) w V) (fun w V => Verify_no _ _ _ (by rw [app_size, pk_size]; decide) ht (other_key _ _ _) w V) w VV
end Go.Proofs.YtefjnfeckenmkaaDoor
