/-
  sign: Public, Sign, Verify.
-/
import Derived.Test.YtefjnfeckenmkaaDoorSg1
namespace Go.Proofs.YtefjnfeckenmkaaDoor
open Go.RowKit Num

def zSg2_0 (s : ByteArray) (zx2 : Value) (zt : List Value) := (.string s :: un :: zx2 :: iN .i64 0 :: .string s :: iN .i64 s.size :: .bool false :: zt : List Value)
set_option linter.unusedVariables false in
set_option maxRecDepth 100000 in
set_option maxHeartbeats 2000000 in
theorem Public_yes (s : ByteArray) (hs : s.size = 32) (w : World) (VV : VA w) :
    Calls Tryd.prog 8 #[.string s] w fun e w' => e = .returned (.tuple #[.string (pkS (hS s)), iN .i64 0]) ∧ Below w.heap.size w w' := by
  have H0 := HA.start w
  go_enter Tryd.func8, Tryd.ntmps8
  refine wp_seq ?_
  refine wl_region ?_
  refine wl_val (.string { data := #[] }) (by kernel_rfl) (by kernel_rfl) ?_
  refine wl_val (iN .i64 0) (by kernel_rfl) (by kernel_rfl) ?_
  refine wl_nil ?_
  refine then_at (F := ⟨(.string s :: un :: .string { data := #[] } :: iN .i64 0 :: List.replicate 6 un).toArray, []⟩) (by kernel_rfl) ?_
  refine wp_seq ?_
  refine wp_seq ?_
  refine wl_region ?_
  refine wl_val (.string s) (by kernel_rfl) (by kernel_rfl) ?_
  refine wl_val (iN .i64 s.size) (by kernel_rfl) (run_len (s := s) (by kernel_rfl)) ?_
  refine wl_val (.bool false) (by kernel_rfl) (run_nei (k := .i64) (a := s.size) (b := 32) (by kernel_rfl) (by kernel_rfl) false (decide_eq_false (fun h => h hs))) ?_
  refine wl_nil ?_
  refine then_at (F := ⟨(zSg2_0 s (.string { data := #[] }) (List.replicate 3 un)).toArray, []⟩) (by kernel_rfl) ?_
  refine wp_cond_false (by kernel_rfl) ?_
  refine wp_skip ?_
  refine then_at (F := ⟨(zSg2_0 s (.string { data := #[] }) (List.replicate 3 un)).toArray, []⟩) (by kernel_rfl) ?_
  refine wp_seq ?_
  refine wl_region ?_
  refine wl_val (.string s) (by kernel_rfl) (by kernel_rfl) ?_
  refine wl_calln (mk := fun q => .func (.func 46) #[] #[.pointer (some ⟨q, 0, none⟩)]) (t := 9) (c := #[.string (hS s)]) H0 (by kernel_rfl) ent23 #[.string s] (by kernel_rfl) (partsOf_any s hs w (VV.below H0.old VV.big)) ?_
  intro q1 w2 h3
  refine wl_callv (v := .string (pkS (hS s))) h3 (by kernel_rfl) ent46 (cap := #[.pointer (some ⟨q1, 0, none⟩)]) (by kernel_rfl) #[iN .i64 2, .pointer (some ⟨q1, 0, none⟩)] (by kernel_rfl) (parts_2 (hS s) (hS_size s) q1 w2 (VV.below h3.old VV.big) (h3.get 0 rfl)) ?_
  intro w4 h5
  refine wl_val (.string (pkS (hS s))) (by kernel_rfl) (by kernel_rfl) ?_
  refine wl_val (iN .i64 0) (by kernel_rfl) (by kernel_rfl) ?_
  refine wl_nil ?_
  refine then_at (F := ⟨(zSg2_0 s (.string (pkS (hS s))) (.string s :: .func (.func 46) #[] #[pt q1] :: .string (pkS (hS s)) :: [])).toArray, []⟩) (by kernel_rfl) ?_
  refine wp_ret ?_
  repeat first | refine then_ret ?_ | refine block_ret ?_
  exact bodyPost_ret (v := .tuple #[.string (pkS (hS s)), iN .i64 0]) (by kernel_rfl) rfl ⟨rfl, h5.old⟩

def zSg2_1 (s : ByteArray) (zx3 : Value) (zt : List Value) := (.string s :: un :: .string { data := #[] } :: zx3 :: .string s :: iN .i64 s.size :: .bool true :: un :: un :: un :: zt : List Value)
set_option linter.unusedVariables false in
set_option maxRecDepth 100000 in
set_option maxHeartbeats 2000000 in
theorem Public_no (s : ByteArray) (hs : s.size ≠ 32) (w : World) :
    Calls Tryd.prog 8 #[.string s] w fun e w' => e = .returned (.tuple #[.string { data := #[] }, iN .i64 8]) ∧ Below w.heap.size w w' := by
  have H0 := HA.start w
  go_enter Tryd.func8, Tryd.ntmps8
  refine wp_seq ?_
  refine wl_region ?_
  refine wl_val (.string { data := #[] }) (by kernel_rfl) (by kernel_rfl) ?_
  refine wl_val (iN .i64 0) (by kernel_rfl) (by kernel_rfl) ?_
  refine wl_nil ?_
  refine then_at (F := ⟨(.string s :: un :: .string { data := #[] } :: iN .i64 0 :: List.replicate 6 un).toArray, []⟩) (by kernel_rfl) ?_
  refine wp_seq ?_
  refine wp_seq ?_
  refine wl_region ?_
  refine wl_val (.string s) (by kernel_rfl) (by kernel_rfl) ?_
  refine wl_val (iN .i64 s.size) (by kernel_rfl) (run_len (s := s) (by kernel_rfl)) ?_
  refine wl_val (.bool true) (by kernel_rfl) (run_nei (k := .i64) (a := s.size) (b := 32) (by kernel_rfl) (by kernel_rfl) true (decide_eq_true hs)) ?_
  refine wl_nil ?_
  refine then_at (F := ⟨(zSg2_1 s (iN .i64 0) ([])).toArray, []⟩) (by kernel_rfl) ?_
  refine wp_cond_true (by kernel_rfl) ?_
  refine wp_seq ?_
  refine wl_region ?_
  refine wl_val (.string { data := #[] }) (by kernel_rfl) (by kernel_rfl) ?_
  refine wl_val (iN .i64 8) (by kernel_rfl) (by kernel_rfl) ?_
  refine wl_nil ?_
  refine then_at (F := ⟨(zSg2_1 s (iN .i64 8) ([])).toArray, []⟩) (by kernel_rfl) ?_
  refine wp_ret ?_
  repeat first | refine then_ret ?_ | refine block_ret ?_
  exact bodyPost_ret (v := .tuple #[.string { data := #[] }, iN .i64 8]) (by kernel_rfl) rfl ⟨rfl, H0.old⟩

def zSg2_2 (s : ByteArray) (t : ByteArray) (zx5 : Value) (zt : List Value) := (.string s :: .string t :: un :: un :: .string { data := #[] } :: zx5 :: un :: un :: un :: un :: .string s :: iN .i64 s.size :: .bool true :: zt : List Value)
set_option linter.unusedVariables false in
set_option maxRecDepth 100000 in
set_option maxHeartbeats 2000000 in
theorem Sign_no (s t : ByteArray) (hs : s.size ≠ 32) (w : World) :
    Calls Tryd.prog 9 #[.string s, .string t] w fun e w' => e = .returned (.tuple #[.string { data := #[] }, iN .i64 8]) ∧ Below w.heap.size w w' := by
  have H0 := HA.start w
  go_enter Tryd.func9, Tryd.ntmps9
  refine wp_seq ?_
  refine wl_region ?_
  refine wl_val (.string { data := #[] }) (by kernel_rfl) (by kernel_rfl) ?_
  refine wl_val (iN .i64 0) (by kernel_rfl) (by kernel_rfl) ?_
  refine wl_nil ?_
  refine then_at (F := ⟨(.string s :: .string t :: un :: un :: .string { data := #[] } :: iN .i64 0 :: List.replicate 32 un).toArray, []⟩) (by kernel_rfl) ?_
  refine wp_seq ?_
  refine wp_seq ?_
  refine wl_region ?_
  refine wl_val (.string s) (by kernel_rfl) (by kernel_rfl) ?_
  refine wl_val (iN .i64 s.size) (by kernel_rfl) (run_len (s := s) (by kernel_rfl)) ?_
  refine wl_val (.bool true) (by kernel_rfl) (run_nei (k := .i64) (a := s.size) (b := 32) (by kernel_rfl) (by kernel_rfl) true (decide_eq_true hs)) ?_
  refine wl_nil ?_
  refine then_at (F := ⟨(zSg2_2 s t (iN .i64 0) (List.replicate 25 un)).toArray, []⟩) (by kernel_rfl) ?_
  refine wp_cond_true (by kernel_rfl) ?_
  refine wp_seq ?_
  refine wl_region ?_
  refine wl_val (.string { data := #[] }) (by kernel_rfl) (by kernel_rfl) ?_
  refine wl_val (iN .i64 8) (by kernel_rfl) (by kernel_rfl) ?_
  refine wl_nil ?_
  refine then_at (F := ⟨(zSg2_2 s t (iN .i64 8) (List.replicate 25 un)).toArray, []⟩) (by kernel_rfl) ?_
  refine wp_ret ?_
  repeat first | refine then_ret ?_ | refine block_ret ?_
  exact bodyPost_ret (v := .tuple #[.string { data := #[] }, iN .i64 8]) (by kernel_rfl) rfl ⟨rfl, H0.old⟩

def zSg2_3 (s : ByteArray) (t : ByteArray) (zx6 zx7 : Value) (zt : List Value) := (.string s :: .string t :: un :: un :: .string { data := #[] } :: iN .i64 0 :: zx6 :: zx7 :: un :: un :: .string s :: iN .i64 s.size :: .bool false :: zt : List Value)
def zSg2_4 (s : ByteArray) (t : ByteArray) q1 q6 (zx4 zx9 : Value) (zt : List Value) := (.string s :: .string t :: un :: un :: zx4 :: iN .i64 0 :: .func (.func 46) #[] #[pt q1] :: .string (rrS s t) :: .string (RbS s t) :: zx9 :: .string s :: iN .i64 s.size :: .bool false :: .string s :: .func (.func 46) #[] #[pt q1] :: .func (.func 46) #[] #[pt q1] :: .string (pfS (hS s)) :: .string t :: .slice (some ⟨q6, 0, none⟩) 2 2 :: .string (rrS s t) :: ptv bP :: .string (rrS s t) :: ptv (mP bP (numS (rrS s t))) :: .string (RbS s t) :: zt : List Value)
set_option linter.unusedVariables false in
set_option maxRecDepth 100000 in
set_option maxHeartbeats 2000000 in
theorem Sign_yes (s t : ByteArray) (hs : s.size = 32) (ht : t.size ≤ 562949953421312) (w : World) (VV : VA w) :
    Calls Tryd.prog 9 #[.string s, .string t] w fun e w' => e = .returned (.tuple #[.string (sigS s t), iN .i64 0]) ∧ Below w.heap.size w w' := by
  have H0 := HA.start w
  go_enter Tryd.func9, Tryd.ntmps9
  refine wp_seq ?_
  refine wl_region ?_
  refine wl_val (.string { data := #[] }) (by kernel_rfl) (by kernel_rfl) ?_
  refine wl_val (iN .i64 0) (by kernel_rfl) (by kernel_rfl) ?_
  refine wl_nil ?_
  refine then_at (F := ⟨(.string s :: .string t :: un :: un :: .string { data := #[] } :: iN .i64 0 :: List.replicate 32 un).toArray, []⟩) (by kernel_rfl) ?_
  refine wp_seq ?_
  refine wp_seq ?_
  refine wl_region ?_
  refine wl_val (.string s) (by kernel_rfl) (by kernel_rfl) ?_
  refine wl_val (iN .i64 s.size) (by kernel_rfl) (run_len (s := s) (by kernel_rfl)) ?_
  refine wl_val (.bool false) (by kernel_rfl) (run_nei (k := .i64) (a := s.size) (b := 32) (by kernel_rfl) (by kernel_rfl) false (decide_eq_false (fun h => h hs))) ?_
  refine wl_nil ?_
  refine then_at (F := ⟨(zSg2_3 s t un un (List.replicate 25 un)).toArray, []⟩) (by kernel_rfl) ?_
  refine wp_cond_false (by kernel_rfl) ?_
  refine wp_skip ?_
  refine then_at (F := ⟨(zSg2_3 s t un un (List.replicate 25 un)).toArray, []⟩) (by kernel_rfl) ?_
  refine wp_seq ?_
  refine wl_region ?_
  refine wl_val (.string s) (by kernel_rfl) (by kernel_rfl) ?_
  refine wl_calln (mk := fun q => .func (.func 46) #[] #[.pointer (some ⟨q, 0, none⟩)]) (t := 9) (c := #[.string (hS s)]) H0 (by kernel_rfl) ent23 #[.string s] (by kernel_rfl) (partsOf_any s hs w (VV.below H0.old VV.big)) ?_
  intro q1 w2 h3
  refine wl_val (.func (.func 46) #[] #[.pointer (some ⟨q1, 0, none⟩)]) (by kernel_rfl) (by kernel_rfl) ?_
  refine wl_nil ?_
  refine then_at (F := ⟨(zSg2_3 s t (.func (.func 46) #[] #[pt q1]) un (.string s :: .func (.func 46) #[] #[pt q1] :: List.replicate 23 un)).toArray, []⟩) (by kernel_rfl) ?_
  refine wp_seq ?_
  refine wl_region ?_
  refine wl_val (.func (.func 46) #[] #[.pointer (some ⟨q1, 0, none⟩)]) (by kernel_rfl) (by kernel_rfl) ?_
  refine wl_callv (v := .string (pfS (hS s))) h3 (by kernel_rfl) ent46 (cap := #[.pointer (some ⟨q1, 0, none⟩)]) (by kernel_rfl) #[iN .i64 1, .pointer (some ⟨q1, 0, none⟩)] (by kernel_rfl) (parts_1 (hS s) (hS_size s) q1 w2 (VV.below h3.old VV.big) (h3.get 0 rfl)) ?_
  intro w4 h5
  refine wl_val (.string t) (by kernel_rfl) (by kernel_rfl) ?_
  refine Hh.wl_mks (n := 2) (m := 2) (c := Hh.psc ([pfS (hS s), t])) h5 9 (by kernel_rfl) (run_bs2 (u := pfS (hS s)) (v := t) (by kernel_rfl) (by kernel_rfl)) ?_
  intro q6 w7 h8
  refine wl_call (v := .string (rrS s t)) h8 (by kernel_rfl) ent24 #[.slice (some ⟨q6, 0, none⟩) 2 2] (by kernel_rfl) (number_2 (pfS (hS s)) t (by rw [pfS_size _ (hS_size s)]; decide) ht q6 w7 (VV.below h8.old VV.big) (h8.get 0 rfl)) ?_
  intro w9 h10
  refine wl_val (.string (rrS s t)) (by kernel_rfl) (by kernel_rfl) ?_
  refine wl_nil ?_
  refine then_at (F := ⟨(zSg2_3 s t (.func (.func 46) #[] #[pt q1]) (.string (rrS s t)) (.string s :: .func (.func 46) #[] #[pt q1] :: .func (.func 46) #[] #[pt q1] :: .string (pfS (hS s)) :: .string t :: .slice (some ⟨q6, 0, none⟩) 2 2 :: .string (rrS s t) :: List.replicate 18 un)).toArray, []⟩) (by kernel_rfl) ?_
  refine wp_seq ?_
  refine wl_region ?_
  refine wl_call (v := ptv bP) h10 (by kernel_rfl) ent13 #[] (by kernel_rfl) (base_pv w9 (VV.below h10.old VV.big)) ?_
  intro w11 h12
  refine wl_val (.string (rrS s t)) (by kernel_rfl) (by kernel_rfl) ?_
  refine wl_call (v := ptv (mP bP (numS (rrS s t)))) h12 (by kernel_rfl) ent14 #[ptv bP, .string (rrS s t)] (by kernel_rfl) (mul_pv bP (rrS s t) (kS_size _) w11 (VV.below h12.old VV.big)) ?_
  intro w13 h14
  refine wl_call (v := .string (RbS s t)) h14 (by kernel_rfl) ent15 #[ptv (mP bP (numS (rrS s t)))] (by kernel_rfl) (bytes_pv (mP bP (numS (rrS s t))) w13 (VV.below h14.old VV.big)) ?_
  intro w15 h16
  refine wl_val (.string (RbS s t)) (by kernel_rfl) (by kernel_rfl) ?_
  refine wl_nil ?_
  refine then_at (F := ⟨(zSg2_4 s t q1 q6 (.string { data := #[] }) un (List.replicate 14 un)).toArray, []⟩) (by kernel_rfl) ?_
  refine wp_seq ?_
  refine wl_region ?_
  refine wl_val (.string (RbS s t)) (by kernel_rfl) (by kernel_rfl) ?_
  refine wl_val (.func (.func 46) #[] #[.pointer (some ⟨q1, 0, none⟩)]) (by kernel_rfl) (by kernel_rfl) ?_
  refine wl_callv (v := .string (pkS (hS s))) h16 (by kernel_rfl) ent46 (cap := #[.pointer (some ⟨q1, 0, none⟩)]) (by kernel_rfl) #[iN .i64 2, .pointer (some ⟨q1, 0, none⟩)] (by kernel_rfl) (parts_2 (hS s) (hS_size s) q1 w15 (VV.below h16.old VV.big) (h16.get 1 rfl)) ?_
  intro w17 h18
  refine wl_val (.string t) (by kernel_rfl) (by kernel_rfl) ?_
  refine Hh.wl_mks (n := 3) (m := 3) (c := Hh.psc ([RbS s t, pkS (hS s), t])) h18 9 (by kernel_rfl) (run_bs3 (u := RbS s t) (v := pkS (hS s)) (v2 := t) (by kernel_rfl) (by kernel_rfl) (by kernel_rfl)) ?_
  intro q19 w20 h21
  refine wl_call (v := .string (kkS s t)) h21 (by kernel_rfl) ent24 #[.slice (some ⟨q19, 0, none⟩) 3 3] (by kernel_rfl) (number_3 (RbS s t) (pkS (hS s)) t (by rw [RbS_size]; decide) (by rw [show (pkS (hS s)).size = 32 from encP_size _]; decide) ht q19 w20 (VV.below h21.old VV.big) (h21.get 0 rfl)) ?_
  intro w22 h23
  refine wl_val (.string (kkS s t)) (by kernel_rfl) (by kernel_rfl) ?_
  refine wl_nil ?_
  refine then_at (F := ⟨(zSg2_4 s t q1 q6 (.string { data := #[] }) (.string (kkS s t)) (.string (RbS s t) :: .func (.func 46) #[] #[pt q1] :: .string (pkS (hS s)) :: .string t :: .slice (some ⟨q19, 0, none⟩) 3 3 :: .string (kkS s t) :: List.replicate 8 un)).toArray, []⟩) (by kernel_rfl) ?_
  refine wp_seq ?_
  refine wl_region ?_
  refine wl_val (.string (RbS s t)) (by kernel_rfl) (by kernel_rfl) ?_
  refine wl_val (.string (rrS s t)) (by kernel_rfl) (by kernel_rfl) ?_
  refine wl_val (.string (kkS s t)) (by kernel_rfl) (by kernel_rfl) ?_
  refine wl_val (.func (.func 46) #[] #[.pointer (some ⟨q1, 0, none⟩)]) (by kernel_rfl) (by kernel_rfl) ?_
  refine wl_callv (v := .string (skS (hS s))) h23 (by kernel_rfl) ent46 (cap := #[.pointer (some ⟨q1, 0, none⟩)]) (by kernel_rfl) #[iN .i64 0, .pointer (some ⟨q1, 0, none⟩)] (by kernel_rfl) (parts_0 (hS s) (hS_size s) q1 w22 (VV.below h23.old VV.big) (h23.get 2 rfl)) ?_
  intro w24 h25
  refine wl_call (v := .string (Sc.mS (kkS s t) (skS (hS s)))) h25 (by kernel_rfl) ent18 #[.string (kkS s t), .string (skS (hS s))] (by kernel_rfl) (Sc.Mul_any (kkS s t) (skS (hS s)) w24 (VV.below h25.old VV.big).s) ?_
  intro w26 h27
  refine wl_call (v := .string (SsS s t)) h27 (by kernel_rfl) ent11 #[.string (rrS s t), .string (Sc.mS (kkS s t) (skS (hS s)))] (by kernel_rfl) (Sc.Add_any (rrS s t) (Sc.mS (kkS s t) (skS (hS s))) w26 (VV.below h27.old VV.big).s) ?_
  intro w28 h29
  refine wl_val (.string (RbS s t ++ SsS s t)) (by kernel_rfl) (run_cat (s := RbS s t) (t := SsS s t) (by kernel_rfl) (by kernel_rfl) (by rw [RbS_size, SsS_size]; decide)) ?_
  refine wl_val (.string (RbS s t ++ SsS s t)) (by kernel_rfl) (by kernel_rfl) ?_
  refine wl_val (iN .i64 0) (by kernel_rfl) (by kernel_rfl) ?_
  refine wl_nil ?_
  refine then_at (F := ⟨(zSg2_4 s t q1 q6 (.string (RbS s t ++ SsS s t)) (.string (kkS s t)) (.string (RbS s t) :: .func (.func 46) #[] #[pt q1] :: .string (pkS (hS s)) :: .string t :: .slice (some ⟨q19, 0, none⟩) 3 3 :: .string (kkS s t) :: .string (RbS s t) :: .string (rrS s t) :: .string (kkS s t) :: .func (.func 46) #[] #[pt q1] :: .string (skS (hS s)) :: .string (Sc.mS (kkS s t) (skS (hS s))) :: .string (SsS s t) :: .string (RbS s t ++ SsS s t) :: [])).toArray, []⟩) (by kernel_rfl) ?_
  refine wp_ret ?_
  repeat first | refine then_ret ?_ | refine block_ret ?_
  exact bodyPost_ret (v := .tuple #[.string (sigS s t), iN .i64 0]) (by kernel_rfl) rfl ⟨rfl, h29.old⟩

theorem of_at (p : Pt) (s : ByteArray) (h : encP p = s) (w : World) (VV : VA w) : Calls Tryd.prog 26 #[.string s] w fun e w' => e = .returned (.tuple #[ptv p, .bool true]) ∧ Below w.heap.size w w' := by
  subst h
  exact of_pv p w VV

def zSg2_5 (p : ByteArray) (t : ByteArray) (g : ByteArray) (zt : List Value) := (.string p :: .string t :: .string g :: un :: un :: un :: .bool false :: un :: un :: un :: un :: .string g :: iN .i64 g.size :: .bool true :: .bool true :: un :: un :: un :: un :: .bool true :: zt : List Value)
set_option linter.unusedVariables false in
set_option maxRecDepth 100000 in
set_option maxHeartbeats 2000000 in
theorem ver_len (p t g : ByteArray) (hp : p.size ≤ 562949953421312) (ht : t.size ≤ 562949953421312) (hg : g.size ≠ 64) (w : World) (VV : VA w) :
    Calls Tryd.prog 10 #[.string p, .string t, .string g] w fun e w' => e = .returned (.bool false) ∧ Below w.heap.size w w' := by
  have H0 := HA.start w
  go_enter Tryd.func10, Tryd.ntmps10
  refine wp_seq ?_
  refine wl_region ?_
  refine wl_val (.bool false) (by kernel_rfl) (by kernel_rfl) ?_
  refine wl_nil ?_
  refine then_at (F := ⟨(.string p :: .string t :: .string g :: un :: un :: un :: .bool false :: List.replicate 44 un).toArray, []⟩) (by kernel_rfl) ?_
  refine wp_seq ?_
  refine wp_seq ?_
  refine wl_region ?_
  refine wl_val (.string g) (by kernel_rfl) (by kernel_rfl) ?_
  refine wl_val (iN .i64 g.size) (by kernel_rfl) (run_len (s := g) (by kernel_rfl)) ?_
  refine wl_val (.bool true) (by kernel_rfl) (run_nei (k := .i64) (a := g.size) (b := 64) (by kernel_rfl) (by kernel_rfl) true (decide_eq_true hg)) ?_
  refine wl_val (.bool true) (by kernel_rfl) (by kernel_rfl) ?_
  refine wl_skip (by kernel_rfl) ?_
  refine wl_skip (by kernel_rfl) ?_
  refine wl_skip (by kernel_rfl) ?_
  refine wl_skip (by kernel_rfl) ?_
  refine wl_val (.bool true) (by kernel_rfl) (by kernel_rfl) ?_
  refine wl_nil ?_
  refine then_at (F := ⟨(zSg2_5 p t g (List.replicate 31 un)).toArray, []⟩) (by kernel_rfl) ?_
  refine wp_cond_true (by kernel_rfl) ?_
  refine wp_seq ?_
  refine wl_region ?_
  refine wl_val (.bool false) (by kernel_rfl) (by kernel_rfl) ?_
  refine wl_nil ?_
  refine then_at (F := ⟨(zSg2_5 p t g (List.replicate 31 un)).toArray, []⟩) (by kernel_rfl) ?_
  refine wp_ret ?_
  repeat first | refine then_ret ?_ | refine block_ret ?_
  exact bodyPost_ret (v := .bool false) (by kernel_rfl) rfl ⟨rfl, H0.old⟩

def zSg2_6 (p : ByteArray) (t : ByteArray) (g : ByteArray) (zt : List Value) := (.string p :: .string t :: .string g :: un :: un :: un :: .bool false :: un :: un :: un :: un :: .string g :: iN .i64 g.size :: .bool false :: .bool false :: .string g :: .string (g.extract 32 g.size) :: .bool false :: .bool true :: .bool true :: zt : List Value)
set_option linter.unusedVariables false in
set_option maxRecDepth 100000 in
set_option maxHeartbeats 2000000 in
theorem ver_chk (p t g : ByteArray) (hp : p.size ≤ 562949953421312) (ht : t.size ≤ 562949953421312) (hg : g.size = 64) (hI : ¬ Sc.isS (g.extract 32 g.size)) (w : World) (VV : VA w) :
    Calls Tryd.prog 10 #[.string p, .string t, .string g] w fun e w' => e = .returned (.bool false) ∧ Below w.heap.size w w' := by
  have H0 := HA.start w
  go_enter Tryd.func10, Tryd.ntmps10
  refine wp_seq ?_
  refine wl_region ?_
  refine wl_val (.bool false) (by kernel_rfl) (by kernel_rfl) ?_
  refine wl_nil ?_
  refine then_at (F := ⟨(.string p :: .string t :: .string g :: un :: un :: un :: .bool false :: List.replicate 44 un).toArray, []⟩) (by kernel_rfl) ?_
  refine wp_seq ?_
  refine wp_seq ?_
  refine wl_region ?_
  refine wl_val (.string g) (by kernel_rfl) (by kernel_rfl) ?_
  refine wl_val (iN .i64 g.size) (by kernel_rfl) (run_len (s := g) (by kernel_rfl)) ?_
  refine wl_val (.bool false) (by kernel_rfl) (run_nei (k := .i64) (a := g.size) (b := 64) (by kernel_rfl) (by kernel_rfl) false (decide_eq_false (fun h => h hg))) ?_
  refine wl_val (.bool false) (by kernel_rfl) (by kernel_rfl) ?_
  refine wl_val (.string g) (by kernel_rfl) (by kernel_rfl) ?_
  refine wl_val (.string (g.extract 32 g.size)) (by kernel_rfl) (Sc.run_cut_lo (s := g) (a := 32) (by kernel_rfl) (by kernel_rfl) (by rw [hg]; decide)) ?_
  refine wl_call (v := .bool false) H0 (by kernel_rfl) ent25 #[.string (g.extract 32 g.size)] (by kernel_rfl) (Sc.Check_no (g.extract 32 g.size) hI w (VV.below H0.old VV.big).s) ?_
  intro w1 h2
  refine wl_val (.bool true) (by kernel_rfl) (by kernel_rfl) ?_
  refine wl_val (.bool true) (by kernel_rfl) (by kernel_rfl) ?_
  refine wl_nil ?_
  refine then_at (F := ⟨(zSg2_6 p t g (List.replicate 31 un)).toArray, []⟩) (by kernel_rfl) ?_
  refine wp_cond_true (by kernel_rfl) ?_
  refine wp_seq ?_
  refine wl_region ?_
  refine wl_val (.bool false) (by kernel_rfl) (by kernel_rfl) ?_
  refine wl_nil ?_
  refine then_at (F := ⟨(zSg2_6 p t g (List.replicate 31 un)).toArray, []⟩) (by kernel_rfl) ?_
  refine wp_ret ?_
  repeat first | refine then_ret ?_ | refine block_ret ?_
  exact bodyPost_ret (v := .bool false) (by kernel_rfl) rfl ⟨rfl, h2.old⟩

def zSg2_7 (p : ByteArray) (t : ByteArray) (g : ByteArray) (zt : List Value) := (.string p :: .string t :: .string g :: un :: un :: un :: .bool false :: un :: un :: un :: un :: .string g :: iN .i64 g.size :: .bool false :: .bool false :: .string g :: .string (g.extract 32 g.size) :: .bool true :: .bool false :: .bool false :: zt : List Value)
def zSg2_8 (p : ByteArray) (t : ByteArray) (g : ByteArray) q5 (zt : List Value) := (.string p :: .string t :: .string g :: un :: un :: un :: .bool false :: pt q5 :: .bool false :: un :: un :: .string g :: iN .i64 g.size :: .bool false :: .bool false :: .string g :: .string (g.extract 32 g.size) :: .bool true :: .bool false :: .bool false :: .tuple #[.agg (pr 0 0), .bool false] :: .string g :: .string (g.extract 0 32) :: .tuple #[.agg (pr 0 0), .bool false] :: .agg (pr 0 0) :: .bool false :: zt : List Value)
set_option linter.unusedVariables false in
set_option maxRecDepth 100000 in
set_option maxHeartbeats 2000000 in
theorem ver_R (p t g : ByteArray) (hp : p.size ≤ 562949953421312) (ht : t.size ≤ 562949953421312) (hg : g.size = 64) (hI : Sc.isS (g.extract 32 g.size)) (hR : ∀ p, encP p ≠ g.extract 0 32) (w : World) (VV : VA w) :
    Calls Tryd.prog 10 #[.string p, .string t, .string g] w fun e w' => e = .returned (.bool false) ∧ Below w.heap.size w w' := by
  have H0 := HA.start w
  go_enter Tryd.func10, Tryd.ntmps10
  refine wp_seq ?_
  refine wl_region ?_
  refine wl_val (.bool false) (by kernel_rfl) (by kernel_rfl) ?_
  refine wl_nil ?_
  refine then_at (F := ⟨(.string p :: .string t :: .string g :: un :: un :: un :: .bool false :: List.replicate 44 un).toArray, []⟩) (by kernel_rfl) ?_
  refine wp_seq ?_
  refine wp_seq ?_
  refine wl_region ?_
  refine wl_val (.string g) (by kernel_rfl) (by kernel_rfl) ?_
  refine wl_val (iN .i64 g.size) (by kernel_rfl) (run_len (s := g) (by kernel_rfl)) ?_
  refine wl_val (.bool false) (by kernel_rfl) (run_nei (k := .i64) (a := g.size) (b := 64) (by kernel_rfl) (by kernel_rfl) false (decide_eq_false (fun h => h hg))) ?_
  refine wl_val (.bool false) (by kernel_rfl) (by kernel_rfl) ?_
  refine wl_val (.string g) (by kernel_rfl) (by kernel_rfl) ?_
  refine wl_val (.string (g.extract 32 g.size)) (by kernel_rfl) (Sc.run_cut_lo (s := g) (a := 32) (by kernel_rfl) (by kernel_rfl) (by rw [hg]; decide)) ?_
  refine wl_call (v := .bool true) H0 (by kernel_rfl) ent25 #[.string (g.extract 32 g.size)] (by kernel_rfl) (Sc.Check_yes (g.extract 32 g.size) hI w (VV.below H0.old VV.big).s) ?_
  intro w1 h2
  refine wl_val (.bool false) (by kernel_rfl) (by kernel_rfl) ?_
  refine wl_val (.bool false) (by kernel_rfl) (by kernel_rfl) ?_
  refine wl_nil ?_
  refine then_at (F := ⟨(zSg2_7 p t g (List.replicate 31 un)).toArray, []⟩) (by kernel_rfl) ?_
  refine wp_cond_false (by kernel_rfl) ?_
  refine wp_skip ?_
  refine then_at (F := ⟨(zSg2_7 p t g (List.replicate 31 un)).toArray, []⟩) (by kernel_rfl) ?_
  refine wp_seq ?_
  refine wl_region ?_
  refine wl_val (.string g) (by kernel_rfl) (by kernel_rfl) ?_
  refine wl_val (.string (g.extract 0 32)) (by kernel_rfl) (Sc.run_cut_hi (s := g) (b := 32) (by kernel_rfl) (by kernel_rfl) (by rw [hg]; decide)) ?_
  refine wl_call (v := .tuple #[.agg (pr 0 0), .bool false]) h2 (by kernel_rfl) ent26 #[.string (g.extract 0 32)] (by kernel_rfl) (of_pv_no (g.extract 0 32) hR w1 (VV.below h2.old VV.big)) ?_
  intro w3 h4
  refine wl_val (.tuple #[.agg (pr 0 0), .bool false]) (by kernel_rfl) (by kernel_rfl) ?_
  refine wl_val (.agg (pr 0 0)) (by kernel_rfl) (by kernel_rfl) ?_
  refine wl_val (.bool false) (by kernel_rfl) (by kernel_rfl) ?_
  refine wl_make h4 39 (by kernel_rfl) run_alloc27 ?_
  intro q5 w6 h7
  refine wl_fill (c' := pr 0 0) h7 0 rfl (by kernel_rfl) (by kernel_rfl) (by kernel_rfl) rfl (info27p 0 0) (one_pr 0 0) ?_
  intro w8 (h9 : HA w [(q5, 39, pr 0 0)] w8)
  refine wl_val (.bool false) (by kernel_rfl) (by kernel_rfl) ?_
  refine wl_nil ?_
  refine then_at (F := ⟨(zSg2_8 p t g q5 (List.replicate 25 un)).toArray, []⟩) (by kernel_rfl) ?_
  refine wp_seq ?_
  refine wp_seq ?_
  refine wl_region ?_
  refine wl_val (.bool false) (by kernel_rfl) (by kernel_rfl) ?_
  refine wl_val (.bool true) (by kernel_rfl) (by kernel_rfl) ?_
  refine wl_nil ?_
  refine then_at (F := ⟨(zSg2_8 p t g q5 (.bool false :: .bool true :: List.replicate 23 un)).toArray, []⟩) (by kernel_rfl) ?_
  refine wp_cond_true (by kernel_rfl) ?_
  refine wp_seq ?_
  refine wl_region ?_
  refine wl_val (.bool false) (by kernel_rfl) (by kernel_rfl) ?_
  refine wl_nil ?_
  refine then_at (F := ⟨(zSg2_8 p t g q5 (.bool false :: .bool true :: List.replicate 23 un)).toArray, []⟩) (by kernel_rfl) ?_
  refine wp_ret ?_
  repeat first | refine then_ret ?_ | refine block_ret ?_
  exact bodyPost_ret (v := .bool false) (by kernel_rfl) rfl ⟨rfl, h9.old⟩

def zSg2_9 (p : ByteArray) (t : ByteArray) (g : ByteArray) (zt : List Value) := (.string p :: .string t :: .string g :: un :: un :: un :: .bool false :: un :: un :: un :: un :: .string g :: iN .i64 g.size :: .bool false :: .bool false :: .string g :: .string (g.extract 32 g.size) :: .bool true :: .bool false :: .bool false :: zt : List Value)
def zSg2_10 (p : ByteArray) (t : ByteArray) (g : ByteArray) q5 (R : Pt) (zx8 zx9 : Value) (zt : List Value) := (.string p :: .string t :: .string g :: un :: un :: un :: .bool false :: pt q5 :: zx8 :: zx9 :: un :: .string g :: iN .i64 g.size :: .bool false :: .bool false :: .string g :: .string (g.extract 32 g.size) :: .bool true :: .bool false :: .bool false :: .tuple #[ptv R, .bool true] :: .string g :: .string (g.extract 0 32) :: .tuple #[ptv R, .bool true] :: ptv R :: .bool true :: zt : List Value)
set_option linter.unusedVariables false in
set_option maxRecDepth 100000 in
set_option maxHeartbeats 2000000 in
theorem ver_A (p t g : ByteArray) (hp : p.size ≤ 562949953421312) (ht : t.size ≤ 562949953421312) (hg : g.size = 64) (hI : Sc.isS (g.extract 32 g.size)) (R : Pt) (hR : encP R = g.extract 0 32) (hA : ∀ q, encP q ≠ p) (w : World) (VV : VA w) :
    Calls Tryd.prog 10 #[.string p, .string t, .string g] w fun e w' => e = .returned (.bool false) ∧ Below w.heap.size w w' := by
  have H0 := HA.start w
  go_enter Tryd.func10, Tryd.ntmps10
  refine wp_seq ?_
  refine wl_region ?_
  refine wl_val (.bool false) (by kernel_rfl) (by kernel_rfl) ?_
  refine wl_nil ?_
  refine then_at (F := ⟨(.string p :: .string t :: .string g :: un :: un :: un :: .bool false :: List.replicate 44 un).toArray, []⟩) (by kernel_rfl) ?_
  refine wp_seq ?_
  refine wp_seq ?_
  refine wl_region ?_
  refine wl_val (.string g) (by kernel_rfl) (by kernel_rfl) ?_
  refine wl_val (iN .i64 g.size) (by kernel_rfl) (run_len (s := g) (by kernel_rfl)) ?_
  refine wl_val (.bool false) (by kernel_rfl) (run_nei (k := .i64) (a := g.size) (b := 64) (by kernel_rfl) (by kernel_rfl) false (decide_eq_false (fun h => h hg))) ?_
  refine wl_val (.bool false) (by kernel_rfl) (by kernel_rfl) ?_
  refine wl_val (.string g) (by kernel_rfl) (by kernel_rfl) ?_
  refine wl_val (.string (g.extract 32 g.size)) (by kernel_rfl) (Sc.run_cut_lo (s := g) (a := 32) (by kernel_rfl) (by kernel_rfl) (by rw [hg]; decide)) ?_
  refine wl_call (v := .bool true) H0 (by kernel_rfl) ent25 #[.string (g.extract 32 g.size)] (by kernel_rfl) (Sc.Check_yes (g.extract 32 g.size) hI w (VV.below H0.old VV.big).s) ?_
  intro w1 h2
  refine wl_val (.bool false) (by kernel_rfl) (by kernel_rfl) ?_
  refine wl_val (.bool false) (by kernel_rfl) (by kernel_rfl) ?_
  refine wl_nil ?_
  refine then_at (F := ⟨(zSg2_9 p t g (List.replicate 31 un)).toArray, []⟩) (by kernel_rfl) ?_
  refine wp_cond_false (by kernel_rfl) ?_
  refine wp_skip ?_
  refine then_at (F := ⟨(zSg2_9 p t g (List.replicate 31 un)).toArray, []⟩) (by kernel_rfl) ?_
  refine wp_seq ?_
  refine wl_region ?_
  refine wl_val (.string g) (by kernel_rfl) (by kernel_rfl) ?_
  refine wl_val (.string (g.extract 0 32)) (by kernel_rfl) (Sc.run_cut_hi (s := g) (b := 32) (by kernel_rfl) (by kernel_rfl) (by rw [hg]; decide)) ?_
  refine wl_call (v := .tuple #[ptv R, .bool true]) h2 (by kernel_rfl) ent26 #[.string (g.extract 0 32)] (by kernel_rfl) (of_at R (g.extract 0 32) hR w1 (VV.below h2.old VV.big)) ?_
  intro w3 h4
  refine wl_val (.tuple #[ptv R, .bool true]) (by kernel_rfl) (by kernel_rfl) ?_
  refine wl_val (ptv R) (by kernel_rfl) (by kernel_rfl) ?_
  refine wl_val (.bool true) (by kernel_rfl) (by kernel_rfl) ?_
  refine wl_make h4 39 (by kernel_rfl) run_alloc27 ?_
  intro q5 w6 h7
  refine wl_fill (c' := ptc R) h7 0 rfl (by kernel_rfl) (by kernel_rfl) (by kernel_rfl) (ptc_sz R) (ptc_info R) (ptc_one R) ?_
  intro w8 (h9 : HA w [(q5, 39, ptc R)] w8)
  refine wl_val (.bool true) (by kernel_rfl) (by kernel_rfl) ?_
  refine wl_nil ?_
  refine then_at (F := ⟨(zSg2_10 p t g q5 R (.bool true) un (List.replicate 25 un)).toArray, []⟩) (by kernel_rfl) ?_
  refine wp_seq ?_
  refine wp_seq ?_
  refine wl_region ?_
  refine wl_val (.bool true) (by kernel_rfl) (by kernel_rfl) ?_
  refine wl_val (.bool false) (by kernel_rfl) (by kernel_rfl) ?_
  refine wl_nil ?_
  refine then_at (F := ⟨(zSg2_10 p t g q5 R (.bool true) un (.bool true :: .bool false :: List.replicate 23 un)).toArray, []⟩) (by kernel_rfl) ?_
  refine wp_cond_false (by kernel_rfl) ?_
  refine wp_skip ?_
  refine then_at (F := ⟨(zSg2_10 p t g q5 R (.bool true) un (.bool true :: .bool false :: List.replicate 23 un)).toArray, []⟩) (by kernel_rfl) ?_
  refine wp_seq ?_
  refine wl_region ?_
  refine wl_val (.string p) (by kernel_rfl) (by kernel_rfl) ?_
  refine wl_call (v := .tuple #[.agg (pr 0 0), .bool false]) h9 (by kernel_rfl) ent26 #[.string p] (by kernel_rfl) (of_pv_no p hA w8 (VV.below h9.old VV.big)) ?_
  intro w10 h11
  refine wl_val (.tuple #[.agg (pr 0 0), .bool false]) (by kernel_rfl) (by kernel_rfl) ?_
  refine wl_val (.agg (pr 0 0)) (by kernel_rfl) (by kernel_rfl) ?_
  refine wl_val (.bool false) (by kernel_rfl) (by kernel_rfl) ?_
  refine wl_make h11 39 (by kernel_rfl) run_alloc27 ?_
  intro q12 w13 h14
  refine wl_fill (c' := pr 0 0) h14 0 rfl (by kernel_rfl) (by kernel_rfl) (by kernel_rfl) rfl (info27p 0 0) (one_pr 0 0) ?_
  intro w15 (h16 : HA w [(q12, 39, pr 0 0), (q5, 39, ptc R)] w15)
  refine wl_val (.bool false) (by kernel_rfl) (by kernel_rfl) ?_
  refine wl_nil ?_
  refine then_at (F := ⟨(zSg2_10 p t g q5 R (.bool false) (pt q12) (.bool true :: .bool false :: .tuple #[.agg (pr 0 0), .bool false] :: .string p :: .tuple #[.agg (pr 0 0), .bool false] :: .agg (pr 0 0) :: .bool false :: List.replicate 18 un)).toArray, []⟩) (by kernel_rfl) ?_
  refine wp_seq ?_
  refine wp_seq ?_
  refine wl_region ?_
  refine wl_val (.bool false) (by kernel_rfl) (by kernel_rfl) ?_
  refine wl_val (.bool true) (by kernel_rfl) (by kernel_rfl) ?_
  refine wl_nil ?_
  refine then_at (F := ⟨(zSg2_10 p t g q5 R (.bool false) (pt q12) (.bool true :: .bool false :: .tuple #[.agg (pr 0 0), .bool false] :: .string p :: .tuple #[.agg (pr 0 0), .bool false] :: .agg (pr 0 0) :: .bool false :: .bool false :: .bool true :: List.replicate 16 un)).toArray, []⟩) (by kernel_rfl) ?_
  refine wp_cond_true (by kernel_rfl) ?_
  refine wp_seq ?_
  refine wl_region ?_
  refine wl_val (.bool false) (by kernel_rfl) (by kernel_rfl) ?_
  refine wl_nil ?_
  refine then_at (F := ⟨(zSg2_10 p t g q5 R (.bool false) (pt q12) (.bool true :: .bool false :: .tuple #[.agg (pr 0 0), .bool false] :: .string p :: .tuple #[.agg (pr 0 0), .bool false] :: .agg (pr 0 0) :: .bool false :: .bool false :: .bool true :: List.replicate 16 un)).toArray, []⟩) (by kernel_rfl) ?_
  refine wp_ret ?_
  repeat first | refine then_ret ?_ | refine block_ret ?_
  exact bodyPost_ret (v := .bool false) (by kernel_rfl) rfl ⟨rfl, h16.old⟩

def zSg2_11 (p : ByteArray) (t : ByteArray) (g : ByteArray) (zx7 zx8 : Value) (zt : List Value) := (.string p :: .string t :: .string g :: un :: un :: un :: .bool false :: zx7 :: zx8 :: un :: un :: .string g :: iN .i64 g.size :: .bool false :: .bool false :: .string g :: .string (g.extract 32 g.size) :: .bool true :: .bool false :: .bool false :: zt : List Value)
def zSg2_12 (p : ByteArray) (t : ByteArray) (g : ByteArray) q5 q12 (R : Pt) (A : Pt) (zx10 : Value) (zt : List Value) := (.string p :: .string t :: .string g :: un :: un :: un :: .bool false :: pt q5 :: .bool true :: pt q12 :: zx10 :: .string g :: iN .i64 g.size :: .bool false :: .bool false :: .string g :: .string (g.extract 32 g.size) :: .bool true :: .bool false :: .bool false :: .tuple #[ptv R, .bool true] :: .string g :: .string (g.extract 0 32) :: .tuple #[ptv R, .bool true] :: ptv R :: .bool true :: .bool true :: .bool false :: .tuple #[ptv A, .bool true] :: .string p :: .tuple #[ptv A, .bool true] :: ptv A :: .bool true :: zt : List Value)
set_option linter.unusedVariables false in
set_option maxRecDepth 100000 in
set_option maxHeartbeats 2000000 in
theorem ver_no (p t g : ByteArray) (hp : p.size ≤ 562949953421312) (ht : t.size ≤ 562949953421312) (hg : g.size = 64) (hI : Sc.isS (g.extract 32 g.size)) (R : Pt) (hR : encP R = g.extract 0 32) (A : Pt) (hA : encP A = p) (hE : mP bP (numS (g.extract 32 g.size)) ≠ aP R (mP A (numS (kvS p t (g.extract 0 32))))) (w : World) (VV : VA w) :
    Calls Tryd.prog 10 #[.string p, .string t, .string g] w fun e w' => e = .returned (.bool false) ∧ Below w.heap.size w w' := by
  have H0 := HA.start w
  go_enter Tryd.func10, Tryd.ntmps10
  refine wp_seq ?_
  refine wl_region ?_
  refine wl_val (.bool false) (by kernel_rfl) (by kernel_rfl) ?_
  refine wl_nil ?_
  refine then_at (F := ⟨(.string p :: .string t :: .string g :: un :: un :: un :: .bool false :: List.replicate 44 un).toArray, []⟩) (by kernel_rfl) ?_
  refine wp_seq ?_
  refine wp_seq ?_
  refine wl_region ?_
  refine wl_val (.string g) (by kernel_rfl) (by kernel_rfl) ?_
  refine wl_val (iN .i64 g.size) (by kernel_rfl) (run_len (s := g) (by kernel_rfl)) ?_
  refine wl_val (.bool false) (by kernel_rfl) (run_nei (k := .i64) (a := g.size) (b := 64) (by kernel_rfl) (by kernel_rfl) false (decide_eq_false (fun h => h hg))) ?_
  refine wl_val (.bool false) (by kernel_rfl) (by kernel_rfl) ?_
  refine wl_val (.string g) (by kernel_rfl) (by kernel_rfl) ?_
  refine wl_val (.string (g.extract 32 g.size)) (by kernel_rfl) (Sc.run_cut_lo (s := g) (a := 32) (by kernel_rfl) (by kernel_rfl) (by rw [hg]; decide)) ?_
  refine wl_call (v := .bool true) H0 (by kernel_rfl) ent25 #[.string (g.extract 32 g.size)] (by kernel_rfl) (Sc.Check_yes (g.extract 32 g.size) hI w (VV.below H0.old VV.big).s) ?_
  intro w1 h2
  refine wl_val (.bool false) (by kernel_rfl) (by kernel_rfl) ?_
  refine wl_val (.bool false) (by kernel_rfl) (by kernel_rfl) ?_
  refine wl_nil ?_
  refine then_at (F := ⟨(zSg2_11 p t g un un (List.replicate 31 un)).toArray, []⟩) (by kernel_rfl) ?_
  refine wp_cond_false (by kernel_rfl) ?_
  refine wp_skip ?_
  refine then_at (F := ⟨(zSg2_11 p t g un un (List.replicate 31 un)).toArray, []⟩) (by kernel_rfl) ?_
  refine wp_seq ?_
  refine wl_region ?_
  refine wl_val (.string g) (by kernel_rfl) (by kernel_rfl) ?_
  refine wl_val (.string (g.extract 0 32)) (by kernel_rfl) (Sc.run_cut_hi (s := g) (b := 32) (by kernel_rfl) (by kernel_rfl) (by rw [hg]; decide)) ?_
  refine wl_call (v := .tuple #[ptv R, .bool true]) h2 (by kernel_rfl) ent26 #[.string (g.extract 0 32)] (by kernel_rfl) (of_at R (g.extract 0 32) hR w1 (VV.below h2.old VV.big)) ?_
  intro w3 h4
  refine wl_val (.tuple #[ptv R, .bool true]) (by kernel_rfl) (by kernel_rfl) ?_
  refine wl_val (ptv R) (by kernel_rfl) (by kernel_rfl) ?_
  refine wl_val (.bool true) (by kernel_rfl) (by kernel_rfl) ?_
  refine wl_make h4 39 (by kernel_rfl) run_alloc27 ?_
  intro q5 w6 h7
  refine wl_fill (c' := ptc R) h7 0 rfl (by kernel_rfl) (by kernel_rfl) (by kernel_rfl) (ptc_sz R) (ptc_info R) (ptc_one R) ?_
  intro w8 (h9 : HA w [(q5, 39, ptc R)] w8)
  refine wl_val (.bool true) (by kernel_rfl) (by kernel_rfl) ?_
  refine wl_nil ?_
  refine then_at (F := ⟨(zSg2_11 p t g (pt q5) (.bool true) (.tuple #[ptv R, .bool true] :: .string g :: .string (g.extract 0 32) :: .tuple #[ptv R, .bool true] :: ptv R :: .bool true :: List.replicate 25 un)).toArray, []⟩) (by kernel_rfl) ?_
  refine wp_seq ?_
  refine wp_seq ?_
  refine wl_region ?_
  refine wl_val (.bool true) (by kernel_rfl) (by kernel_rfl) ?_
  refine wl_val (.bool false) (by kernel_rfl) (by kernel_rfl) ?_
  refine wl_nil ?_
  refine then_at (F := ⟨(zSg2_11 p t g (pt q5) (.bool true) (.tuple #[ptv R, .bool true] :: .string g :: .string (g.extract 0 32) :: .tuple #[ptv R, .bool true] :: ptv R :: .bool true :: .bool true :: .bool false :: List.replicate 23 un)).toArray, []⟩) (by kernel_rfl) ?_
  refine wp_cond_false (by kernel_rfl) ?_
  refine wp_skip ?_
  refine then_at (F := ⟨(zSg2_11 p t g (pt q5) (.bool true) (.tuple #[ptv R, .bool true] :: .string g :: .string (g.extract 0 32) :: .tuple #[ptv R, .bool true] :: ptv R :: .bool true :: .bool true :: .bool false :: List.replicate 23 un)).toArray, []⟩) (by kernel_rfl) ?_
  refine wp_seq ?_
  refine wl_region ?_
  refine wl_val (.string p) (by kernel_rfl) (by kernel_rfl) ?_
  refine wl_call (v := .tuple #[ptv A, .bool true]) h9 (by kernel_rfl) ent26 #[.string p] (by kernel_rfl) (of_at A p hA w8 (VV.below h9.old VV.big)) ?_
  intro w10 h11
  refine wl_val (.tuple #[ptv A, .bool true]) (by kernel_rfl) (by kernel_rfl) ?_
  refine wl_val (ptv A) (by kernel_rfl) (by kernel_rfl) ?_
  refine wl_val (.bool true) (by kernel_rfl) (by kernel_rfl) ?_
  refine wl_make h11 39 (by kernel_rfl) run_alloc27 ?_
  intro q12 w13 h14
  refine wl_fill (c' := ptc A) h14 0 rfl (by kernel_rfl) (by kernel_rfl) (by kernel_rfl) (ptc_sz A) (ptc_info A) (ptc_one A) ?_
  intro w15 (h16 : HA w [(q12, 39, ptc A), (q5, 39, ptc R)] w15)
  refine wl_val (.bool true) (by kernel_rfl) (by kernel_rfl) ?_
  refine wl_nil ?_
  refine then_at (F := ⟨(zSg2_12 p t g q5 q12 R A un (List.replicate 18 un)).toArray, []⟩) (by kernel_rfl) ?_
  refine wp_seq ?_
  refine wp_seq ?_
  refine wl_region ?_
  refine wl_val (.bool true) (by kernel_rfl) (by kernel_rfl) ?_
  refine wl_val (.bool false) (by kernel_rfl) (by kernel_rfl) ?_
  refine wl_nil ?_
  refine then_at (F := ⟨(zSg2_12 p t g q5 q12 R A un (.bool true :: .bool false :: List.replicate 16 un)).toArray, []⟩) (by kernel_rfl) ?_
  refine wp_cond_false (by kernel_rfl) ?_
  refine wp_skip ?_
  refine then_at (F := ⟨(zSg2_12 p t g q5 q12 R A un (.bool true :: .bool false :: List.replicate 16 un)).toArray, []⟩) (by kernel_rfl) ?_
  refine wp_seq ?_
  refine wl_region ?_
  refine wl_val (.string g) (by kernel_rfl) (by kernel_rfl) ?_
  refine wl_val (.string (g.extract 0 32)) (by kernel_rfl) (Sc.run_cut_hi (s := g) (b := 32) (by kernel_rfl) (by kernel_rfl) (by rw [hg]; decide)) ?_
  refine wl_val (.string p) (by kernel_rfl) (by kernel_rfl) ?_
  refine wl_val (.string t) (by kernel_rfl) (by kernel_rfl) ?_
  refine Hh.wl_mks (n := 3) (m := 3) (c := Hh.psc ([g.extract 0 32, p, t])) h16 9 (by kernel_rfl) (run_bs3 (u := g.extract 0 32) (v := p) (v2 := t) (by kernel_rfl) (by kernel_rfl) (by kernel_rfl)) ?_
  intro q17 w18 h19
  refine wl_call (v := .string (kvS p t (g.extract 0 32))) h19 (by kernel_rfl) ent24 #[.slice (some ⟨q17, 0, none⟩) 3 3] (by kernel_rfl) (number_3 (g.extract 0 32) p t (by rw [ext_size g 0 32 (by rw [hg]; decide)]; decide) hp ht q17 w18 (VV.below h19.old VV.big) (h19.get 0 rfl)) ?_
  intro w20 h21
  refine wl_val (.string (kvS p t (g.extract 0 32))) (by kernel_rfl) (by kernel_rfl) ?_
  refine wl_nil ?_
  refine then_at (F := ⟨(zSg2_12 p t g q5 q12 R A (.string (kvS p t (g.extract 0 32))) (.bool true :: .bool false :: .string g :: .string (g.extract 0 32) :: .string p :: .string t :: .slice (some ⟨q17, 0, none⟩) 3 3 :: .string (kvS p t (g.extract 0 32)) :: List.replicate 10 un)).toArray, []⟩) (by kernel_rfl) ?_
  refine wp_seq ?_
  refine wp_region_sure ⟨(zSg2_12 p t g q5 q12 R A (.string (kvS p t (g.extract 0 32))) (.bool true :: .bool false :: .string g :: .string (g.extract 0 32) :: .string p :: .string t :: .slice (some ⟨q17, 0, none⟩) 3 3 :: .string (kvS p t (g.extract 0 32)) :: ptv bP :: .string g :: .string (g.extract 32 g.size) :: ptv (mP bP (numS (g.extract 32 g.size))) :: ptv R :: ptv A :: .string (kvS p t (g.extract 0 32)) :: ptv (mP A (numS (kvS p t (g.extract 0 32)))) :: ptv (aP R (mP A (numS (kvS p t (g.extract 0 32))))) :: .bool false :: [])).toArray, []⟩ (HA w [(q17, 9, Hh.psc ([g.extract 0 32, p, t])), (q12, 39, ptc A), (q5, 39, ptc R)]) [ptv bP, .string g, .string (g.extract 32 g.size), ptv (mP bP (numS (g.extract 32 g.size))), ptv R, ptv A, .string (kvS p t (g.extract 0 32)), ptv (mP A (numS (kvS p t (g.extract 0 32)))), ptv (aP R (mP A (numS (kvS p t (g.extract 0 32))))), .bool false, .bool false] (by kernel_rfl) (by kernel_rfl) (by kernel_rfl) (by kernel_rfl) (fun _ _ _ h => h) h21.drew ?_ ?_
  · refine AllSure.cons (sure_call (v := ptv bP) (by kernel_rfl) (by kernel_rfl) ent13 HA.keep #[] (by kernel_rfl) (fun w' h' => base_pv w' (VV.below h'.old VV.big))) ?_
    refine AllSure.cons (OpSure.take (v := .string g) (by kernel_rfl) (by kernel_rfl) (fun _ _ => (by kernel_rfl))) ?_
    refine AllSure.cons (OpSure.take (v := .string (g.extract 32 g.size)) (by kernel_rfl) (by kernel_rfl) (fun _ _ => (Sc.run_cut_lo (s := g) (a := 32) (by kernel_rfl) (by kernel_rfl) (by rw [hg]; decide)))) ?_
    refine AllSure.cons (sure_call (v := ptv (mP bP (numS (g.extract 32 g.size)))) (by kernel_rfl) (by kernel_rfl) ent14 HA.keep #[ptv bP, .string (g.extract 32 g.size)] (by kernel_rfl) (fun w' h' => mul_pv bP (g.extract 32 g.size) hI.1 w' (VV.below h'.old VV.big))) ?_
    refine AllSure.cons (OpSure.take (v := ptv R) (by kernel_rfl) (by kernel_rfl) (fun _ h => run_load_blk (by kernel_rfl) (h.get 2 rfl) Tryd.underlying39 rfl (ptc_info R))) ?_
    refine AllSure.cons (OpSure.take (v := ptv A) (by kernel_rfl) (by kernel_rfl) (fun _ h => run_load_blk (by kernel_rfl) (h.get 1 rfl) Tryd.underlying39 rfl (ptc_info A))) ?_
    refine AllSure.cons (OpSure.take (v := .string (kvS p t (g.extract 0 32))) (by kernel_rfl) (by kernel_rfl) (fun _ _ => (by kernel_rfl))) ?_
    refine AllSure.cons (sure_call (v := ptv (mP A (numS (kvS p t (g.extract 0 32))))) (by kernel_rfl) (by kernel_rfl) ent14 HA.keep #[ptv A, .string (kvS p t (g.extract 0 32))] (by kernel_rfl) (fun w' h' => mul_pv A (kvS p t (g.extract 0 32)) (kS_size _) w' (VV.below h'.old VV.big))) ?_
    refine AllSure.cons (sure_call (v := ptv (aP R (mP A (numS (kvS p t (g.extract 0 32)))))) (by kernel_rfl) (by kernel_rfl) ent20 HA.keep #[ptv R, ptv (mP A (numS (kvS p t (g.extract 0 32))))] (by kernel_rfl) (fun w' h' => add_pv R (mP A (numS (kvS p t (g.extract 0 32)))) w' (VV.below h'.old VV.big))) ?_
    refine AllSure.cons (sure_call (v := .bool false) (by kernel_rfl) (by kernel_rfl) ent19 HA.keep #[ptv (mP bP (numS (g.extract 32 g.size))), ptv (aP R (mP A (numS (kvS p t (g.extract 0 32)))))] (by kernel_rfl) (fun w' h' => same_pv_no (mP bP (numS (g.extract 32 g.size))) (aP R (mP A (numS (kvS p t (g.extract 0 32))))) hE w')) ?_
    refine AllSure.cons (OpSure.take (v := .bool false) (by kernel_rfl) (by kernel_rfl) (fun _ _ => (by kernel_rfl))) ?_
    exact AllSure.nil
  intro w22 h23
  refine then_at (F := ⟨(zSg2_12 p t g q5 q12 R A (.string (kvS p t (g.extract 0 32))) (.bool true :: .bool false :: .string g :: .string (g.extract 0 32) :: .string p :: .string t :: .slice (some ⟨q17, 0, none⟩) 3 3 :: .string (kvS p t (g.extract 0 32)) :: ptv bP :: .string g :: .string (g.extract 32 g.size) :: ptv (mP bP (numS (g.extract 32 g.size))) :: ptv R :: ptv A :: .string (kvS p t (g.extract 0 32)) :: ptv (mP A (numS (kvS p t (g.extract 0 32)))) :: ptv (aP R (mP A (numS (kvS p t (g.extract 0 32))))) :: .bool false :: [])).toArray, []⟩) (by kernel_rfl) ?_
  refine wp_ret ?_
  repeat first | refine then_ret ?_ | refine block_ret ?_
  exact bodyPost_ret (v := .bool false) (by kernel_rfl) rfl ⟨rfl, h23.old⟩

def zSg2_13 (p : ByteArray) (t : ByteArray) (g : ByteArray) (zt : List Value) := (.string p :: .string t :: .string g :: un :: un :: un :: .bool false :: un :: un :: un :: un :: .string g :: iN .i64 g.size :: .bool false :: .bool false :: .string g :: .string (g.extract 32 g.size) :: .bool true :: .bool false :: .bool false :: zt : List Value)
def zSg2_14 (p : ByteArray) (t : ByteArray) (g : ByteArray) q5 (R : Pt) (zx9 : Value) (zt : List Value) := (.string p :: .string t :: .string g :: un :: un :: un :: .bool false :: pt q5 :: .bool true :: zx9 :: un :: .string g :: iN .i64 g.size :: .bool false :: .bool false :: .string g :: .string (g.extract 32 g.size) :: .bool true :: .bool false :: .bool false :: .tuple #[ptv R, .bool true] :: .string g :: .string (g.extract 0 32) :: .tuple #[ptv R, .bool true] :: ptv R :: .bool true :: zt : List Value)
def zSg2_15 (p : ByteArray) (t : ByteArray) (g : ByteArray) q5 q12 (R : Pt) (A : Pt) q17 (zx6 : Value) (zt : List Value) := (.string p :: .string t :: .string g :: un :: un :: un :: zx6 :: pt q5 :: .bool true :: pt q12 :: .string (kvS p t (g.extract 0 32)) :: .string g :: iN .i64 g.size :: .bool false :: .bool false :: .string g :: .string (g.extract 32 g.size) :: .bool true :: .bool false :: .bool false :: .tuple #[ptv R, .bool true] :: .string g :: .string (g.extract 0 32) :: .tuple #[ptv R, .bool true] :: ptv R :: .bool true :: .bool true :: .bool false :: .tuple #[ptv A, .bool true] :: .string p :: .tuple #[ptv A, .bool true] :: ptv A :: .bool true :: .bool true :: .bool false :: .string g :: .string (g.extract 0 32) :: .string p :: .string t :: .slice (some ⟨q17, 0, none⟩) 3 3 :: .string (kvS p t (g.extract 0 32)) :: zt : List Value)
set_option linter.unusedVariables false in
set_option maxRecDepth 100000 in
set_option maxHeartbeats 2000000 in
theorem ver_yes (p t g : ByteArray) (hp : p.size ≤ 562949953421312) (ht : t.size ≤ 562949953421312) (hg : g.size = 64) (hI : Sc.isS (g.extract 32 g.size)) (R : Pt) (hR : encP R = g.extract 0 32) (A : Pt) (hA : encP A = p) (hE : mP bP (numS (g.extract 32 g.size)) = aP R (mP A (numS (kvS p t (g.extract 0 32))))) (w : World) (VV : VA w) :
    Calls Tryd.prog 10 #[.string p, .string t, .string g] w fun e w' => e = .returned (.bool true) ∧ Below w.heap.size w w' := by
  have H0 := HA.start w
  go_enter Tryd.func10, Tryd.ntmps10
  refine wp_seq ?_
  refine wl_region ?_
  refine wl_val (.bool false) (by kernel_rfl) (by kernel_rfl) ?_
  refine wl_nil ?_
  refine then_at (F := ⟨(.string p :: .string t :: .string g :: un :: un :: un :: .bool false :: List.replicate 44 un).toArray, []⟩) (by kernel_rfl) ?_
  refine wp_seq ?_
  refine wp_seq ?_
  refine wl_region ?_
  refine wl_val (.string g) (by kernel_rfl) (by kernel_rfl) ?_
  refine wl_val (iN .i64 g.size) (by kernel_rfl) (run_len (s := g) (by kernel_rfl)) ?_
  refine wl_val (.bool false) (by kernel_rfl) (run_nei (k := .i64) (a := g.size) (b := 64) (by kernel_rfl) (by kernel_rfl) false (decide_eq_false (fun h => h hg))) ?_
  refine wl_val (.bool false) (by kernel_rfl) (by kernel_rfl) ?_
  refine wl_val (.string g) (by kernel_rfl) (by kernel_rfl) ?_
  refine wl_val (.string (g.extract 32 g.size)) (by kernel_rfl) (Sc.run_cut_lo (s := g) (a := 32) (by kernel_rfl) (by kernel_rfl) (by rw [hg]; decide)) ?_
  refine wl_call (v := .bool true) H0 (by kernel_rfl) ent25 #[.string (g.extract 32 g.size)] (by kernel_rfl) (Sc.Check_yes (g.extract 32 g.size) hI w (VV.below H0.old VV.big).s) ?_
  intro w1 h2
  refine wl_val (.bool false) (by kernel_rfl) (by kernel_rfl) ?_
  refine wl_val (.bool false) (by kernel_rfl) (by kernel_rfl) ?_
  refine wl_nil ?_
  refine then_at (F := ⟨(zSg2_13 p t g (List.replicate 31 un)).toArray, []⟩) (by kernel_rfl) ?_
  refine wp_cond_false (by kernel_rfl) ?_
  refine wp_skip ?_
  refine then_at (F := ⟨(zSg2_13 p t g (List.replicate 31 un)).toArray, []⟩) (by kernel_rfl) ?_
  refine wp_seq ?_
  refine wl_region ?_
  refine wl_val (.string g) (by kernel_rfl) (by kernel_rfl) ?_
  refine wl_val (.string (g.extract 0 32)) (by kernel_rfl) (Sc.run_cut_hi (s := g) (b := 32) (by kernel_rfl) (by kernel_rfl) (by rw [hg]; decide)) ?_
  refine wl_call (v := .tuple #[ptv R, .bool true]) h2 (by kernel_rfl) ent26 #[.string (g.extract 0 32)] (by kernel_rfl) (of_at R (g.extract 0 32) hR w1 (VV.below h2.old VV.big)) ?_
  intro w3 h4
  refine wl_val (.tuple #[ptv R, .bool true]) (by kernel_rfl) (by kernel_rfl) ?_
  refine wl_val (ptv R) (by kernel_rfl) (by kernel_rfl) ?_
  refine wl_val (.bool true) (by kernel_rfl) (by kernel_rfl) ?_
  refine wl_make h4 39 (by kernel_rfl) run_alloc27 ?_
  intro q5 w6 h7
  refine wl_fill (c' := ptc R) h7 0 rfl (by kernel_rfl) (by kernel_rfl) (by kernel_rfl) (ptc_sz R) (ptc_info R) (ptc_one R) ?_
  intro w8 (h9 : HA w [(q5, 39, ptc R)] w8)
  refine wl_val (.bool true) (by kernel_rfl) (by kernel_rfl) ?_
  refine wl_nil ?_
  refine then_at (F := ⟨(zSg2_14 p t g q5 R un (List.replicate 25 un)).toArray, []⟩) (by kernel_rfl) ?_
  refine wp_seq ?_
  refine wp_seq ?_
  refine wl_region ?_
  refine wl_val (.bool true) (by kernel_rfl) (by kernel_rfl) ?_
  refine wl_val (.bool false) (by kernel_rfl) (by kernel_rfl) ?_
  refine wl_nil ?_
  refine then_at (F := ⟨(zSg2_14 p t g q5 R un (.bool true :: .bool false :: List.replicate 23 un)).toArray, []⟩) (by kernel_rfl) ?_
  refine wp_cond_false (by kernel_rfl) ?_
  refine wp_skip ?_
  refine then_at (F := ⟨(zSg2_14 p t g q5 R un (.bool true :: .bool false :: List.replicate 23 un)).toArray, []⟩) (by kernel_rfl) ?_
  refine wp_seq ?_
  refine wl_region ?_
  refine wl_val (.string p) (by kernel_rfl) (by kernel_rfl) ?_
  refine wl_call (v := .tuple #[ptv A, .bool true]) h9 (by kernel_rfl) ent26 #[.string p] (by kernel_rfl) (of_at A p hA w8 (VV.below h9.old VV.big)) ?_
  intro w10 h11
  refine wl_val (.tuple #[ptv A, .bool true]) (by kernel_rfl) (by kernel_rfl) ?_
  refine wl_val (ptv A) (by kernel_rfl) (by kernel_rfl) ?_
  refine wl_val (.bool true) (by kernel_rfl) (by kernel_rfl) ?_
  refine wl_make h11 39 (by kernel_rfl) run_alloc27 ?_
  intro q12 w13 h14
  refine wl_fill (c' := ptc A) h14 0 rfl (by kernel_rfl) (by kernel_rfl) (by kernel_rfl) (ptc_sz A) (ptc_info A) (ptc_one A) ?_
  intro w15 (h16 : HA w [(q12, 39, ptc A), (q5, 39, ptc R)] w15)
  refine wl_val (.bool true) (by kernel_rfl) (by kernel_rfl) ?_
  refine wl_nil ?_
  refine then_at (F := ⟨(zSg2_14 p t g q5 R (pt q12) (.bool true :: .bool false :: .tuple #[ptv A, .bool true] :: .string p :: .tuple #[ptv A, .bool true] :: ptv A :: .bool true :: List.replicate 18 un)).toArray, []⟩) (by kernel_rfl) ?_
  refine wp_seq ?_
  refine wp_seq ?_
  refine wl_region ?_
  refine wl_val (.bool true) (by kernel_rfl) (by kernel_rfl) ?_
  refine wl_val (.bool false) (by kernel_rfl) (by kernel_rfl) ?_
  refine wl_nil ?_
  refine then_at (F := ⟨(zSg2_14 p t g q5 R (pt q12) (.bool true :: .bool false :: .tuple #[ptv A, .bool true] :: .string p :: .tuple #[ptv A, .bool true] :: ptv A :: .bool true :: .bool true :: .bool false :: List.replicate 16 un)).toArray, []⟩) (by kernel_rfl) ?_
  refine wp_cond_false (by kernel_rfl) ?_
  refine wp_skip ?_
  refine then_at (F := ⟨(zSg2_14 p t g q5 R (pt q12) (.bool true :: .bool false :: .tuple #[ptv A, .bool true] :: .string p :: .tuple #[ptv A, .bool true] :: ptv A :: .bool true :: .bool true :: .bool false :: List.replicate 16 un)).toArray, []⟩) (by kernel_rfl) ?_
  refine wp_seq ?_
  refine wl_region ?_
  refine wl_val (.string g) (by kernel_rfl) (by kernel_rfl) ?_
  refine wl_val (.string (g.extract 0 32)) (by kernel_rfl) (Sc.run_cut_hi (s := g) (b := 32) (by kernel_rfl) (by kernel_rfl) (by rw [hg]; decide)) ?_
  refine wl_val (.string p) (by kernel_rfl) (by kernel_rfl) ?_
  refine wl_val (.string t) (by kernel_rfl) (by kernel_rfl) ?_
  refine Hh.wl_mks (n := 3) (m := 3) (c := Hh.psc ([g.extract 0 32, p, t])) h16 9 (by kernel_rfl) (run_bs3 (u := g.extract 0 32) (v := p) (v2 := t) (by kernel_rfl) (by kernel_rfl) (by kernel_rfl)) ?_
  intro q17 w18 h19
  refine wl_call (v := .string (kvS p t (g.extract 0 32))) h19 (by kernel_rfl) ent24 #[.slice (some ⟨q17, 0, none⟩) 3 3] (by kernel_rfl) (number_3 (g.extract 0 32) p t (by rw [ext_size g 0 32 (by rw [hg]; decide)]; decide) hp ht q17 w18 (VV.below h19.old VV.big) (h19.get 0 rfl)) ?_
  intro w20 h21
  refine wl_val (.string (kvS p t (g.extract 0 32))) (by kernel_rfl) (by kernel_rfl) ?_
  refine wl_nil ?_
  refine then_at (F := ⟨(zSg2_15 p t g q5 q12 R A q17 (.bool false) (List.replicate 10 un)).toArray, []⟩) (by kernel_rfl) ?_
  refine wp_seq ?_
  refine wp_region_sure ⟨(zSg2_15 p t g q5 q12 R A q17 (.bool true) (ptv bP :: .string g :: .string (g.extract 32 g.size) :: ptv (mP bP (numS (g.extract 32 g.size))) :: ptv R :: ptv A :: .string (kvS p t (g.extract 0 32)) :: ptv (mP A (numS (kvS p t (g.extract 0 32)))) :: ptv (aP R (mP A (numS (kvS p t (g.extract 0 32))))) :: .bool true :: [])).toArray, []⟩ (HA w [(q17, 9, Hh.psc ([g.extract 0 32, p, t])), (q12, 39, ptc A), (q5, 39, ptc R)]) [ptv bP, .string g, .string (g.extract 32 g.size), ptv (mP bP (numS (g.extract 32 g.size))), ptv R, ptv A, .string (kvS p t (g.extract 0 32)), ptv (mP A (numS (kvS p t (g.extract 0 32)))), ptv (aP R (mP A (numS (kvS p t (g.extract 0 32))))), .bool true, .bool true] (by kernel_rfl) (by kernel_rfl) (by kernel_rfl) (by kernel_rfl) (fun _ _ _ h => h) h21.drew ?_ ?_
  · refine AllSure.cons (sure_call (v := ptv bP) (by kernel_rfl) (by kernel_rfl) ent13 HA.keep #[] (by kernel_rfl) (fun w' h' => base_pv w' (VV.below h'.old VV.big))) ?_
    refine AllSure.cons (OpSure.take (v := .string g) (by kernel_rfl) (by kernel_rfl) (fun _ _ => (by kernel_rfl))) ?_
    refine AllSure.cons (OpSure.take (v := .string (g.extract 32 g.size)) (by kernel_rfl) (by kernel_rfl) (fun _ _ => (Sc.run_cut_lo (s := g) (a := 32) (by kernel_rfl) (by kernel_rfl) (by rw [hg]; decide)))) ?_
    refine AllSure.cons (sure_call (v := ptv (mP bP (numS (g.extract 32 g.size)))) (by kernel_rfl) (by kernel_rfl) ent14 HA.keep #[ptv bP, .string (g.extract 32 g.size)] (by kernel_rfl) (fun w' h' => mul_pv bP (g.extract 32 g.size) hI.1 w' (VV.below h'.old VV.big))) ?_
    refine AllSure.cons (OpSure.take (v := ptv R) (by kernel_rfl) (by kernel_rfl) (fun _ h => run_load_blk (by kernel_rfl) (h.get 2 rfl) Tryd.underlying39 rfl (ptc_info R))) ?_
    refine AllSure.cons (OpSure.take (v := ptv A) (by kernel_rfl) (by kernel_rfl) (fun _ h => run_load_blk (by kernel_rfl) (h.get 1 rfl) Tryd.underlying39 rfl (ptc_info A))) ?_
    refine AllSure.cons (OpSure.take (v := .string (kvS p t (g.extract 0 32))) (by kernel_rfl) (by kernel_rfl) (fun _ _ => (by kernel_rfl))) ?_
    refine AllSure.cons (sure_call (v := ptv (mP A (numS (kvS p t (g.extract 0 32))))) (by kernel_rfl) (by kernel_rfl) ent14 HA.keep #[ptv A, .string (kvS p t (g.extract 0 32))] (by kernel_rfl) (fun w' h' => mul_pv A (kvS p t (g.extract 0 32)) (kS_size _) w' (VV.below h'.old VV.big))) ?_
    refine AllSure.cons (sure_call (v := ptv (aP R (mP A (numS (kvS p t (g.extract 0 32)))))) (by kernel_rfl) (by kernel_rfl) ent20 HA.keep #[ptv R, ptv (mP A (numS (kvS p t (g.extract 0 32))))] (by kernel_rfl) (fun w' h' => add_pv R (mP A (numS (kvS p t (g.extract 0 32)))) w' (VV.below h'.old VV.big))) ?_
    refine AllSure.cons (sure_call (v := .bool true) (by kernel_rfl) (by kernel_rfl) ent19 HA.keep #[ptv (mP bP (numS (g.extract 32 g.size))), ptv (aP R (mP A (numS (kvS p t (g.extract 0 32)))))] (by kernel_rfl) (fun w' h' => same_pv_yes (mP bP (numS (g.extract 32 g.size))) (aP R (mP A (numS (kvS p t (g.extract 0 32))))) hE w')) ?_
    refine AllSure.cons (OpSure.take (v := .bool true) (by kernel_rfl) (by kernel_rfl) (fun _ _ => (by kernel_rfl))) ?_
    exact AllSure.nil
  intro w22 h23
  refine then_at (F := ⟨(zSg2_15 p t g q5 q12 R A q17 (.bool true) (ptv bP :: .string g :: .string (g.extract 32 g.size) :: ptv (mP bP (numS (g.extract 32 g.size))) :: ptv R :: ptv A :: .string (kvS p t (g.extract 0 32)) :: ptv (mP A (numS (kvS p t (g.extract 0 32)))) :: ptv (aP R (mP A (numS (kvS p t (g.extract 0 32))))) :: .bool true :: [])).toArray, []⟩) (by kernel_rfl) ?_
  refine wp_ret ?_
  repeat first | refine then_ret ?_ | refine block_ret ?_
  exact bodyPost_ret (v := .bool true) (by kernel_rfl) rfl ⟨rfl, h23.old⟩

theorem Verify_yes (p t g : ByteArray) (hp : p.size ≤ 562949953421312) (ht : t.size ≤ 562949953421312) (h : verP p t g) (w : World) (VV : VA w) : Calls Tryd.prog 10 #[.string p, .string t, .string g] w fun e w' => e = .returned (.bool true) ∧ Below w.heap.size w w' := by
  obtain ⟨hg, hI, R, A, hR, hA, hE⟩ := h
  exact ver_yes p t g hp ht hg hI R hR A hA hE w VV
theorem Verify_no (p t g : ByteArray) (hp : p.size ≤ 562949953421312) (ht : t.size ≤ 562949953421312) (h : ¬ verP p t g) (w : World) (VV : VA w) : Calls Tryd.prog 10 #[.string p, .string t, .string g] w fun e w' => e = .returned (.bool false) ∧ Below w.heap.size w w' := by
  by_cases hg : g.size = 64
  · by_cases hI : Sc.isS (g.extract 32 g.size)
    · by_cases hR : ∃ R, encP R = g.extract 0 32
      · obtain ⟨R, hR⟩ := hR
        by_cases hA : ∃ A, encP A = p
        · obtain ⟨A, hA⟩ := hA
          exact ver_no p t g hp ht hg hI R hR A hA (fun hE => h ⟨hg, hI, R, A, hR, hA, hE⟩) w VV
        · exact ver_A p t g hp ht hg hI R hR (fun q e => hA ⟨q, e⟩) w VV
      · exact ver_R p t g hp ht hg hI (fun q e => hR ⟨q, e⟩) w VV
    · exact ver_chk p t g hp ht hg hI w VV
  · exact ver_len p t g hp ht hg w VV
end Go.Proofs.YtefjnfeckenmkaaDoor
