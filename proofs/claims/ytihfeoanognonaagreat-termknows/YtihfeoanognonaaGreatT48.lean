/-
 The reference's Of and Within.
-/
import Derived.Test.YtihfeoanognonaaGreatT45
namespace Go.Proofs.YtihfeoanognonaaGreat
set_option linter.unusedVariables false
set_option maxRecDepth 100000
set_option maxHeartbeats 2000000
open Go.RowKit
theorem RI.newer {B : Nat} {w : World} {o : Option Addr} {ps : List Nat} (h : RI B w o ps) : ∃ N, RIL N o ps ∧ Newer B w N := by
 rcases h with h | ⟨q, c, h1, h2, h3, h4⟩
 ·exact ⟨[], .inl h, Newer.nil _ _⟩
 ·exact ⟨[(q, 3, c)], .inr ⟨q, c, h1, by simp, h4⟩, ⟨fun y hy => by rw [List.mem_singleton.1 hy]; exact ⟨h2, h3⟩, by simp⟩⟩
theorem numT_ext {m : Nat} {s : ByteArray} {i x : Nat} : firstT m (s.extract i s.size) = some x ↔ i + 8 ≤ s.size ∧ numT m (s.extract i (i + 8)) = some x := by
 have hsz : (s.extract i s.size).size = s.size - i := by rw [ByteArray.size_extract]; omega
 constructor
 ·intro h
  have h8 := (firstT_some h).1
  rw [hsz] at h8
  have hle : i + 8 ≤ s.size := by omega
  refine ⟨hle, ?_⟩
  have e1 : (s.extract i (i + 8)).size = 8 := by rw [ByteArray.size_extract]; omega
  have e2 : (s.extract i (i + 8)).extract 0 4 = (s.extract i s.size).extract 0 4 := by rw [ByteArray.extract_extract, ByteArray.extract_extract]; congr 1; omega
  have e3 : (s.extract i (i + 8)).extract 4 8 = (s.extract i s.size).extract 4 8 := by rw [ByteArray.extract_extract, ByteArray.extract_extract]; congr 1; omega
  unfold numT
  rw [if_pos e1]
  unfold firstT n4 at h ⊢
  rw [e2, e3, e1]
  rw [hsz] at h
  split at h
  ·rename_i hc
   rw [if_pos ⟨by omega, hc.2⟩]; exact h
  ·cases h
 ·rintro ⟨hle, h⟩
  have e1 : (s.extract i (i + 8)).size = 8 := by rw [ByteArray.size_extract]; omega
  have e2 : (s.extract i (i + 8)).extract 0 4 = (s.extract i s.size).extract 0 4 := by rw [ByteArray.extract_extract, ByteArray.extract_extract]; congr 1; omega
  have e3 : (s.extract i (i + 8)).extract 4 8 = (s.extract i s.size).extract 4 8 := by rw [ByteArray.extract_extract, ByteArray.extract_extract]; congr 1; omega
  unfold numT at h
  rw [if_pos e1] at h
  unfold firstT n4 at h ⊢
  rw [e2, e3, e1] at h
  rw [hsz]
  split at h
  ·rename_i hc
   rw [if_pos ⟨by omega, hc.2⟩]; exact h
  ·cases h
def thL (m : Nat) (s : ByteArray) : Nat → List Bool
 | 0 => List.replicate m false
 | k + 1 => match numT m (s.extract k (k + 8)) with | some x => (thL m s k).set x true | none => thL m s k
theorem thL_len (m : Nat) (s : ByteArray) : ∀ k, (thL m s k).length = m
 | 0 => by simp [thL]
 | k + 1 => by
  rw [thL]
  split
  ·rw [List.length_set]; exact thL_len m s k
  ·exact thL_len m s k
theorem thL_get (m : Nat) (s : ByteArray) (x : Nat) (hx : x < m) : ∀ k, (thL m s k).getD x false = true ↔ ∃ i, i < k ∧ numT m (s.extract i (i + 8)) = some x
 | 0 => by
  rw [thL, List.getD_eq_getElem?_getD, List.getElem?_replicate, if_pos hx]
  simp
 | k + 1 => by
  have ih := thL_get m s x hx k
  have hl := thL_len m s k
  rw [thL]
  cases hn : numT m (s.extract k (k + 8)) with
  | none =>
   simp only
   rw [ih]
   constructor
   ·rintro ⟨i, h1, h2⟩; exact ⟨i, by omega, h2⟩
   ·rintro ⟨i, h1, h2⟩
    by_cases e : i = k
    ·subst e; rw [hn] at h2; cases h2
    ·exact ⟨i, by omega, h2⟩
  | some y =>
   simp only
   by_cases e : y = x
   ·subst e
    rw [List.getD_eq_getElem?_getD, List.getElem?_set_self (by omega)]
    simp only [Option.getD_some, true_iff]
    exact ⟨k, by omega, hn⟩
   ·rw [List.getD_eq_getElem?_getD, List.getElem?_set_ne e, ← List.getD_eq_getElem?_getD, ih]
    constructor
    ·rintro ⟨i, h1, h2⟩; exact ⟨i, by omega, h2⟩
    ·rintro ⟨i, h1, h2⟩
     by_cases e2 : i = k
     ·subst e2; rw [hn] at h2; cases h2; exact absurd rfl e
     ·exact ⟨i, by omega, h2⟩
def wfL (m : Nat) (s : ByteArray) (k : Nat) : List Nat := (List.range k).filter fun x => (thL m s (s.size - 7)).getD x false
theorem wfL_succ (m : Nat) (s : ByteArray) (k : Nat) : wfL m s (k + 1) = wfL m s k ++ (if (thL m s (s.size - 7)).getD k false = true then [k] else []) := by
 unfold wfL
 rw [List.range_succ, List.filter_append]
 congr 1
 rw [List.filter_cons, List.filter_nil]
theorem wfL_wth (m : Nat) (s : ByteArray) : wfL m s m = wth m s := by
 unfold wfL wth
 refine List.filter_congr fun x hx => ?_
 rw [Bool.eq_iff_iff, thL_get m s x (List.mem_range.1 hx), List.any_eq_true]
 constructor
 ·rintro ⟨i, h1, h2⟩
  exact ⟨i, List.mem_range.2 (by omega), decide_eq_true (numT_ext.2 ⟨by omega, h2⟩)⟩
 ·rintro ⟨i, h1, h2⟩
  obtain ⟨h3, h4⟩ := numT_ext.1 (of_decide_eq_true h2)
  exact ⟨i, by omega, h4⟩
theorem wfL_len (m : Nat) (s : ByteArray) (k : Nat) : (wfL m s k).length ≤ k := by
 unfold wfL
 exact Nat.le_trans (List.length_filter_le _ _) (by simp)
theorem Row.bools {v : Value} {bl : List Bool} {Lr : BL} {i : Nat} (h : Row 4 1 v bl.length (bl.map Value.bool) Lr) (hi : i < bl.length) : ∃ g cap cur, v = .slice (some ⟨g, 0, none⟩) bl.length cap ∧ Lr = [(g, 4, cur)] ∧ cur[i]? = some (.bool (bl.getD i false)) ∧ Row 4 1 v bl.length ((bl.set i true).map Value.bool) [(g, 4, cur.setIfInBounds i (.bool true))] := by
 obtain ⟨h0, h⟩ := h
 rcases h with ⟨h1, h2, h3⟩ | ⟨g, cap, cur, h1, h2, h3, h4, h5, h6⟩
 ·omega
 ·rw [Nat.mul_one] at h6
  refine ⟨g, cap, cur, h1, h2, ?_, by simp, .inr ⟨g, cap, _, h1, rfl, h3, h4, by simpa using h5, ?_⟩⟩
  ·have : (cur.toList.take bl.length)[i]? = some (.bool (bl.getD i false)) := by rw [h6, List.getElem?_map]; simp [hi]
   rw [List.getElem?_take, if_pos hi] at this
   simpa using this
  ·rw [Nat.mul_one, List.map_set, ← h6, Array.toList_setIfInBounds, List.take_set]
theorem perm_two (b : Nat × TypeId × Array Value) (p : Nat × TypeId × Array Value) (A B : BL) : (p :: b :: (A ++ B)).Perm (p :: (A ++ (b :: B))) := List.Perm.cons _ (List.perm_middle).symm
theorem perm_two' (b : Nat × TypeId × Array Value) (A B : BL) : (A ++ (b :: B)).Perm (b :: (A ++ B)) := List.perm_middle
theorem numT_lt {m : Nat} {s : ByteArray} {x : Nat} (h : numT m s = some x) : x < m := by
 unfold numT at h
 split at h
 ·exact (firstT_some h).2.2
 ·cases h
theorem run_lenu {ρ : Operand → Value} {x : Operand} {w : World} {dst : Option Tmp} {ty : TypeId} {pos : String} {aft : Array Edge} {gd : Option (Nat × Bool)} {v : Value} {n : Nat} (hv : ∃ p c, v = .slice p n c) (hx : ρ x = v) : (execOp ρ ⟨dst, .call { callee := .builtin .len, args := #[x], argTypes := #[33] }, ty, pos, aft, gd⟩).run Tryz.prog w = .ok (.value (iN .i64 n)) w := by
 obtain ⟨p, c, rfl⟩ := hv
 simp only [execOp, resolve, invoke, builtin, Sem.run_bind, Sem.run_pure, Result.andThen_ok, List.map_toArray, List.map_cons, List.map_nil, hx]
 simp [go_sem, iN]
theorem rw_end {w w' : World} {v : Value} {m : Nat} {s : ByteArray} {Lo Lb : BL} {RLx : Nat × TypeId × Array Value} (hR : Row 3 1 v (wfL m s m).length ((wfL m s m).map (iN .i64 ·)) Lo) (H : HA (bs w) (RLx :: (Lo ++ Lb)) w') : ∃ o' c', Ending.returned v = .returned (.slice o' (wth m s).length c') ∧ RI w.heap.size w' o' (wth m s) ∧ Below w.heap.size w w' := by
 rw [wfL_wth] at hR
 obtain ⟨o, c, rfl, h⟩ := Row.ril (RL := Lo) hR (fun x hx => hx)
 refine ⟨o, c, rfl, ?_, H.old.old⟩
 rcases h with h | ⟨q, cc, h1, h2, h3⟩
 ·exact .inl h
 ·exact .inr ⟨q, cc, h1, H.own (q, 3, cc) (by simp [h2]), H.blk (q, 3, cc) (by simp [h2]), h3⟩
theorem rwithin_any {w : World} {v : Value} {l : List Q4} {RL : BL} (h : RTL v l RL) (hS : Stand w RL) (hll : l.length ≤ 60000) (s : ByteArray) (hs : s.size ≤ 1000000) :
  Calls Tryz.prog 23 #[.agg #[v], .string s] w fun e w' => ∃ o' c', e = .returned (.slice o' (wth l.length s).length c') ∧ RI w.heap.size w' o' (wth l.length s) ∧ Below w.heap.size w w' := by
 have H0 := HA.start w
 obtain ⟨ov, cv, rfl⟩ := h.form
 go_enter Tryz.func23, Tryz.ntmps23
 refine zsr ?_
 refine wl_make (c := #[.slice ov l.length cv]) H0 27 ?_
 intro q1 w2 (h3 : HA (bs w) [(q1, 27, #[.slice ov l.length cv])] w2)
 refine zwv (.slice none 0 0) ?_
 refine znt ?_
 refine zsr ?_
 refine zwv (.slice none 0 0) ?_
 refine znt ?_
 refine wp_seq ?_
 refine zsr ?_
 refine zwv (iN .i64 0) ?_
 refine znt ?_
 refine wp_block ?_
 refine wp_count (fun i A w' => ∃ u4 : Nat → Value, A = ⟨(.agg #[.slice ov l.length cv] :: .string s :: pt q1 :: un :: .slice none 0 0 :: u4 5 :: iN .i64 i :: un :: un :: un :: un :: u4 11 :: u4 12 :: u4 13 :: u4 14 :: u4 15 :: u4 16 :: u4 17 :: u4 18 :: u4 19 :: u4 20 :: List.replicate 34 un).toArray, []⟩ ∧ ∃ Lb, Row 4 1 (u4 5) i (List.replicate i (.bool false)) Lb ∧ HA (bs w) ((q1, 27, #[.slice ov l.length cv]) :: Lb) w') l.length ?_ ?_ ?_
 ·exact ⟨lku (fun _ => undef) [(5, .slice none 0 0)], by kernel_rfl, ⟨[], by exact Row.nil 4 1, h3⟩⟩
 ·rintro i hk _ w5 ⟨u4, rfl, ⟨Lb, hR, hA⟩⟩
  refine wp_seq ?_
  refine zsr ?_
  refine zwv (iN .i64 i) ?_
  refine zwv (.pointer (some ⟨q1, 0, none⟩)) ?_
  refine zwu (v := .slice ov l.length cv) (run_load1 Tryz.isAgg25 (((hA.get 0 rfl).cell 0).trans rfl)) ?_
  refine zwv (iN .i64 l.length) ?_
  refine zwu (run_lss (k := .i64) (a := i) (b := l.length) true (decide_eq_true (by omega))) ?_
  refine znt ?_
  refine zct ?_
  refine wp_skip ?_
  refine then_at rfl ?_
  refine wp_seq ?_
  refine wp_block ?_
  refine wl_region ?_
  refine zwv (u4 5) ?_
  refine wl_mks (n := 1) (m := 1) (c := #[.bool false]) hA 4 ?_
  intro q6 w7 (h8 : HA (bs w) ((q6, 4, #[.bool false]) :: (q1, 27, #[.slice ov l.length cv]) :: Lb) w7)
  have h9 : HA (bs w) ((q6, 4, #[.bool false]) :: (Lb ++ [(q1, 27, #[.slice ov l.length cv])])) w7 := HA.perm h8 (List.Perm.cons _ (List.perm_append_comm (l₁ := ([(q1, 27, #[.slice ov l.length cv])] : BL)) (l₂ := Lb)))
  refine wl_append (m := 1) (c := 1) (Lr := Lb) hR h9 _ 1 Tryz.underlying33 info4z rfl rfl (by unfold maxLen; omega) (by omega) ?_
  intro v2 w10 Lb2 hR2 h11
  have h12 : HA (bs w) ((q1, 27, #[.slice ov l.length cv]) :: Lb2) w10 := HA.perm h11 (List.perm_append_comm (l₁ := Lb2) (l₂ := ([(q1, 27, #[.slice ov l.length cv])] : BL)))
  have hR3 : Row 4 1 v2 (i + 1) (List.replicate (i + 1) (.bool false)) Lb2 := by rw [List.replicate_succ']; exact hR2
  refine zwv (v2) ?_
  refine wl_nil ?_
  refine block_normal ?_
  refine then_at rfl ?_
  refine wl_region ?_
  refine zwv (iN .i64 i) ?_
  refine zwu (run_add (k := .i64) (a := i) (b := 1) (by first | omega | (simp only [top]; omega))) ?_
  refine zwv (iN .i64 (i + 1)) ?_
  refine wl_nil ?_
  exact then_I ⟨lku (fun _ => undef) [(5, v2), (11, iN .i64 i), (12, .pointer (some ⟨q1, 0, none⟩)), (13, .slice ov l.length cv), (14, iN .i64 l.length), (15, .bool true), (16, iN .i64 i), (17, iN .i64 (i + 1)), (18, u4 5), (19, .slice (some ⟨q6, 0, none⟩) 1 1), (20, v2)], by kernel_rfl, ⟨Lb2, by exact hR3, h12⟩⟩
 ·rintro _ w13 ⟨u4, rfl, ⟨Lb, hR, hA⟩⟩
  refine wp_seq ?_
  refine zsr ?_
  refine zwv (iN .i64 l.length) ?_
  refine zwv (.pointer (some ⟨q1, 0, none⟩)) ?_
  refine zwu (v := .slice ov l.length cv) (run_load1 Tryz.isAgg25 (((hA.get 0 rfl).cell 0).trans rfl)) ?_
  refine zwv (iN .i64 l.length) ?_
  refine zwu (run_lss (k := .i64) (a := l.length) (b := l.length) false (decide_eq_false (by omega))) ?_
  refine znt ?_
  refine zcf ?_
  refine wp_exit ?_
  repeat first | refine then_exit ?_ | refine block_exit ?_ | refine block_exit_ne (by decide) ?_
  refine then_at rfl ?_
  refine wp_seq ?_
  refine zsr ?_
  refine zwv (iN .i64 0) ?_
  refine znt ?_
  refine wp_block ?_
  refine wp_count (fun i A w' => ∃ u14 : Nat → Value, A = ⟨(.agg #[.slice ov l.length cv] :: .string s :: pt q1 :: un :: .slice none 0 0 :: u4 5 :: iN .i64 l.length :: iN .i64 i :: u14 8 :: un :: un :: iN .i64 l.length :: pt q1 :: .slice ov l.length cv :: iN .i64 l.length :: .bool false :: u4 16 :: u4 17 :: u4 18 :: u4 19 :: u4 20 :: u14 21 :: u14 22 :: u14 23 :: u14 24 :: u14 25 :: u14 26 :: u14 27 :: u14 28 :: u14 29 :: u14 30 :: u14 31 :: u14 32 :: u14 33 :: u14 34 :: u14 35 :: u14 36 :: u14 37 :: u14 38 :: u14 39 :: List.replicate 15 un).toArray, []⟩ ∧ ∃ Lb, Row 4 1 (u4 5) (thL l.length s i).length ((thL l.length s i).map Value.bool) Lb ∧ HA (bs w) ((q1, 27, #[.slice ov l.length cv]) :: Lb) w') (s.size - 7) ?_ ?_ ?_
  ·exact zex (⟨Lb, by rw [thL_len, thL, List.map_replicate]; exact hR, hA⟩)
  ·rintro i hk _ w15 ⟨u14, rfl, ⟨Lb, hR, hA⟩⟩
   refine wp_seq ?_
   refine zsr ?_
   refine zwv (iN .i64 i) ?_
   refine zwu (run_add (k := .i64) (a := i) (b := 8) (by first | omega | (simp only [top]; omega))) ?_
   refine zwv (.string s) ?_
   refine zwu (run_len (s := s)) ?_
   refine zwu (run_leq (k := .i64) (a := i + 8) (b := s.size) true (decide_eq_true (by omega))) ?_
   refine znt ?_
   refine zct ?_
   refine wp_skip ?_
   refine then_at rfl ?_
   refine wp_seq ?_
   refine wp_block ?_
   refine wp_seq ?_
   rcases hn : numT l.length (s.extract i (i + 8)) with _ | x
   ·refine zrs ⟨(.agg #[.slice ov l.length cv] :: .string s :: pt q1 :: un :: .slice none 0 0 :: u4 5 :: iN .i64 l.length :: iN .i64 i :: .int .i64 (-1) :: un :: un :: iN .i64 l.length :: pt q1 :: .slice ov l.length cv :: iN .i64 l.length :: .bool false :: u4 16 :: u4 17 :: u4 18 :: u4 19 :: u4 20 :: iN .i64 i :: iN .i64 (i + 8) :: .string s :: iN .i64 s.size :: .bool true :: u14 26 :: u14 27 :: .agg (#[.slice ov l.length cv]) :: .string s :: iN .i64 i :: iN .i64 i :: iN .i64 (i + 8) :: .string (s.extract i (i + 8)) :: .int .i64 (-1) :: u14 35 :: u14 36 :: u14 37 :: u14 38 :: u14 39 :: List.replicate 15 un).toArray, []⟩ (HA (bs w) ((q1, 27, #[.slice ov l.length cv]) :: Lb)) hA.drew ?_ ?_
    ·refine zst (v := .agg (#[.slice ov l.length cv])) (fun _ h => run_load_blk (h.get 0 rfl) Tryz.underlying27 rfl) ?_
     refine zsp (.string s) ?_
     refine zsp (iN .i64 i) ?_
     refine zsp (iN .i64 i) ?_
     refine zst (fun _ _ => (run_add (k := .i64) (a := i) (b := 8) (by first | omega | (simp only [top]; omega)))) ?_
     refine zst (v := .string (s.extract i (i + 8))) (fun _ _ => (run_cut2 (s := s) (a := i) (b := i + 8) (by omega) (by omega))) ?_
     refine AllSure.cons (sure_call (v := .int .i64 (-1)) (by kernel_rfl) (by kernel_rfl) enter45 HA.keep #[.agg (#[.slice ov l.length cv]), .string (s.extract i (i + 8))] (by kernel_rfl) (fun w' h' => by have := rnum_any (h.rt (hS.keep h'.old.old)) (by omega) (s.extract i (i + 8)); rw [numI, hn] at this; exact this)) ?_
     refine zsp (.int .i64 (-1)) ?_
     exact AllSure.nil
    intro w16 h17
    refine then_at rfl ?_
    refine zsr ?_
    refine zwv (.int .i64 (-1)) ?_
    refine zwv (.bool false) ?_
    refine znt ?_
    refine zcf ?_
    refine wp_skip ?_
    refine block_normal ?_
    refine then_at rfl ?_
    refine wl_region ?_
    refine zwv (iN .i64 i) ?_
    refine zwu (run_add (k := .i64) (a := i) (b := 1) (by first | omega | (simp only [top]; omega))) ?_
    refine zwv (iN .i64 (i + 1)) ?_
    refine wl_nil ?_
    exact then_I (zex (⟨Lb, by rw [thL_len, thL, hn]; rw [thL_len] at hR; exact hR, h17⟩))
   ·refine zrs ⟨(.agg #[.slice ov l.length cv] :: .string s :: pt q1 :: un :: .slice none 0 0 :: u4 5 :: iN .i64 l.length :: iN .i64 i :: iN .i64 x :: un :: un :: iN .i64 l.length :: pt q1 :: .slice ov l.length cv :: iN .i64 l.length :: .bool false :: u4 16 :: u4 17 :: u4 18 :: u4 19 :: u4 20 :: iN .i64 i :: iN .i64 (i + 8) :: .string s :: iN .i64 s.size :: .bool true :: u14 26 :: u14 27 :: .agg (#[.slice ov l.length cv]) :: .string s :: iN .i64 i :: iN .i64 i :: iN .i64 (i + 8) :: .string (s.extract i (i + 8)) :: iN .i64 x :: u14 35 :: u14 36 :: u14 37 :: u14 38 :: u14 39 :: List.replicate 15 un).toArray, []⟩ (HA (bs w) ((q1, 27, #[.slice ov l.length cv]) :: Lb)) hA.drew ?_ ?_
    ·refine zst (v := .agg (#[.slice ov l.length cv])) (fun _ h => run_load_blk (h.get 0 rfl) Tryz.underlying27 rfl) ?_
     refine zsp (.string s) ?_
     refine zsp (iN .i64 i) ?_
     refine zsp (iN .i64 i) ?_
     refine zst (fun _ _ => (run_add (k := .i64) (a := i) (b := 8) (by first | omega | (simp only [top]; omega)))) ?_
     refine zst (v := .string (s.extract i (i + 8))) (fun _ _ => (run_cut2 (s := s) (a := i) (b := i + 8) (by omega) (by omega))) ?_
     refine AllSure.cons (sure_call (v := iN .i64 x) (by kernel_rfl) (by kernel_rfl) enter45 HA.keep #[.agg (#[.slice ov l.length cv]), .string (s.extract i (i + 8))] (by kernel_rfl) (fun w' h' => by have := rnum_any (h.rt (hS.keep h'.old.old)) (by omega) (s.extract i (i + 8)); rw [numI, hn] at this; exact this)) ?_
     refine zsp (iN .i64 x) ?_
     exact AllSure.nil
    intro w18 h19
    refine then_at rfl ?_
    refine zsr ?_
    refine zwv (iN .i64 x) ?_
    refine zwu (run_geq (k := .i64) (a := x) (b := 0) true (decide_eq_true (by omega))) ?_
    refine znt ?_
    refine zct ?_
    have hxl : x < l.length := numT_lt hn
    have hlen := thL_len l.length s i
    obtain ⟨gb, cb, cur, eb, rfl, hc0, hRn⟩ := Row.bools hR (i := x) (by omega)
    have hR4 : Row 4 1 (u4 5) (thL l.length s (i + 1)).length ((thL l.length s (i + 1)).map Value.bool) [(gb, 4, cur.setIfInBounds x (.bool true))] := by rw [thL_len, thL, hn]; rw [thL_len] at hRn; exact hRn
    refine wl_region ?_
    refine zwv (u4 5) ?_
    refine zwv (iN .i64 x) ?_
    refine zwu (v := .pointer (some ⟨gb, x, none⟩)) (run_addr_slice (q := gb) (n := (thL l.length s i).length) (m := cb) (a := x) Tryz.underlying33 Tryz.sizeOf4 (hx := (by rw [← eb]; kernel_rfl)) (by omega)) ?_
    refine wl_putv (v := .bool true) h19 1 rfl x (Array.getElem?_eq_some_iff.1 hc0).1 Tryz.sizeOf4 ?_
    intro w20 (h21 : HA (bs w) [(q1, 27, #[.slice ov l.length cv]), (gb, 4, cur.setIfInBounds x (.bool true))] w20)
    refine wl_nil ?_
    refine block_normal ?_
    refine then_at rfl ?_
    refine wl_region ?_
    refine zwv (iN .i64 i) ?_
    refine zwu (run_add (k := .i64) (a := i) (b := 1) (by first | omega | (simp only [top]; omega))) ?_
    refine zwv (iN .i64 (i + 1)) ?_
    refine wl_nil ?_
    exact then_I (zex (⟨[(gb, 4, cur.setIfInBounds x (.bool true))], hR4, h21⟩))
  ·rintro _ w22 ⟨u14, rfl, ⟨Lb, hR, hA⟩⟩
   have hbn := hR.form
   have hRb := hR
   refine wp_seq ?_
   refine zsr ?_
   refine zwv (iN .i64 (s.size - 7)) ?_
   refine zwu (run_add (k := .i64) (a := s.size - 7) (b := 8) (by first | omega | (simp only [top]; omega))) ?_
   refine zwv (.string s) ?_
   refine zwu (run_len (s := s)) ?_
   refine zwu (run_leq (k := .i64) (a := (s.size - 7) + 8) (b := s.size) false (decide_eq_false (by omega))) ?_
   refine znt ?_
   refine zcf ?_
   refine wp_exit ?_
   repeat first | refine then_exit ?_ | refine block_exit ?_ | refine block_exit_ne (by decide) ?_
   refine then_at rfl ?_
   refine zsr ?_
   refine zwv (.slice none 0 0) ?_
   refine znt ?_
   refine wp_seq ?_
   refine zsr ?_
   refine zwv (iN .i64 0) ?_
   refine znt ?_
   refine wp_block ?_
   refine wp_count (fun i A w' => ∃ u23 : Nat → Value, A = ⟨(.agg #[.slice ov l.length cv] :: .string s :: pt q1 :: un :: .slice none 0 0 :: u4 5 :: iN .i64 l.length :: iN .i64 (s.size - 7) :: u14 8 :: u23 9 :: iN .i64 i :: iN .i64 l.length :: pt q1 :: .slice ov l.length cv :: iN .i64 l.length :: .bool false :: u4 16 :: u4 17 :: u4 18 :: u4 19 :: u4 20 :: iN .i64 (s.size - 7) :: iN .i64 ((s.size - 7) + 8) :: .string s :: iN .i64 s.size :: .bool false :: u14 26 :: u14 27 :: u14 28 :: u14 29 :: u14 30 :: u14 31 :: u14 32 :: u14 33 :: u14 34 :: u14 35 :: u14 36 :: u14 37 :: u14 38 :: u14 39 :: u23 40 :: u23 41 :: u23 42 :: u23 43 :: u23 44 :: u23 45 :: u23 46 :: u23 47 :: u23 48 :: u23 49 :: u23 50 :: u23 51 :: u23 52 :: u23 53 :: List.replicate 1 un).toArray, []⟩ ∧ ∃ Lo, Row 3 1 (u23 9) (wfL l.length s i).length ((wfL l.length s i).map (iN .i64 ·)) Lo ∧ HA (bs w) ((q1, 27, #[.slice ov l.length cv]) :: (Lo ++ Lb)) w') l.length ?_ ?_ ?_
   ·exact ⟨lku (fun _ => undef) [(9, .slice none 0 0)], by kernel_rfl, ⟨[], by exact Row.nil 3 1, hA⟩⟩
   ·rintro i hk _ w24 ⟨u23, rfl, ⟨Lo, hRo, hA⟩⟩
    have hwl := wfL_len l.length s i
    refine wp_seq ?_
    refine zsr ?_
    refine zwv (iN .i64 i) ?_
    refine zwv (u4 5) ?_
    refine zwu (v := iN .i64 l.length) (by rw [← thL_len l.length s (s.size - 7)]; exact run_lenu hbn (by kernel_rfl)) ?_
    refine zwu (run_lss (k := .i64) (a := i) (b := l.length) true (decide_eq_true (by omega))) ?_
    refine znt ?_
    refine zct ?_
    refine wp_skip ?_
    refine then_at rfl ?_
    refine wp_seq ?_
    refine wp_block ?_
    refine wp_seq ?_
    rcases hb1 : (thL l.length s (s.size - 7)).getD i false with _ | _
    ·have hlen := thL_len l.length s (s.size - 7)
     obtain ⟨gb, cb, cur, eb, rfl, hc0, _⟩ := Row.bools hRb (i := i) (by omega)
     have hRo0 : Row 3 1 (u23 9) (wfL l.length s (i + 1)).length ((wfL l.length s (i + 1)).map (iN .i64 ·)) Lo := by rw [wfL_succ, if_neg (by rw [hb1]; decide), List.append_nil]; exact hRo
     refine wl_region ?_
     refine zwv (u4 5) ?_
     refine zwv (iN .i64 i) ?_
     refine zwu (v := .pointer (some ⟨gb, i, none⟩)) (run_addr_slice (q := gb) (n := (thL l.length s (s.size - 7)).length) (m := cb) (a := i) Tryz.underlying33 Tryz.sizeOf4 (hx := (by rw [← eb]; kernel_rfl)) (by omega)) ?_
     refine zwu (v := .bool false) (run_load1 Tryz.isAgg4 (((hA.blk (gb, 4, cur) (by simp)).cell i).trans (hc0.trans (by rw [hb1])))) ?_
     refine znt ?_
     refine zcf ?_
     refine wp_skip ?_
     refine block_normal ?_
     refine then_at rfl ?_
     refine wl_region ?_
     refine zwv (iN .i64 i) ?_
     refine zwu (run_add (k := .i64) (a := i) (b := 1) (by first | omega | (simp only [top]; omega))) ?_
     refine zwv (iN .i64 (i + 1)) ?_
     refine wl_nil ?_
     exact then_I ⟨lku u23 [(40, iN .i64 i), (41, u4 5), (42, iN .i64 l.length), (43, .bool true), (44, iN .i64 i), (45, iN .i64 (i + 1)), (46, u4 5), (47, iN .i64 i), (48, .pointer (some ⟨gb, i, none⟩)), (49, .bool false)], by kernel_rfl, ⟨Lo, by exact hRo0, hA⟩⟩
    ·have hlen := thL_len l.length s (s.size - 7)
     obtain ⟨gb, cb, cur, eb, rfl, hc0, _⟩ := Row.bools hRb (i := i) (by omega)
     refine wl_region ?_
     refine zwv (u4 5) ?_
     refine zwv (iN .i64 i) ?_
     refine zwu (v := .pointer (some ⟨gb, i, none⟩)) (run_addr_slice (q := gb) (n := (thL l.length s (s.size - 7)).length) (m := cb) (a := i) Tryz.underlying33 Tryz.sizeOf4 (hx := (by rw [← eb]; kernel_rfl)) (by omega)) ?_
     refine zwu (v := .bool true) (run_load1 Tryz.isAgg4 (((hA.blk (gb, 4, cur) (by simp)).cell i).trans (hc0.trans (by rw [hb1])))) ?_
     refine znt ?_
     refine zct ?_
     refine wl_region ?_
     refine zwv (u23 9) ?_
     refine zwv (iN .i64 i) ?_
     refine wl_mks (n := 1) (m := 1) (c := #[iN .i64 i]) hA 3 ?_
     intro q25 w26 (h27 : HA (bs w) ((q25, 3, #[iN .i64 i]) :: (q1, 27, #[.slice ov l.length cv]) :: (Lo ++ [(gb, 4, cur)])) w26)
     have h28 : HA (bs w) ((q25, 3, #[iN .i64 i]) :: (Lo ++ ((q1, 27, #[.slice ov l.length cv]) :: [(gb, 4, cur)]))) w26 := HA.perm h27 (perm_two (q1, 27, #[.slice ov l.length cv]) (q25, 3, #[iN .i64 i]) Lo [(gb, 4, cur)])
     refine wl_append (m := 1) (c := 1) (Lr := Lo) hRo h28 _ 8 Tryz.underlying63 info3 rfl rfl (by unfold maxLen; omega) (by omega) ?_
     intro v2 w29 Lo2 hR2 h30
     have h31 : HA (bs w) ((q1, 27, #[.slice ov l.length cv]) :: (Lo2 ++ [(gb, 4, cur)])) w29 := HA.perm h30 (perm_two' (q1, 27, #[.slice ov l.length cv]) Lo2 [(gb, 4, cur)])
     have hRo3 : Row 3 1 v2 (wfL l.length s (i + 1)).length ((wfL l.length s (i + 1)).map (iN .i64 ·)) Lo2 := by rw [wfL_succ, if_pos hb1, List.map_append, List.length_append]; exact hR2
     refine zwv (v2) ?_
     refine wl_nil ?_
     refine block_normal ?_
     refine then_at rfl ?_
     refine wl_region ?_
     refine zwv (iN .i64 i) ?_
     refine zwu (run_add (k := .i64) (a := i) (b := 1) (by first | omega | (simp only [top]; omega))) ?_
     refine zwv (iN .i64 (i + 1)) ?_
     refine wl_nil ?_
     exact then_I ⟨lku (fun _ => undef) [(9, v2), (40, iN .i64 i), (41, u4 5), (42, iN .i64 l.length), (43, .bool true), (44, iN .i64 i), (45, iN .i64 (i + 1)), (46, u4 5), (47, iN .i64 i), (48, .pointer (some ⟨gb, i, none⟩)), (49, .bool true), (50, u23 9), (51, iN .i64 i), (52, .slice (some ⟨q25, 0, none⟩) 1 1), (53, v2)], by kernel_rfl, ⟨Lo2, by exact hRo3, h31⟩⟩
   ·rintro _ w32 ⟨u23, rfl, ⟨Lo, hRo, hA⟩⟩
    have hwl := wfL_len l.length s l.length
    refine wp_seq ?_
    refine zsr ?_
    refine zwv (iN .i64 l.length) ?_
    refine zwv (u4 5) ?_
    refine zwu (v := iN .i64 l.length) (by rw [← thL_len l.length s (s.size - 7)]; exact run_lenu hbn (by kernel_rfl)) ?_
    refine zwu (run_lss (k := .i64) (a := l.length) (b := l.length) false (decide_eq_false (by omega))) ?_
    refine znt ?_
    refine zcf ?_
    refine wp_exit ?_
    repeat first | refine then_exit ?_ | refine block_exit ?_ | refine block_exit_ne (by decide) ?_
    refine then_at rfl ?_
    refine zsr ?_
    refine zwv (u23 9) ?_
    refine zwv (u23 9) ?_
    refine znt ?_
    refine wp_ret ?_
    repeat first | refine then_ret ?_ | refine block_ret ?_
    exact bodyPost_ret (v := u23 9) (by kernel_rfl) rfl (rw_end (RLx := (q1, 27, #[.slice ov l.length cv])) hRo hA)
end Go.Proofs.YtihfeoanognonaaGreat
