/-
  Check, small, order, works.
-/
import Derived.Test.YtdblnbcclfenkaaDoorEqs
namespace Go.Proofs.YtdblnbcclfenkaaDoor
open Go.RowKit Num

/-- a byte as a text -/
def byteS (n : Nat) : ByteArray := ⟨#[UInt8.ofNat n]⟩
theorem small_text (n : Nat) (hn : n < 256) : byteS n ++ zs 31 = bytesOf n := by
  have h : digs 256 32 n = n :: List.replicate 31 0 := by
    have : n = num 256 (n :: List.replicate 31 0) := by rw [num_cons, num_zeros]; rfl
    conv => lhs; rw [this]
    refine digs_num 256 _ (fun x hx => ?_) 32 (by rw [List.length_cons, List.length_replicate])
    rcases List.mem_cons.1 hx with rfl | hx
    · exact hn
    · rw [List.eq_of_mem_replicate hx]; decide
  unfold bytesOf les
  rw [h]
  rfl
theorem small_len (n : Nat) : (byteS n).size + (zs 31).size ≤ 9223372036854775807 := by
  have h1 : (byteS n).size = 1 := rfl
  have h2 : (zs 31).size = 31 := by decide +kernel
  omega
/-- the order's bytes -/
def ordS : ByteArray := ({ data := #[237, 211, 245, 92, 26, 99, 18, 88, 214, 156, 247, 162, 222, 249, 222, 20] } ++ zs 15) ++ { data := #[16] }
theorem ordS_eq : ordS = bytesOf Lq := by decide +kernel

set_option linter.unusedVariables false in
set_option maxRecDepth 100000 in
set_option maxHeartbeats 2000000 in
theorem small_any (n : Nat) (hn : n < 256) (w : World) :
    Calls Tryd.prog 21 #[iN .u8 n] w fun e w' => e = .returned (.string (bytesOf n)) ∧ Below w.heap.size w w' := by
  have H0 := HA.start w
  go_enter Tryd.func21, Tryd.ntmps21
  refine wp_seq ?_
  -- region 0
  refine wl_region ?_
  refine wl_val (.string { data := #[] }) (by kernel_rfl) (by kernel_rfl) ?_
  refine wl_nil ?_
  refine then_at (F := ⟨(iN .u8 n :: un :: .string { data := #[] } :: List.replicate 6 un).toArray, []⟩) (by kernel_rfl) ?_
  refine wp_seq ?_
  -- region 1
  refine wp_region_ghost (fun g : Nat → Nat => (⟨(iN .u8 n :: un :: .string ((byteS n ++ zs 31)) :: iN .u8 n :: .slice (some ⟨g 1, 0, none⟩) 1 1 :: .string (byteS n) :: .slice (some ⟨g 3, 0, none⟩) 31 31 :: .string (zs 31) :: .string ((byteS n ++ zs 31)) :: List.replicate 0 un).toArray, []⟩ : Act)) (GM w [] [(1, 5, #[iN .u8 n]), (3, 5, zr 31)]) [iN .u8 n, .slice (some ⟨0, 0, none⟩) 1 1, .string (byteS n), .slice (some ⟨0, 0, none⟩) 31 31, .string (zs 31), .string ((byteS n ++ zs 31)), .string ((byteS n ++ zs 31))] (by kernel_rfl) (by kernel_rfl) (by kernel_rfl) (by kernel_rfl) (fun _ _ _ _ h => h) (fun d hd => GM.start H0.drew 7 (by kernel_rfl) hd) ?_ ?_
  · refine AllGhost.cons (gm_plain (v := fun _ => iN .u8 n) (by kernel_rfl) (fun _ => by kernel_rfl) (fun _ => by kernel_rfl) (fun _ _ => (by kernel_rfl))) ?_
    refine AllGhost.cons (gm_make (fun m => .slice (some ⟨m, 0, none⟩) 1 1) (by kernel_rfl) (by simp) (fun _ => by kernel_rfl) (fun _ _ => by kernel_rfl) (fun _ _ => (run_byte1 (n := n) (by kernel_rfl)))) ?_
    refine AllGhost.cons (gm_reads (v := .string (byteS n)) 0 rfl (by kernel_rfl) (fun _ => by kernel_rfl) (fun _ => by kernel_rfl) (by kernel_rfl) (fun g w' hb => run_text [UInt8.ofNat n] (by kernel_rfl) hb (by rw [cs, List.map_cons, List.map_nil, UInt8.toNat_ofNat', Nat.mod_eq_of_lt hn]; rfl) rfl)) ?_
    refine AllGhost.cons (gm_make (fun m => .slice (some ⟨m, 0, none⟩) 31 31) (by kernel_rfl) (by simp) (fun _ => by kernel_rfl) (fun _ _ => by kernel_rfl) (fun _ _ => (run_mk 31 (by decide) (by kernel_rfl) (by kernel_rfl)))) ?_
    refine AllGhost.cons (gm_reads (v := .string (zs 31)) 1 rfl (by kernel_rfl) (fun _ => by kernel_rfl) (fun _ => by kernel_rfl) (by kernel_rfl) (fun g w' hb => run_noughts 31 (by kernel_rfl) hb)) ?_
    refine AllGhost.cons (gm_plain (v := fun _ => .string ((byteS n ++ zs 31))) (by kernel_rfl) (fun _ => by kernel_rfl) (fun _ => by kernel_rfl) (fun _ _ => (run_cat (s := byteS n) (t := zs 31) (by kernel_rfl) (by kernel_rfl) (small_len n)))) ?_
    refine AllGhost.cons (gm_plain (v := fun _ => .string ((byteS n ++ zs 31))) (by kernel_rfl) (fun _ => by kernel_rfl) (fun _ => by kernel_rfl) (fun _ _ => (by kernel_rfl))) ?_
    exact AllGhost.nil
  intro g w1 g2
  have h3 := g2.held
  clear g2
  generalize g 1 = u4
  generalize g 3 = u5
  clear g
  refine then_at (F := ⟨(iN .u8 n :: un :: .string ((byteS n ++ zs 31)) :: iN .u8 n :: .slice (some ⟨u4, 0, none⟩) 1 1 :: .string (byteS n) :: .slice (some ⟨u5, 0, none⟩) 31 31 :: .string (zs 31) :: .string ((byteS n ++ zs 31)) :: List.replicate 0 un).toArray, []⟩) (by kernel_rfl) ?_
  refine wp_ret ?_
  repeat first | refine then_ret ?_ | refine block_ret ?_
  exact bodyPost_ret (v := .string (byteS n ++ zs 31)) (by kernel_rfl) rfl ⟨by rw [small_text n hn], h3.old⟩

set_option linter.unusedVariables false in
set_option maxRecDepth 100000 in
set_option maxHeartbeats 4000000 in
theorem order_any (w : World) :
    Calls Tryd.prog 22 #[] w fun e w' => e = .returned (.string ordS) ∧ Below w.heap.size w w' := by
  have H0 := HA.start w
  go_enter Tryd.func22, Tryd.ntmps22
  refine wp_seq ?_
  -- region 0
  refine wl_region ?_
  refine wl_val (.string { data := #[] }) (by kernel_rfl) (by kernel_rfl) ?_
  refine wl_nil ?_
  refine then_at (F := ⟨(.string { data := #[] } :: List.replicate 4 un).toArray, []⟩) (by kernel_rfl) ?_
  refine wp_seq ?_
  -- region 1
  refine wl_region ?_
  refine wl_mkslice (n := 15) H0 5 (by kernel_rfl) (run_mk 15 (by decide) (by kernel_rfl) (by kernel_rfl)) ?_
  intro q1 w2 h3
  refine wl_val (.string (zs 15)) (by kernel_rfl) (run_noughts 15 (by kernel_rfl) (h3.get 0 rfl)) ?_
  refine wl_val (.string (({ data := #[237, 211, 245, 92, 26, 99, 18, 88, 214, 156, 247, 162, 222, 249, 222, 20] } ++ zs 15))) (by kernel_rfl) (run_cat (s := { data := #[237, 211, 245, 92, 26, 99, 18, 88, 214, 156, 247, 162, 222, 249, 222, 20] }) (t := zs 15) (by kernel_rfl) (by kernel_rfl) (by decide +kernel)) ?_
  refine wl_val (.string ((({ data := #[237, 211, 245, 92, 26, 99, 18, 88, 214, 156, 247, 162, 222, 249, 222, 20] } ++ zs 15) ++ { data := #[16] }))) (by kernel_rfl) (run_cat (s := ({ data := #[237, 211, 245, 92, 26, 99, 18, 88, 214, 156, 247, 162, 222, 249, 222, 20] } ++ zs 15)) (t := { data := #[16] }) (by kernel_rfl) (by kernel_rfl) (by decide +kernel)) ?_
  refine wl_val (.string ((({ data := #[237, 211, 245, 92, 26, 99, 18, 88, 214, 156, 247, 162, 222, 249, 222, 20] } ++ zs 15) ++ { data := #[16] }))) (by kernel_rfl) (by kernel_rfl) ?_
  refine wl_nil ?_
  refine then_at (F := ⟨(.string ((({ data := #[237, 211, 245, 92, 26, 99, 18, 88, 214, 156, 247, 162, 222, 249, 222, 20] } ++ zs 15) ++ { data := #[16] })) :: .slice (some ⟨q1, 0, none⟩) 15 15 :: .string (zs 15) :: .string (({ data := #[237, 211, 245, 92, 26, 99, 18, 88, 214, 156, 247, 162, 222, 249, 222, 20] } ++ zs 15)) :: .string ((({ data := #[237, 211, 245, 92, 26, 99, 18, 88, 214, 156, 247, 162, 222, 249, 222, 20] } ++ zs 15) ++ { data := #[16] })) :: List.replicate 0 un).toArray, []⟩) (by kernel_rfl) ?_
  refine wp_ret ?_
  repeat first | refine then_ret ?_ | refine block_ret ?_
  exact bodyPost_ret (v := .string ordS) (by kernel_rfl) rfl ⟨rfl, h3.old⟩

set_option linter.unusedVariables false in
set_option maxRecDepth 100000 in
set_option maxHeartbeats 4000000 in
theorem works_any (w : World) (VV : Vars w) :
    Calls Tryd.prog 16 #[] w fun e w' => e = .returned (.bool true) ∧ Below w.heap.size w w' := by
  have H0 := HA.start w
  go_enter Tryd.func16, Tryd.ntmps16
  refine wp_seq ?_
  -- region 0
  refine wl_region ?_
  refine wl_val (.bool false) (by kernel_rfl) (by kernel_rfl) ?_
  refine wl_nil ?_
  refine then_at (F := ⟨(.bool false :: List.replicate 15 un).toArray, []⟩) (by kernel_rfl) ?_
  refine wp_seq ?_
  -- region 1
  refine wp_region_ghost (fun g : Nat → Nat => (⟨(.bool true :: .string (mS ({ data := #[2] }) ({ data := #[3] })) :: .string (bytesOf 6) :: .bool true :: .bool true :: .string (aS ({ data := #[250] }) ({ data := #[10] })) :: .slice (some ⟨g 5, 0, none⟩) 30 30 :: .string (zs 30) :: .string (({ data := #[4, 1] } ++ zs 30)) :: .bool true :: .bool true :: .bool true :: .string (rS ({ data := #[] })) :: .string (bytesOf 0) :: .bool true :: .bool true :: List.replicate 0 un).toArray, []⟩ : Act)) (GM w [] [(5, 5, zr 30)]) [.string (mS ({ data := #[2] }) ({ data := #[3] })), .string (bytesOf 6), .bool true, .bool true, .string (aS ({ data := #[250] }) ({ data := #[10] })), .slice (some ⟨0, 0, none⟩) 30 30, .string (zs 30), .string (({ data := #[4, 1] } ++ zs 30)), .bool true, .bool true, .bool true, .string (rS ({ data := #[] })), .string (bytesOf 0), .bool true, .bool true, .bool true] (by kernel_rfl) (by kernel_rfl) (by kernel_rfl) (by kernel_rfl) (fun _ _ _ _ h => h) (fun d hd => GM.start H0.drew 16 (by kernel_rfl) hd) ?_ ?_
  · refine AllGhost.cons (gm_call (v := .string (mS ({ data := #[2] }) ({ data := #[3] }))) (by kernel_rfl) (fun _ => by kernel_rfl) (fun _ => by kernel_rfl) enter19 #[.string { data := #[2] }, .string { data := #[3] }] (fun _ => by kernel_rfl) (fun w' h' => Mul_any ({ data := #[2] }) ({ data := #[3] }) w' (VV.below h'.old VV.big))) ?_
    refine AllGhost.cons (gm_call (v := .string (bytesOf 6)) (by kernel_rfl) (fun _ => by kernel_rfl) (fun _ => by kernel_rfl) enter21 #[iN .u8 6] (fun _ => by kernel_rfl) (fun w' h' => small_any 6 (by decide) w')) ?_
    refine AllGhost.cons (gm_plain (v := fun _ => .bool true) (by kernel_rfl) (fun _ => by kernel_rfl) (fun _ => by kernel_rfl) (fun _ _ => (run_eqs (s := mS ({ data := #[2] }) ({ data := #[3] })) (t := bytesOf 6) (by kernel_rfl) (by kernel_rfl) true (decide_eq_true (by decide +kernel))))) ?_
    refine AllGhost.cons (gm_plain (v := fun _ => .bool true) (by kernel_rfl) (fun _ => by kernel_rfl) (fun _ => by kernel_rfl) (fun _ _ => (by kernel_rfl))) ?_
    refine AllGhost.cons (gm_call (v := .string (aS ({ data := #[250] }) ({ data := #[10] }))) (by kernel_rfl) (fun _ => by kernel_rfl) (fun _ => by kernel_rfl) enter17 #[.string { data := #[250] }, .string { data := #[10] }] (fun _ => by kernel_rfl) (fun w' h' => Add_any ({ data := #[250] }) ({ data := #[10] }) w' (VV.below h'.old VV.big))) ?_
    refine AllGhost.cons (gm_make (fun m => .slice (some ⟨m, 0, none⟩) 30 30) (by kernel_rfl) (by simp) (fun _ => by kernel_rfl) (fun _ _ => by kernel_rfl) (fun _ _ => (run_mk 30 (by decide) (by kernel_rfl) (by kernel_rfl)))) ?_
    refine AllGhost.cons (gm_reads (v := .string (zs 30)) 0 rfl (by kernel_rfl) (fun _ => by kernel_rfl) (fun _ => by kernel_rfl) (by kernel_rfl) (fun g w' hb => run_noughts 30 (by kernel_rfl) hb)) ?_
    refine AllGhost.cons (gm_plain (v := fun _ => .string (({ data := #[4, 1] } ++ zs 30))) (by kernel_rfl) (fun _ => by kernel_rfl) (fun _ => by kernel_rfl) (fun _ _ => (run_cat (s := { data := #[4, 1] }) (t := zs 30) (by kernel_rfl) (by kernel_rfl) (by decide +kernel)))) ?_
    refine AllGhost.cons (gm_plain (v := fun _ => .bool true) (by kernel_rfl) (fun _ => by kernel_rfl) (fun _ => by kernel_rfl) (fun _ _ => (run_eqs (s := aS ({ data := #[250] }) ({ data := #[10] })) (t := ({ data := #[4, 1] } ++ zs 30)) (by kernel_rfl) (by kernel_rfl) true (decide_eq_true (by decide +kernel))))) ?_
    refine AllGhost.cons (gm_plain (v := fun _ => .bool true) (by kernel_rfl) (fun _ => by kernel_rfl) (fun _ => by kernel_rfl) (fun _ _ => (by kernel_rfl))) ?_
    refine AllGhost.cons (gm_plain (v := fun _ => .bool true) (by kernel_rfl) (fun _ => by kernel_rfl) (fun _ => by kernel_rfl) (fun _ _ => (by kernel_rfl))) ?_
    refine AllGhost.cons (gm_call (v := .string (rS ({ data := #[] }))) (by kernel_rfl) (fun _ => by kernel_rfl) (fun _ => by kernel_rfl) enter10 #[.string { data := #[] }] (fun _ => by kernel_rfl) (fun w' h' => Reduce_any ({ data := #[] }) w' (VV.below h'.old VV.big))) ?_
    refine AllGhost.cons (gm_call (v := .string (bytesOf 0)) (by kernel_rfl) (fun _ => by kernel_rfl) (fun _ => by kernel_rfl) enter21 #[iN .u8 0] (fun _ => by kernel_rfl) (fun w' h' => small_any 0 (by decide) w')) ?_
    refine AllGhost.cons (gm_plain (v := fun _ => .bool true) (by kernel_rfl) (fun _ => by kernel_rfl) (fun _ => by kernel_rfl) (fun _ _ => (run_eqs (s := rS ({ data := #[] })) (t := bytesOf 0) (by kernel_rfl) (by kernel_rfl) true (decide_eq_true (by decide +kernel))))) ?_
    refine AllGhost.cons (gm_plain (v := fun _ => .bool true) (by kernel_rfl) (fun _ => by kernel_rfl) (fun _ => by kernel_rfl) (fun _ _ => (by kernel_rfl))) ?_
    refine AllGhost.cons (gm_plain (v := fun _ => .bool true) (by kernel_rfl) (fun _ => by kernel_rfl) (fun _ => by kernel_rfl) (fun _ _ => (by kernel_rfl))) ?_
    exact AllGhost.nil
  intro g w1 g2
  have h3 := g2.held
  clear g2
  generalize g 5 = u4
  clear g
  refine then_at (F := ⟨(.bool true :: .string (mS ({ data := #[2] }) ({ data := #[3] })) :: .string (bytesOf 6) :: .bool true :: .bool true :: .string (aS ({ data := #[250] }) ({ data := #[10] })) :: .slice (some ⟨u4, 0, none⟩) 30 30 :: .string (zs 30) :: .string (({ data := #[4, 1] } ++ zs 30)) :: .bool true :: .bool true :: .bool true :: .string (rS ({ data := #[] })) :: .string (bytesOf 0) :: .bool true :: .bool true :: List.replicate 0 un).toArray, []⟩) (by kernel_rfl) ?_
  refine wp_ret ?_
  repeat first | refine then_ret ?_ | refine block_ret ?_
  exact bodyPost_ret (v := .bool true) (by kernel_rfl) rfl ⟨rfl, h3.old⟩

set_option linter.unusedVariables false in
set_option maxRecDepth 100000 in
set_option maxHeartbeats 2000000 in
theorem check_yes (s : ByteArray) (hl : s.size = 32) (hb : decide (numS s % K ^ 4 = numS s % Lq % K ^ 4) = true) (w : World) (VV : Vars w) :
    Calls Tryd.prog 12 #[.string s] w fun e w' => e = .returned (.bool true) ∧ Below w.heap.size w w' := by
  have H0 := HA.start w
  go_enter Tryd.func12, Tryd.ntmps12
  refine wp_seq ?_
  -- region 0
  refine wl_region ?_
  refine wl_val (.bool false) (by kernel_rfl) (by kernel_rfl) ?_
  refine wl_nil ?_
  refine then_at (F := ⟨(.string s :: un :: .bool false :: List.replicate 11 un).toArray, []⟩) (by kernel_rfl) ?_
  refine wp_seq ?_
  refine wp_seq ?_
  -- region 1
  refine wl_region ?_
  refine wl_val (.string s) (by kernel_rfl) (by kernel_rfl) ?_
  refine wl_val (iN .i64 s.size) (by kernel_rfl) (run_len (s := s) (by kernel_rfl)) ?_
  refine wl_val (.bool false) (by kernel_rfl) (run_nei (k := .i64) (a := s.size) (b := 32) (by kernel_rfl) (by kernel_rfl) false (decide_eq_false (fun h => h hl))) ?_
  refine wl_nil ?_
  refine then_at (F := ⟨(.string s :: un :: .bool false :: un :: .string s :: iN .i64 s.size :: .bool false :: List.replicate 7 un).toArray, []⟩) (by kernel_rfl) ?_
  refine wp_cond_false (by kernel_rfl) ?_
  refine wp_skip ?_
  refine then_at (F := ⟨(.string s :: un :: .bool false :: un :: .string s :: iN .i64 s.size :: .bool false :: List.replicate 7 un).toArray, []⟩) (by kernel_rfl) ?_
  refine wp_seq ?_
  -- region 3
  refine wl_region ?_
  refine wl_val (.string s) (by kernel_rfl) (by kernel_rfl) ?_
  refine wl_call (v := arr (numS s)) H0 (by kernel_rfl) enter27 #[.string s] (by kernel_rfl) (words_any s (by omega) w) ?_
  intro w1 h2
  refine wl_make h2 34 (by kernel_rfl) run_alloc34 ?_
  intro q3 w4 h5
  refine wl_fill (c' := el (numS s)) h5 0 rfl (by kernel_rfl) (by kernel_rfl) (by kernel_rfl) (el_sz _ _) info34 (one_cl _ _) ?_
  intro w6 (h7 : HA w [(q3, 34, el (numS s))] w6)
  refine wl_nil ?_
  refine then_at (F := ⟨(.string s :: un :: .bool false :: pt q3 :: .string s :: iN .i64 s.size :: .bool false :: .string s :: arr (numS s) :: List.replicate 5 un).toArray, []⟩) (by kernel_rfl) ?_
  refine wp_seq ?_
  -- region 4
  refine wp_region_ghost (fun g : Nat → Nat => (⟨(.string s :: un :: .bool true :: pt q3 :: .string s :: iN .i64 s.size :: .bool false :: .string s :: arr (numS s) :: arr (numS s) :: arr (numS s) :: .slice (some ⟨g 2, 0, none⟩) 1 1 :: arr (numS s % Lq) :: .bool true :: List.replicate 0 un).toArray, []⟩ : Act)) (GM w [(q3, 34, el (numS s))] [(2, 34, el (numS s))]) [arr (numS s), arr (numS s), .slice (some ⟨0, 0, none⟩) 1 1, arr (numS s % Lq), .bool true, .bool true] (by kernel_rfl) (by kernel_rfl) (by kernel_rfl) (by kernel_rfl) (fun _ _ _ _ h => h) (fun d hd => GM.start h7.drew 6 (by kernel_rfl) hd) ?_ ?_
  · refine AllGhost.cons (gm_load 0 rfl (by kernel_rfl) (fun _ => by kernel_rfl) (fun _ => by kernel_rfl) (fun _ => by kernel_rfl) Tryd.underlying34 rfl info34) ?_
    refine AllGhost.cons (gm_load 0 rfl (by kernel_rfl) (fun _ => by kernel_rfl) (fun _ => by kernel_rfl) (fun _ => by kernel_rfl) Tryd.underlying34 rfl info34) ?_
    refine AllGhost.cons (gm_make (fun m => .slice (some ⟨m, 0, none⟩) 1 1) (by kernel_rfl) (by simp) (fun _ => by kernel_rfl) (fun _ _ => by kernel_rfl) (fun _ _ => (run_parts1 (n := numS s) (by kernel_rfl)))) ?_
    refine AllGhost.cons (gm_callr (v := arr (numS s % Lq)) 0 rfl (by kernel_rfl) (fun _ => by kernel_rfl) (fun _ => by kernel_rfl) (by kernel_rfl) enter28 (fun g => #[.slice (some ⟨g 2, 0, none⟩) 1 1]) (fun _ => by kernel_rfl) (fun g w' h' hb => modulo_one (numS s) (g 2) (words_lt s (by omega)) 34 w' (VV.below h'.old VV.big) hb)) ?_
    refine AllGhost.cons (gm_plain (v := fun _ => .bool true) (by kernel_rfl) (fun _ => by kernel_rfl) (fun _ => by kernel_rfl) (fun _ _ => (run_eqarr (a := numS s) (b := numS s % Lq) (by kernel_rfl) (by kernel_rfl) true hb))) ?_
    refine AllGhost.cons (gm_plain (v := fun _ => .bool true) (by kernel_rfl) (fun _ => by kernel_rfl) (fun _ => by kernel_rfl) (fun _ _ => (by kernel_rfl))) ?_
    exact AllGhost.nil
  intro g w8 g9
  have h10 := g9.held
  clear g9
  generalize g 2 = u11
  clear g
  refine then_at (F := ⟨(.string s :: un :: .bool true :: pt q3 :: .string s :: iN .i64 s.size :: .bool false :: .string s :: arr (numS s) :: arr (numS s) :: arr (numS s) :: .slice (some ⟨u11, 0, none⟩) 1 1 :: arr (numS s % Lq) :: .bool true :: List.replicate 0 un).toArray, []⟩) (by kernel_rfl) ?_
  refine wp_ret ?_
  repeat first | refine then_ret ?_ | refine block_ret ?_
  exact bodyPost_ret (v := .bool true) (by kernel_rfl) rfl ⟨rfl, h10.old⟩

set_option linter.unusedVariables false in
set_option maxRecDepth 100000 in
set_option maxHeartbeats 2000000 in
theorem check_no (s : ByteArray) (hl : s.size = 32) (hb : decide (numS s % K ^ 4 = numS s % Lq % K ^ 4) = false) (w : World) (VV : Vars w) :
    Calls Tryd.prog 12 #[.string s] w fun e w' => e = .returned (.bool false) ∧ Below w.heap.size w w' := by
  have H0 := HA.start w
  go_enter Tryd.func12, Tryd.ntmps12
  refine wp_seq ?_
  -- region 0
  refine wl_region ?_
  refine wl_val (.bool false) (by kernel_rfl) (by kernel_rfl) ?_
  refine wl_nil ?_
  refine then_at (F := ⟨(.string s :: un :: .bool false :: List.replicate 11 un).toArray, []⟩) (by kernel_rfl) ?_
  refine wp_seq ?_
  refine wp_seq ?_
  -- region 1
  refine wl_region ?_
  refine wl_val (.string s) (by kernel_rfl) (by kernel_rfl) ?_
  refine wl_val (iN .i64 s.size) (by kernel_rfl) (run_len (s := s) (by kernel_rfl)) ?_
  refine wl_val (.bool false) (by kernel_rfl) (run_nei (k := .i64) (a := s.size) (b := 32) (by kernel_rfl) (by kernel_rfl) false (decide_eq_false (fun h => h hl))) ?_
  refine wl_nil ?_
  refine then_at (F := ⟨(.string s :: un :: .bool false :: un :: .string s :: iN .i64 s.size :: .bool false :: List.replicate 7 un).toArray, []⟩) (by kernel_rfl) ?_
  refine wp_cond_false (by kernel_rfl) ?_
  refine wp_skip ?_
  refine then_at (F := ⟨(.string s :: un :: .bool false :: un :: .string s :: iN .i64 s.size :: .bool false :: List.replicate 7 un).toArray, []⟩) (by kernel_rfl) ?_
  refine wp_seq ?_
  -- region 3
  refine wl_region ?_
  refine wl_val (.string s) (by kernel_rfl) (by kernel_rfl) ?_
  refine wl_call (v := arr (numS s)) H0 (by kernel_rfl) enter27 #[.string s] (by kernel_rfl) (words_any s (by omega) w) ?_
  intro w1 h2
  refine wl_make h2 34 (by kernel_rfl) run_alloc34 ?_
  intro q3 w4 h5
  refine wl_fill (c' := el (numS s)) h5 0 rfl (by kernel_rfl) (by kernel_rfl) (by kernel_rfl) (el_sz _ _) info34 (one_cl _ _) ?_
  intro w6 (h7 : HA w [(q3, 34, el (numS s))] w6)
  refine wl_nil ?_
  refine then_at (F := ⟨(.string s :: un :: .bool false :: pt q3 :: .string s :: iN .i64 s.size :: .bool false :: .string s :: arr (numS s) :: List.replicate 5 un).toArray, []⟩) (by kernel_rfl) ?_
  refine wp_seq ?_
  -- region 4
  refine wp_region_ghost (fun g : Nat → Nat => (⟨(.string s :: un :: .bool false :: pt q3 :: .string s :: iN .i64 s.size :: .bool false :: .string s :: arr (numS s) :: arr (numS s) :: arr (numS s) :: .slice (some ⟨g 2, 0, none⟩) 1 1 :: arr (numS s % Lq) :: .bool false :: List.replicate 0 un).toArray, []⟩ : Act)) (GM w [(q3, 34, el (numS s))] [(2, 34, el (numS s))]) [arr (numS s), arr (numS s), .slice (some ⟨0, 0, none⟩) 1 1, arr (numS s % Lq), .bool false, .bool false] (by kernel_rfl) (by kernel_rfl) (by kernel_rfl) (by kernel_rfl) (fun _ _ _ _ h => h) (fun d hd => GM.start h7.drew 6 (by kernel_rfl) hd) ?_ ?_
  · refine AllGhost.cons (gm_load 0 rfl (by kernel_rfl) (fun _ => by kernel_rfl) (fun _ => by kernel_rfl) (fun _ => by kernel_rfl) Tryd.underlying34 rfl info34) ?_
    refine AllGhost.cons (gm_load 0 rfl (by kernel_rfl) (fun _ => by kernel_rfl) (fun _ => by kernel_rfl) (fun _ => by kernel_rfl) Tryd.underlying34 rfl info34) ?_
    refine AllGhost.cons (gm_make (fun m => .slice (some ⟨m, 0, none⟩) 1 1) (by kernel_rfl) (by simp) (fun _ => by kernel_rfl) (fun _ _ => by kernel_rfl) (fun _ _ => (run_parts1 (n := numS s) (by kernel_rfl)))) ?_
    refine AllGhost.cons (gm_callr (v := arr (numS s % Lq)) 0 rfl (by kernel_rfl) (fun _ => by kernel_rfl) (fun _ => by kernel_rfl) (by kernel_rfl) enter28 (fun g => #[.slice (some ⟨g 2, 0, none⟩) 1 1]) (fun _ => by kernel_rfl) (fun g w' h' hb => modulo_one (numS s) (g 2) (words_lt s (by omega)) 34 w' (VV.below h'.old VV.big) hb)) ?_
    refine AllGhost.cons (gm_plain (v := fun _ => .bool false) (by kernel_rfl) (fun _ => by kernel_rfl) (fun _ => by kernel_rfl) (fun _ _ => (run_eqarr (a := numS s) (b := numS s % Lq) (by kernel_rfl) (by kernel_rfl) false hb))) ?_
    refine AllGhost.cons (gm_plain (v := fun _ => .bool false) (by kernel_rfl) (fun _ => by kernel_rfl) (fun _ => by kernel_rfl) (fun _ _ => (by kernel_rfl))) ?_
    exact AllGhost.nil
  intro g w8 g9
  have h10 := g9.held
  clear g9
  generalize g 2 = u11
  clear g
  refine then_at (F := ⟨(.string s :: un :: .bool false :: pt q3 :: .string s :: iN .i64 s.size :: .bool false :: .string s :: arr (numS s) :: arr (numS s) :: arr (numS s) :: .slice (some ⟨u11, 0, none⟩) 1 1 :: arr (numS s % Lq) :: .bool false :: List.replicate 0 un).toArray, []⟩) (by kernel_rfl) ?_
  refine wp_ret ?_
  repeat first | refine then_ret ?_ | refine block_ret ?_
  exact bodyPost_ret (v := .bool false) (by kernel_rfl) rfl ⟨rfl, h10.old⟩

set_option linter.unusedVariables false in
set_option maxRecDepth 100000 in
set_option maxHeartbeats 2000000 in
theorem check_len (s : ByteArray) (hl : s.size ≠ 32) (w : World) (VV : Vars w) :
    Calls Tryd.prog 12 #[.string s] w fun e w' => e = .returned (.bool false) ∧ Below w.heap.size w w' := by
  have H0 := HA.start w
  go_enter Tryd.func12, Tryd.ntmps12
  refine wp_seq ?_
  -- region 0
  refine wl_region ?_
  refine wl_val (.bool false) (by kernel_rfl) (by kernel_rfl) ?_
  refine wl_nil ?_
  refine then_at (F := ⟨(.string s :: un :: .bool false :: List.replicate 11 un).toArray, []⟩) (by kernel_rfl) ?_
  refine wp_seq ?_
  refine wp_seq ?_
  -- region 1
  refine wl_region ?_
  refine wl_val (.string s) (by kernel_rfl) (by kernel_rfl) ?_
  refine wl_val (iN .i64 s.size) (by kernel_rfl) (run_len (s := s) (by kernel_rfl)) ?_
  refine wl_val (.bool true) (by kernel_rfl) (run_nei (k := .i64) (a := s.size) (b := 32) (by kernel_rfl) (by kernel_rfl) true (decide_eq_true hl)) ?_
  refine wl_nil ?_
  refine then_at (F := ⟨(.string s :: un :: .bool false :: un :: .string s :: iN .i64 s.size :: .bool true :: List.replicate 7 un).toArray, []⟩) (by kernel_rfl) ?_
  refine wp_cond_true (by kernel_rfl) ?_
  refine wp_seq ?_
  -- region 2
  refine wl_region ?_
  refine wl_val (.bool false) (by kernel_rfl) (by kernel_rfl) ?_
  refine wl_nil ?_
  refine then_at (F := ⟨(.string s :: un :: .bool false :: un :: .string s :: iN .i64 s.size :: .bool true :: List.replicate 7 un).toArray, []⟩) (by kernel_rfl) ?_
  refine wp_ret ?_
  repeat first | refine then_ret ?_ | refine block_ret ?_
  exact bodyPost_ret (v := .bool false) (by kernel_rfl) rfl ⟨rfl, H0.old⟩

/-- are they a scalar's bytes? -/
def isS (s : ByteArray) : Prop := s.size = 32 ∧ numS s < Lq
theorem Check_yes (s : ByteArray) (h : isS s) (w : World) (VV : Vars w) : Calls Tryd.prog 12 #[.string s] w fun e w' => e = .returned (.bool true) ∧ Below w.heap.size w w' :=
  check_yes s h.1 (decide_eq_true (by rw [Nat.mod_eq_of_lt h.2])) w VV
theorem Check_no (s : ByteArray) (h : ¬ isS s) (w : World) (VV : Vars w) : Calls Tryd.prog 12 #[.string s] w fun e w' => e = .returned (.bool false) ∧ Below w.heap.size w w' := by
  by_cases hl : s.size = 32
  · refine check_no s hl (decide_eq_false fun e => h ⟨hl, ?_⟩) w VV
    have h4 := words_lt s (by omega)
    rw [Nat.mod_eq_of_lt h4, Nat.mod_eq_of_lt (Nat.lt_trans (Nat.mod_lt _ Lq_pos) Lq_lt)] at e
    rw [e]
    exact Nat.mod_lt _ Lq_pos
  · exact check_len s hl w VV
end Go.Proofs.YtdblnbcclfenkaaDoor
