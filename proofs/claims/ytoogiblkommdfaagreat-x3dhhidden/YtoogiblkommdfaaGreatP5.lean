/-
  A prim of terms: Seal, Open, Derive, New.
-/
import Derived.Test.YtoogiblkommdfaaGreatGF
import Derived.Test.YtoogiblkommdfaaGreatWA
set_option linter.unusedVariables false
namespace Go.Proofs.YtoogiblkommdfaaGreat
open Go.RowKit

set_option maxRecDepth 100000 in
set_option maxHeartbeats 2000000 in
theorem plong_n (s : ByteArray) (hs : s.size ≤ 16384) (w : World) :
    Calls Tryz.prog 100 #[.string s] w fun e w' => e = .returned (.bool false) ∧ Below w.heap.size w w' := by
  have H0 := HA.start w
  go_enter Tryz.func100, Tryz.ntmps100
  refine wp_seq (wl_region ?_)
  refine zv (.bool false) ?_
  refine wl_nil (then_at rfl (wp_seq (wl_region ?_)))
  refine zv (.string s) ?_
  refine zu (iN .i64 s.size) (run_len (s := s) ky) ?_
  refine zu (.bool false) (run_gtr (k := .i64) (a := s.size) (b := 16384) ky ky false (decide_eq_false (by omega))) ?_
  refine zv (.bool false) ?_
  refine wl_nil (then_at rfl ?_)
  refine wp_ret ?_
  repeat first | refine then_ret ?_ | refine block_ret ?_
  exact bodyPost_ret (v := .bool false) ky rfl ⟨rfl, H0.old.old⟩
set_option maxRecDepth 100000 in
set_option maxHeartbeats 2000000 in
theorem idl_no {w : World} (ss : List ByteArray) (o : Option Addr) (c : Nat) (hp : ss = [] ∨ ∃ pq cs, o = some ⟨pq, 0, none⟩ ∧ PreS cs ss ∧ Blk w pq 9 cs) (hss : ∀ i, (ss.getD i ByteArray.empty).size ≤ 16384) (hsl : ss.length ≤ 1000) :
    Calls Tryz.prog 137 #[.slice o ss.length c, .func (.func 100) #[] #[]] w fun e w' => e = .returned (.int .i64 (-1)) ∧ Below w.heap.size w w' := by
  have H0 := HA.start w
  go_enter Tryz.func137, Tryz.ntmps137
  refine wp_seq (wl_region ?_)
  refine zv (iN .i64 0) ?_
  refine wl_nil (then_at rfl (wp_seq (wp_seq (wl_region ?_))))
  refine zv (.slice o ss.length c) ?_
  refine zv (iN .i64 ss.length) ?_
  refine zv (iN .i64 0) ?_
  refine wl_nil (then_at rfl (wp_block ?_))
  refine wp_count (fun i AQ w' => ∃ u1 : Nat → Value, AQ = ⟨(.slice o ss.length c :: .func (.func 100) #[] #[] :: un :: un :: u1 4 :: u1 5 :: .slice o ss.length c :: iN .i64 ss.length :: iN .i64 i :: u1 9 :: u1 10 :: u1 11 :: u1 12 :: u1 13 :: u1 14 :: u1 15 :: u1 16 :: u1 17 :: u1 18 :: List.replicate 0 un).toArray, []⟩ ∧ HA (bs w) [] w') ss.length ?_ ?_ ?_
  · exact ⟨fun ii => (([(4, iN .i64 0), (5, undef), (9, undef), (10, undef), (11, undef), (12, undef), (13, undef), (14, undef), (15, undef), (16, undef), (17, undef), (18, undef)] : List (Nat × Value)).find? (·.1 == ii)).elim undef (·.2), by kernel_rfl, H0⟩
  · rintro i hk _ w2 ⟨u1, rfl, hT⟩
    obtain ⟨pq, cs, rfl, hps, hm⟩ := hp.resolve_left (by intro e; rw [e] at hk; simp at hk)
    refine wp_seq (wl_region ?_)
    refine zu (.bool true) (run_lss (k := .i64) (a := i) (b := ss.length) ky ky true (decide_eq_true (by omega))) ?_
    refine wl_nil (then_at rfl (wp_seq ?_))
    refine wp_cond_true ky ?_
    refine wp_skip (then_at rfl (wp_seq (wp_block (wp_seq (wl_region ?_)))))
    refine zv (iN .i64 i) ?_
    refine zv (iN .i64 i) ?_
    refine wl_nil (then_at rfl (wp_seq (wl_region ?_)))
    refine zv (.func (.func 100) #[] #[]) ?_
    refine zv (.slice (some ⟨pq, 0, none⟩) ss.length c) ?_
    refine zv (iN .i64 i) ?_
    refine zu (.pointer (some ⟨pq, i, none⟩)) (run_addr_slice (q := pq) (n := ss.length) (m := c) (a := i) Tryz.underlying86 (fun w => Tryz.sizeOf9 w) ky ky (by omega)) ?_
    refine zu (.string (ss.getD i ByteArray.empty)) (run_load1 (fun w => Tryz.isAgg9 w) ky (((hm.keep hT.old.old).cell i).trans (hps i hk))) ?_
    refine wl_callv (v := .bool false) hT ky enter100 #[.string (ss.getD i ByteArray.empty)] ky ky (plong_n (ss.getD i ByteArray.empty) (hss i) w2) ?_
    intro w3 h4
    refine wl_nil (then_at rfl ?_)
    refine wp_cond_false ky ?_
    refine wp_skip (block_normal (then_at rfl (wl_region ?_)))
    refine zu (iN .i64 (i + 1)) (run_add (k := .i64) (a := i) (b := 1) ky ky (by simp only [top]; omega)) ?_
    refine zv (iN .i64 (i + 1)) ?_
    refine wl_nil ?_
    exact then_I ⟨fun ii => (([(4, u1 4), (5, iN .i64 i), (9, .bool true), (10, iN .i64 i), (11, .func (.func 100) #[] #[]), (12, .slice (some ⟨pq, 0, none⟩) ss.length c), (13, iN .i64 i), (14, .pointer (some ⟨pq, i, none⟩)), (15, .string (ss.getD i ByteArray.empty)), (16, .bool false), (17, u1 17), (18, iN .i64 (i + 1))] : List (Nat × Value)).find? (·.1 == ii)).elim undef (·.2), by kernel_rfl, h4⟩
  · rintro _ w5 ⟨u1, rfl, hT⟩
    refine wp_seq (wl_region ?_)
    refine zu (.bool false) (run_lss (k := .i64) (a := ss.length) (b := ss.length) ky ky false (decide_eq_false (by omega))) ?_
    refine wl_nil (then_at rfl (wp_seq ?_))
    refine wp_cond_false ky ?_
    refine wp_exit ?_
    repeat first | refine then_exit ?_ | refine block_exit ?_ | refine block_exit_ne (by decide) ?_
    refine then_at rfl (wp_seq (wl_region ?_))
    refine zv (.int .i64 (-1)) ?_
    refine wl_nil (then_at rfl ?_)
    refine wp_ret ?_
    repeat first | refine then_ret ?_ | refine block_ret ?_
    exact bodyPost_ret (v := .int .i64 (-1)) ky rfl ⟨rfl, hT.old.old⟩
set_option maxRecDepth 100000 in
set_option maxHeartbeats 2000000 in
theorem conl_no {w : World} (ss : List ByteArray) (o : Option Addr) (c : Nat) (hp : ss = [] ∨ ∃ pq cs, o = some ⟨pq, 0, none⟩ ∧ PreS cs ss ∧ Blk w pq 9 cs) (hss : ∀ i, (ss.getD i ByteArray.empty).size ≤ 16384) (hsl : ss.length ≤ 1000) :
    Calls Tryz.prog 99 #[.slice o ss.length c, .func (.func 100) #[] #[]] w fun e w' => e = .returned (.bool false) ∧ Below w.heap.size w w' := by
  have H0 := HA.start w
  go_enter Tryz.func99, Tryz.ntmps99
  refine wp_seq (wl_region ?_)
  refine zv (.bool false) ?_
  refine wl_nil (then_at rfl (wp_seq (wl_region ?_)))
  refine zv (.slice o ss.length c) ?_
  refine zv (.func (.func 100) #[] #[]) ?_
  refine wl_call (v := .int .i64 (-1)) H0 ky enter137 #[.slice o ss.length c, .func (.func 100) #[] #[]] ky (idl_no ss o c (hp.imp id (fun ⟨pq, cs, h1, h0, h2⟩ => ⟨pq, cs, h1, h0, h2.keep H0.old.old⟩)) hss hsl) ?_
  intro w1 h2
  refine zv (.bool false) ?_
  refine zv (.bool false) ?_
  refine wl_nil (then_at rfl ?_)
  refine wp_ret ?_
  repeat first | refine then_ret ?_ | refine block_ret ?_
  exact bodyPost_ret (v := .bool false) ky rfl ⟨rfl, h2.old.old⟩
set_option maxRecDepth 100000 in
set_option maxHeartbeats 2000000 in
theorem anyl_no {w : World} (ss : List ByteArray) (o : Option Addr) (c : Nat) (hp : ss = [] ∨ ∃ pq cs, o = some ⟨pq, 0, none⟩ ∧ PreS cs ss ∧ Blk w pq 9 cs) (hss : ∀ i, (ss.getD i ByteArray.empty).size ≤ 16384) (hsl : ss.length ≤ 1000) :
    Calls Tryz.prog 61 #[.slice o ss.length c] w fun e w' => e = .returned (.bool false) ∧ Below w.heap.size w w' := by
  have H0 := HA.start w
  go_enter Tryz.func61, Tryz.ntmps61
  refine wp_seq (wl_region ?_)
  refine zv (.bool false) ?_
  refine wl_nil (then_at rfl (wp_seq (wl_region ?_)))
  refine zv (.slice o ss.length c) ?_
  refine wl_call (v := .bool false) H0 ky enter99 #[.slice o ss.length c, .func (.func 100) #[] #[]] ky (conl_no ss o c (hp.imp id (fun ⟨pq, cs, h1, h0, h2⟩ => ⟨pq, cs, h1, h0, h2.keep H0.old.old⟩)) hss hsl) ?_
  intro w1 h2
  refine zv (.bool false) ?_
  refine wl_nil (then_at rfl ?_)
  refine wp_ret ?_
  repeat first | refine then_ret ?_ | refine block_ret ?_
  exact bodyPost_ret (v := .bool false) ky rfl ⟨rfl, h2.old.old⟩
theorem ss3 {a b c : ByteArray} {m : Nat} (h : a.size ≤ m) (h2 : b.size ≤ m) (h3 : c.size ≤ m) : ∀ i, ([a, b, c].getD i ByteArray.empty).size ≤ m := strs_le (by simpa using ⟨h, h2, h3⟩)
theorem infos9 : (Tryz.prog.info? 9).map (fun i => (i.zero, i.size, i.bytes)) = some (some (.string ByteArray.empty), 1, 16) := by kernel_rfl
/-- the label of the key of that number -/
def labK (info : ByteArray) (i : Nat) : ByteArray := ⟨(info.data.toList ++ Wi.be i (Wi.wd 1)).toArray⟩
theorem labK_size (info : ByteArray) (i : Nat) : (labK info i).size = info.size + 1 := by
  show ((info.data.toList ++ Wi.be i (Wi.wd 1)).toArray).size = _
  rw [List.size_toArray, List.length_append, Wi.be_length, Array.length_toList]
  rfl
/-- so many keys: the table, the keys -/
def derE (A : List Ent) (sec salt info : ByteArray) : Nat → List Ent
  | 0 => A
  | k + 1 => (mkA (derE A sec salt info k) 5 (labK info k) [sec, salt]).1
def derL (A : List Ent) (sec salt info : ByteArray) : Nat → List ByteArray
  | 0 => []
  | k + 1 => derL A sec salt info k ++ [txt (mkA (derE A sec salt info k) 5 (labK info k) [sec, salt]).2]
theorem derE_len (A : List Ent) (sec salt info : ByteArray) : ∀ k, (derE A sec salt info k).length ≤ A.length + 3 * k
  | 0 => Nat.le_refl _
  | k + 1 => by
    have h := derE_len A sec salt info k
    have h2 := mkA_len (derE A sec salt info k) 5 (labK info k) [sec, salt]
    simp only [derE, List.length_cons, List.length_nil] at h2 ⊢
    omega
section
variable {ρ : Operand → Value} {x y : Operand} {w : World} {dst : Option Tmp} {ty : TypeId} {pos : String} {aft : Array Edge} {gd : Option (Nat × Bool)}
set_option maxRecDepth 100000 in
theorem run_mk58 {c : Nat} (hx : ρ x = iN .i64 0) (hy : ρ y = iN .i64 c) (hc : c ≤ 100000) : (execOp ρ ⟨dst, .makeSlice 86 x y, ty, pos, aft, gd⟩).run Tryz.prog w = .ok (.value (.slice (some ⟨w.heap.size, 0, none⟩) 0 c)) (w.alloc (.cells (List.replicate c (.string ByteArray.empty)).toArray 9)) := by
  obtain ⟨i, hi, h⟩ := Option.map_eq_some_iff.1 infos9
  simp only [Prod.mk.injEq] at h
  have e := run_makeSlice (P := Tryz.prog) w 86 9 i (.string ByteArray.empty) Tryz.underlying86 hi h.1 .i64 .i64 (0 : Int) (c : Int) (by omega) (by omega) (by rw [h.2.1]; omega) (by rw [h.2.2]; omega) (by omega)
  rw [h.2.1] at e
  simp only [Int.toNat_natCast, Nat.mul_one] at e
  simp only [execOp, hx, hy, iN, Sem.run_bind, Int.natCast_zero, e, Result.andThen_ok, Sem.run_pure]
  rw [show (Value.string ByteArray.empty).cells = #[Value.string ByteArray.empty] from rfl, made_rep]
  rfl
end
section
variable {z : Base} {w : World} {Lr R X : BL} {a b : Nat × TypeId × Array Value}
theorem HA.mv1 (H : HA z (a :: b :: ((Lr ++ R) ++ X)) w) : HA z (a :: (Lr ++ (b :: (R ++ X)))) w := H.perm (by
  refine List.Perm.cons _ ?_
  have e : (b :: ((Lr ++ R) ++ X)) = ([b] ++ Lr) ++ (R ++ X) := by simp
  have e2 : Lr ++ (b :: (R ++ X)) = (Lr ++ [b]) ++ (R ++ X) := by simp
  rw [e, e2]
  exact List.Perm.append_right _ List.perm_append_comm)
theorem HA.mv3 {c : Nat × TypeId × Array Value} (H : HA z (a :: b :: c :: ((Lr ++ R) ++ X)) w) : HA z (a :: (Lr ++ (b :: c :: (R ++ X)))) w := H.perm (by
  refine List.Perm.cons _ ?_
  have e : (b :: c :: ((Lr ++ R) ++ X)) = ([b, c] ++ Lr) ++ (R ++ X) := by simp
  have e2 : Lr ++ (b :: c :: (R ++ X)) = (Lr ++ [b, c]) ++ (R ++ X) := by simp
  rw [e, e2]
  exact List.Perm.append_right _ List.perm_append_comm)
theorem HA.bk3 {c : Nat × TypeId × Array Value} (H : HA z (Lr ++ (b :: c :: (R ++ X))) w) : HA z (b :: c :: ((Lr ++ R) ++ X)) w := H.perm (by
  have e : (b :: c :: ((Lr ++ R) ++ X)) = ([b, c] ++ Lr) ++ (R ++ X) := by simp
  have e2 : Lr ++ (b :: c :: (R ++ X)) = (Lr ++ [b, c]) ++ (R ++ X) := by simp
  rw [e, e2]
  exact List.Perm.append_right _ List.perm_append_comm)
end
theorem Row.made {g c : Nat} (hc : c ≤ maxLen) : Row 9 1 (.slice (some ⟨g, 0, none⟩) 0 c) 0 [] [(g, 9, (List.replicate c (.string ByteArray.empty)).toArray)] := ⟨rfl, .inr ⟨g, c, _, rfl, rfl, Nat.zero_le _, hc, by simp, rfl⟩⟩
set_option maxRecDepth 100000 in
set_option maxHeartbeats 2000000 in
theorem tk_derive {w0 w : World} {M : ML} {p : Pr} {A : List Ent} {n : Nat} {L : BL} (H : PH w0 M p A n L w) (sec salt info : ByteArray) (hs : sec.size ≤ 65536) (hu : salt.size ≤ 65536) (hi : info.size ≤ 1000) (N : Nat) (hN : N ≤ 16) (hf : A.length < 57000) :
    Calls Tryz.prog 352 #[.agg #[pt p.t.q], .string sec, .string salt, .string info, iN .i64 N] w fun e w' => ∃ v Lr, e = .returned (.tuple #[v, iN .i64 0]) ∧ Row 9 1 v N ((derL A sec salt info N).map Value.string) Lr ∧ PH w0 M p (derE A sec salt info N) n (Lr ++ L) w' := by
  obtain ⟨z0, X0, hcl0, hbe0, H0⟩ := PH.front H
  go_enter Tryz.func352, Tryz.ntmps352
  refine wp_seq (wl_region ?_)
  refine wl_make (c := #[.pointer (some ⟨p.t.q, 0, none⟩)]) H0 114 ky ky ?_
  intro q1 w2 (h3 : HA z0 ((q1, 114, #[.pointer (some ⟨p.t.q, 0, none⟩)]) :: (L ++ X0)) w2)
  refine zv (.slice none 0 0) ?_
  refine zv (iN .i64 0) ?_
  refine wl_nil (then_at rfl (wp_seq (wl_region ?_)))
  refine zv (iN .i64 N) ?_
  refine wl_mks (n := 0) (m := N) (c := (List.replicate N (Value.string ByteArray.empty)).toArray) h3 9 ky (run_mk58 (c := N) ky ky (by omega)) ?_
  intro q4 w5 (h6 : HA z0 ((q4, 9, (List.replicate N (Value.string ByteArray.empty)).toArray) :: (q1, 114, #[.pointer (some ⟨p.t.q, 0, none⟩)]) :: (L ++ X0)) w5)
  refine zv (.slice (some ⟨q4, 0, none⟩) 0 N) ?_
  refine wl_nil (then_at rfl (wp_seq (wp_seq (wl_region ?_))))
  refine zv (iN .i64 N) ?_
  refine zv (iN .i64 0) ?_
  refine wl_nil (then_at rfl ?_)
  have hD0 : PH w0 M p A n ((q1, 114, #[.pointer (some ⟨p.t.q, 0, none⟩)]) :: ([(q4, 9, (List.replicate N (Value.string ByteArray.empty)).toArray)] ++ L)) w5 := (PH.perm (hcl0 ((q4, 9, (List.replicate N (Value.string ByteArray.empty)).toArray) :: (q1, 114, #[.pointer (some ⟨p.t.q, 0, none⟩)]) :: L) _ h6) (List.Perm.swap _ _ _))
  refine wp_block ?_
  refine wp_count (fun i AQ w' => ∃ u7 : Nat → Value, AQ = ⟨(.agg #[pt p.t.q] :: .string sec :: .string salt :: .string info :: iN .i64 N :: pt q1 :: un :: un :: un :: un :: u7 10 :: u7 11 :: u7 12 :: u7 13 :: u7 14 :: u7 15 :: iN .i64 N :: .slice (some ⟨q4, 0, none⟩) 0 N :: iN .i64 N :: iN .i64 i :: u7 20 :: u7 21 :: u7 22 :: u7 23 :: u7 24 :: u7 25 :: u7 26 :: u7 27 :: u7 28 :: u7 29 :: u7 30 :: u7 31 :: u7 32 :: u7 33 :: u7 34 :: u7 35 :: u7 36 :: u7 37 :: u7 38 :: u7 39 :: u7 40 :: u7 41 :: u7 42 :: List.replicate 1 un).toArray, []⟩ ∧ ∃ Lr, Row 9 1 (u7 12) i ((derL A sec salt info i).map Value.string) Lr ∧ PH w0 M p (derE A sec salt info i) n ((q1, 114, #[.pointer (some ⟨p.t.q, 0, none⟩)]) :: (Lr ++ L)) w') N ?_ ?_ ?_
  · exact ⟨fun ii => (([(10, .slice none 0 0), (11, iN .i64 0), (12, .slice (some ⟨q4, 0, none⟩) 0 N), (13, undef), (14, undef), (15, undef), (20, undef), (21, undef), (22, undef), (23, undef), (24, undef), (25, undef), (26, undef), (27, undef), (28, undef), (29, undef), (30, undef), (31, undef), (32, undef), (33, undef), (34, undef), (35, undef), (36, undef), (37, undef), (38, undef), (39, undef), (40, undef), (41, undef), (42, undef)] : List (Nat × Value)).find? (·.1 == ii)).elim undef (·.2), by kernel_rfl, ⟨_, by exact Row.made (by unfold maxLen; omega), hD0⟩⟩
  · rintro i hk _ w8 ⟨u7, rfl, ⟨Lr, hR, hD⟩⟩
    obtain ⟨z9, X10, hcl11, hbe12, h13⟩ := PH.front hD
    have h14 : HA z9 ((q1, 114, #[.pointer (some ⟨p.t.q, 0, none⟩)]) :: ((Lr ++ L) ++ X10)) w8 := h13
    have hle := derE_len A sec salt info i
    refine wp_seq (wl_region ?_)
    refine zu (.bool true) (run_lss (k := .i64) (a := i) (b := N) ky ky true (decide_eq_true (by omega))) ?_
    refine wl_nil (then_at rfl (wp_seq ?_))
    refine wp_cond_true ky ?_
    refine wp_skip (then_at rfl (wp_seq (wp_block (wp_seq (wl_region ?_)))))
    refine zv (iN .i64 i) ?_
    refine zv (iN .i64 i) ?_
    refine wl_nil (then_at rfl (wp_seq ?_))
    refine wp_region_wx (HA z9 ((q1, 114, #[.pointer (some ⟨p.t.q, 0, none⟩)]) :: ((Lr ++ L) ++ X10))) (fun AQ w' => ∃ (z23 : Base) (X24 : BL) (q18 : Nat), AQ = ⟨(.agg #[pt p.t.q] :: .string sec :: .string salt :: .string info :: iN .i64 N :: pt q1 :: un :: un :: un :: un :: u7 10 :: u7 11 :: u7 12 :: iN .i64 i :: .string (txt (mkA (derE A sec salt info i) 5 (labK info i) [sec, salt]).2) :: iN .i64 0 :: iN .i64 N :: .slice (some ⟨q4, 0, none⟩) 0 N :: iN .i64 N :: iN .i64 i :: .bool true :: iN .i64 i :: .tuple #[.string (txt (mkA (derE A sec salt info i) 5 (labK info i) [sec, salt]).2), iN .i64 0] :: pt q1 :: pt p.t.q :: .string info :: iN .i64 i :: iN .u64 i :: .string (labK info i) :: .string sec :: .string salt :: .slice (some ⟨q18, 0, none⟩) 2 2 :: .tuple #[.string (txt (mkA (derE A sec salt info i) 5 (labK info i) [sec, salt]).2), iN .i64 0] :: .string (txt (mkA (derE A sec salt info i) 5 (labK info i) [sec, salt]).2) :: iN .i64 0 :: u7 35 :: u7 36 :: u7 37 :: u7 38 :: u7 39 :: u7 40 :: u7 41 :: u7 42 :: List.replicate 1 un).toArray, []⟩ ∧ (∀ (L' : BL) (w' : World), HA z23 (L' ++ X24) w' → PH w0 M p (mkA (derE A sec salt info i) 5 (labK info i) [sec, salt]).1 n L' w') ∧ (∀ (L' : BL) (w' : World), HA z23 L' w' → Below w0.heap.size w0 w') ∧ HA z23 ((q18, 9, #[.string sec, .string salt]) :: (q1, 114, #[.pointer (some ⟨p.t.q, 0, none⟩)]) :: ((Lr ++ L) ++ X24)) w') 15 ky ky ky ky ky (h14.drew) ?_ ?_
    · have h15 := h14.drew
      refine zp 0 (.pointer (some ⟨q1, 0, none⟩)) ?_
      refine wx_val (i := 1) (.pointer (some ⟨p.t.q, 0, none⟩)) rfl rfl ky ky (fun w' h' => run_load1 (fun w => Tryz.isAgg82 w) ky (((h'.get 0 rfl).cell 0).trans rfl)) ?_
      refine zp 2 (.string info) ?_
      refine zp 3 (iN .i64 i) ?_
      refine wx_pure (i := 4) (iN .u64 i) rfl rfl ky ky (fun _ => (run_conv .u64 Tryz.underlying3 Tryz.underlying95 ky (by first | omega | (simp only [top]; omega)))) ?_
      refine wx_call (i := 5) (.string (labK info i)) (fun _ _ h hb => HA.keep _ _ h hb) rfl rfl ky ky enter75 #[.string info, iN .i64 1, iN .u64 i] ky (fun w' h' => Wi.PutNumber_any w' info 1 i (by omega)) ?_
      refine zp 6 (.string sec) ?_
      refine zp 7 (.string salt) ?_
      refine wx_one 8 ky ?_
      refine ex_makeT (c := #[.string sec, .string salt]) rfl ky h15 9 (fun q => .slice (some ⟨q, 0, none⟩) 2 2) (fun _ => ky) ?_
      intro q18 w16 (h17 : HA z9 ((q18, 9, #[.string sec, .string salt]) :: (q1, 114, #[.pointer (some ⟨p.t.q, 0, none⟩)]) :: ((Lr ++ L) ++ X10)) w16)
      refine ⟨_, .inr rfl, (HA.sub h17 (List.Sublist.cons _ (List.Sublist.cons_cons _ (List.Sublist.refl _)))), ?_⟩
      refine wx_one 9 ky ?_
      refine ex_callx rfl ky h17 enter364 #[.pointer (some ⟨p.t.q, 0, none⟩), iN .i64 5, .string (labK info i), .slice (some ⟨q18, 0, none⟩) 2 2] ky (fun w20 h21 => Make_P (hcl11 ((q18, 9, #[.string sec, .string salt]) :: (q1, 114, #[.pointer (some ⟨p.t.q, 0, none⟩)]) :: (Lr ++ L)) _ h21) 5 (labK info i) [sec, salt] _ _ (.inr ⟨q18, _, rfl, PreS.strc [sec, salt], by simp [strc]⟩) (by omega) ky (by rw [labK_size]; omega) (ss2 hs hu) (by simp) (fun h => absurd h (by decide)) (fun h => absurd h (by decide)) (fun h => absurd h (by decide)) (fun h => absurd h (by decide))) ?_
      rintro w20 h21 _ w22 ⟨rfl, hD19⟩
      obtain ⟨z23, X24, hcl25, hbe26, h27⟩ := PH.front hD19
      have h28 : HA z23 ((q18, 9, #[.string sec, .string salt]) :: (q1, 114, #[.pointer (some ⟨p.t.q, 0, none⟩)]) :: ((Lr ++ L) ++ X24)) w22 := h27
      refine ⟨_, rfl, _, .inl ky, h28, ?_⟩
      refine zp 10 (.tuple #[.string (txt (mkA (derE A sec salt info i) 5 (labK info i) [sec, salt]).2), iN .i64 0]) ?_
      refine zp 11 (.string (txt (mkA (derE A sec salt info i) 5 (labK info i) [sec, salt]).2)) ?_
      refine zp 12 (iN .i64 0) ?_
      refine zp 13 (.string (txt (mkA (derE A sec salt info i) 5 (labK info i) [sec, salt]).2)) ?_
      refine zp 14 (iN .i64 0) ?_
      refine wx_end fun w29 hbx _ => ?_
      have h30 := HA.keep _ _ h28 hbx
      exact ⟨z23, X24, q18, by kernel_rfl, hcl25, hbe26, h30⟩
    · rintro _ w31 ⟨z23, X24, q18, rfl, hcl25, hbe26, h32⟩
      refine then_at rfl (wp_seq (wp_seq (wl_region ?_)))
      refine zv (iN .i64 0) ?_
      refine zu (.bool false) (run_nei (k := .i64) (a := 0) (b := 0) ky ky false (by decide)) ?_
      refine wl_nil (then_at rfl ?_)
      refine wp_cond_false ky ?_
      refine wp_skip (then_at rfl (wl_region ?_))
      refine zv (u7 12) ?_
      refine zv (.string (txt (mkA (derE A sec salt info i) 5 (labK info i) [sec, salt]).2)) ?_
      refine wl_mks (n := 1) (m := 1) (c := #[.string (txt (mkA (derE A sec salt info i) 5 (labK info i) [sec, salt]).2)]) h32 9 ky ky ?_
      intro q33 w34 (h35 : HA z23 ((q33, 9, #[.string (txt (mkA (derE A sec salt info i) 5 (labK info i) [sec, salt]).2)]) :: (q18, 9, #[.string sec, .string salt]) :: (q1, 114, #[.pointer (some ⟨p.t.q, 0, none⟩)]) :: ((Lr ++ L) ++ X24)) w34)
      refine wl_append (m := 1) (c := 1) hR (HA.mv3 h35) (by decide) _ 16 Tryz.underlying86 infos9 rfl (by decide) ky ky ky rfl ky (by unfold maxLen; omega) (by omega) (by decide) ?_
      intro v2 w36 Lr2 hR2 h37
      have h38 : HA z23 ((q18, 9, #[.string sec, .string salt]) :: (q1, 114, #[.pointer (some ⟨p.t.q, 0, none⟩)]) :: ((Lr2 ++ L) ++ X24)) w36 := HA.bk3 h37
      have hR3 : Row 9 1 v2 (i + 1) ((derL A sec salt info (i + 1)).map Value.string) Lr2 := by rw [derL, List.map_append]; exact hR2
      refine zv (v2) ?_
      refine wl_nil (block_normal (then_at rfl (wl_region ?_)))
      refine zu (iN .i64 (i + 1)) (run_add (k := .i64) (a := i) (b := 1) ky ky (by first | omega | (simp only [top]; omega))) ?_
      refine zv (iN .i64 (i + 1)) ?_
      refine wl_nil ?_
      exact then_I ⟨fun ii => (([(10, u7 10), (11, u7 11), (12, v2), (13, iN .i64 i), (14, .string (txt (mkA (derE A sec salt info i) 5 (labK info i) [sec, salt]).2)), (15, iN .i64 0), (20, .bool true), (21, iN .i64 i), (22, .tuple #[.string (txt (mkA (derE A sec salt info i) 5 (labK info i) [sec, salt]).2), iN .i64 0]), (23, .pointer (some ⟨q1, 0, none⟩)), (24, .pointer (some ⟨p.t.q, 0, none⟩)), (25, .string info), (26, iN .i64 i), (27, iN .u64 i), (28, .string (labK info i)), (29, .string sec), (30, .string salt), (31, .slice (some ⟨q18, 0, none⟩) 2 2), (32, .tuple #[.string (txt (mkA (derE A sec salt info i) 5 (labK info i) [sec, salt]).2), iN .i64 0]), (33, .string (txt (mkA (derE A sec salt info i) 5 (labK info i) [sec, salt]).2)), (34, iN .i64 0), (35, iN .i64 0), (36, .bool false), (37, u7 37), (38, u7 12), (39, .string (txt (mkA (derE A sec salt info i) 5 (labK info i) [sec, salt]).2)), (40, .slice (some ⟨q33, 0, none⟩) 1 1), (41, v2), (42, iN .i64 (i + 1))] : List (Nat × Value)).find? (·.1 == ii)).elim undef (·.2), by kernel_rfl, ⟨Lr2, by exact hR3, PH.sub (hcl25 ((q18, 9, #[.string sec, .string salt]) :: (q1, 114, #[.pointer (some ⟨p.t.q, 0, none⟩)]) :: (Lr2 ++ L)) _ h38) (List.Sublist.cons _ (List.Sublist.refl _))⟩⟩
  · rintro _ w39 ⟨u7, rfl, ⟨Lr, hR, hD⟩⟩
    obtain ⟨z40, X41, hcl42, hbe43, h44⟩ := PH.front hD
    have h45 : HA z40 ((q1, 114, #[.pointer (some ⟨p.t.q, 0, none⟩)]) :: ((Lr ++ L) ++ X41)) w39 := h44
    refine wp_seq (wl_region ?_)
    refine zu (.bool false) (run_lss (k := .i64) (a := N) (b := N) ky ky false (decide_eq_false (by omega))) ?_
    refine wl_nil (then_at rfl (wp_seq ?_))
    refine wp_cond_false ky ?_
    refine wp_exit ?_
    repeat first | refine then_exit ?_ | refine block_exit ?_ | refine block_exit_ne (by decide) ?_
    refine then_at rfl (wp_seq (wl_region ?_))
    refine zv (u7 12) ?_
    refine zv (u7 12) ?_
    refine zv (iN .i64 0) ?_
    refine wl_nil (then_at rfl ?_)
    refine wp_ret ?_
    repeat first | refine then_ret ?_ | refine block_ret ?_
    exact bodyPost_ret (v := .tuple #[u7 12, iN .i64 0]) ky rfl ⟨_, Lr, rfl, hR, PH.sub (hcl42 ((q1, 114, #[.pointer (some ⟨p.t.q, 0, none⟩)]) :: (Lr ++ L)) _ h45) (List.Sublist.cons _ (List.Sublist.refl _))⟩
set_option maxRecDepth 100000 in
set_option maxHeartbeats 2000000 in
theorem Derive_P {w0 w : World} {M : ML} {p : Pr} {A : List Ent} {n : Nat} {L : BL} (H : PH w0 M p A n L w) (sec salt info : ByteArray) (hs : sec.size ≤ 65536) (hu : salt.size ≤ 65536) (hi : info.size ≤ 1000) (N : Nat) (hN1 : 1 ≤ N) (hN : N ≤ 16) (hf : A.length < 57000) :
    Calls Tryz.prog 110 #[pt p.q, .string sec, .string salt, .string info, iN .i64 N] w fun e w' => ∃ v Lr, e = .returned (.tuple #[v, iN .i64 0]) ∧ Row 9 1 v N ((derL A sec salt info N).map Value.string) Lr ∧ PH w0 M p (derE A sec salt info N) n (Lr ++ L) w' := by
  obtain ⟨z0, X0, hcl0, hbe0, H0⟩ := PH.front H
  go_enter Tryz.func110, Tryz.ntmps110
  refine wp_seq (wl_region ?_)
  refine zv (.slice none 0 0) ?_
  refine zv (iN .i64 0) ?_
  refine wl_nil (then_at rfl (wp_seq (wp_block (wp_seq (wl_region ?_)))))
  refine zv (.pointer (some ⟨p.q, 0, none⟩)) ?_
  refine wl_call (v := .bool false) H0 ky enter56 #[.pointer (some ⟨p.q, 0, none⟩)] ky (none_k (PH.kit (hcl0 (L) _ H0))) ?_
  intro w1 h2
  refine zv (.bool false) ?_
  refine wl_nil (then_at rfl ?_)
  refine wp_cond_false ky ?_
  refine wp_seq (wl_region ?_)
  refine zv (iN .i64 N) ?_
  refine zu (.bool false) (run_lss (k := .i64) (a := N) (b := 1) ky ky false (decide_eq_false (by omega))) ?_
  refine zv (.bool false) ?_
  refine zv (iN .i64 N) ?_
  refine zu (.bool false) (run_gtr (k := .i64) (a := N) (b := 16) ky ky false (decide_eq_false (by omega))) ?_
  refine zv (.bool false) ?_
  refine zv (.bool false) ?_
  refine wl_nil (then_at rfl ?_)
  refine wp_cond_false ky ?_
  refine wp_seq (wl_region ?_)
  refine zv (.string info) ?_
  refine zu (iN .i64 info.size) (run_len (s := info) ky) ?_
  refine zu (.bool false) (run_gtr (k := .i64) (a := info.size) (b := 1000) ky ky false (decide_eq_false (by omega))) ?_
  refine zv (.bool false) ?_
  refine wl_nil (then_at rfl ?_)
  refine wp_cond_false ky ?_
  refine wp_skip (block_normal (then_at rfl (wp_seq (wl_region ?_))))
  refine zv (.pointer (some ⟨p.q, 0, none⟩)) ?_
  refine zv (.pointer (some ⟨p.q, 0, none⟩)) ?_
  refine zv (.pointer (some ⟨p.q, 0, none⟩)) ?_
  refine zu (.iface 114 (.agg #[pt p.t.q])) (run_load1 (fun w => Tryz.isAgg110 w) ky (PH.kit (hcl0 (L) _ h2))) ?_
  refine zv (.string sec) ?_
  refine zv (.string salt) ?_
  refine zv (.string info) ?_
  refine zv (iN .i64 N) ?_
  refine wl_invoke (f := 352) (T := 114) (rv := .agg #[.pointer (some ⟨p.t.q, 0, none⟩)]) (args := #[.string sec, .string salt, .string info, iN .i64 N]) ky (fun _ => by kernel_rfl) ky ky (tk_derive (hcl0 (L) _ h2) sec salt info hs hu hi N hN hf) ?_
  rintro _ w7 ⟨v3, Lr4, rfl, hR5, hD6⟩
  refine ⟨_, rfl, ?_⟩
  obtain ⟨po, pc, rfl⟩ := hR5.form
  obtain ⟨z8, X9, hcl10, hbe11, h12⟩ := PH.front hD6
  have h13 : HA z8 ((Lr4 ++ L) ++ X9) w7 := h12
  refine zv (.slice po N pc) ?_
  refine zv (iN .i64 0) ?_
  refine zv (.slice po N pc) ?_
  refine zv (iN .i64 0) ?_
  refine wl_nil (then_at rfl ?_)
  refine wp_ret ?_
  repeat first | refine then_ret ?_ | refine block_ret ?_
  exact bodyPost_ret (v := .tuple #[.slice po N pc, iN .i64 0]) ky rfl ⟨_, Lr4, rfl, hR5, (hcl10 ((Lr4 ++ L)) _ h13)⟩
end Go.Proofs.YtoogiblkommdfaaGreat
