/-
 Pieces and their texts (the law's).
-/
import Derived.Test.YtihfeoanognonaaT42
namespace Go.Proofs.Ytihfeoanognonaa
set_option linter.unusedVariables false
set_option maxRecDepth 100000
set_option maxHeartbeats 2000000
open Go.RowKit
theorem Addr.add_addr (a : Addr) (m n : Nat) : (a.add m).add n = a.add (m + n) := by
 unfold Addr.add
 by_cases h1 : m = 0
 ·subst h1; simp
 ·by_cases h2 : n = 0
  ·subst h2; simp [h1]
  ·rw [if_neg h2, if_neg h1, if_neg (by omega)]; simp [Nat.add_assoc]
theorem cell_lt {w : World} {a : Addr} {v : Value} (h : w.cell? a = some v) : a.block < w.heap.size := by
 rcases Nat.lt_or_ge a.block w.heap.size with h' | h'
 ·exact h'
 ·unfold World.cell? at h
  simp [Array.getElem?_eq_none h'] at h
theorem got {w w' : World} {a : Addr} {v : Value} (hb : Below w.heap.size w w') (h : w.cell? a = some v) : w'.cell? a = some v := (hb.cell (cell_lt h)).trans h
def PcA (w : World) (o : Option Addr) (ps : List (Int × ByteArray)) : Prop :=
 ∀ i, i < ps.length → ∃ a, o = some a ∧ w.cell? (a.add (i * 2)) = some (.int .i64 (ps.getD i (0, ByteArray.empty)).1) ∧ w.cell? (a.add (i * 2 + 1)) = some (.string (ps.getD i (0, ByteArray.empty)).2)
theorem PcA.keep {w w' : World} {o : Option Addr} {ps : List (Int × ByteArray)} (h : PcA w o ps) (hb : Below w.heap.size w w') : PcA w' o ps := fun i hi => by
 obtain ⟨a, h1, h2, h3⟩ := h i hi
 exact ⟨a, h1, got hb h2, got hb h3⟩
def tx (ps : List (Int × ByteArray)) (i : Nat) : ByteArray := pcS (ps.getD i (0, ByteArray.empty)).1 (ps.getD i (0, ByteArray.empty)).2
def txl (ps : List (Int × ByteArray)) : Nat → List ByteArray
 | 0 => []
 | k + 1 => txl ps k ++ [tx ps k]
def txw (ps : List (Int × ByteArray)) : Nat → ByteArray
 | 0 => { data := #[] }
 | k + 1 => txw ps k ++ tx ps k
theorem txl_len (ps : List (Int × ByteArray)) : ∀ k, (txl ps k).length = k
 | 0 => rfl
 | k + 1 => by simp [txl, txl_len ps k]
theorem txw_size (ps : List (Int × ByteArray)) : ∀ k, (txw ps k).size ≤ 60 * k
 | 0 => Nat.le_refl _
 | k + 1 => by
  have := txw_size ps k
  have := pcS_size (ps.getD k (0, ByteArray.empty)).1 (ps.getD k (0, ByteArray.empty)).2
  rw [txw, ByteArray.size_append]
  unfold tx
  omega
theorem txl_size (ps : List (Int × ByteArray)) : ∀ k, ∀ s ∈ txl ps k, s.size ≤ 60
 | 0, s, h => by cases h
 | k + 1, s, h => by
  rcases List.mem_append.1 h with h | h
  ·exact txl_size ps k s h
  ·rw [List.mem_singleton.1 h]; exact pcS_size _ _
section
variable {ρ : Operand → Value} {x y : Operand} {w : World} {dst : Option Tmp} {T e ty : TypeId} {pos : String} {aft : Array Edge} {gd : Option (Nat × Bool)}
theorem run_addrg {a : Addr} {n m i sz : Nat} (hT : Try.prog.underlying T = some (.slice e)) (hs : ∀ w, (sizeOf e).run Try.prog w = .ok sz w)   (hi : i < n) (hx : ρ x = .slice (some a) n m := by kernel_rfl) (hy : ρ y = iN .i64 i := by kernel_rfl) : (execOp ρ ⟨dst, .indexAddr T x y, ty, pos, aft, gd⟩).run Try.prog w = .ok (.value (.pointer (some (a.add (i * sz))))) w := by
 simp only [execOp, hx, hy, iN]
 simp [go_sem, hT, hs, hi]
theorem run_loadg {a : Addr} {c : Array Value} {D : TypeDesc} (hx : ρ x = .pointer (some a)) (hc : ∀ j v, c[j]? = some v → w.cell? (a.add j) = some v) (hu : Try.prog.underlying T = some D) (hd : D.isRow = true) (hi : (Try.prog.info? T).map (·.size) = some c.size) :
  (execOp ρ ⟨dst, .load T x, ty, pos, aft, gd⟩).run Try.prog w = .ok (.value (.agg c)) w := by
 have hl : (loadCells a c.toList.length).run Try.prog w = .ok c.toList.toArray w := run_loadCells_list (P := Try.prog) w a c.toList (fun j v hv => hc j v (by rw [← Array.getElem?_toList]; exact hv))
 cases hq : Try.prog.info? T with
 | none => simp [hq] at hi
 | some i =>
  have hs : i.size = c.toList.length := by simpa [hq] using hi
  have hagg : (isAgg T).run Try.prog w = .ok true w := by
   unfold isAgg
   rw [Sem.run_bind, run_underlying hu w]
   cases D <;> simp_all
  have hload : (loadVar T a).run Try.prog w = .ok (.agg c) w := by
   rw [Array.length_toList] at hl hs
   simp [loadVar, Sem.run_bind, hagg, sizeOf, typeInfo, hq, hs, hl]
  simp only [execOp, hx, Instr.loadAt, Instr.sureAddr, Sem.run_bind, Sem.run_pure, Result.andThen_ok, hload]
end
theorem Row.pre {v : Value} {ss : List ByteArray} {Lr : BL} (h : Row 9 1 v ss.length (ss.map Value.string) Lr) : ∃ o c, v = .slice o ss.length c ∧ (ss = [] ∨ ∃ pq cs, o = some ⟨pq, 0, none⟩ ∧ PreS cs ss ∧ (pq, 9, cs) ∈ Lr) := by
 rcases h.2 with ⟨h1, h2, h3⟩ | ⟨g, cap, cur, h1, h2, h3, h4, h5, h6⟩
 ·exact ⟨none, 0, by rw [h1, h2], .inl (List.length_eq_zero_iff.1 h2)⟩
 ·refine ⟨_, _, h1, .inr ⟨g, cur, rfl, fun j hj => ?_, by rw [h2]; simp⟩⟩
  have : (cur.toList.take (ss.length * 1))[j]? = some (.string (ss.getD j ByteArray.empty)) := by rw [h6, List.getElem?_map]; simp [hj]
  rw [List.getElem?_take, if_pos (by omega)] at this
  simpa using this
theorem info9 : (Try.prog.info? 9).map (fun i => (i.zero, i.size, i.bytes)) = some (some (.string ByteArray.empty), 1, 16) := by kernel_rfl
theorem texts_a {w : World} (ps : List (Int × ByteArray)) (o : Option Addr) (c : Nat) (hp : PcA w o ps) (hpl : ps.length ≤ 9223372036854775807) (hm : ps.length ≤ 6) :
  Calls Try.prog 21 #[.slice o ps.length c] w fun e w' => ∃ v Lr, e = .returned (.tuple #[v, .string (txw ps ps.length)]) ∧ Row 9 1 v ps.length ((txl ps ps.length).map Value.string) Lr ∧ Newer w.heap.size w' Lr ∧ Below w.heap.size w w' := by
 have H0 := HA.start w
 go_enter Try.func21, Try.ntmps21
 refine zsr ?_
 refine zwv (.slice none 0 0) ?_
 refine zwv (.string ({ data := #[] })) ?_
 refine znt ?_
 refine zsr ?_
 refine zwv (.slice none 0 0) ?_
 refine znt ?_
 refine zsr ?_
 refine zwv (.string ({ data := #[] })) ?_
 refine znt ?_
 refine wp_seq ?_
 refine zsr ?_
 refine zwv (iN .i64 0) ?_
 refine znt ?_
 refine wp_block ?_
 refine wp_count (fun i A w' => ∃ u1 : Nat → Value, A = ⟨(.slice o ps.length c :: un :: .slice none 0 0 :: .string ({ data := #[] }) :: u1 4 :: .string (txw ps i) :: iN .i64 i :: u1 7 :: u1 8 :: u1 9 :: u1 10 :: u1 11 :: u1 12 :: u1 13 :: u1 14 :: u1 15 :: u1 16 :: u1 17 :: u1 18 :: u1 19 :: u1 20 :: u1 21 :: u1 22 :: u1 23 :: u1 24 :: u1 25 :: u1 26 :: u1 27 :: u1 28 :: u1 29 :: List.replicate 2 un).toArray, []⟩ ∧ ∃ Lr, Row 9 1 (u1 4) i ((txl ps i).map Value.string) Lr ∧ HA (bs w) Lr w') ps.length ?_ ?_ ?_
 ·exact ⟨lku (fun _ => undef) [(4, .slice none 0 0)], by kernel_rfl, ⟨[], by exact Row.nil 9 1, H0⟩⟩
 ·rintro i hk _ w2 ⟨u1, rfl, ⟨Lr, hR, hA⟩⟩
  obtain ⟨pa, rfl, hp1, hp2⟩ := hp i (by omega)
  have hpa : ∀ j v, (#[Value.int .i64 (ps.getD i (0, ByteArray.empty)).1, Value.string (ps.getD i (0, ByteArray.empty)).2] : Array Value)[j]? = some v → w.cell? ((pa.add (i * 2)).add j) = some v := by
   intro j v hv
   rw [Addr.add_addr]
   match j, hv with
   | 0, hv => cases hv; exact hp1
   | 1, hv => cases hv; exact hp2
  refine wp_seq ?_
  refine zsr ?_
  refine zwv (iN .i64 i) ?_
  refine zwv (.slice (some pa) ps.length c) ?_
  refine zwv (iN .i64 ps.length) ?_
  refine zwu (run_lss (k := .i64) (a := i) (b := ps.length) true (decide_eq_true (by omega))) ?_
  refine zwv (.bool true) ?_
  refine zwv (iN .i64 i) ?_
  refine zwu (run_lss (k := .i64) (a := i) (b := 6) true (decide_eq_true (by omega))) ?_
  refine zwv (.bool true) ?_
  refine znt ?_
  refine zct ?_
  refine wp_skip ?_
  refine then_at rfl ?_
  refine wp_seq ?_
  refine wp_block ?_
  refine zsr ?_
  refine zwv (.slice (some pa) ps.length c) ?_
  refine zwv (iN .i64 i) ?_
  refine zwu (v := .pointer (some (pa.add (i * 2)))) (run_addrg (a := pa) (n := ps.length) (m := c) (i := i) (sz := 2) Try.underlying51 Try.sizeOf98 (by omega)) ?_
  refine zwu (v := .agg #[.int .i64 (ps.getD i (0, ByteArray.empty)).1, .string (ps.getD i (0, ByteArray.empty)).2]) (run_loadg (a := (pa.add (i * 2))) (c := #[.int .i64 (ps.getD i (0, ByteArray.empty)).1, .string (ps.getD i (0, ByteArray.empty)).2]) (by kernel_rfl) (fun j v hv => got hA.old.old (hpa j v hv)) Try.underlying98 rfl (by kernel_rfl)) ?_
  refine zwc hA enter47 (text_any (ps.getD i (0, ByteArray.empty)).1 (ps.getD i (0, ByteArray.empty)).2 w2) ?_
  intro w3 h4
  refine zwv (.string (tx ps i)) ?_
  refine znt ?_
  refine zsr ?_
  refine zwv (u1 4) ?_
  refine zwv (.string (tx ps i)) ?_
  refine wl_mks (n := 1) (m := 1) (c := #[.string (tx ps i)]) h4 9 ?_
  intro q5 w6 (h7 : HA (bs w) ((q5, 9, #[.string (tx ps i)]) :: Lr) w6)
  refine wl_append (m := 1) (c := 1) (Lr := Lr) (L := []) hR (by rw [List.append_nil]; exact h7) _ 16 Try.underlying48 info9 rfl rfl (by unfold maxLen; omega) (by omega) ?_
  intro v2 w8 Lr2 hR2 h9
  rw [List.append_nil] at h9
  have h10 : HA (bs w) Lr2 w8 := h9
  have hR3 : Row 9 1 v2 (i + 1) ((txl ps (i + 1)).map Value.string) Lr2 := by rw [txl, List.map_append]; exact hR2
  refine zwv (v2) ?_
  refine znt ?_
  refine wl_region ?_
  refine zwv (.string (txw ps i)) ?_
  refine zwv (.string (tx ps i)) ?_
  refine zwu (v := .string ((txw ps i) ++ (tx ps i))) (run_cat (s := txw ps i) (t := tx ps i) (by have := txw_size ps i; have := pcS_size (ps.getD i (0, ByteArray.empty)).1 (ps.getD i (0, ByteArray.empty)).2; unfold tx; omega)) ?_
  refine zwv (.string ((txw ps i) ++ (tx ps i))) ?_
  refine wl_nil ?_
  refine block_normal ?_
  refine then_at rfl ?_
  refine wl_region ?_
  refine zwv (iN .i64 i) ?_
  refine zwu (run_add (k := .i64) (a := i) (b := 1) (by simp only [top]; omega)) ?_
  refine zwv (iN .i64 (i + 1)) ?_
  refine wl_nil ?_
  exact then_I ⟨lku (fun _ => undef) [(4, v2), (7, .string (tx ps i)), (8, iN .i64 i), (9, .slice (some pa) ps.length c), (10, iN .i64 ps.length), (11, .bool true), (12, .bool true), (13, iN .i64 i), (14, .bool true), (15, .bool true), (16, iN .i64 i), (17, iN .i64 (i + 1)), (18, .slice (some pa) ps.length c), (19, iN .i64 i), (20, .pointer (some (pa.add (i * 2)))), (21, .agg #[.int .i64 (ps.getD i (0, ByteArray.empty)).1, .string (ps.getD i (0, ByteArray.empty)).2]), (22, .string (tx ps i)), (23, u1 4), (24, .string (tx ps i)), (25, .slice (some ⟨q5, 0, none⟩) 1 1), (26, v2), (27, .string (txw ps i)), (28, .string (tx ps i)), (29, .string ((txw ps i) ++ (tx ps i)))], by kernel_rfl, ⟨Lr2, by exact hR3, h10⟩⟩
 ·rintro _ w11 ⟨u1, rfl, ⟨Lr, hR, hA⟩⟩
  refine wp_seq ?_
  refine zsr ?_
  refine zwv (iN .i64 ps.length) ?_
  refine zwv (.slice o ps.length c) ?_
  refine zwv (iN .i64 ps.length) ?_
  refine zwu (run_lss (k := .i64) (a := ps.length) (b := ps.length) false (decide_eq_false (by omega))) ?_
  refine zwv (.bool false) ?_
  refine wl_skip ?_
  refine wl_skip ?_
  refine zwv (.bool false) ?_
  refine znt ?_
  refine zcf ?_
  refine wp_exit ?_
  repeat first | refine then_exit ?_ | refine block_exit ?_ | refine block_exit_ne (by decide) ?_
  refine then_at rfl ?_
  refine zsr ?_
  refine zwv (u1 4) ?_
  refine zwv (.string (txw ps ps.length)) ?_
  refine zwv (u1 4) ?_
  refine zwv (.string (txw ps ps.length)) ?_
  refine znt ?_
  refine wp_ret ?_
  repeat first | refine then_ret ?_ | refine block_ret ?_
  exact bodyPost_ret (v := .tuple #[u1 4, .string (txw ps ps.length)]) (by kernel_rfl) rfl ⟨_, Lr, rfl, hR, HA.newer (L := []) hA, hA.old.old⟩
theorem texts_b {w : World} (ps : List (Int × ByteArray)) (o : Option Addr) (c : Nat) (hp : PcA w o ps) (hpl : ps.length ≤ 9223372036854775807) (hm : 6 < ps.length) :
  Calls Try.prog 21 #[.slice o ps.length c] w fun e w' => ∃ v Lr, e = .returned (.tuple #[v, .string (txw ps 6)]) ∧ Row 9 1 v 6 ((txl ps 6).map Value.string) Lr ∧ Newer w.heap.size w' Lr ∧ Below w.heap.size w w' := by
 have H0 := HA.start w
 go_enter Try.func21, Try.ntmps21
 refine zsr ?_
 refine zwv (.slice none 0 0) ?_
 refine zwv (.string ({ data := #[] })) ?_
 refine znt ?_
 refine zsr ?_
 refine zwv (.slice none 0 0) ?_
 refine znt ?_
 refine zsr ?_
 refine zwv (.string ({ data := #[] })) ?_
 refine znt ?_
 refine wp_seq ?_
 refine zsr ?_
 refine zwv (iN .i64 0) ?_
 refine znt ?_
 refine wp_block ?_
 refine wp_count (fun i A w' => ∃ u1 : Nat → Value, A = ⟨(.slice o ps.length c :: un :: .slice none 0 0 :: .string ({ data := #[] }) :: u1 4 :: .string (txw ps i) :: iN .i64 i :: u1 7 :: u1 8 :: u1 9 :: u1 10 :: u1 11 :: u1 12 :: u1 13 :: u1 14 :: u1 15 :: u1 16 :: u1 17 :: u1 18 :: u1 19 :: u1 20 :: u1 21 :: u1 22 :: u1 23 :: u1 24 :: u1 25 :: u1 26 :: u1 27 :: u1 28 :: u1 29 :: List.replicate 2 un).toArray, []⟩ ∧ ∃ Lr, Row 9 1 (u1 4) i ((txl ps i).map Value.string) Lr ∧ HA (bs w) Lr w') 6 ?_ ?_ ?_
 ·exact ⟨lku (fun _ => undef) [(4, .slice none 0 0)], by kernel_rfl, ⟨[], by exact Row.nil 9 1, H0⟩⟩
 ·rintro i hk _ w2 ⟨u1, rfl, ⟨Lr, hR, hA⟩⟩
  obtain ⟨pa, rfl, hp1, hp2⟩ := hp i (by omega)
  have hpa : ∀ j v, (#[Value.int .i64 (ps.getD i (0, ByteArray.empty)).1, Value.string (ps.getD i (0, ByteArray.empty)).2] : Array Value)[j]? = some v → w.cell? ((pa.add (i * 2)).add j) = some v := by
   intro j v hv
   rw [Addr.add_addr]
   match j, hv with
   | 0, hv => cases hv; exact hp1
   | 1, hv => cases hv; exact hp2
  refine wp_seq ?_
  refine zsr ?_
  refine zwv (iN .i64 i) ?_
  refine zwv (.slice (some pa) ps.length c) ?_
  refine zwv (iN .i64 ps.length) ?_
  refine zwu (run_lss (k := .i64) (a := i) (b := ps.length) true (decide_eq_true (by omega))) ?_
  refine zwv (.bool true) ?_
  refine zwv (iN .i64 i) ?_
  refine zwu (run_lss (k := .i64) (a := i) (b := 6) true (decide_eq_true (by omega))) ?_
  refine zwv (.bool true) ?_
  refine znt ?_
  refine zct ?_
  refine wp_skip ?_
  refine then_at rfl ?_
  refine wp_seq ?_
  refine wp_block ?_
  refine zsr ?_
  refine zwv (.slice (some pa) ps.length c) ?_
  refine zwv (iN .i64 i) ?_
  refine zwu (v := .pointer (some (pa.add (i * 2)))) (run_addrg (a := pa) (n := ps.length) (m := c) (i := i) (sz := 2) Try.underlying51 Try.sizeOf98 (by omega)) ?_
  refine zwu (v := .agg #[.int .i64 (ps.getD i (0, ByteArray.empty)).1, .string (ps.getD i (0, ByteArray.empty)).2]) (run_loadg (a := (pa.add (i * 2))) (c := #[.int .i64 (ps.getD i (0, ByteArray.empty)).1, .string (ps.getD i (0, ByteArray.empty)).2]) (by kernel_rfl) (fun j v hv => got hA.old.old (hpa j v hv)) Try.underlying98 rfl (by kernel_rfl)) ?_
  refine zwc hA enter47 (text_any (ps.getD i (0, ByteArray.empty)).1 (ps.getD i (0, ByteArray.empty)).2 w2) ?_
  intro w3 h4
  refine zwv (.string (tx ps i)) ?_
  refine znt ?_
  refine zsr ?_
  refine zwv (u1 4) ?_
  refine zwv (.string (tx ps i)) ?_
  refine wl_mks (n := 1) (m := 1) (c := #[.string (tx ps i)]) h4 9 ?_
  intro q5 w6 (h7 : HA (bs w) ((q5, 9, #[.string (tx ps i)]) :: Lr) w6)
  refine wl_append (m := 1) (c := 1) (Lr := Lr) (L := []) hR (by rw [List.append_nil]; exact h7) _ 16 Try.underlying48 info9 rfl rfl (by unfold maxLen; omega) (by omega) ?_
  intro v2 w8 Lr2 hR2 h9
  rw [List.append_nil] at h9
  have h10 : HA (bs w) Lr2 w8 := h9
  have hR3 : Row 9 1 v2 (i + 1) ((txl ps (i + 1)).map Value.string) Lr2 := by rw [txl, List.map_append]; exact hR2
  refine zwv (v2) ?_
  refine znt ?_
  refine wl_region ?_
  refine zwv (.string (txw ps i)) ?_
  refine zwv (.string (tx ps i)) ?_
  refine zwu (v := .string ((txw ps i) ++ (tx ps i))) (run_cat (s := txw ps i) (t := tx ps i) (by have := txw_size ps i; have := pcS_size (ps.getD i (0, ByteArray.empty)).1 (ps.getD i (0, ByteArray.empty)).2; unfold tx; omega)) ?_
  refine zwv (.string ((txw ps i) ++ (tx ps i))) ?_
  refine wl_nil ?_
  refine block_normal ?_
  refine then_at rfl ?_
  refine wl_region ?_
  refine zwv (iN .i64 i) ?_
  refine zwu (run_add (k := .i64) (a := i) (b := 1) (by simp only [top]; omega)) ?_
  refine zwv (iN .i64 (i + 1)) ?_
  refine wl_nil ?_
  exact then_I ⟨lku (fun _ => undef) [(4, v2), (7, .string (tx ps i)), (8, iN .i64 i), (9, .slice (some pa) ps.length c), (10, iN .i64 ps.length), (11, .bool true), (12, .bool true), (13, iN .i64 i), (14, .bool true), (15, .bool true), (16, iN .i64 i), (17, iN .i64 (i + 1)), (18, .slice (some pa) ps.length c), (19, iN .i64 i), (20, .pointer (some (pa.add (i * 2)))), (21, .agg #[.int .i64 (ps.getD i (0, ByteArray.empty)).1, .string (ps.getD i (0, ByteArray.empty)).2]), (22, .string (tx ps i)), (23, u1 4), (24, .string (tx ps i)), (25, .slice (some ⟨q5, 0, none⟩) 1 1), (26, v2), (27, .string (txw ps i)), (28, .string (tx ps i)), (29, .string ((txw ps i) ++ (tx ps i)))], by kernel_rfl, ⟨Lr2, by exact hR3, h10⟩⟩
 ·rintro _ w11 ⟨u1, rfl, ⟨Lr, hR, hA⟩⟩
  refine wp_seq ?_
  refine zsr ?_
  refine zwv (iN .i64 6) ?_
  refine zwv (.slice o ps.length c) ?_
  refine zwv (iN .i64 ps.length) ?_
  refine zwu (run_lss (k := .i64) (a := 6) (b := ps.length) true (decide_eq_true (by omega))) ?_
  refine zwv (.bool true) ?_
  refine zwv (iN .i64 6) ?_
  refine zwu (run_lss (k := .i64) (a := 6) (b := 6) false (by decide)) ?_
  refine zwv (.bool false) ?_
  refine znt ?_
  refine zcf ?_
  refine wp_exit ?_
  repeat first | refine then_exit ?_ | refine block_exit ?_ | refine block_exit_ne (by decide) ?_
  refine then_at rfl ?_
  refine zsr ?_
  refine zwv (u1 4) ?_
  refine zwv (.string (txw ps 6)) ?_
  refine zwv (u1 4) ?_
  refine zwv (.string (txw ps 6)) ?_
  refine znt ?_
  refine wp_ret ?_
  repeat first | refine then_ret ?_ | refine block_ret ?_
  exact bodyPost_ret (v := .tuple #[u1 4, .string (txw ps 6)]) (by kernel_rfl) rfl ⟨_, Lr, rfl, hR, HA.newer (L := []) hA, hA.old.old⟩
theorem texts_any {w : World} (ps : List (Int × ByteArray)) (o : Option Addr) (c : Nat) (hp : PcA w o ps) (hpl : ps.length ≤ 9223372036854775807) :
  Calls Try.prog 21 #[.slice o ps.length c] w fun e w' => ∃ v Lr, e = .returned (.tuple #[v, .string (txw ps (min ps.length 6))]) ∧ Row 9 1 v (txl ps (min ps.length 6)).length ((txl ps (min ps.length 6)).map Value.string) Lr ∧ Newer w.heap.size w' Lr ∧ Below w.heap.size w w' := by
 rcases Nat.lt_or_ge 6 ps.length with hm | hm
 ·rw [show min ps.length 6 = 6 by omega, txl_len]
  exact texts_b ps o c hp hpl hm
 ·rw [show min ps.length 6 = ps.length by omega, txl_len]
  exact texts_a ps o c hp hpl hm
end Go.Proofs.Ytihfeoanognonaa

namespace Go.Proofs.Ytihfeoanognonaa
set_option linter.unusedVariables false
set_option maxRecDepth 100000
set_option maxHeartbeats 2000000
open Go.RowKit
theorem run_nez {ρ : Operand → Value} {x y : Operand} {w : World} {dst : Option Tmp} {T T2 ty : TypeId} {pos : String} {aft : Array Edge} {gd : Option (Nat × Bool)} {P : Program} {z : Int} {b : Nat} (hx : ρ x = .int .i64 z) (hy : ρ y = iN .i64 b) (h : z ≠ b) : (execOp ρ ⟨dst, .binOp .neq T x y T2, ty, pos, aft, gd⟩).run P w = .ok (.value (.bool true)) w := by
 simp only [execOp, hx, hy, iN]
 simp [go_sem, h]
theorem iv_ps {es : List Ent} (h : Iv es) : (∀ q ∈ es.map trm, q.ps.length ≤ 1000) ∧ ∀ q ∈ es.map trm, q.k = 3 → q.ps.length = 1 := by
 have key : ∀ q ∈ es.map trm, q.ps.length ≤ 1000 ∧ (q.k = 3 → q.ps.length = 1) := fun q hq => by
  obtain ⟨e, he, rfl⟩ := List.mem_map.1 hq
  obtain ⟨i, hi, hx⟩ := List.getElem_of_mem he
  have hi' : es[i]? = some e := by rw [List.getElem?_eq_getElem hi, hx]
  cases e with
  | nm n => simp [trm]
  | dt s => simp [trm]
  | mk k n s ps b =>
   refine ⟨?_, fun h3 => ?_⟩
   ·have := h.wf.len i k n s ps b hi'
    simp only [trm]; omega
   ·simp only [trm] at h3 ⊢
    subst h3
    exact h.wf.one i n s ps b hi'
 exact ⟨fun q hq => (key q hq).1, fun q hq => (key q hq).2⟩
theorem rmk_a1 {w : World} {ov o : Option Addr} {cv c n : Nat} {l : List Q4} (z : Int) (label : ByteArray) (hc : cntB z n = false) :
  Calls Try.prog 28 #[.agg #[.slice ov l.length cv], .int .i64 z, .string label, .slice o n c] w fun e w' => e = .returned (.tuple #[.agg #[.slice ov l.length cv], .string { data := #[] }, iN .i64 2]) ∧ Below w.heap.size w w' := by
 have H0 := HA.start w
 go_enter Try.func28, Try.ntmps28
 refine zsr ?_
 refine wl_make (c := #[.slice ov l.length cv]) H0 26 ?_
 intro q1 w2 (h3 : HA (bs w) [(q1, 26, #[.slice ov l.length cv])] w2)
 refine wl_make (c := #[.slice none 0 0]) h3 26 ?_
 intro q4 w5 (h6 : HA (bs w) [(q4, 26, #[.slice none 0 0]), (q1, 26, #[.slice ov l.length cv])] w5)
 refine zwv (.string ({ data := #[] })) ?_
 refine zwv (iN .i64 0) ?_
 refine znt ?_
 refine wp_seq ?_
 refine zsr ?_
 refine zwv (.int .i64 z) ?_
 refine zwv (.slice o n c) ?_
 refine zwv (iN .i64 n) ?_
 refine wl_call (v := .bool false) h6 enter55 #[.int .i64 z, iN .i64 n] (by have := count_any z n w5; rw [hc] at this; exact this) ?_
 intro w7 h8
 refine zwv (.bool true) ?_
 refine zwv (.bool true) ?_
 refine wl_skip ?_
 refine wl_skip ?_
 refine wl_skip ?_
 refine wl_skip ?_
 refine wl_skip ?_
 refine wl_skip ?_
 refine zwv (.bool true) ?_
 refine znt ?_
 refine zct ?_
 refine zsr ?_
 refine wl_load h8 1 rfl Try.underlying26 rfl ?_
 refine wl_fill (c' := #[.slice ov l.length cv]) h8 0 rfl rfl ?_
 intro w9 (h10 : HA (bs w) [(q4, 26, #[.slice ov l.length cv]), (q1, 26, #[.slice ov l.length cv])] w9)
 refine zwv (.string ({ data := #[] })) ?_
 refine zwv (iN .i64 2) ?_
 refine znt ?_
 refine wp_ret ?_
 repeat first | refine then_ret ?_ | refine block_ret ?_
 exact bodyPost_ret (res_cell_tmp2 (p := 8) (r := 9) (r2 := 10) (by kernel_rfl) (by kernel_rfl) (by kernel_rfl) (by kernel_rfl) (h10.get 0 rfl) Try.underlying26 rfl (by kernel_rfl)) rfl ⟨rfl, h10.old.old⟩
theorem rmk_a2 {w : World} {ov o : Option Addr} {cv c n : Nat} {l : List Q4} (z : Int) (label : ByteArray) (hc : cntB z n = true) (hlb : ¬ label = { data := #[] }) (hz5 : z ≠ 5) :
  Calls Try.prog 28 #[.agg #[.slice ov l.length cv], .int .i64 z, .string label, .slice o n c] w fun e w' => e = .returned (.tuple #[.agg #[.slice ov l.length cv], .string { data := #[] }, iN .i64 2]) ∧ Below w.heap.size w w' := by
 have H0 := HA.start w
 go_enter Try.func28, Try.ntmps28
 refine zsr ?_
 refine wl_make (c := #[.slice ov l.length cv]) H0 26 ?_
 intro q1 w2 (h3 : HA (bs w) [(q1, 26, #[.slice ov l.length cv])] w2)
 refine wl_make (c := #[.slice none 0 0]) h3 26 ?_
 intro q4 w5 (h6 : HA (bs w) [(q4, 26, #[.slice none 0 0]), (q1, 26, #[.slice ov l.length cv])] w5)
 refine zwv (.string ({ data := #[] })) ?_
 refine zwv (iN .i64 0) ?_
 refine znt ?_
 refine wp_seq ?_
 refine zsr ?_
 refine zwv (.int .i64 z) ?_
 refine zwv (.slice o n c) ?_
 refine zwv (iN .i64 n) ?_
 refine wl_call (v := .bool true) h6 enter55 #[.int .i64 z, iN .i64 n] (by have := count_any z n w5; rw [hc] at this; exact this) ?_
 intro w7 h8
 refine zwv (.bool false) ?_
 refine zwv (.bool false) ?_
 refine zwv (.string label) ?_
 refine zwu (run_nes (s := label) (t := { data := #[] }) true (decide_eq_false hlb)) ?_
 refine zwv (.bool true) ?_
 refine zwv (.int .i64 z) ?_
 refine zwu (v := .bool true) (run_nez (z := z) (b := 5) (by kernel_rfl) (by kernel_rfl) hz5) ?_
 refine zwv (.bool true) ?_
 refine zwv (.bool true) ?_
 refine znt ?_
 refine zct ?_
 refine zsr ?_
 refine wl_load h8 1 rfl Try.underlying26 rfl ?_
 refine wl_fill (c' := #[.slice ov l.length cv]) h8 0 rfl rfl ?_
 intro w9 (h10 : HA (bs w) [(q4, 26, #[.slice ov l.length cv]), (q1, 26, #[.slice ov l.length cv])] w9)
 refine zwv (.string ({ data := #[] })) ?_
 refine zwv (iN .i64 2) ?_
 refine znt ?_
 refine wp_ret ?_
 repeat first | refine then_ret ?_ | refine block_ret ?_
 exact bodyPost_ret (res_cell_tmp2 (p := 8) (r := 9) (r2 := 10) (by kernel_rfl) (by kernel_rfl) (by kernel_rfl) (by kernel_rfl) (h10.get 0 rfl) Try.underlying26 rfl (by kernel_rfl)) rfl ⟨rfl, h10.old.old⟩
theorem rmake_arg {w : World} {v : Value} {l : List Q4} {RL : BL} (h : RTL v l RL) (z : Int) (label : ByteArray) (o : Option Addr) (n c : Nat) (hmb : mayB z label n = false) :
  Calls Try.prog 28 #[.agg #[v], .int .i64 z, .string label, .slice o n c] w fun e w' => e = .returned (.tuple #[.agg #[v], .string { data := #[] }, iN .i64 2]) ∧ Below w.heap.size w w' := by
 obtain ⟨ov, cv, rfl⟩ := h.form
 rw [mayB_cnt] at hmb
 cases hc : cntB z n with
 | false => exact rmk_a1 z label hc
 | true =>
  rw [hc, Bool.true_and, Bool.or_eq_false_iff] at hmb
  exact rmk_a2 z label hc (of_decide_eq_false hmb.1) (of_decide_eq_false hmb.2)
theorem rmake_ok {w : World} {v : Value} {l : List Q4} {RL : BL} (h : RTL v l RL) (hS : Stand w RL) (hl : ∀ q ∈ l, q.ps.length ≤ 1000) (hll : l.length ≤ 50000) (k : Nat) (label : ByteArray) (ss : List ByteArray) (o : Option Addr) (c : Nat) (hp : ss = [] ∨ ∃ pq cs, o = some ⟨pq, 0, none⟩ ∧ PreS cs ss ∧ Blk w pq 9 cs) (hsl : ss.length ≤ 100) (hlab : label.size ≤ 65536) (hss : ∀ i, (ss.getD i ByteArray.empty).size ≤ 65536) (hmb : mayB k label ss.length = true) (i3 : ∀ q ∈ rfL l ss ss.length, q.k = 3 → q.ps.length = 1) :
  Calls Try.prog 28 #[.agg #[v], iN .i64 k, .string label, .slice o ss.length c] w fun e w' => ∃ v' N, e = .returned (.tuple #[.agg #[v'], .string (txt (putN (rfL l ss ss.length) (rmX (rfL l ss ss.length) k label (rfN l ss ss.length)))), iN .i64 0]) ∧ RTL v' (putL (rfL l ss ss.length) (rmX (rfL l ss ss.length) k label (rfN l ss ss.length))) (N ++ RL) ∧ Newer w.heap.size w' N ∧ Below w.heap.size w w' := by
 obtain ⟨ov, cv, rfl⟩ := h.form
 have hmb' := hmb
 rw [mayB_cnt, Bool.and_eq_true, Bool.or_eq_true] at hmb
 by_cases h4 : k = 4
 ·have h5 : label = { data := #[] } := by
   rcases hmb.2 with h | h
   ·exact of_decide_eq_true h
   ·have := of_decide_eq_true h; omega
  have h2 : ss.length = 2 := by
   subst h4
   have : mayB (4 : Int) label ss.length = true := hmb'
   simp only [mayB] at this
   simp at this
   exact this.2
  have hj : (rfN l ss ss.length).getD 1 0 < (rfL l ss ss.length).length := getD_mem_lt (rfN_lt l ss ss.length) (by rw [rfN_len, h2]; decide)
  by_cases hq : ((rfL l ss ss.length)[(rfN l ss ss.length).getD 1 0]).k = 3
  ·exact rmk_p h hS hl hll k label ss o c hp hsl hlab hss hmb.1 h4 h2 h5 (fun _ => hq) i3
  ·exact rmk_q h hS hl hll k label ss o c hp hsl hlab hss hmb.1 h4 h2 h5 (fun _ => hq)
 ·by_cases h5 : label = { data := #[] }
  ·exact rmk_e h hS hl hll k label ss o c hp hsl hlab hss hmb.1 h5 h4
  ·rcases hmb.2 with h | h
   ·exact absurd (of_decide_eq_true h) h5
   ·exact rmk_n (by assumption) hS hl hll k label ss o c hp hsl hlab hss hmb.1 h5 (by have := of_decide_eq_true h; omega)
end Go.Proofs.Ytihfeoanognonaa
