/-
 Pieces and their texts (the law's).
-/
import Derived.Test.YtihfeoanognonaaGreatT42
namespace Go.Proofs.YtihfeoanognonaaGreat
set_option linter.unusedVariables false
set_option maxRecDepth 100000
set_option maxHeartbeats 2000000
open Go.RowKit
theorem Addr.add_addr (a : Addr) (m n : Nat) : (a.add m).add n = a.add (m + n) := by
 unfold Addr.add
 by_cases h1 : m = 0
 ·subst h1; simp
 ·by_cases h2 : n = 0
  ·subst h2; simp [h1]
  ·rw [if_neg h2, if_neg h1, if_neg (by omega)]; simp [Nat.add_assoc]
theorem cell_lt {w : World} {a : Addr} {v : Value} (h : w.cell? a = some v) : a.block < w.heap.size := by
 rcases Nat.lt_or_ge a.block w.heap.size with h' | h'
 ·exact h'
 ·unfold World.cell? at h
  simp [Array.getElem?_eq_none h'] at h
theorem got {w w' : World} {a : Addr} {v : Value} (hb : Below w.heap.size w w') (h : w.cell? a = some v) : w'.cell? a = some v := (hb.cell (cell_lt h)).trans h
def PcA (w : World) (o : Option Addr) (ps : List (Int × ByteArray)) : Prop :=
 ∀ i, i < ps.length → ∃ a, o = some a ∧ w.cell? (a.add (i * 2)) = some (.int .i64 (ps.getD i (0, ByteArray.empty)).1) ∧ w.cell? (a.add (i * 2 + 1)) = some (.string (ps.getD i (0, ByteArray.empty)).2)
theorem PcA.keep {w w' : World} {o : Option Addr} {ps : List (Int × ByteArray)} (h : PcA w o ps) (hb : Below w.heap.size w w') : PcA w' o ps := fun i hi => by
 obtain ⟨a, h1, h2, h3⟩ := h i hi
 exact ⟨a, h1, got hb h2, got hb h3⟩
def tx (ps : List (Int × ByteArray)) (i : Nat) : ByteArray := pcS (ps.getD i (0, ByteArray.empty)).1 (ps.getD i (0, ByteArray.empty)).2
def txl (ps : List (Int × ByteArray)) : Nat → List ByteArray
 | 0 => []
 | k + 1 => txl ps k ++ [tx ps k]
def txw (ps : List (Int × ByteArray)) : Nat → ByteArray
 | 0 => { data := #[] }
 | k + 1 => txw ps k ++ tx ps k
theorem txl_len (ps : List (Int × ByteArray)) : ∀ k, (txl ps k).length = k
 | 0 => rfl
 | k + 1 => by simp [txl, txl_len ps k]
theorem txw_size (ps : List (Int × ByteArray)) : ∀ k, (txw ps k).size ≤ 60 * k
 | 0 => Nat.le_refl _
 | k + 1 => by
  have := txw_size ps k
  have := pcS_size (ps.getD k (0, ByteArray.empty)).1 (ps.getD k (0, ByteArray.empty)).2
  rw [txw, ByteArray.size_append]
  unfold tx
  omega
theorem txl_size (ps : List (Int × ByteArray)) : ∀ k, ∀ s ∈ txl ps k, s.size ≤ 60
 | 0, s, h => by cases h
 | k + 1, s, h => by
  rcases List.mem_append.1 h with h | h
  ·exact txl_size ps k s h
  ·rw [List.mem_singleton.1 h]; exact pcS_size _ _
section
variable {ρ : Operand → Value} {x y : Operand} {w : World} {dst : Option Tmp} {T e ty : TypeId} {pos : String} {aft : Array Edge} {gd : Option (Nat × Bool)}
theorem run_addrg {a : Addr} {n m i sz : Nat} (hT : Tryz.prog.underlying T = some (.slice e)) (hs : ∀ w, (sizeOf e).run Tryz.prog w = .ok sz w) (hx : ρ x = .slice (some a) n m) (hy : ρ y = iN .i64 i) (hi : i < n) : (execOp ρ ⟨dst, .indexAddr T x y, ty, pos, aft, gd⟩).run Tryz.prog w = .ok (.value (.pointer (some (a.add (i * sz))))) w := by
 simp only [execOp, hx, hy, iN]
 simp [go_sem, hT, hs, hi]
theorem run_loadg {a : Addr} {c : Array Value} {D : TypeDesc} (hx : ρ x = .pointer (some a)) (hc : ∀ j v, c[j]? = some v → w.cell? (a.add j) = some v) (hu : Tryz.prog.underlying T = some D) (hd : D.isRow = true) (hi : (Tryz.prog.info? T).map (·.size) = some c.size) :
  (execOp ρ ⟨dst, .load T x, ty, pos, aft, gd⟩).run Tryz.prog w = .ok (.value (.agg c)) w := by
 have hl : (loadCells a c.toList.length).run Tryz.prog w = .ok c.toList.toArray w := run_loadCells_list (P := Tryz.prog) w a c.toList (fun j v hv => hc j v (by rw [← Array.getElem?_toList]; exact hv))
 cases hq : Tryz.prog.info? T with
 | none => simp [hq] at hi
 | some i =>
  have hs : i.size = c.toList.length := by simpa [hq] using hi
  have hagg : (isAgg T).run Tryz.prog w = .ok true w := by
   unfold isAgg
   rw [Sem.run_bind, run_underlying hu w]
   cases D <;> simp_all
  have hload : (loadVar T a).run Tryz.prog w = .ok (.agg c) w := by
   rw [Array.length_toList] at hl hs
   simp [loadVar, Sem.run_bind, hagg, sizeOf, typeInfo, hq, hs, hl]
  simp only [execOp, hx, Instr.loadAt, Instr.sureAddr, Sem.run_bind, Sem.run_pure, Result.andThen_ok, hload]
end
theorem Row.pre {v : Value} {ss : List ByteArray} {Lr : BL} (h : Row 9 1 v ss.length (ss.map Value.string) Lr) : ∃ o c, v = .slice o ss.length c ∧ (ss = [] ∨ ∃ pq cs, o = some ⟨pq, 0, none⟩ ∧ PreS cs ss ∧ (pq, 9, cs) ∈ Lr) := by
 rcases h.2 with ⟨h1, h2, h3⟩ | ⟨g, cap, cur, h1, h2, h3, h4, h5, h6⟩
 ·exact ⟨none, 0, by rw [h1, h2], .inl (List.length_eq_zero_iff.1 h2)⟩
 ·refine ⟨_, _, h1, .inr ⟨g, cur, rfl, fun j hj => ?_, by rw [h2]; simp⟩⟩
  have : (cur.toList.take (ss.length * 1))[j]? = some (.string (ss.getD j ByteArray.empty)) := by rw [h6, List.getElem?_map]; simp [hj]
  rw [List.getElem?_take, if_pos (by omega)] at this
  simpa using this
theorem info9 : (Tryz.prog.info? 9).map (fun i => (i.zero, i.size, i.bytes)) = some (some (.string ByteArray.empty), 1, 16) := by kernel_rfl
theorem texts_a {w : World} (ps : List (Int × ByteArray)) (o : Option Addr) (c : Nat) (hp : PcA w o ps) (hpl : ps.length ≤ 9223372036854775807) (hm : ps.length ≤ 6) :
  Calls Tryz.prog 5 #[.slice o ps.length c] w fun e w' => ∃ v Lr, e = .returned (.tuple #[v, .string (txw ps ps.length)]) ∧ Row 9 1 v ps.length ((txl ps ps.length).map Value.string) Lr ∧ Newer w.heap.size w' Lr ∧ Below w.heap.size w w' := by
 have H0 := HA.start w
 go_enter Tryz.func5, Tryz.ntmps5
 refine zsr ?_
 refine zwv (.slice none 0 0) ?_
 refine zwv (.string ({ data := #[] })) ?_
 refine znt ?_
 refine zsr ?_
 refine zwv (.slice none 0 0) ?_
 refine znt ?_
 refine zsr ?_
 refine zwv (.string ({ data := #[] })) ?_
 refine znt ?_
 refine wp_seq ?_
 refine zsr ?_
 refine zwv (iN .i64 0) ?_
 refine znt ?_
 refine wp_block ?_
 refine wp_count (fun i A w' => ∃ u1 : Nat → Value, A = ⟨(.slice o ps.length c :: un :: .slice none 0 0 :: .string ({ data := #[] }) :: u1 4 :: .string (txw ps i) :: iN .i64 i :: u1 7 :: u1 8 :: u1 9 :: u1 10 :: u1 11 :: u1 12 :: u1 13 :: u1 14 :: u1 15 :: u1 16 :: u1 17 :: u1 18 :: u1 19 :: u1 20 :: u1 21 :: u1 22 :: u1 23 :: u1 24 :: u1 25 :: u1 26 :: u1 27 :: u1 28 :: u1 29 :: List.replicate 2 un).toArray, []⟩ ∧ ∃ Lr, Row 9 1 (u1 4) i ((txl ps i).map Value.string) Lr ∧ HA (bs w) Lr w') ps.length ?_ ?_ ?_
 ·exact ⟨lku (fun _ => undef) [(4, .slice none 0 0)], by kernel_rfl, ⟨[], by exact Row.nil 9 1, H0⟩⟩
 ·rintro i hk _ w2 ⟨u1, rfl, ⟨Lr, hR, hA⟩⟩
  obtain ⟨pa, rfl, hp1, hp2⟩ := hp i (by omega)
  have hpa : ∀ j v, (#[Value.int .i64 (ps.getD i (0, ByteArray.empty)).1, Value.string (ps.getD i (0, ByteArray.empty)).2] : Array Value)[j]? = some v → w.cell? ((pa.add (i * 2)).add j) = some v := by
   intro j v hv
   rw [Addr.add_addr]
   match j, hv with
   | 0, hv => cases hv; exact hp1
   | 1, hv => cases hv; exact hp2
  refine wp_seq ?_
  refine zsr ?_
  refine zwv (iN .i64 i) ?_
  refine zwv (.slice (some pa) ps.length c) ?_
  refine zwv (iN .i64 ps.length) ?_
  refine zwu (run_lss (k := .i64) (a := i) (b := ps.length) true (decide_eq_true (by omega))) ?_
  refine zwv (.bool true) ?_
  refine zwv (iN .i64 i) ?_
  refine zwu (run_lss (k := .i64) (a := i) (b := 6) true (decide_eq_true (by omega))) ?_
  refine zwv (.bool true) ?_
  refine znt ?_
  refine zct ?_
  refine wp_skip ?_
  refine then_at rfl ?_
  refine wp_seq ?_
  refine wp_block ?_
  refine zsr ?_
  refine zwv (.slice (some pa) ps.length c) ?_
  refine zwv (iN .i64 i) ?_
  refine zwu (v := .pointer (some (pa.add (i * 2)))) (run_addrg (a := pa) (n := ps.length) (m := c) (i := i) (sz := 2) Tryz.underlying23 Tryz.sizeOf54 (by kernel_rfl) (by kernel_rfl) (by omega)) ?_
  refine zwu (v := .agg #[.int .i64 (ps.getD i (0, ByteArray.empty)).1, .string (ps.getD i (0, ByteArray.empty)).2]) (run_loadg (a := (pa.add (i * 2))) (c := #[.int .i64 (ps.getD i (0, ByteArray.empty)).1, .string (ps.getD i (0, ByteArray.empty)).2]) (by kernel_rfl) (fun j v hv => got hA.old.old (hpa j v hv)) Tryz.underlying54 rfl (by kernel_rfl)) ?_
  refine zwc hA enter17 (text_any (ps.getD i (0, ByteArray.empty)).1 (ps.getD i (0, ByteArray.empty)).2 w2) ?_
  intro w3 h4
  refine zwv (.string (tx ps i)) ?_
  refine znt ?_
  refine zsr ?_
  refine zwv (u1 4) ?_
  refine zwv (.string (tx ps i)) ?_
  refine wl_mks (n := 1) (m := 1) (c := #[.string (tx ps i)]) h4 9 ?_
  intro q5 w6 (h7 : HA (bs w) ((q5, 9, #[.string (tx ps i)]) :: Lr) w6)
  refine wl_append (m := 1) (c := 1) (Lr := Lr) (L := []) hR (by rw [List.append_nil]; exact h7) _ 16 Tryz.underlying30 info9 rfl rfl (by unfold maxLen; omega) (by omega) ?_
  intro v2 w8 Lr2 hR2 h9
  rw [List.append_nil] at h9
  have h10 : HA (bs w) Lr2 w8 := h9
  have hR3 : Row 9 1 v2 (i + 1) ((txl ps (i + 1)).map Value.string) Lr2 := by rw [txl, List.map_append]; exact hR2
  refine zwv (v2) ?_
  refine znt ?_
  refine wl_region ?_
  refine zwv (.string (txw ps i)) ?_
  refine zwv (.string (tx ps i)) ?_
  refine zwu (v := .string ((txw ps i) ++ (tx ps i))) (run_cat (s := txw ps i) (t := tx ps i) (by have := txw_size ps i; have := pcS_size (ps.getD i (0, ByteArray.empty)).1 (ps.getD i (0, ByteArray.empty)).2; unfold tx; omega)) ?_
  refine zwv (.string ((txw ps i) ++ (tx ps i))) ?_
  refine wl_nil ?_
  refine block_normal ?_
  refine then_at rfl ?_
  refine wl_region ?_
  refine zwv (iN .i64 i) ?_
  refine zwu (run_add (k := .i64) (a := i) (b := 1) (by simp only [top]; omega)) ?_
  refine zwv (iN .i64 (i + 1)) ?_
  refine wl_nil ?_
  exact then_I ⟨lku (fun _ => undef) [(4, v2), (7, .string (tx ps i)), (8, iN .i64 i), (9, .slice (some pa) ps.length c), (10, iN .i64 ps.length), (11, .bool true), (12, .bool true), (13, iN .i64 i), (14, .bool true), (15, .bool true), (16, iN .i64 i), (17, iN .i64 (i + 1)), (18, .slice (some pa) ps.length c), (19, iN .i64 i), (20, .pointer (some (pa.add (i * 2)))), (21, .agg #[.int .i64 (ps.getD i (0, ByteArray.empty)).1, .string (ps.getD i (0, ByteArray.empty)).2]), (22, .string (tx ps i)), (23, u1 4), (24, .string (tx ps i)), (25, .slice (some ⟨q5, 0, none⟩) 1 1), (26, v2), (27, .string (txw ps i)), (28, .string (tx ps i)), (29, .string ((txw ps i) ++ (tx ps i)))], by kernel_rfl, ⟨Lr2, by exact hR3, h10⟩⟩
 ·rintro _ w11 ⟨u1, rfl, ⟨Lr, hR, hA⟩⟩
  refine wp_seq ?_
  refine zsr ?_
  refine zwv (iN .i64 ps.length) ?_
  refine zwv (.slice o ps.length c) ?_
  refine zwv (iN .i64 ps.length) ?_
  refine zwu (run_lss (k := .i64) (a := ps.length) (b := ps.length) false (decide_eq_false (by omega))) ?_
  refine zwv (.bool false) ?_
  refine wl_skip ?_
  refine wl_skip ?_
  refine zwv (.bool false) ?_
  refine znt ?_
  refine zcf ?_
  refine wp_exit ?_
  repeat first | refine then_exit ?_ | refine block_exit ?_ | refine block_exit_ne (by decide) ?_
  refine then_at rfl ?_
  refine zsr ?_
  refine zwv (u1 4) ?_
  refine zwv (.string (txw ps ps.length)) ?_
  refine zwv (u1 4) ?_
  refine zwv (.string (txw ps ps.length)) ?_
  refine znt ?_
  refine wp_ret ?_
  repeat first | refine then_ret ?_ | refine block_ret ?_
  exact bodyPost_ret (v := .tuple #[u1 4, .string (txw ps ps.length)]) (by kernel_rfl) rfl ⟨_, Lr, rfl, hR, HA.newer (L := []) hA, hA.old.old⟩
theorem texts_b {w : World} (ps : List (Int × ByteArray)) (o : Option Addr) (c : Nat) (hp : PcA w o ps) (hpl : ps.length ≤ 9223372036854775807) (hm : 6 < ps.length) :
  Calls Tryz.prog 5 #[.slice o ps.length c] w fun e w' => ∃ v Lr, e = .returned (.tuple #[v, .string (txw ps 6)]) ∧ Row 9 1 v 6 ((txl ps 6).map Value.string) Lr ∧ Newer w.heap.size w' Lr ∧ Below w.heap.size w w' := by
 have H0 := HA.start w
 go_enter Tryz.func5, Tryz.ntmps5
 refine zsr ?_
 refine zwv (.slice none 0 0) ?_
 refine zwv (.string ({ data := #[] })) ?_
 refine znt ?_
 refine zsr ?_
 refine zwv (.slice none 0 0) ?_
 refine znt ?_
 refine zsr ?_
 refine zwv (.string ({ data := #[] })) ?_
 refine znt ?_
 refine wp_seq ?_
 refine zsr ?_
 refine zwv (iN .i64 0) ?_
 refine znt ?_
 refine wp_block ?_
 refine wp_count (fun i A w' => ∃ u1 : Nat → Value, A = ⟨(.slice o ps.length c :: un :: .slice none 0 0 :: .string ({ data := #[] }) :: u1 4 :: .string (txw ps i) :: iN .i64 i :: u1 7 :: u1 8 :: u1 9 :: u1 10 :: u1 11 :: u1 12 :: u1 13 :: u1 14 :: u1 15 :: u1 16 :: u1 17 :: u1 18 :: u1 19 :: u1 20 :: u1 21 :: u1 22 :: u1 23 :: u1 24 :: u1 25 :: u1 26 :: u1 27 :: u1 28 :: u1 29 :: List.replicate 2 un).toArray, []⟩ ∧ ∃ Lr, Row 9 1 (u1 4) i ((txl ps i).map Value.string) Lr ∧ HA (bs w) Lr w') 6 ?_ ?_ ?_
 ·exact ⟨lku (fun _ => undef) [(4, .slice none 0 0)], by kernel_rfl, ⟨[], by exact Row.nil 9 1, H0⟩⟩
 ·rintro i hk _ w2 ⟨u1, rfl, ⟨Lr, hR, hA⟩⟩
  obtain ⟨pa, rfl, hp1, hp2⟩ := hp i (by omega)
  have hpa : ∀ j v, (#[Value.int .i64 (ps.getD i (0, ByteArray.empty)).1, Value.string (ps.getD i (0, ByteArray.empty)).2] : Array Value)[j]? = some v → w.cell? ((pa.add (i * 2)).add j) = some v := by
   intro j v hv
   rw [Addr.add_addr]
   match j, hv with
   | 0, hv => cases hv; exact hp1
   | 1, hv => cases hv; exact hp2
  refine wp_seq ?_
  refine zsr ?_
  refine zwv (iN .i64 i) ?_
  refine zwv (.slice (some pa) ps.length c) ?_
  refine zwv (iN .i64 ps.length) ?_
  refine zwu (run_lss (k := .i64) (a := i) (b := ps.length) true (decide_eq_true (by omega))) ?_
  refine zwv (.bool true) ?_
  refine zwv (iN .i64 i) ?_
  refine zwu (run_lss (k := .i64) (a := i) (b := 6) true (decide_eq_true (by omega))) ?_
  refine zwv (.bool true) ?_
  refine znt ?_
  refine zct ?_
  refine wp_skip ?_
  refine then_at rfl ?_
  refine wp_seq ?_
  refine wp_block ?_
  refine zsr ?_
  refine zwv (.slice (some pa) ps.length c) ?_
  refine zwv (iN .i64 i) ?_
  refine zwu (v := .pointer (some (pa.add (i * 2)))) (run_addrg (a := pa) (n := ps.length) (m := c) (i := i) (sz := 2) Tryz.underlying23 Tryz.sizeOf54 (by kernel_rfl) (by kernel_rfl) (by omega)) ?_
  refine zwu (v := .agg #[.int .i64 (ps.getD i (0, ByteArray.empty)).1, .string (ps.getD i (0, ByteArray.empty)).2]) (run_loadg (a := (pa.add (i * 2))) (c := #[.int .i64 (ps.getD i (0, ByteArray.empty)).1, .string (ps.getD i (0, ByteArray.empty)).2]) (by kernel_rfl) (fun j v hv => got hA.old.old (hpa j v hv)) Tryz.underlying54 rfl (by kernel_rfl)) ?_
  refine zwc hA enter17 (text_any (ps.getD i (0, ByteArray.empty)).1 (ps.getD i (0, ByteArray.empty)).2 w2) ?_
  intro w3 h4
  refine zwv (.string (tx ps i)) ?_
  refine znt ?_
  refine zsr ?_
  refine zwv (u1 4) ?_
  refine zwv (.string (tx ps i)) ?_
  refine wl_mks (n := 1) (m := 1) (c := #[.string (tx ps i)]) h4 9 ?_
  intro q5 w6 (h7 : HA (bs w) ((q5, 9, #[.string (tx ps i)]) :: Lr) w6)
  refine wl_append (m := 1) (c := 1) (Lr := Lr) (L := []) hR (by rw [List.append_nil]; exact h7) _ 16 Tryz.underlying30 info9 rfl rfl (by unfold maxLen; omega) (by omega) ?_
  intro v2 w8 Lr2 hR2 h9
  rw [List.append_nil] at h9
  have h10 : HA (bs w) Lr2 w8 := h9
  have hR3 : Row 9 1 v2 (i + 1) ((txl ps (i + 1)).map Value.string) Lr2 := by rw [txl, List.map_append]; exact hR2
  refine zwv (v2) ?_
  refine znt ?_
  refine wl_region ?_
  refine zwv (.string (txw ps i)) ?_
  refine zwv (.string (tx ps i)) ?_
  refine zwu (v := .string ((txw ps i) ++ (tx ps i))) (run_cat (s := txw ps i) (t := tx ps i) (by have := txw_size ps i; have := pcS_size (ps.getD i (0, ByteArray.empty)).1 (ps.getD i (0, ByteArray.empty)).2; unfold tx; omega)) ?_
  refine zwv (.string ((txw ps i) ++ (tx ps i))) ?_
  refine wl_nil ?_
  refine block_normal ?_
  refine then_at rfl ?_
  refine wl_region ?_
  refine zwv (iN .i64 i) ?_
  refine zwu (run_add (k := .i64) (a := i) (b := 1) (by simp only [top]; omega)) ?_
  refine zwv (iN .i64 (i + 1)) ?_
  refine wl_nil ?_
  exact then_I ⟨lku (fun _ => undef) [(4, v2), (7, .string (tx ps i)), (8, iN .i64 i), (9, .slice (some pa) ps.length c), (10, iN .i64 ps.length), (11, .bool true), (12, .bool true), (13, iN .i64 i), (14, .bool true), (15, .bool true), (16, iN .i64 i), (17, iN .i64 (i + 1)), (18, .slice (some pa) ps.length c), (19, iN .i64 i), (20, .pointer (some (pa.add (i * 2)))), (21, .agg #[.int .i64 (ps.getD i (0, ByteArray.empty)).1, .string (ps.getD i (0, ByteArray.empty)).2]), (22, .string (tx ps i)), (23, u1 4), (24, .string (tx ps i)), (25, .slice (some ⟨q5, 0, none⟩) 1 1), (26, v2), (27, .string (txw ps i)), (28, .string (tx ps i)), (29, .string ((txw ps i) ++ (tx ps i)))], by kernel_rfl, ⟨Lr2, by exact hR3, h10⟩⟩
 ·rintro _ w11 ⟨u1, rfl, ⟨Lr, hR, hA⟩⟩
  refine wp_seq ?_
  refine zsr ?_
  refine zwv (iN .i64 6) ?_
  refine zwv (.slice o ps.length c) ?_
  refine zwv (iN .i64 ps.length) ?_
  refine zwu (run_lss (k := .i64) (a := 6) (b := ps.length) true (decide_eq_true (by omega))) ?_
  refine zwv (.bool true) ?_
  refine zwv (iN .i64 6) ?_
  refine zwu (run_lss (k := .i64) (a := 6) (b := 6) false (by decide)) ?_
  refine zwv (.bool false) ?_
  refine znt ?_
  refine zcf ?_
  refine wp_exit ?_
  repeat first | refine then_exit ?_ | refine block_exit ?_ | refine block_exit_ne (by decide) ?_
  refine then_at rfl ?_
  refine zsr ?_
  refine zwv (u1 4) ?_
  refine zwv (.string (txw ps 6)) ?_
  refine zwv (u1 4) ?_
  refine zwv (.string (txw ps 6)) ?_
  refine znt ?_
  refine wp_ret ?_
  repeat first | refine then_ret ?_ | refine block_ret ?_
  exact bodyPost_ret (v := .tuple #[u1 4, .string (txw ps 6)]) (by kernel_rfl) rfl ⟨_, Lr, rfl, hR, HA.newer (L := []) hA, hA.old.old⟩
theorem texts_any {w : World} (ps : List (Int × ByteArray)) (o : Option Addr) (c : Nat) (hp : PcA w o ps) (hpl : ps.length ≤ 9223372036854775807) :
  Calls Tryz.prog 5 #[.slice o ps.length c] w fun e w' => ∃ v Lr, e = .returned (.tuple #[v, .string (txw ps (min ps.length 6))]) ∧ Row 9 1 v (txl ps (min ps.length 6)).length ((txl ps (min ps.length 6)).map Value.string) Lr ∧ Newer w.heap.size w' Lr ∧ Below w.heap.size w w' := by
 rcases Nat.lt_or_ge 6 ps.length with hm | hm
 ·rw [show min ps.length 6 = 6 by omega, txl_len]
  exact texts_b ps o c hp hpl hm
 ·rw [show min ps.length 6 = ps.length by omega, txl_len]
  exact texts_a ps o c hp hpl hm
end Go.Proofs.YtihfeoanognonaaGreat
