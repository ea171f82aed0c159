/-
 StoreOrder.
-/
import Derived.Test.YtckmlaempffpjaaSOm
import Derived.Test.YtckmlaempffpjaaS25
import Derived.Laws.Cover1
import Derived.Sort.Walk0
namespace Go.Proofs.Ytckmlaempffpjaa
open Go.RowKit

/-- rows as they came in -/
def RwA (w : World) (o : Option Addr) (xs : List Rw) : Prop := ∀ i, i < xs.length → ∃ a, o = some a ∧ w.cell? ((a.add (i * 2)).add 0) = some (.string (xs.getD i ⟨eB, eB⟩).k) ∧ w.cell? ((a.add (i * 2)).add 1) = some (.string (xs.getD i ⟨eB, eB⟩).v) ∧ (xs.getD i ⟨eB, eB⟩).k.size ≤ 9223372036854775807 ∧ (xs.getD i ⟨eB, eB⟩).v.size ≤ 9223372036854775807
theorem pv_one {w0 : World} {L : BL} {a : Addr} {x : Rw} (h0 : w0.cell? (a.add 0) = some (.string x.k)) (h1 : w0.cell? (a.add 1) = some (.string x.v)) : PV w0 L (some a) [x] := fun M A w H i y hi => by
 match i, hi with
 | 0, hi =>
  cases hi
  exact ⟨a, rfl, cell_old H.old.old h0, cell_old H.old.old h1⟩
section
variable {ρ : Operand → Value} {x y z : Operand} {w : World} {dst : Option Tmp} {T e ty : TypeId} {pos : String} {aft : Array Edge} {gd : Option (Nat × Bool)}
theorem run_addrT {o : Option Addr} {a : Addr} {n m i sz : Nat} (ho : o = some a) (hT : Try.prog.underlying T = some (.slice e)) (hs : ∀ w, (sizeOf e).run Try.prog w = .ok sz w) (hx : ρ x = .slice o n m) (hy : ρ y = iN .i64 i) (hi : i < n) : (execOp ρ ⟨dst, .indexAddr T x y, ty, pos, aft, gd⟩).run Try.prog w = .ok (.value (.pointer (some (a.add (i * sz))))) w := by
 subst ho
 simp only [execOp, hx, hy, iN]
 simp [go_sem, hT, hs, hi]
theorem run_sl22 {a : Addr} {n cap i : Nat} (hx : ρ x = .slice (some a) n cap) (hz : ρ z = iN .i64 i) (hy : ρ y = iN .i64 (i + 1)) (hi : i + 1 ≤ cap) : (execOp ρ ⟨dst, .slice 22 x (some z) (some y) none, ty, pos, aft, gd⟩).run Try.prog w = .ok (.value (.slice (some (a.add (i * 2))) 1 (cap - i))) w := by
 have h1 : ¬ cap = i := by omega
 simp only [execOp, hx, iN] at hz hy ⊢
 simp [Instr.sliceAt, Instr.slice, Instr.sliceBounds, Instr.sliceBound, run_underlying Try.underlying22, Try.sizeOf32, hz, hy, asIntOf, h1]
 intro h
 have h9 := h (by omega)
 omega
theorem run_ges {s t : ByteArray} (hx : ρ x = .string s) (hy : ρ y = .string t) (b : Bool) (hb : (!decide (s.toList < t.toList)) = b) : (execOp ρ ⟨dst, .binOp .geq 9 x y 9, ty, pos, aft, gd⟩).run Try.prog w = .ok (.value (.bool b)) w := by
 subst hb
 simp only [execOp, hx, hy]
 simp [go_sem, bytesLess_eq]
end
theorem toL (l : List UInt8) : (⟨l.toArray⟩ : ByteArray).toList = l := by
 rw [ByteArray.toList_eq]
theorem nm_enc (ls : List (List UInt8)) : ls.map encStr = scl (ls.map fun b => (⟨b.toArray⟩ : ByteArray)) := by
 rw [scl, List.map_map]
 exact List.map_congr_left fun b _ => rfl
/-- a name out of a row of names -/
theorem nm_at {ls : List (List UInt8)} {Lr : BL} {p : Option Addr} {c n : Nat} {b : List UInt8} (h : Row 9 1 (.slice p ls.length c) ls.length (ls.map encStr) Lr) (hn : ls[n]? = some b) : ∃ a, p = some a ∧ ∀ w, (∀ y ∈ Lr, Blk w y.1 y.2.1 y.2.2) → w.cell? (a.add n) = some (.string ⟨b.toArray⟩) := by
 have h2 : Row 9 1 (.slice p (ls.map fun b => (⟨b.toArray⟩ : ByteArray)).length c) (ls.map fun b => (⟨b.toArray⟩ : ByteArray)).length (scl (ls.map fun b => (⟨b.toArray⟩ : ByteArray))) Lr := by rw [List.length_map, ← nm_enc]; exact h
 have hi : (ls.map fun b => (⟨b.toArray⟩ : ByteArray))[n]? = some ⟨b.toArray⟩ := by rw [List.getElem?_map, hn]; rfl
 cases p with
 | none =>
  rcases h.2 with ⟨e1, e2, _⟩ | ⟨g, cap, cur, e1, _⟩
  ·exfalso
   injection e1 with _ h0 _
   have := (List.getElem?_eq_some_iff.1 hn).1
   omega
  ·cases e1
 | some a =>
  refine ⟨a, rfl, fun w hw => ?_⟩
  obtain ⟨a', e, hc⟩ := Row.keys h2 hw n _ hi
  cases e
  exact hc
theorem pfx_iff (b : List UInt8) (p : ByteArray) : Lib.hasPrefix b (bl p) = (decide (p.size ≤ b.length) && decide ((⟨b.toArray⟩ : ByteArray).extract 0 p.size = p)) := by
 have h := Lib.hasPrefix_raw ⟨b.toArray⟩ p
 have e1 : (⟨b.toArray⟩ : ByteArray).size = b.length := by show b.toArray.size = _; simp
 have e2 : (⟨b.toArray⟩ : ByteArray).data.toList = b := by simp
 rw [e1, e2] at h
 show Lib.hasPrefix b p.data.toList = _
 rw [← h]
 congr 1
 rw [Bool.eq_iff_iff]
 simp only [beq_iff_eq, decide_eq_true_eq]
 constructor
 ·intro h9
  apply bl_inj
  rw [ByteArray.toList_eq, ByteArray.toList_eq] at h9
  exact h9
 ·intro h9; rw [h9]
theorem bz_of {s : ByteArray} (h : s.size = 0) : s = { data := #[] } := by
 apply bl_inj
 have : (bl s).length = 0 := by rw [bl_len]; exact h
 rw [List.length_eq_zero_iff.1 this]
 rfl
set_option linter.unusedVariables false in
set_option maxRecDepth 100000 in
set_option maxHeartbeats 4000000 in
theorem order_any (w : World) (xs : List Rw) (o : Option Addr) (c : Nat) (hA : RwA w o xs) (hln : xs.length ≤ 9223372036854775807) (hlc : xs.length ≤ c) (p : ByteArray) (hpl : p.size ≤ 9223372036854775807) :
  Calls Try.prog 3 #[.slice o xs.length c, .string p] w fun e w' => e = .returned (.bool true) ∧ Below w.heap.size w w' := by
 have H0 := HA.start w
 obtain ⟨ho1, hOr0⟩ := Or.new
 go_enter Try.func3, Try.ntmps3
 refine wp_seq ?_
 refine wl_region ?_
 refine wl_val (.bool false) (by kernel_rfl) (by kernel_rfl) ?_
 refine wl_nil ?_
 refine then_at rfl ?_
 refine wp_seq ?_
 refine wp_seq ?_
 refine wl_region ?_
 refine wl_call (v := .bool true) H0 (by kernel_rfl) enter4 #[] (by kernel_rfl) (works_any w) ?_
 intro w1 h2
 refine wl_val (.bool false) (by kernel_rfl) (by kernel_rfl) ?_
 refine wl_nil ?_
 refine then_at rfl ?_
 refine wp_cond_false (by kernel_rfl) ?_
 refine wp_skip ?_
 refine then_at rfl ?_
 refine wp_seq ?_
 refine wl_region ?_
 refine wl_callx (by kernel_rfl) enter6 #[iN .i64 268435456] (by kernel_rfl) (New_any 268435456 h2) ?_
 rintro _ w3 ⟨d, rfl, hD0⟩
 refine ⟨_, rfl, ?_⟩
 have hD1 : DH w [] d ⟨[], 268435456, 0, false, []⟩ [] w3 := hD0
 obtain ⟨z4, X5, hcl6, hbe7, h8⟩ := DH.front hD1
 have h9 : HA z4 ([] ++ X5) w3 := h8
 refine wl_callx (by kernel_rfl) enter5 #[.pointer (some ⟨d.q, 0, none⟩)] (by kernel_rfl) (Open_d (hcl6 ([]) _ h9) (DG.new (by decide)) (by decide) (by decide) (by rw [lg_new]; decide) ho1) ?_
 rintro _ w10 ⟨sq, sr, rfl, hO⟩
 refine ⟨_, rfl, ?_⟩
 generalize (opnS ⟨[], 268435456, 0, false, []⟩).1 = S0 at hO hOr0
 obtain ⟨m11, X11, hc11, rs11, nx11, hrs11, hK11, hH11⟩ := SH.opn hO
 have h12 : HA ⟨w, m11 :: (sr, .mp (eR rs11) nx11) :: []⟩ ((sq, 44, scell d.q sr ((laidR S0.rows)) S0.size) :: ([] ++ X11)) w10 := hH11
 refine wl_val (.tuple #[.pointer (some ⟨sq, 0, none⟩), iN .i64 0]) (by kernel_rfl) (by kernel_rfl) ?_
 refine wl_val (.pointer (some ⟨sq, 0, none⟩)) (by kernel_rfl) (by kernel_rfl) ?_
 refine wl_val (iN .i64 0) (by kernel_rfl) (by kernel_rfl) ?_
 refine wl_val (.pointer (some ⟨sq, 0, none⟩)) (by kernel_rfl) (by kernel_rfl) ?_
 refine wl_val (iN .i64 0) (by kernel_rfl) (by kernel_rfl) ?_
 refine wl_nil ?_
 refine then_at rfl ?_
 refine wp_seq ?_
 refine wp_seq ?_
 refine wl_region ?_
 refine wl_val (iN .i64 0) (by kernel_rfl) (by kernel_rfl) ?_
 refine wl_val (.bool false) (by kernel_rfl) (run_nei (k := .i64) (a := 0) (b := 0) (by kernel_rfl) (by kernel_rfl) false (by decide)) ?_
 refine wl_nil ?_
 refine then_at rfl ?_
 refine wp_cond_false (by kernel_rfl) ?_
 refine wp_skip ?_
 refine then_at (F := ⟨(.slice o xs.length c :: .string p :: un :: un :: .bool false :: pt sq :: iN .i64 0 :: un :: un :: un :: un :: un :: un :: un :: un :: un :: un :: un :: .bool true :: .bool false :: .tuple #[pt sq, iN .i64 0] :: pt d.q :: .tuple #[pt sq, iN .i64 0] :: pt sq :: iN .i64 0 :: iN .i64 0 :: .bool false :: List.replicate 131 un).toArray, []⟩) (by kernel_rfl) ?_
 refine wp_seq ?_
 refine wp_seq ?_
 refine wl_region ?_
 refine wl_val (iN .i64 0) (by kernel_rfl) (by kernel_rfl) ?_
 refine wl_nil ?_
 refine then_at rfl ?_
 refine wp_block ?_
 refine wp_count (fun i AQ w' => ∃ (S : SS) (u13 : Nat → Value), AQ = ⟨(.slice o xs.length c :: .string p :: un :: un :: u13 4 :: pt sq :: iN .i64 0 :: iN .i64 i :: u13 8 :: u13 9 :: u13 10 :: u13 11 :: u13 12 :: u13 13 :: un :: un :: un :: un :: .bool true :: .bool false :: .tuple #[pt sq, iN .i64 0] :: pt d.q :: .tuple #[pt sq, iN .i64 0] :: pt sq :: iN .i64 0 :: iN .i64 0 :: .bool false :: u13 27 :: u13 28 :: u13 29 :: u13 30 :: u13 31 :: u13 32 :: u13 33 :: u13 34 :: u13 35 :: u13 36 :: u13 37 :: u13 38 :: u13 39 :: u13 40 :: u13 41 :: u13 42 :: u13 43 :: u13 44 :: u13 45 :: u13 46 :: u13 47 :: u13 48 :: u13 49 :: u13 50 :: u13 51 :: u13 52 :: u13 53 :: u13 54 :: u13 55 :: u13 56 :: u13 57 :: u13 58 :: u13 59 :: u13 60 :: u13 61 :: u13 62 :: u13 63 :: u13 64 :: u13 65 :: u13 66 :: u13 67 :: u13 68 :: u13 69 :: u13 70 :: u13 71 :: u13 72 :: u13 73 :: u13 74 :: u13 75 :: u13 76 :: u13 77 :: u13 78 :: u13 79 :: u13 80 :: u13 81 :: u13 82 :: u13 83 :: u13 84 :: u13 85 :: List.replicate 72 un).toArray, []⟩ ∧ Or S i ∧ SH w [] ⟨sq, sr, d⟩ S [] w') (min xs.length 60) ?_ ?_ ?_
 ·exact ⟨S0, fun ii => (([(4, .bool false), (8, undef), (9, undef), (10, undef), (11, undef), (12, undef), (13, undef), (27, undef), (28, undef), (29, undef), (30, undef), (31, undef), (32, undef), (33, undef), (34, undef), (35, undef), (36, undef), (37, undef), (38, undef), (39, undef), (40, undef), (41, undef), (42, undef), (43, undef), (44, undef), (45, undef), (46, undef), (47, undef), (48, undef), (49, undef), (50, undef), (51, undef), (52, undef), (53, undef), (54, undef), (55, undef), (56, undef), (57, undef), (58, undef), (59, undef), (60, undef), (61, undef), (62, undef), (63, undef), (64, undef), (65, undef), (66, undef), (67, undef), (68, undef), (69, undef), (70, undef), (71, undef), (72, undef), (73, undef), (74, undef), (75, undef), (76, undef), (77, undef), (78, undef), (79, undef), (80, undef), (81, undef), (82, undef), (83, undef), (84, undef), (85, undef)] : List (Nat × Value)).find? (·.1 == ii)).elim undef (·.2), by kernel_rfl, hOr0, (hc11 _ _ ([]) _ ⟨_, _, hrs11, hK11, h12⟩)⟩
 ·rintro i hi _ w14 ⟨S, u13, rfl, hOr, hS⟩
  obtain ⟨m15, X15, hc15, rs15, nx15, hrs15, hK15, hH15⟩ := SH.opn hS
  have h16 : HA ⟨w, m15 :: (sr, .mp (eR rs15) nx15) :: []⟩ ((sq, 44, scell d.q sr ((laidR S.rows)) S.size) :: ([] ++ X15)) w14 := hH15
  obtain ⟨oa, hoa, hx0, hx1, hzk, hzv⟩ := hA i (by omega)
  obtain ⟨x, hxe⟩ : ∃ x, x = xs.getD i ⟨eB, eB⟩ := ⟨_, rfl⟩
  rw [← hxe] at hx0 hx1 hzk hzv
  refine wp_seq ?_
  refine wp_seq ?_
  refine wl_region ?_
  refine wl_val (iN .i64 i) (by kernel_rfl) (by kernel_rfl) ?_
  refine wl_val (.slice o xs.length c) (by kernel_rfl) (by kernel_rfl) ?_
  refine wl_val (iN .i64 xs.length) (by kernel_rfl) (by kernel_rfl) ?_
  refine wl_val (.bool true) (by kernel_rfl) (run_lss (k := .i64) (a := i) (b := xs.length) (by kernel_rfl) (by kernel_rfl) true (decide_eq_true (by omega))) ?_
  refine wl_val (.bool true) (by kernel_rfl) (by kernel_rfl) ?_
  refine wl_val (iN .i64 i) (by kernel_rfl) (by kernel_rfl) ?_
  refine wl_val (.bool true) (by kernel_rfl) (run_lss (k := .i64) (a := i) (b := 60) (by kernel_rfl) (by kernel_rfl) true (decide_eq_true (by omega))) ?_
  refine wl_val (.bool true) (by kernel_rfl) (by kernel_rfl) ?_
  refine wl_nil ?_
  refine then_at rfl ?_
  refine wp_cond_true (by kernel_rfl) ?_
  refine wp_skip ?_
  refine then_at rfl ?_
  refine wp_seq ?_
  refine wp_block ?_
  refine wp_seq ?_
  by_cases hk0 : x.k.size = 0
  ·have hre : refR [x] [] = 2 := by rw [ref_one, if_pos hk0]
   have hdo : DoS S [x] [] = (S, 2) := by rw [Or.no (by rw [hre]; decide), hre]
   refine wl_region ?_
   refine wl_val (.pointer (some ⟨sq, 0, none⟩)) (by kernel_rfl) (by kernel_rfl) ?_
   refine wl_val (.slice o xs.length c) (by kernel_rfl) (by kernel_rfl) ?_
   refine wl_val (iN .i64 i) (by kernel_rfl) (by kernel_rfl) ?_
   refine wl_val (iN .i64 i) (by kernel_rfl) (by kernel_rfl) ?_
   refine wl_val (iN .i64 (i + 1)) (by kernel_rfl) (run_add (k := .i64) (a := i) (b := 1) (by kernel_rfl) (by kernel_rfl) (by first | omega | (simp only [top]; omega))) ?_
   refine wl_val (.slice (some (oa.add (i * 2))) 1 (c - i)) (by kernel_rfl) (run_sl22 (a := oa) (n := xs.length) (cap := c) (i := i) (by rw [← hoa]; kernel_rfl) (by kernel_rfl) (by kernel_rfl) (by omega)) ?_
   refine wl_callx (by kernel_rfl) enter7 #[.pointer (some ⟨sq, 0, none⟩), .slice (some (oa.add (i * 2))) 1 (c - i), .slice none 0 0] (by kernel_rfl) (by have h9 := Do_any (hc15 _ _ ([]) _ ⟨_, _, hrs15, hK15, h16⟩) hOr.dg (by omega) (hOr.rb (by omega)) (by decide) (by decide) (po := some (oa.add (i * 2))) (pc := c - i) (do_ := none) (dc := 0) (ps := [x]) (ds := []) (pv_one hx0 hx1) (DV.nil none) (by show 1 ≤ 1000000000; decide) (by decide) (by have := hOr.size; show S.size ≤ 1000000000000; omega); rw [hdo] at h9; exact h9) ?_
   rintro _ w17 ⟨rfl, hP⟩
   refine ⟨_, rfl, ?_⟩
   obtain ⟨m18, X18, hc18, rs18, nx18, hrs18, hK18, hH18⟩ := SH.opn hP
   have h19 : HA ⟨w, m18 :: (sr, .mp (eR rs18) nx18) :: []⟩ ((sq, 44, scell d.q sr ((laidR S.rows)) S.size) :: ([] ++ X18)) w17 := hH18
   refine wl_val (iN .i64 2) (by kernel_rfl) (by kernel_rfl) ?_
   refine wl_nil ?_
   refine then_at rfl ?_
   refine wp_seq ?_
   refine wp_region_sure ⟨(.slice o xs.length c :: .string p :: un :: un :: u13 4 :: pt sq :: iN .i64 0 :: iN .i64 i :: iN .i64 2 :: .string x.k :: .string x.v :: u13 11 :: u13 12 :: u13 13 :: un :: un :: un :: un :: .bool true :: .bool false :: .tuple #[pt sq, iN .i64 0] :: pt d.q :: .tuple #[pt sq, iN .i64 0] :: pt sq :: iN .i64 0 :: iN .i64 0 :: .bool false :: iN .i64 i :: .slice o xs.length c :: iN .i64 xs.length :: .bool true :: .bool true :: iN .i64 i :: .bool true :: .bool true :: u13 35 :: u13 36 :: pt sq :: .slice o xs.length c :: iN .i64 i :: iN .i64 i :: iN .i64 (i + 1) :: .slice (some (oa.add (i * 2))) 1 (c - i) :: iN .i64 2 :: .slice o xs.length c :: iN .i64 i :: .pointer (some (oa.add (i * 2))) :: .pointer (some ((oa.add (i * 2)).add 0)) :: .string x.k :: .slice o xs.length c :: iN .i64 i :: .pointer (some (oa.add (i * 2))) :: .pointer (some ((oa.add (i * 2)).add 1)) :: .string x.v :: u13 54 :: u13 55 :: u13 56 :: u13 57 :: u13 58 :: u13 59 :: u13 60 :: u13 61 :: u13 62 :: u13 63 :: u13 64 :: u13 65 :: u13 66 :: u13 67 :: u13 68 :: u13 69 :: u13 70 :: u13 71 :: u13 72 :: u13 73 :: u13 74 :: u13 75 :: u13 76 :: u13 77 :: u13 78 :: u13 79 :: u13 80 :: u13 81 :: u13 82 :: u13 83 :: u13 84 :: u13 85 :: List.replicate 72 un).toArray, []⟩ (HA ⟨w, m18 :: (sr, .mp (eR rs18) nx18) :: []⟩ ((sq, 44, scell d.q sr ((laidR S.rows)) S.size) :: ([] ++ X18))) [.slice o xs.length c, iN .i64 i, .pointer (some (oa.add (i * 2))), .pointer (some ((oa.add (i * 2)).add 0)), .string x.k, .slice o xs.length c, iN .i64 i, .pointer (some (oa.add (i * 2))), .pointer (some ((oa.add (i * 2)).add 1)), .string x.v, .string x.k, .string x.v] (by kernel_rfl) (by kernel_rfl) (by kernel_rfl) (by kernel_rfl) (fun _ _ _ h => h) h19.drew ?_ ?_
   ·refine AllSure.cons (OpSure.take (v := .slice o xs.length c) (by kernel_rfl) (by kernel_rfl) (fun _ _ => (by kernel_rfl))) ?_
    refine AllSure.cons (OpSure.take (v := iN .i64 i) (by kernel_rfl) (by kernel_rfl) (fun _ _ => (by kernel_rfl))) ?_
    refine AllSure.cons (OpSure.take (v := .pointer (some (oa.add (i * 2)))) (by kernel_rfl) (by kernel_rfl) (fun _ _ => (run_addrT (o := o) (a := oa) (n := xs.length) (m := c) (i := i) hoa Try.underlying22 (fun w => Try.sizeOf32 w) (by kernel_rfl) (by kernel_rfl) (by omega)))) ?_
    refine AllSure.cons (OpSure.take (v := .pointer (some ((oa.add (i * 2)).add 0))) (by kernel_rfl) (by kernel_rfl) (fun _ _ => (by kernel_rfl))) ?_
    refine AllSure.cons (OpSure.take (v := .string x.k) (by kernel_rfl) (by kernel_rfl) (fun w' h' => run_load_at (b := (oa.add (i * 2)).add 0) (fun w => Try.isAgg9 w) (by kernel_rfl) (cell_old h'.old.old hx0))) ?_
    refine AllSure.cons (OpSure.take (v := .slice o xs.length c) (by kernel_rfl) (by kernel_rfl) (fun _ _ => (by kernel_rfl))) ?_
    refine AllSure.cons (OpSure.take (v := iN .i64 i) (by kernel_rfl) (by kernel_rfl) (fun _ _ => (by kernel_rfl))) ?_
    refine AllSure.cons (OpSure.take (v := .pointer (some (oa.add (i * 2)))) (by kernel_rfl) (by kernel_rfl) (fun _ _ => (run_addrT (o := o) (a := oa) (n := xs.length) (m := c) (i := i) hoa Try.underlying22 (fun w => Try.sizeOf32 w) (by kernel_rfl) (by kernel_rfl) (by omega)))) ?_
    refine AllSure.cons (OpSure.take (v := .pointer (some ((oa.add (i * 2)).add 1))) (by kernel_rfl) (by kernel_rfl) (fun _ _ => (by kernel_rfl))) ?_
    refine AllSure.cons (OpSure.take (v := .string x.v) (by kernel_rfl) (by kernel_rfl) (fun w' h' => run_load_at (b := (oa.add (i * 2)).add 1) (fun w => Try.isAgg9 w) (by kernel_rfl) (cell_old h'.old.old hx1))) ?_
    refine AllSure.cons (OpSure.take (v := .string x.k) (by kernel_rfl) (by kernel_rfl) (fun _ _ => (by kernel_rfl))) ?_
    refine AllSure.cons (OpSure.take (v := .string x.v) (by kernel_rfl) (by kernel_rfl) (fun _ _ => (by kernel_rfl))) ?_
    exact AllSure.nil
   intro w20 h21
   refine then_at rfl ?_
   refine wp_seq ?_
   refine wl_region ?_
   refine wl_val (iN .i64 0) (by kernel_rfl) (by kernel_rfl) ?_
   refine wl_nil ?_
   refine then_at (F := ⟨(.slice o xs.length c :: .string p :: un :: un :: u13 4 :: pt sq :: iN .i64 0 :: iN .i64 i :: iN .i64 2 :: .string x.k :: .string x.v :: iN .i64 0 :: u13 12 :: u13 13 :: un :: un :: un :: un :: .bool true :: .bool false :: .tuple #[pt sq, iN .i64 0] :: pt d.q :: .tuple #[pt sq, iN .i64 0] :: pt sq :: iN .i64 0 :: iN .i64 0 :: .bool false :: iN .i64 i :: .slice o xs.length c :: iN .i64 xs.length :: .bool true :: .bool true :: iN .i64 i :: .bool true :: .bool true :: u13 35 :: u13 36 :: pt sq :: .slice o xs.length c :: iN .i64 i :: iN .i64 i :: iN .i64 (i + 1) :: .slice (some (oa.add (i * 2))) 1 (c - i) :: iN .i64 2 :: .slice o xs.length c :: iN .i64 i :: .pointer (some (oa.add (i * 2))) :: .pointer (some ((oa.add (i * 2)).add 0)) :: .string x.k :: .slice o xs.length c :: iN .i64 i :: .pointer (some (oa.add (i * 2))) :: .pointer (some ((oa.add (i * 2)).add 1)) :: .string x.v :: u13 54 :: u13 55 :: u13 56 :: u13 57 :: u13 58 :: u13 59 :: u13 60 :: u13 61 :: u13 62 :: u13 63 :: u13 64 :: u13 65 :: u13 66 :: u13 67 :: u13 68 :: u13 69 :: u13 70 :: u13 71 :: u13 72 :: u13 73 :: u13 74 :: u13 75 :: u13 76 :: u13 77 :: u13 78 :: u13 79 :: u13 80 :: u13 81 :: u13 82 :: u13 83 :: u13 84 :: u13 85 :: List.replicate 72 un).toArray, []⟩) (by kernel_rfl) ?_
   refine wp_seq ?_
   refine wp_seq ?_
   refine wl_region ?_
   refine wl_val (.string x.k) (by kernel_rfl) (by kernel_rfl) ?_
   refine wl_val (.bool true) (by kernel_rfl) (run_eqs (s := x.k) (t := { data := #[] }) (by kernel_rfl) (by kernel_rfl) true (decide_eq_true (bz_of hk0))) ?_
   refine wl_nil ?_
   refine then_at rfl ?_
   refine wp_cond_true (by kernel_rfl) ?_
   refine wl_region ?_
   refine wl_val (iN .i64 2) (by kernel_rfl) (by kernel_rfl) ?_
   refine wl_nil ?_
   refine then_at rfl ?_
   refine wp_seq ?_
   refine wl_region ?_
   refine wl_val (.pointer (some ⟨sq, 0, none⟩)) (by kernel_rfl) (by kernel_rfl) ?_
   refine wl_val (.string x.k) (by kernel_rfl) (by kernel_rfl) ?_
   refine wl_call (v := .tuple #[.string ((getR S.rows x.k).1), .bool (getR S.rows x.k).2]) h21 (by kernel_rfl) enter8 #[.pointer (some ⟨sq, 0, none⟩), .string x.k] (by kernel_rfl) (get_S (hc18 _ _ ([]) _ ⟨_, _, hrs18, hK18, h21⟩) (hOr.rb (by omega)) x.k) ?_
   intro w22 h23
   refine wl_val (.tuple #[.string ((getR S.rows x.k).1), .bool (getR S.rows x.k).2]) (by kernel_rfl) (by kernel_rfl) ?_
   refine wl_val (.string ((getR S.rows x.k).1)) (by kernel_rfl) (by kernel_rfl) ?_
   refine wl_val (.bool (getR S.rows x.k).2) (by kernel_rfl) (by kernel_rfl) ?_
   refine wl_val (.string ((getR S.rows x.k).1)) (by kernel_rfl) (by kernel_rfl) ?_
   refine wl_val (.bool (getR S.rows x.k).2) (by kernel_rfl) (by kernel_rfl) ?_
   refine wl_nil ?_
   refine then_at rfl ?_
   refine wp_seq ?_
   refine wl_region ?_
   refine wl_val (iN .i64 2) (by kernel_rfl) (by kernel_rfl) ?_
   refine wl_val (iN .i64 2) (by kernel_rfl) (by kernel_rfl) ?_
   refine wl_val (.bool false) (by kernel_rfl) (run_nei (k := .i64) (a := 2) (b := 2) (by kernel_rfl) (by kernel_rfl) false (by decide)) ?_
   refine wl_val (.bool false) (by kernel_rfl) (by kernel_rfl) ?_
   refine wl_val (iN .i64 2) (by kernel_rfl) (by kernel_rfl) ?_
   refine wl_val (.bool false) (by kernel_rfl) (run_eqi (k := .i64) (a := 2) (b := 0) (by kernel_rfl) (by kernel_rfl) false (by decide)) ?_
   refine wl_val (.bool false) (by kernel_rfl) (by kernel_rfl) ?_
   refine wl_skip (by kernel_rfl) ?_
   refine wl_skip (by kernel_rfl) ?_
   refine wl_skip (by kernel_rfl) ?_
   refine wl_skip (by kernel_rfl) ?_
   refine wl_skip (by kernel_rfl) ?_
   refine wl_skip (by kernel_rfl) ?_
   refine wl_skip (by kernel_rfl) ?_
   refine wl_val (.bool false) (by kernel_rfl) (by kernel_rfl) ?_
   refine wl_val (.bool false) (by kernel_rfl) (by kernel_rfl) ?_
   refine wl_nil ?_
   refine then_at rfl ?_
   refine wp_cond_false (by kernel_rfl) ?_
   refine wp_skip ?_
   refine block_normal ?_
   refine then_at rfl ?_
   refine wl_region ?_
   refine wl_val (iN .i64 i) (by kernel_rfl) (by kernel_rfl) ?_
   refine wl_val (iN .i64 (i + 1)) (by kernel_rfl) (run_add (k := .i64) (a := i) (b := 1) (by kernel_rfl) (by kernel_rfl) (by first | omega | (simp only [top]; omega))) ?_
   refine wl_val (iN .i64 (i + 1)) (by kernel_rfl) (by kernel_rfl) ?_
   refine wl_nil ?_
   exact then_I ⟨S, fun ii => (([(4, u13 4), (8, iN .i64 2), (9, .string x.k), (10, .string x.v), (11, iN .i64 2), (12, .string ((getR S.rows x.k).1)), (13, .bool (getR S.rows x.k).2), (27, iN .i64 i), (28, .slice o xs.length c), (29, iN .i64 xs.length), (30, .bool true), (31, .bool true), (32, iN .i64 i), (33, .bool true), (34, .bool true), (35, iN .i64 i), (36, iN .i64 (i + 1)), (37, .pointer (some ⟨sq, 0, none⟩)), (38, .slice o xs.length c), (39, iN .i64 i), (40, iN .i64 i), (41, iN .i64 (i + 1)), (42, .slice (some (oa.add (i * 2))) 1 (c - i)), (43, iN .i64 2), (44, .slice o xs.length c), (45, iN .i64 i), (46, .pointer (some (oa.add (i * 2)))), (47, .pointer (some ((oa.add (i * 2)).add 0))), (48, .string x.k), (49, .slice o xs.length c), (50, iN .i64 i), (51, .pointer (some (oa.add (i * 2)))), (52, .pointer (some ((oa.add (i * 2)).add 1))), (53, .string x.v), (54, .string x.k), (55, .bool true), (56, u13 56), (57, u13 57), (58, u13 58), (59, u13 59), (60, u13 60), (61, u13 61), (62, u13 62), (63, u13 63), (64, .tuple #[.string ((getR S.rows x.k).1), .bool (getR S.rows x.k).2]), (65, .pointer (some ⟨sq, 0, none⟩)), (66, .string x.k), (67, .tuple #[.string ((getR S.rows x.k).1), .bool (getR S.rows x.k).2]), (68, .string ((getR S.rows x.k).1)), (69, .bool (getR S.rows x.k).2), (70, iN .i64 2), (71, iN .i64 2), (72, .bool false), (73, .bool false), (74, iN .i64 2), (75, .bool false), (76, .bool false), (77, undef), (78, undef), (79, undef), (80, undef), (81, undef), (82, undef), (83, undef), (84, .bool false), (85, .bool false)] : List (Nat × Value)).find? (·.1 == ii)).elim undef (·.2), by kernel_rfl, hOr.mono (by omega), (hc18 _ _ ([]) _ ⟨_, _, hrs18, hK18, h23⟩)⟩
  ·by_cases hk1 : 64 < x.k.size
   ·have hre : refR [x] [] = 3 := by rw [ref_one, if_neg hk0, if_pos (.inl hk1)]
    have hdo : DoS S [x] [] = (S, 3) := by rw [Or.no (by rw [hre]; decide), hre]
    refine wl_region ?_
    refine wl_val (.pointer (some ⟨sq, 0, none⟩)) (by kernel_rfl) (by kernel_rfl) ?_
    refine wl_val (.slice o xs.length c) (by kernel_rfl) (by kernel_rfl) ?_
    refine wl_val (iN .i64 i) (by kernel_rfl) (by kernel_rfl) ?_
    refine wl_val (iN .i64 i) (by kernel_rfl) (by kernel_rfl) ?_
    refine wl_val (iN .i64 (i + 1)) (by kernel_rfl) (run_add (k := .i64) (a := i) (b := 1) (by kernel_rfl) (by kernel_rfl) (by first | omega | (simp only [top]; omega))) ?_
    refine wl_val (.slice (some (oa.add (i * 2))) 1 (c - i)) (by kernel_rfl) (run_sl22 (a := oa) (n := xs.length) (cap := c) (i := i) (by rw [← hoa]; kernel_rfl) (by kernel_rfl) (by kernel_rfl) (by omega)) ?_
    refine wl_callx (by kernel_rfl) enter7 #[.pointer (some ⟨sq, 0, none⟩), .slice (some (oa.add (i * 2))) 1 (c - i), .slice none 0 0] (by kernel_rfl) (by have h9 := Do_any (hc15 _ _ ([]) _ ⟨_, _, hrs15, hK15, h16⟩) hOr.dg (by omega) (hOr.rb (by omega)) (by decide) (by decide) (po := some (oa.add (i * 2))) (pc := c - i) (do_ := none) (dc := 0) (ps := [x]) (ds := []) (pv_one hx0 hx1) (DV.nil none) (by show 1 ≤ 1000000000; decide) (by decide) (by have := hOr.size; show S.size ≤ 1000000000000; omega); rw [hdo] at h9; exact h9) ?_
    rintro _ w24 ⟨rfl, hP⟩
    refine ⟨_, rfl, ?_⟩
    obtain ⟨m25, X25, hc25, rs25, nx25, hrs25, hK25, hH25⟩ := SH.opn hP
    have h26 : HA ⟨w, m25 :: (sr, .mp (eR rs25) nx25) :: []⟩ ((sq, 44, scell d.q sr ((laidR S.rows)) S.size) :: ([] ++ X25)) w24 := hH25
    refine wl_val (iN .i64 3) (by kernel_rfl) (by kernel_rfl) ?_
    refine wl_nil ?_
    refine then_at (F := ⟨(.slice o xs.length c :: .string p :: un :: un :: u13 4 :: pt sq :: iN .i64 0 :: iN .i64 i :: iN .i64 3 :: u13 9 :: u13 10 :: u13 11 :: u13 12 :: u13 13 :: un :: un :: un :: un :: .bool true :: .bool false :: .tuple #[pt sq, iN .i64 0] :: pt d.q :: .tuple #[pt sq, iN .i64 0] :: pt sq :: iN .i64 0 :: iN .i64 0 :: .bool false :: iN .i64 i :: .slice o xs.length c :: iN .i64 xs.length :: .bool true :: .bool true :: iN .i64 i :: .bool true :: .bool true :: u13 35 :: u13 36 :: pt sq :: .slice o xs.length c :: iN .i64 i :: iN .i64 i :: iN .i64 (i + 1) :: .slice (some (oa.add (i * 2))) 1 (c - i) :: iN .i64 3 :: u13 44 :: u13 45 :: u13 46 :: u13 47 :: u13 48 :: u13 49 :: u13 50 :: u13 51 :: u13 52 :: u13 53 :: u13 54 :: u13 55 :: u13 56 :: u13 57 :: u13 58 :: u13 59 :: u13 60 :: u13 61 :: u13 62 :: u13 63 :: u13 64 :: u13 65 :: u13 66 :: u13 67 :: u13 68 :: u13 69 :: u13 70 :: u13 71 :: u13 72 :: u13 73 :: u13 74 :: u13 75 :: u13 76 :: u13 77 :: u13 78 :: u13 79 :: u13 80 :: u13 81 :: u13 82 :: u13 83 :: u13 84 :: u13 85 :: List.replicate 72 un).toArray, []⟩) (by kernel_rfl) ?_
    refine wp_seq ?_
    refine wp_region_sure ⟨(.slice o xs.length c :: .string p :: un :: un :: u13 4 :: pt sq :: iN .i64 0 :: iN .i64 i :: iN .i64 3 :: .string x.k :: .string x.v :: u13 11 :: u13 12 :: u13 13 :: un :: un :: un :: un :: .bool true :: .bool false :: .tuple #[pt sq, iN .i64 0] :: pt d.q :: .tuple #[pt sq, iN .i64 0] :: pt sq :: iN .i64 0 :: iN .i64 0 :: .bool false :: iN .i64 i :: .slice o xs.length c :: iN .i64 xs.length :: .bool true :: .bool true :: iN .i64 i :: .bool true :: .bool true :: u13 35 :: u13 36 :: pt sq :: .slice o xs.length c :: iN .i64 i :: iN .i64 i :: iN .i64 (i + 1) :: .slice (some (oa.add (i * 2))) 1 (c - i) :: iN .i64 3 :: .slice o xs.length c :: iN .i64 i :: .pointer (some (oa.add (i * 2))) :: .pointer (some ((oa.add (i * 2)).add 0)) :: .string x.k :: .slice o xs.length c :: iN .i64 i :: .pointer (some (oa.add (i * 2))) :: .pointer (some ((oa.add (i * 2)).add 1)) :: .string x.v :: u13 54 :: u13 55 :: u13 56 :: u13 57 :: u13 58 :: u13 59 :: u13 60 :: u13 61 :: u13 62 :: u13 63 :: u13 64 :: u13 65 :: u13 66 :: u13 67 :: u13 68 :: u13 69 :: u13 70 :: u13 71 :: u13 72 :: u13 73 :: u13 74 :: u13 75 :: u13 76 :: u13 77 :: u13 78 :: u13 79 :: u13 80 :: u13 81 :: u13 82 :: u13 83 :: u13 84 :: u13 85 :: List.replicate 72 un).toArray, []⟩ (HA ⟨w, m25 :: (sr, .mp (eR rs25) nx25) :: []⟩ ((sq, 44, scell d.q sr ((laidR S.rows)) S.size) :: ([] ++ X25))) [.slice o xs.length c, iN .i64 i, .pointer (some (oa.add (i * 2))), .pointer (some ((oa.add (i * 2)).add 0)), .string x.k, .slice o xs.length c, iN .i64 i, .pointer (some (oa.add (i * 2))), .pointer (some ((oa.add (i * 2)).add 1)), .string x.v, .string x.k, .string x.v] (by kernel_rfl) (by kernel_rfl) (by kernel_rfl) (by kernel_rfl) (fun _ _ _ h => h) h26.drew ?_ ?_
    ·refine AllSure.cons (OpSure.take (v := .slice o xs.length c) (by kernel_rfl) (by kernel_rfl) (fun _ _ => (by kernel_rfl))) ?_
     refine AllSure.cons (OpSure.take (v := iN .i64 i) (by kernel_rfl) (by kernel_rfl) (fun _ _ => (by kernel_rfl))) ?_
     refine AllSure.cons (OpSure.take (v := .pointer (some (oa.add (i * 2)))) (by kernel_rfl) (by kernel_rfl) (fun _ _ => (run_addrT (o := o) (a := oa) (n := xs.length) (m := c) (i := i) hoa Try.underlying22 (fun w => Try.sizeOf32 w) (by kernel_rfl) (by kernel_rfl) (by omega)))) ?_
     refine AllSure.cons (OpSure.take (v := .pointer (some ((oa.add (i * 2)).add 0))) (by kernel_rfl) (by kernel_rfl) (fun _ _ => (by kernel_rfl))) ?_
     refine AllSure.cons (OpSure.take (v := .string x.k) (by kernel_rfl) (by kernel_rfl) (fun w' h' => run_load_at (b := (oa.add (i * 2)).add 0) (fun w => Try.isAgg9 w) (by kernel_rfl) (cell_old h'.old.old hx0))) ?_
     refine AllSure.cons (OpSure.take (v := .slice o xs.length c) (by kernel_rfl) (by kernel_rfl) (fun _ _ => (by kernel_rfl))) ?_
     refine AllSure.cons (OpSure.take (v := iN .i64 i) (by kernel_rfl) (by kernel_rfl) (fun _ _ => (by kernel_rfl))) ?_
     refine AllSure.cons (OpSure.take (v := .pointer (some (oa.add (i * 2)))) (by kernel_rfl) (by kernel_rfl) (fun _ _ => (run_addrT (o := o) (a := oa) (n := xs.length) (m := c) (i := i) hoa Try.underlying22 (fun w => Try.sizeOf32 w) (by kernel_rfl) (by kernel_rfl) (by omega)))) ?_
     refine AllSure.cons (OpSure.take (v := .pointer (some ((oa.add (i * 2)).add 1))) (by kernel_rfl) (by kernel_rfl) (fun _ _ => (by kernel_rfl))) ?_
     refine AllSure.cons (OpSure.take (v := .string x.v) (by kernel_rfl) (by kernel_rfl) (fun w' h' => run_load_at (b := (oa.add (i * 2)).add 1) (fun w => Try.isAgg9 w) (by kernel_rfl) (cell_old h'.old.old hx1))) ?_
     refine AllSure.cons (OpSure.take (v := .string x.k) (by kernel_rfl) (by kernel_rfl) (fun _ _ => (by kernel_rfl))) ?_
     refine AllSure.cons (OpSure.take (v := .string x.v) (by kernel_rfl) (by kernel_rfl) (fun _ _ => (by kernel_rfl))) ?_
     exact AllSure.nil
    intro w27 h28
    refine then_at rfl ?_
    refine wp_seq ?_
    refine wl_region ?_
    refine wl_val (iN .i64 0) (by kernel_rfl) (by kernel_rfl) ?_
    refine wl_nil ?_
    refine then_at rfl ?_
    refine wp_seq ?_
    refine wp_seq ?_
    refine wl_region ?_
    refine wl_val (.string x.k) (by kernel_rfl) (by kernel_rfl) ?_
    refine wl_val (.bool false) (by kernel_rfl) (run_eqs (s := x.k) (t := { data := #[] }) (by kernel_rfl) (by kernel_rfl) false (decide_eq_false (fun h => hk0 (by rw [h]; rfl)))) ?_
    refine wl_nil ?_
    refine then_at rfl ?_
    refine wp_cond_false (by kernel_rfl) ?_
    refine wp_seq ?_
    refine wl_region ?_
    refine wl_val (.string x.k) (by kernel_rfl) (by kernel_rfl) ?_
    refine wl_val (iN .i64 x.k.size) (by kernel_rfl) (run_len (s := x.k) (by kernel_rfl)) ?_
    refine wl_val (.bool true) (by kernel_rfl) (run_gtr (k := .i64) (a := x.k.size) (b := 64) (by kernel_rfl) (by kernel_rfl) true (decide_eq_true hk1)) ?_
    refine wl_val (.bool true) (by kernel_rfl) (by kernel_rfl) ?_
    refine wl_skip (by kernel_rfl) ?_
    refine wl_skip (by kernel_rfl) ?_
    refine wl_skip (by kernel_rfl) ?_
    refine wl_val (.bool true) (by kernel_rfl) (by kernel_rfl) ?_
    refine wl_nil ?_
    refine then_at rfl ?_
    refine wp_cond_true (by kernel_rfl) ?_
    refine wl_region ?_
    refine wl_val (iN .i64 3) (by kernel_rfl) (by kernel_rfl) ?_
    refine wl_nil ?_
    refine then_at rfl ?_
    refine wp_seq ?_
    refine wl_region ?_
    refine wl_val (.pointer (some ⟨sq, 0, none⟩)) (by kernel_rfl) (by kernel_rfl) ?_
    refine wl_val (.string x.k) (by kernel_rfl) (by kernel_rfl) ?_
    refine wl_call (v := .tuple #[.string ((getR S.rows x.k).1), .bool (getR S.rows x.k).2]) h28 (by kernel_rfl) enter8 #[.pointer (some ⟨sq, 0, none⟩), .string x.k] (by kernel_rfl) (get_S (hc25 _ _ ([]) _ ⟨_, _, hrs25, hK25, h28⟩) (hOr.rb (by omega)) x.k) ?_
    intro w29 h30
    refine wl_val (.tuple #[.string ((getR S.rows x.k).1), .bool (getR S.rows x.k).2]) (by kernel_rfl) (by kernel_rfl) ?_
    refine wl_val (.string ((getR S.rows x.k).1)) (by kernel_rfl) (by kernel_rfl) ?_
    refine wl_val (.bool (getR S.rows x.k).2) (by kernel_rfl) (by kernel_rfl) ?_
    refine wl_val (.string ((getR S.rows x.k).1)) (by kernel_rfl) (by kernel_rfl) ?_
    refine wl_val (.bool (getR S.rows x.k).2) (by kernel_rfl) (by kernel_rfl) ?_
    refine wl_nil ?_
    refine then_at (F := ⟨(.slice o xs.length c :: .string p :: un :: un :: u13 4 :: pt sq :: iN .i64 0 :: iN .i64 i :: iN .i64 3 :: .string x.k :: .string x.v :: iN .i64 3 :: .string ((getR S.rows x.k).1) :: .bool (getR S.rows x.k).2 :: un :: un :: un :: un :: .bool true :: .bool false :: .tuple #[pt sq, iN .i64 0] :: pt d.q :: .tuple #[pt sq, iN .i64 0] :: pt sq :: iN .i64 0 :: iN .i64 0 :: .bool false :: iN .i64 i :: .slice o xs.length c :: iN .i64 xs.length :: .bool true :: .bool true :: iN .i64 i :: .bool true :: .bool true :: u13 35 :: u13 36 :: pt sq :: .slice o xs.length c :: iN .i64 i :: iN .i64 i :: iN .i64 (i + 1) :: .slice (some (oa.add (i * 2))) 1 (c - i) :: iN .i64 3 :: .slice o xs.length c :: iN .i64 i :: .pointer (some (oa.add (i * 2))) :: .pointer (some ((oa.add (i * 2)).add 0)) :: .string x.k :: .slice o xs.length c :: iN .i64 i :: .pointer (some (oa.add (i * 2))) :: .pointer (some ((oa.add (i * 2)).add 1)) :: .string x.v :: .string x.k :: .bool false :: .string x.k :: iN .i64 x.k.size :: .bool true :: .bool true :: un :: un :: un :: .bool true :: .tuple #[.string ((getR S.rows x.k).1), .bool (getR S.rows x.k).2] :: pt sq :: .string x.k :: .tuple #[.string ((getR S.rows x.k).1), .bool (getR S.rows x.k).2] :: .string ((getR S.rows x.k).1) :: .bool (getR S.rows x.k).2 :: u13 70 :: u13 71 :: u13 72 :: u13 73 :: u13 74 :: u13 75 :: u13 76 :: u13 77 :: u13 78 :: u13 79 :: u13 80 :: u13 81 :: u13 82 :: u13 83 :: u13 84 :: u13 85 :: List.replicate 72 un).toArray, []⟩) (by kernel_rfl) ?_
    refine wp_seq ?_
    refine wl_region ?_
    refine wl_val (iN .i64 3) (by kernel_rfl) (by kernel_rfl) ?_
    refine wl_val (iN .i64 3) (by kernel_rfl) (by kernel_rfl) ?_
    refine wl_val (.bool false) (by kernel_rfl) (run_nei (k := .i64) (a := 3) (b := 3) (by kernel_rfl) (by kernel_rfl) false (by decide)) ?_
    refine wl_val (.bool false) (by kernel_rfl) (by kernel_rfl) ?_
    refine wl_val (iN .i64 3) (by kernel_rfl) (by kernel_rfl) ?_
    refine wl_val (.bool false) (by kernel_rfl) (run_eqi (k := .i64) (a := 3) (b := 0) (by kernel_rfl) (by kernel_rfl) false (by decide)) ?_
    refine wl_val (.bool false) (by kernel_rfl) (by kernel_rfl) ?_
    refine wl_skip (by kernel_rfl) ?_
    refine wl_skip (by kernel_rfl) ?_
    refine wl_skip (by kernel_rfl) ?_
    refine wl_skip (by kernel_rfl) ?_
    refine wl_skip (by kernel_rfl) ?_
    refine wl_skip (by kernel_rfl) ?_
    refine wl_skip (by kernel_rfl) ?_
    refine wl_val (.bool false) (by kernel_rfl) (by kernel_rfl) ?_
    refine wl_val (.bool false) (by kernel_rfl) (by kernel_rfl) ?_
    refine wl_nil ?_
    refine then_at rfl ?_
    refine wp_cond_false (by kernel_rfl) ?_
    refine wp_skip ?_
    refine block_normal ?_
    refine then_at rfl ?_
    refine wl_region ?_
    refine wl_val (iN .i64 i) (by kernel_rfl) (by kernel_rfl) ?_
    refine wl_val (iN .i64 (i + 1)) (by kernel_rfl) (run_add (k := .i64) (a := i) (b := 1) (by kernel_rfl) (by kernel_rfl) (by first | omega | (simp only [top]; omega))) ?_
    refine wl_val (iN .i64 (i + 1)) (by kernel_rfl) (by kernel_rfl) ?_
    refine wl_nil ?_
    exact then_I ⟨S, fun ii => (([(4, u13 4), (8, iN .i64 3), (9, .string x.k), (10, .string x.v), (11, iN .i64 3), (12, .string ((getR S.rows x.k).1)), (13, .bool (getR S.rows x.k).2), (27, iN .i64 i), (28, .slice o xs.length c), (29, iN .i64 xs.length), (30, .bool true), (31, .bool true), (32, iN .i64 i), (33, .bool true), (34, .bool true), (35, iN .i64 i), (36, iN .i64 (i + 1)), (37, .pointer (some ⟨sq, 0, none⟩)), (38, .slice o xs.length c), (39, iN .i64 i), (40, iN .i64 i), (41, iN .i64 (i + 1)), (42, .slice (some (oa.add (i * 2))) 1 (c - i)), (43, iN .i64 3), (44, .slice o xs.length c), (45, iN .i64 i), (46, .pointer (some (oa.add (i * 2)))), (47, .pointer (some ((oa.add (i * 2)).add 0))), (48, .string x.k), (49, .slice o xs.length c), (50, iN .i64 i), (51, .pointer (some (oa.add (i * 2)))), (52, .pointer (some ((oa.add (i * 2)).add 1))), (53, .string x.v), (54, .string x.k), (55, .bool false), (56, .string x.k), (57, iN .i64 x.k.size), (58, .bool true), (59, .bool true), (60, undef), (61, undef), (62, undef), (63, .bool true), (64, .tuple #[.string ((getR S.rows x.k).1), .bool (getR S.rows x.k).2]), (65, .pointer (some ⟨sq, 0, none⟩)), (66, .string x.k), (67, .tuple #[.string ((getR S.rows x.k).1), .bool (getR S.rows x.k).2]), (68, .string ((getR S.rows x.k).1)), (69, .bool (getR S.rows x.k).2), (70, iN .i64 3), (71, iN .i64 3), (72, .bool false), (73, .bool false), (74, iN .i64 3), (75, .bool false), (76, .bool false), (77, undef), (78, undef), (79, undef), (80, undef), (81, undef), (82, undef), (83, undef), (84, .bool false), (85, .bool false)] : List (Nat × Value)).find? (·.1 == ii)).elim undef (·.2), by kernel_rfl, hOr.mono (by omega), (hc25 _ _ ([]) _ ⟨_, _, hrs25, hK25, h30⟩)⟩
   ·by_cases hv1 : 262144 < x.v.size
    ·have hre : refR [x] [] = 3 := by rw [ref_one, if_neg hk0, if_pos (.inr hv1)]
     have hdo : DoS S [x] [] = (S, 3) := by rw [Or.no (by rw [hre]; decide), hre]
     refine wl_region ?_
     refine wl_val (.pointer (some ⟨sq, 0, none⟩)) (by kernel_rfl) (by kernel_rfl) ?_
     refine wl_val (.slice o xs.length c) (by kernel_rfl) (by kernel_rfl) ?_
     refine wl_val (iN .i64 i) (by kernel_rfl) (by kernel_rfl) ?_
     refine wl_val (iN .i64 i) (by kernel_rfl) (by kernel_rfl) ?_
     refine wl_val (iN .i64 (i + 1)) (by kernel_rfl) (run_add (k := .i64) (a := i) (b := 1) (by kernel_rfl) (by kernel_rfl) (by first | omega | (simp only [top]; omega))) ?_
     refine wl_val (.slice (some (oa.add (i * 2))) 1 (c - i)) (by kernel_rfl) (run_sl22 (a := oa) (n := xs.length) (cap := c) (i := i) (by rw [← hoa]; kernel_rfl) (by kernel_rfl) (by kernel_rfl) (by omega)) ?_
     refine wl_callx (by kernel_rfl) enter7 #[.pointer (some ⟨sq, 0, none⟩), .slice (some (oa.add (i * 2))) 1 (c - i), .slice none 0 0] (by kernel_rfl) (by have h9 := Do_any (hc15 _ _ ([]) _ ⟨_, _, hrs15, hK15, h16⟩) hOr.dg (by omega) (hOr.rb (by omega)) (by decide) (by decide) (po := some (oa.add (i * 2))) (pc := c - i) (do_ := none) (dc := 0) (ps := [x]) (ds := []) (pv_one hx0 hx1) (DV.nil none) (by show 1 ≤ 1000000000; decide) (by decide) (by have := hOr.size; show S.size ≤ 1000000000000; omega); rw [hdo] at h9; exact h9) ?_
     rintro _ w31 ⟨rfl, hP⟩
     refine ⟨_, rfl, ?_⟩
     obtain ⟨m32, X32, hc32, rs32, nx32, hrs32, hK32, hH32⟩ := SH.opn hP
     have h33 : HA ⟨w, m32 :: (sr, .mp (eR rs32) nx32) :: []⟩ ((sq, 44, scell d.q sr ((laidR S.rows)) S.size) :: ([] ++ X32)) w31 := hH32
     refine wl_val (iN .i64 3) (by kernel_rfl) (by kernel_rfl) ?_
     refine wl_nil ?_
     refine then_at rfl ?_
     refine wp_seq ?_
     refine wp_region_sure ⟨(.slice o xs.length c :: .string p :: un :: un :: u13 4 :: pt sq :: iN .i64 0 :: iN .i64 i :: iN .i64 3 :: .string x.k :: .string x.v :: u13 11 :: u13 12 :: u13 13 :: un :: un :: un :: un :: .bool true :: .bool false :: .tuple #[pt sq, iN .i64 0] :: pt d.q :: .tuple #[pt sq, iN .i64 0] :: pt sq :: iN .i64 0 :: iN .i64 0 :: .bool false :: iN .i64 i :: .slice o xs.length c :: iN .i64 xs.length :: .bool true :: .bool true :: iN .i64 i :: .bool true :: .bool true :: u13 35 :: u13 36 :: pt sq :: .slice o xs.length c :: iN .i64 i :: iN .i64 i :: iN .i64 (i + 1) :: .slice (some (oa.add (i * 2))) 1 (c - i) :: iN .i64 3 :: .slice o xs.length c :: iN .i64 i :: .pointer (some (oa.add (i * 2))) :: .pointer (some ((oa.add (i * 2)).add 0)) :: .string x.k :: .slice o xs.length c :: iN .i64 i :: .pointer (some (oa.add (i * 2))) :: .pointer (some ((oa.add (i * 2)).add 1)) :: .string x.v :: u13 54 :: u13 55 :: u13 56 :: u13 57 :: u13 58 :: u13 59 :: u13 60 :: u13 61 :: u13 62 :: u13 63 :: u13 64 :: u13 65 :: u13 66 :: u13 67 :: u13 68 :: u13 69 :: u13 70 :: u13 71 :: u13 72 :: u13 73 :: u13 74 :: u13 75 :: u13 76 :: u13 77 :: u13 78 :: u13 79 :: u13 80 :: u13 81 :: u13 82 :: u13 83 :: u13 84 :: u13 85 :: List.replicate 72 un).toArray, []⟩ (HA ⟨w, m32 :: (sr, .mp (eR rs32) nx32) :: []⟩ ((sq, 44, scell d.q sr ((laidR S.rows)) S.size) :: ([] ++ X32))) [.slice o xs.length c, iN .i64 i, .pointer (some (oa.add (i * 2))), .pointer (some ((oa.add (i * 2)).add 0)), .string x.k, .slice o xs.length c, iN .i64 i, .pointer (some (oa.add (i * 2))), .pointer (some ((oa.add (i * 2)).add 1)), .string x.v, .string x.k, .string x.v] (by kernel_rfl) (by kernel_rfl) (by kernel_rfl) (by kernel_rfl) (fun _ _ _ h => h) h33.drew ?_ ?_
     ·refine AllSure.cons (OpSure.take (v := .slice o xs.length c) (by kernel_rfl) (by kernel_rfl) (fun _ _ => (by kernel_rfl))) ?_
      refine AllSure.cons (OpSure.take (v := iN .i64 i) (by kernel_rfl) (by kernel_rfl) (fun _ _ => (by kernel_rfl))) ?_
      refine AllSure.cons (OpSure.take (v := .pointer (some (oa.add (i * 2)))) (by kernel_rfl) (by kernel_rfl) (fun _ _ => (run_addrT (o := o) (a := oa) (n := xs.length) (m := c) (i := i) hoa Try.underlying22 (fun w => Try.sizeOf32 w) (by kernel_rfl) (by kernel_rfl) (by omega)))) ?_
      refine AllSure.cons (OpSure.take (v := .pointer (some ((oa.add (i * 2)).add 0))) (by kernel_rfl) (by kernel_rfl) (fun _ _ => (by kernel_rfl))) ?_
      refine AllSure.cons (OpSure.take (v := .string x.k) (by kernel_rfl) (by kernel_rfl) (fun w' h' => run_load_at (b := (oa.add (i * 2)).add 0) (fun w => Try.isAgg9 w) (by kernel_rfl) (cell_old h'.old.old hx0))) ?_
      refine AllSure.cons (OpSure.take (v := .slice o xs.length c) (by kernel_rfl) (by kernel_rfl) (fun _ _ => (by kernel_rfl))) ?_
      refine AllSure.cons (OpSure.take (v := iN .i64 i) (by kernel_rfl) (by kernel_rfl) (fun _ _ => (by kernel_rfl))) ?_
      refine AllSure.cons (OpSure.take (v := .pointer (some (oa.add (i * 2)))) (by kernel_rfl) (by kernel_rfl) (fun _ _ => (run_addrT (o := o) (a := oa) (n := xs.length) (m := c) (i := i) hoa Try.underlying22 (fun w => Try.sizeOf32 w) (by kernel_rfl) (by kernel_rfl) (by omega)))) ?_
      refine AllSure.cons (OpSure.take (v := .pointer (some ((oa.add (i * 2)).add 1))) (by kernel_rfl) (by kernel_rfl) (fun _ _ => (by kernel_rfl))) ?_
      refine AllSure.cons (OpSure.take (v := .string x.v) (by kernel_rfl) (by kernel_rfl) (fun w' h' => run_load_at (b := (oa.add (i * 2)).add 1) (fun w => Try.isAgg9 w) (by kernel_rfl) (cell_old h'.old.old hx1))) ?_
      refine AllSure.cons (OpSure.take (v := .string x.k) (by kernel_rfl) (by kernel_rfl) (fun _ _ => (by kernel_rfl))) ?_
      refine AllSure.cons (OpSure.take (v := .string x.v) (by kernel_rfl) (by kernel_rfl) (fun _ _ => (by kernel_rfl))) ?_
      exact AllSure.nil
     intro w34 h35
     refine then_at rfl ?_
     refine wp_seq ?_
     refine wl_region ?_
     refine wl_val (iN .i64 0) (by kernel_rfl) (by kernel_rfl) ?_
     refine wl_nil ?_
     refine then_at rfl ?_
     refine wp_seq ?_
     refine wp_seq ?_
     refine wl_region ?_
     refine wl_val (.string x.k) (by kernel_rfl) (by kernel_rfl) ?_
     refine wl_val (.bool false) (by kernel_rfl) (run_eqs (s := x.k) (t := { data := #[] }) (by kernel_rfl) (by kernel_rfl) false (decide_eq_false (fun h => hk0 (by rw [h]; rfl)))) ?_
     refine wl_nil ?_
     refine then_at (F := ⟨(.slice o xs.length c :: .string p :: un :: un :: u13 4 :: pt sq :: iN .i64 0 :: iN .i64 i :: iN .i64 3 :: .string x.k :: .string x.v :: iN .i64 0 :: u13 12 :: u13 13 :: un :: un :: un :: un :: .bool true :: .bool false :: .tuple #[pt sq, iN .i64 0] :: pt d.q :: .tuple #[pt sq, iN .i64 0] :: pt sq :: iN .i64 0 :: iN .i64 0 :: .bool false :: iN .i64 i :: .slice o xs.length c :: iN .i64 xs.length :: .bool true :: .bool true :: iN .i64 i :: .bool true :: .bool true :: u13 35 :: u13 36 :: pt sq :: .slice o xs.length c :: iN .i64 i :: iN .i64 i :: iN .i64 (i + 1) :: .slice (some (oa.add (i * 2))) 1 (c - i) :: iN .i64 3 :: .slice o xs.length c :: iN .i64 i :: .pointer (some (oa.add (i * 2))) :: .pointer (some ((oa.add (i * 2)).add 0)) :: .string x.k :: .slice o xs.length c :: iN .i64 i :: .pointer (some (oa.add (i * 2))) :: .pointer (some ((oa.add (i * 2)).add 1)) :: .string x.v :: .string x.k :: .bool false :: u13 56 :: u13 57 :: u13 58 :: u13 59 :: u13 60 :: u13 61 :: u13 62 :: u13 63 :: u13 64 :: u13 65 :: u13 66 :: u13 67 :: u13 68 :: u13 69 :: u13 70 :: u13 71 :: u13 72 :: u13 73 :: u13 74 :: u13 75 :: u13 76 :: u13 77 :: u13 78 :: u13 79 :: u13 80 :: u13 81 :: u13 82 :: u13 83 :: u13 84 :: u13 85 :: List.replicate 72 un).toArray, []⟩) (by kernel_rfl) ?_
     refine wp_cond_false (by kernel_rfl) ?_
     refine wp_seq ?_
     refine wl_region ?_
     refine wl_val (.string x.k) (by kernel_rfl) (by kernel_rfl) ?_
     refine wl_val (iN .i64 x.k.size) (by kernel_rfl) (run_len (s := x.k) (by kernel_rfl)) ?_
     refine wl_val (.bool false) (by kernel_rfl) (run_gtr (k := .i64) (a := x.k.size) (b := 64) (by kernel_rfl) (by kernel_rfl) false (decide_eq_false hk1)) ?_
     refine wl_val (.bool false) (by kernel_rfl) (by kernel_rfl) ?_
     refine wl_val (.string x.v) (by kernel_rfl) (by kernel_rfl) ?_
     refine wl_val (iN .i64 x.v.size) (by kernel_rfl) (run_len (s := x.v) (by kernel_rfl)) ?_
     refine wl_val (.bool true) (by kernel_rfl) (run_gtr (k := .i64) (a := x.v.size) (b := 262144) (by kernel_rfl) (by kernel_rfl) true (decide_eq_true hv1)) ?_
     refine wl_val (.bool true) (by kernel_rfl) (by kernel_rfl) ?_
     refine wl_nil ?_
     refine then_at rfl ?_
     refine wp_cond_true (by kernel_rfl) ?_
     refine wl_region ?_
     refine wl_val (iN .i64 3) (by kernel_rfl) (by kernel_rfl) ?_
     refine wl_nil ?_
     refine then_at rfl ?_
     refine wp_seq ?_
     refine wl_region ?_
     refine wl_val (.pointer (some ⟨sq, 0, none⟩)) (by kernel_rfl) (by kernel_rfl) ?_
     refine wl_val (.string x.k) (by kernel_rfl) (by kernel_rfl) ?_
     refine wl_call (v := .tuple #[.string ((getR S.rows x.k).1), .bool (getR S.rows x.k).2]) h35 (by kernel_rfl) enter8 #[.pointer (some ⟨sq, 0, none⟩), .string x.k] (by kernel_rfl) (get_S (hc32 _ _ ([]) _ ⟨_, _, hrs32, hK32, h35⟩) (hOr.rb (by omega)) x.k) ?_
     intro w36 h37
     refine wl_val (.tuple #[.string ((getR S.rows x.k).1), .bool (getR S.rows x.k).2]) (by kernel_rfl) (by kernel_rfl) ?_
     refine wl_val (.string ((getR S.rows x.k).1)) (by kernel_rfl) (by kernel_rfl) ?_
     refine wl_val (.bool (getR S.rows x.k).2) (by kernel_rfl) (by kernel_rfl) ?_
     refine wl_val (.string ((getR S.rows x.k).1)) (by kernel_rfl) (by kernel_rfl) ?_
     refine wl_val (.bool (getR S.rows x.k).2) (by kernel_rfl) (by kernel_rfl) ?_
     refine wl_nil ?_
     refine then_at rfl ?_
     refine wp_seq ?_
     refine wl_region ?_
     refine wl_val (iN .i64 3) (by kernel_rfl) (by kernel_rfl) ?_
     refine wl_val (iN .i64 3) (by kernel_rfl) (by kernel_rfl) ?_
     refine wl_val (.bool false) (by kernel_rfl) (run_nei (k := .i64) (a := 3) (b := 3) (by kernel_rfl) (by kernel_rfl) false (by decide)) ?_
     refine wl_val (.bool false) (by kernel_rfl) (by kernel_rfl) ?_
     refine wl_val (iN .i64 3) (by kernel_rfl) (by kernel_rfl) ?_
     refine wl_val (.bool false) (by kernel_rfl) (run_eqi (k := .i64) (a := 3) (b := 0) (by kernel_rfl) (by kernel_rfl) false (by decide)) ?_
     refine wl_val (.bool false) (by kernel_rfl) (by kernel_rfl) ?_
     refine wl_skip (by kernel_rfl) ?_
     refine wl_skip (by kernel_rfl) ?_
     refine wl_skip (by kernel_rfl) ?_
     refine wl_skip (by kernel_rfl) ?_
     refine wl_skip (by kernel_rfl) ?_
     refine wl_skip (by kernel_rfl) ?_
     refine wl_skip (by kernel_rfl) ?_
     refine wl_val (.bool false) (by kernel_rfl) (by kernel_rfl) ?_
     refine wl_val (.bool false) (by kernel_rfl) (by kernel_rfl) ?_
     refine wl_nil ?_
     refine then_at rfl ?_
     refine wp_cond_false (by kernel_rfl) ?_
     refine wp_skip ?_
     refine block_normal ?_
     refine then_at rfl ?_
     refine wl_region ?_
     refine wl_val (iN .i64 i) (by kernel_rfl) (by kernel_rfl) ?_
     refine wl_val (iN .i64 (i + 1)) (by kernel_rfl) (run_add (k := .i64) (a := i) (b := 1) (by kernel_rfl) (by kernel_rfl) (by first | omega | (simp only [top]; omega))) ?_
     refine wl_val (iN .i64 (i + 1)) (by kernel_rfl) (by kernel_rfl) ?_
     refine wl_nil ?_
     exact then_I ⟨S, fun ii => (([(4, u13 4), (8, iN .i64 3), (9, .string x.k), (10, .string x.v), (11, iN .i64 3), (12, .string ((getR S.rows x.k).1)), (13, .bool (getR S.rows x.k).2), (27, iN .i64 i), (28, .slice o xs.length c), (29, iN .i64 xs.length), (30, .bool true), (31, .bool true), (32, iN .i64 i), (33, .bool true), (34, .bool true), (35, iN .i64 i), (36, iN .i64 (i + 1)), (37, .pointer (some ⟨sq, 0, none⟩)), (38, .slice o xs.length c), (39, iN .i64 i), (40, iN .i64 i), (41, iN .i64 (i + 1)), (42, .slice (some (oa.add (i * 2))) 1 (c - i)), (43, iN .i64 3), (44, .slice o xs.length c), (45, iN .i64 i), (46, .pointer (some (oa.add (i * 2)))), (47, .pointer (some ((oa.add (i * 2)).add 0))), (48, .string x.k), (49, .slice o xs.length c), (50, iN .i64 i), (51, .pointer (some (oa.add (i * 2)))), (52, .pointer (some ((oa.add (i * 2)).add 1))), (53, .string x.v), (54, .string x.k), (55, .bool false), (56, .string x.k), (57, iN .i64 x.k.size), (58, .bool false), (59, .bool false), (60, .string x.v), (61, iN .i64 x.v.size), (62, .bool true), (63, .bool true), (64, .tuple #[.string ((getR S.rows x.k).1), .bool (getR S.rows x.k).2]), (65, .pointer (some ⟨sq, 0, none⟩)), (66, .string x.k), (67, .tuple #[.string ((getR S.rows x.k).1), .bool (getR S.rows x.k).2]), (68, .string ((getR S.rows x.k).1)), (69, .bool (getR S.rows x.k).2), (70, iN .i64 3), (71, iN .i64 3), (72, .bool false), (73, .bool false), (74, iN .i64 3), (75, .bool false), (76, .bool false), (77, undef), (78, undef), (79, undef), (80, undef), (81, undef), (82, undef), (83, undef), (84, .bool false), (85, .bool false)] : List (Nat × Value)).find? (·.1 == ii)).elim undef (·.2), by kernel_rfl, hOr.mono (by omega), (hc32 _ _ ([]) _ ⟨_, _, hrs32, hK32, h37⟩)⟩
    ·have hdo := hOr.yes (by omega) hk0 (by omega) (by omega)
     obtain ⟨hdo0, hrw2, hOr2⟩ := hdo
     have hdo : (DoS S [x] []).2 = 0 ∧ True := ⟨hdo0, trivial⟩
     refine wl_region ?_
     refine wl_val (.pointer (some ⟨sq, 0, none⟩)) (by kernel_rfl) (by kernel_rfl) ?_
     refine wl_val (.slice o xs.length c) (by kernel_rfl) (by kernel_rfl) ?_
     refine wl_val (iN .i64 i) (by kernel_rfl) (by kernel_rfl) ?_
     refine wl_val (iN .i64 i) (by kernel_rfl) (by kernel_rfl) ?_
     refine wl_val (iN .i64 (i + 1)) (by kernel_rfl) (run_add (k := .i64) (a := i) (b := 1) (by kernel_rfl) (by kernel_rfl) (by first | omega | (simp only [top]; omega))) ?_
     refine wl_val (.slice (some (oa.add (i * 2))) 1 (c - i)) (by kernel_rfl) (run_sl22 (a := oa) (n := xs.length) (cap := c) (i := i) (by rw [← hoa]; kernel_rfl) (by kernel_rfl) (by kernel_rfl) (by omega)) ?_
     refine wl_callx (by kernel_rfl) enter7 #[.pointer (some ⟨sq, 0, none⟩), .slice (some (oa.add (i * 2))) 1 (c - i), .slice none 0 0] (by kernel_rfl) (by have h9 := Do_any (hc15 _ _ ([]) _ ⟨_, _, hrs15, hK15, h16⟩) hOr.dg (by omega) (hOr.rb (by omega)) (by decide) (by decide) (po := some (oa.add (i * 2))) (pc := c - i) (do_ := none) (dc := 0) (ps := [x]) (ds := []) (pv_one hx0 hx1) (DV.nil none) (by show 1 ≤ 1000000000; decide) (by decide) (by have := hOr.size; show S.size ≤ 1000000000000; omega); rw [hdo.1] at h9; exact h9) ?_
     rintro _ w38 ⟨rfl, hP⟩
     refine ⟨_, rfl, ?_⟩
     generalize (DoS S [x] []).1 = S2 at hP hOr2 hrw2
     obtain ⟨m39, X39, hc39, rs39, nx39, hrs39, hK39, hH39⟩ := SH.opn hP
     have h40 : HA ⟨w, m39 :: (sr, .mp (eR rs39) nx39) :: []⟩ ((sq, 44, scell d.q sr ((laidR S2.rows)) S2.size) :: ([] ++ X39)) w38 := hH39
     refine wl_val (iN .i64 0) (by kernel_rfl) (by kernel_rfl) ?_
     refine wl_nil ?_
     refine then_at (F := ⟨(.slice o xs.length c :: .string p :: un :: un :: u13 4 :: pt sq :: iN .i64 0 :: iN .i64 i :: iN .i64 0 :: u13 9 :: u13 10 :: u13 11 :: u13 12 :: u13 13 :: un :: un :: un :: un :: .bool true :: .bool false :: .tuple #[pt sq, iN .i64 0] :: pt d.q :: .tuple #[pt sq, iN .i64 0] :: pt sq :: iN .i64 0 :: iN .i64 0 :: .bool false :: iN .i64 i :: .slice o xs.length c :: iN .i64 xs.length :: .bool true :: .bool true :: iN .i64 i :: .bool true :: .bool true :: u13 35 :: u13 36 :: pt sq :: .slice o xs.length c :: iN .i64 i :: iN .i64 i :: iN .i64 (i + 1) :: .slice (some (oa.add (i * 2))) 1 (c - i) :: iN .i64 0 :: u13 44 :: u13 45 :: u13 46 :: u13 47 :: u13 48 :: u13 49 :: u13 50 :: u13 51 :: u13 52 :: u13 53 :: u13 54 :: u13 55 :: u13 56 :: u13 57 :: u13 58 :: u13 59 :: u13 60 :: u13 61 :: u13 62 :: u13 63 :: u13 64 :: u13 65 :: u13 66 :: u13 67 :: u13 68 :: u13 69 :: u13 70 :: u13 71 :: u13 72 :: u13 73 :: u13 74 :: u13 75 :: u13 76 :: u13 77 :: u13 78 :: u13 79 :: u13 80 :: u13 81 :: u13 82 :: u13 83 :: u13 84 :: u13 85 :: List.replicate 72 un).toArray, []⟩) (by kernel_rfl) ?_
     refine wp_seq ?_
     refine wp_region_sure ⟨(.slice o xs.length c :: .string p :: un :: un :: u13 4 :: pt sq :: iN .i64 0 :: iN .i64 i :: iN .i64 0 :: .string x.k :: .string x.v :: u13 11 :: u13 12 :: u13 13 :: un :: un :: un :: un :: .bool true :: .bool false :: .tuple #[pt sq, iN .i64 0] :: pt d.q :: .tuple #[pt sq, iN .i64 0] :: pt sq :: iN .i64 0 :: iN .i64 0 :: .bool false :: iN .i64 i :: .slice o xs.length c :: iN .i64 xs.length :: .bool true :: .bool true :: iN .i64 i :: .bool true :: .bool true :: u13 35 :: u13 36 :: pt sq :: .slice o xs.length c :: iN .i64 i :: iN .i64 i :: iN .i64 (i + 1) :: .slice (some (oa.add (i * 2))) 1 (c - i) :: iN .i64 0 :: .slice o xs.length c :: iN .i64 i :: .pointer (some (oa.add (i * 2))) :: .pointer (some ((oa.add (i * 2)).add 0)) :: .string x.k :: .slice o xs.length c :: iN .i64 i :: .pointer (some (oa.add (i * 2))) :: .pointer (some ((oa.add (i * 2)).add 1)) :: .string x.v :: u13 54 :: u13 55 :: u13 56 :: u13 57 :: u13 58 :: u13 59 :: u13 60 :: u13 61 :: u13 62 :: u13 63 :: u13 64 :: u13 65 :: u13 66 :: u13 67 :: u13 68 :: u13 69 :: u13 70 :: u13 71 :: u13 72 :: u13 73 :: u13 74 :: u13 75 :: u13 76 :: u13 77 :: u13 78 :: u13 79 :: u13 80 :: u13 81 :: u13 82 :: u13 83 :: u13 84 :: u13 85 :: List.replicate 72 un).toArray, []⟩ (HA ⟨w, m39 :: (sr, .mp (eR rs39) nx39) :: []⟩ ((sq, 44, scell d.q sr ((laidR S2.rows)) S2.size) :: ([] ++ X39))) [.slice o xs.length c, iN .i64 i, .pointer (some (oa.add (i * 2))), .pointer (some ((oa.add (i * 2)).add 0)), .string x.k, .slice o xs.length c, iN .i64 i, .pointer (some (oa.add (i * 2))), .pointer (some ((oa.add (i * 2)).add 1)), .string x.v, .string x.k, .string x.v] (by kernel_rfl) (by kernel_rfl) (by kernel_rfl) (by kernel_rfl) (fun _ _ _ h => h) h40.drew ?_ ?_
     ·refine AllSure.cons (OpSure.take (v := .slice o xs.length c) (by kernel_rfl) (by kernel_rfl) (fun _ _ => (by kernel_rfl))) ?_
      refine AllSure.cons (OpSure.take (v := iN .i64 i) (by kernel_rfl) (by kernel_rfl) (fun _ _ => (by kernel_rfl))) ?_
      refine AllSure.cons (OpSure.take (v := .pointer (some (oa.add (i * 2)))) (by kernel_rfl) (by kernel_rfl) (fun _ _ => (run_addrT (o := o) (a := oa) (n := xs.length) (m := c) (i := i) hoa Try.underlying22 (fun w => Try.sizeOf32 w) (by kernel_rfl) (by kernel_rfl) (by omega)))) ?_
      refine AllSure.cons (OpSure.take (v := .pointer (some ((oa.add (i * 2)).add 0))) (by kernel_rfl) (by kernel_rfl) (fun _ _ => (by kernel_rfl))) ?_
      refine AllSure.cons (OpSure.take (v := .string x.k) (by kernel_rfl) (by kernel_rfl) (fun w' h' => run_load_at (b := (oa.add (i * 2)).add 0) (fun w => Try.isAgg9 w) (by kernel_rfl) (cell_old h'.old.old hx0))) ?_
      refine AllSure.cons (OpSure.take (v := .slice o xs.length c) (by kernel_rfl) (by kernel_rfl) (fun _ _ => (by kernel_rfl))) ?_
      refine AllSure.cons (OpSure.take (v := iN .i64 i) (by kernel_rfl) (by kernel_rfl) (fun _ _ => (by kernel_rfl))) ?_
      refine AllSure.cons (OpSure.take (v := .pointer (some (oa.add (i * 2)))) (by kernel_rfl) (by kernel_rfl) (fun _ _ => (run_addrT (o := o) (a := oa) (n := xs.length) (m := c) (i := i) hoa Try.underlying22 (fun w => Try.sizeOf32 w) (by kernel_rfl) (by kernel_rfl) (by omega)))) ?_
      refine AllSure.cons (OpSure.take (v := .pointer (some ((oa.add (i * 2)).add 1))) (by kernel_rfl) (by kernel_rfl) (fun _ _ => (by kernel_rfl))) ?_
      refine AllSure.cons (OpSure.take (v := .string x.v) (by kernel_rfl) (by kernel_rfl) (fun w' h' => run_load_at (b := (oa.add (i * 2)).add 1) (fun w => Try.isAgg9 w) (by kernel_rfl) (cell_old h'.old.old hx1))) ?_
      refine AllSure.cons (OpSure.take (v := .string x.k) (by kernel_rfl) (by kernel_rfl) (fun _ _ => (by kernel_rfl))) ?_
      refine AllSure.cons (OpSure.take (v := .string x.v) (by kernel_rfl) (by kernel_rfl) (fun _ _ => (by kernel_rfl))) ?_
      exact AllSure.nil
     intro w41 h42
     refine then_at rfl ?_
     refine wp_seq ?_
     refine wl_region ?_
     refine wl_val (iN .i64 0) (by kernel_rfl) (by kernel_rfl) ?_
     refine wl_nil ?_
     refine then_at rfl ?_
     refine wp_seq ?_
     refine wp_seq ?_
     refine wl_region ?_
     refine wl_val (.string x.k) (by kernel_rfl) (by kernel_rfl) ?_
     refine wl_val (.bool false) (by kernel_rfl) (run_eqs (s := x.k) (t := { data := #[] }) (by kernel_rfl) (by kernel_rfl) false (decide_eq_false (fun h => hk0 (by rw [h]; rfl)))) ?_
     refine wl_nil ?_
     refine then_at rfl ?_
     refine wp_cond_false (by kernel_rfl) ?_
     refine wp_seq ?_
     refine wl_region ?_
     refine wl_val (.string x.k) (by kernel_rfl) (by kernel_rfl) ?_
     refine wl_val (iN .i64 x.k.size) (by kernel_rfl) (run_len (s := x.k) (by kernel_rfl)) ?_
     refine wl_val (.bool false) (by kernel_rfl) (run_gtr (k := .i64) (a := x.k.size) (b := 64) (by kernel_rfl) (by kernel_rfl) false (decide_eq_false hk1)) ?_
     refine wl_val (.bool false) (by kernel_rfl) (by kernel_rfl) ?_
     refine wl_val (.string x.v) (by kernel_rfl) (by kernel_rfl) ?_
     refine wl_val (iN .i64 x.v.size) (by kernel_rfl) (run_len (s := x.v) (by kernel_rfl)) ?_
     refine wl_val (.bool false) (by kernel_rfl) (run_gtr (k := .i64) (a := x.v.size) (b := 262144) (by kernel_rfl) (by kernel_rfl) false (decide_eq_false hv1)) ?_
     refine wl_val (.bool false) (by kernel_rfl) (by kernel_rfl) ?_
     refine wl_nil ?_
     refine then_at rfl ?_
     refine wp_cond_false (by kernel_rfl) ?_
     refine wp_skip ?_
     refine then_at rfl ?_
     refine wp_seq ?_
     refine wl_region ?_
     refine wl_val (.pointer (some ⟨sq, 0, none⟩)) (by kernel_rfl) (by kernel_rfl) ?_
     refine wl_val (.string x.k) (by kernel_rfl) (by kernel_rfl) ?_
     refine wl_call (v := .tuple #[.string x.v, .bool true]) h42 (by kernel_rfl) enter8 #[.pointer (some ⟨sq, 0, none⟩), .string x.k] (by kernel_rfl) (by have h9 := get_S (hc39 _ _ ([]) _ ⟨_, _, hrs39, hK39, h42⟩) (hOr2.rb (by omega)) x.k; rw [hrw2, get_put] at h9; exact h9) ?_
     intro w43 h44
     refine wl_val (.tuple #[.string x.v, .bool true]) (by kernel_rfl) (by kernel_rfl) ?_
     refine wl_val (.string x.v) (by kernel_rfl) (by kernel_rfl) ?_
     refine wl_val (.bool true) (by kernel_rfl) (by kernel_rfl) ?_
     refine wl_val (.string x.v) (by kernel_rfl) (by kernel_rfl) ?_
     refine wl_val (.bool true) (by kernel_rfl) (by kernel_rfl) ?_
     refine wl_nil ?_
     refine then_at (F := ⟨(.slice o xs.length c :: .string p :: un :: un :: u13 4 :: pt sq :: iN .i64 0 :: iN .i64 i :: iN .i64 0 :: .string x.k :: .string x.v :: iN .i64 0 :: .string x.v :: .bool true :: un :: un :: un :: un :: .bool true :: .bool false :: .tuple #[pt sq, iN .i64 0] :: pt d.q :: .tuple #[pt sq, iN .i64 0] :: pt sq :: iN .i64 0 :: iN .i64 0 :: .bool false :: iN .i64 i :: .slice o xs.length c :: iN .i64 xs.length :: .bool true :: .bool true :: iN .i64 i :: .bool true :: .bool true :: u13 35 :: u13 36 :: pt sq :: .slice o xs.length c :: iN .i64 i :: iN .i64 i :: iN .i64 (i + 1) :: .slice (some (oa.add (i * 2))) 1 (c - i) :: iN .i64 0 :: .slice o xs.length c :: iN .i64 i :: .pointer (some (oa.add (i * 2))) :: .pointer (some ((oa.add (i * 2)).add 0)) :: .string x.k :: .slice o xs.length c :: iN .i64 i :: .pointer (some (oa.add (i * 2))) :: .pointer (some ((oa.add (i * 2)).add 1)) :: .string x.v :: .string x.k :: .bool false :: .string x.k :: iN .i64 x.k.size :: .bool false :: .bool false :: .string x.v :: iN .i64 x.v.size :: .bool false :: .bool false :: .tuple #[.string x.v, .bool true] :: pt sq :: .string x.k :: .tuple #[.string x.v, .bool true] :: .string x.v :: .bool true :: u13 70 :: u13 71 :: u13 72 :: u13 73 :: u13 74 :: u13 75 :: u13 76 :: u13 77 :: u13 78 :: u13 79 :: u13 80 :: u13 81 :: u13 82 :: u13 83 :: u13 84 :: u13 85 :: List.replicate 72 un).toArray, []⟩) (by kernel_rfl) ?_
     refine wp_seq ?_
     refine wl_region ?_
     refine wl_val (iN .i64 0) (by kernel_rfl) (by kernel_rfl) ?_
     refine wl_val (iN .i64 0) (by kernel_rfl) (by kernel_rfl) ?_
     refine wl_val (.bool false) (by kernel_rfl) (run_nei (k := .i64) (a := 0) (b := 0) (by kernel_rfl) (by kernel_rfl) false (by decide)) ?_
     refine wl_val (.bool false) (by kernel_rfl) (by kernel_rfl) ?_
     refine wl_val (iN .i64 0) (by kernel_rfl) (by kernel_rfl) ?_
     refine wl_val (.bool true) (by kernel_rfl) (run_eqi (k := .i64) (a := 0) (b := 0) (by kernel_rfl) (by kernel_rfl) true (by decide)) ?_
     refine wl_val (.bool true) (by kernel_rfl) (by kernel_rfl) ?_
     refine wl_val (.bool true) (by kernel_rfl) (by kernel_rfl) ?_
     refine wl_val (.bool false) (by kernel_rfl) (by kernel_rfl) ?_
     refine wl_val (.bool false) (by kernel_rfl) (by kernel_rfl) ?_
     refine wl_val (.string x.v) (by kernel_rfl) (by kernel_rfl) ?_
     refine wl_val (.string x.v) (by kernel_rfl) (by kernel_rfl) ?_
     refine wl_val (.bool false) (by kernel_rfl) (run_nes (s := x.v) (t := x.v) (by kernel_rfl) (by kernel_rfl) false (decide_eq_true rfl)) ?_
     refine wl_val (.bool false) (by kernel_rfl) (by kernel_rfl) ?_
     refine wl_val (.bool false) (by kernel_rfl) (by kernel_rfl) ?_
     refine wl_val (.bool false) (by kernel_rfl) (by kernel_rfl) ?_
     refine wl_nil ?_
     refine then_at rfl ?_
     refine wp_cond_false (by kernel_rfl) ?_
     refine wp_skip ?_
     refine block_normal ?_
     refine then_at rfl ?_
     refine wl_region ?_
     refine wl_val (iN .i64 i) (by kernel_rfl) (by kernel_rfl) ?_
     refine wl_val (iN .i64 (i + 1)) (by kernel_rfl) (run_add (k := .i64) (a := i) (b := 1) (by kernel_rfl) (by kernel_rfl) (by first | omega | (simp only [top]; omega))) ?_
     refine wl_val (iN .i64 (i + 1)) (by kernel_rfl) (by kernel_rfl) ?_
     refine wl_nil ?_
     exact then_I ⟨S2, fun ii => (([(4, u13 4), (8, iN .i64 0), (9, .string x.k), (10, .string x.v), (11, iN .i64 0), (12, .string x.v), (13, .bool true), (27, iN .i64 i), (28, .slice o xs.length c), (29, iN .i64 xs.length), (30, .bool true), (31, .bool true), (32, iN .i64 i), (33, .bool true), (34, .bool true), (35, iN .i64 i), (36, iN .i64 (i + 1)), (37, .pointer (some ⟨sq, 0, none⟩)), (38, .slice o xs.length c), (39, iN .i64 i), (40, iN .i64 i), (41, iN .i64 (i + 1)), (42, .slice (some (oa.add (i * 2))) 1 (c - i)), (43, iN .i64 0), (44, .slice o xs.length c), (45, iN .i64 i), (46, .pointer (some (oa.add (i * 2)))), (47, .pointer (some ((oa.add (i * 2)).add 0))), (48, .string x.k), (49, .slice o xs.length c), (50, iN .i64 i), (51, .pointer (some (oa.add (i * 2)))), (52, .pointer (some ((oa.add (i * 2)).add 1))), (53, .string x.v), (54, .string x.k), (55, .bool false), (56, .string x.k), (57, iN .i64 x.k.size), (58, .bool false), (59, .bool false), (60, .string x.v), (61, iN .i64 x.v.size), (62, .bool false), (63, .bool false), (64, .tuple #[.string x.v, .bool true]), (65, .pointer (some ⟨sq, 0, none⟩)), (66, .string x.k), (67, .tuple #[.string x.v, .bool true]), (68, .string x.v), (69, .bool true), (70, iN .i64 0), (71, iN .i64 0), (72, .bool false), (73, .bool false), (74, iN .i64 0), (75, .bool true), (76, .bool true), (77, .bool true), (78, .bool false), (79, .bool false), (80, .string x.v), (81, .string x.v), (82, .bool false), (83, .bool false), (84, .bool false), (85, .bool false)] : List (Nat × Value)).find? (·.1 == ii)).elim undef (·.2), by kernel_rfl, hOr2, (hc39 _ _ ([]) _ ⟨_, _, hrs39, hK39, h44⟩)⟩
 ·rintro _ w45 ⟨S, u13, rfl, hOr, hS⟩
  obtain ⟨m46, X46, hc46, rs46, nx46, hrs46, hK46, hH46⟩ := SH.opn hS
  have h47 : HA ⟨w, m46 :: (sr, .mp (eR rs46) nx46) :: []⟩ ((sq, 44, scell d.q sr ((laidR S.rows)) S.size) :: ([] ++ X46)) w45 := hH46
  refine wp_seq ?_
  refine wp_seq ?_
  by_cases hgt : 60 < xs.length
  ·refine wl_region ?_
   refine wl_val (iN .i64 (min xs.length 60)) (by kernel_rfl) (by kernel_rfl) ?_
   refine wl_val (.slice o xs.length c) (by kernel_rfl) (by kernel_rfl) ?_
   refine wl_val (iN .i64 xs.length) (by kernel_rfl) (by kernel_rfl) ?_
   refine wl_val (.bool true) (by kernel_rfl) (run_lss (k := .i64) (a := min xs.length 60) (b := xs.length) (by kernel_rfl) (by kernel_rfl) true (decide_eq_true (by omega))) ?_
   refine wl_val (.bool true) (by kernel_rfl) (by kernel_rfl) ?_
   refine wl_val (iN .i64 (min xs.length 60)) (by kernel_rfl) (by kernel_rfl) ?_
   refine wl_val (.bool false) (by kernel_rfl) (run_lss (k := .i64) (a := min xs.length 60) (b := 60) (by kernel_rfl) (by kernel_rfl) false (decide_eq_false (by omega))) ?_
   refine wl_val (.bool false) (by kernel_rfl) (by kernel_rfl) ?_
   refine wl_nil ?_
   refine then_at rfl ?_
   refine wp_cond_false (by kernel_rfl) ?_
   refine wp_exit ?_
   repeat first | refine then_exit ?_ | refine block_exit ?_ | refine block_exit_ne (by decide) ?_
   refine then_at rfl ?_
   refine wp_seq ?_
   have hOr60 := hOr.mono (j := 60) (by omega)
   have hall : (lstR S.rows { data := #[] }).length = S.rows.length := by
    have h9 : (S.rows.filter fun x => pfx x.k { data := #[] }) = S.rows := List.filter_eq_self.2 fun x _ => by simp [pfx, Lib.hasPrefix, bl]
    unfold lstR
    rw [h9, List.length_mergeSort, List.length_map]
   have hsome := lst_filter S.rows p
   have hlen60 : S.rows.length ≤ 60 := Nat.le_trans hOr.ln (by omega)
   refine wl_region ?_
   refine wl_val (.pointer (some ⟨sq, 0, none⟩)) (by kernel_rfl) (by kernel_rfl) ?_
   refine wl_callx (by kernel_rfl) enter9 #[.pointer (some ⟨sq, 0, none⟩), .string ({ data := #[] })] (by kernel_rfl) (list_S (hc46 _ _ ([]) _ ⟨_, _, hrs46, hK46, h47⟩) (hOr.rb (by omega)) (by decide) { data := #[] }) ?_
   rintro _ w48 ⟨va, La, rfl, hRa, hLa⟩
   refine ⟨_, rfl, ?_⟩
   obtain ⟨pa, ca, rfl⟩ := hRa.form
   have h49 : HA ⟨w, m46 :: (sr, .mp (eR rs46) nx46) :: []⟩ (La ++ ([(sq, 44, scell d.q sr ((laidR S.rows)) S.size)] ++ ([] ++ X46))) w48 := HA.join h47 hLa
   have h50 : HA ⟨w, m46 :: (sr, .mp (eR rs46) nx46) :: []⟩ ((sq, 44, scell d.q sr ((laidR S.rows)) S.size) :: (La ++ X46)) w48 := h49.perm (perm_mv La [(sq, 44, scell d.q sr ((laidR S.rows)) S.size)] ([] ++ X46))
   refine wl_val (.pointer (some ⟨sq, 0, none⟩)) (by kernel_rfl) (by kernel_rfl) ?_
   refine wl_val (.string p) (by kernel_rfl) (by kernel_rfl) ?_
   refine wl_callx (by kernel_rfl) enter9 #[.pointer (some ⟨sq, 0, none⟩), .string p] (by kernel_rfl) (list_S (hc46 _ _ (La) _ ⟨_, _, hrs46, hK46, h50⟩) (hOr.rb (by omega)) (by decide) p) ?_
   rintro _ w51 ⟨vs, Ls, rfl, hRs, hLs⟩
   refine ⟨_, rfl, ?_⟩
   obtain ⟨ps, cs, rfl⟩ := hRs.form
   have h52 : HA ⟨w, m46 :: (sr, .mp (eR rs46) nx46) :: []⟩ (Ls ++ ([(sq, 44, scell d.q sr ((laidR S.rows)) S.size)] ++ (La ++ X46))) w51 := HA.join h50 hLs
   have h53 : HA ⟨w, m46 :: (sr, .mp (eR rs46) nx46) :: []⟩ ((sq, 44, scell d.q sr ((laidR S.rows)) S.size) :: ((Ls ++ La) ++ X46)) w51 := (h52.perm (perm_mv Ls [(sq, 44, scell d.q sr ((laidR S.rows)) S.size)] (La ++ X46))).perm (by rw [← List.append_assoc Ls La X46]; exact List.Perm.refl _)
   refine wl_val (.slice pa (lstR S.rows { data := #[] }).length ca) (by kernel_rfl) (by kernel_rfl) ?_
   refine wl_val (.slice ps (lstR S.rows p).length cs) (by kernel_rfl) (by kernel_rfl) ?_
   refine wl_nil ?_
   refine then_at rfl ?_
   refine wp_seq ?_
   refine wl_region ?_
   refine wl_val (iN .i64 0) (by kernel_rfl) (by kernel_rfl) ?_
   refine wl_nil ?_
   refine then_at (F := ⟨(.slice o xs.length c :: .string p :: un :: un :: u13 4 :: pt sq :: iN .i64 0 :: iN .i64 (min xs.length 60) :: u13 8 :: u13 9 :: u13 10 :: u13 11 :: u13 12 :: u13 13 :: .slice pa (lstR S.rows { data := #[] }).length ca :: .slice ps (lstR S.rows p).length cs :: iN .i64 0 :: un :: .bool true :: .bool false :: .tuple #[pt sq, iN .i64 0] :: pt d.q :: .tuple #[pt sq, iN .i64 0] :: pt sq :: iN .i64 0 :: iN .i64 0 :: .bool false :: iN .i64 (min xs.length 60) :: .slice o xs.length c :: iN .i64 xs.length :: .bool true :: .bool true :: iN .i64 (min xs.length 60) :: .bool false :: .bool false :: u13 35 :: u13 36 :: u13 37 :: u13 38 :: u13 39 :: u13 40 :: u13 41 :: u13 42 :: u13 43 :: u13 44 :: u13 45 :: u13 46 :: u13 47 :: u13 48 :: u13 49 :: u13 50 :: u13 51 :: u13 52 :: u13 53 :: u13 54 :: u13 55 :: u13 56 :: u13 57 :: u13 58 :: u13 59 :: u13 60 :: u13 61 :: u13 62 :: u13 63 :: u13 64 :: u13 65 :: u13 66 :: u13 67 :: u13 68 :: u13 69 :: u13 70 :: u13 71 :: u13 72 :: u13 73 :: u13 74 :: u13 75 :: u13 76 :: u13 77 :: u13 78 :: u13 79 :: u13 80 :: u13 81 :: u13 82 :: u13 83 :: u13 84 :: u13 85 :: pt sq :: .slice pa (lstR S.rows { data := #[] }).length ca :: pt sq :: .string p :: .slice ps (lstR S.rows p).length cs :: List.replicate 67 un).toArray, []⟩) (by kernel_rfl) ?_
   refine wp_seq ?_
   refine wp_seq ?_
   refine wl_region ?_
   refine wl_val (iN .i64 0) (by kernel_rfl) (by kernel_rfl) ?_
   refine wl_nil ?_
   refine then_at rfl ?_
   refine wp_block ?_
   refine wp_count (fun j A w' => ∃ u54 : Nat → Value, A = ⟨(.slice o xs.length c :: .string p :: un :: un :: u54 4 :: pt sq :: iN .i64 0 :: iN .i64 (min xs.length 60) :: u13 8 :: u13 9 :: u13 10 :: u13 11 :: u13 12 :: u13 13 :: .slice pa (lstR S.rows { data := #[] }).length ca :: .slice ps (lstR S.rows p).length cs :: iN .i64 (cntP (lstR S.rows { data := #[] }) (bl p) j) :: iN .i64 j :: .bool true :: .bool false :: .tuple #[pt sq, iN .i64 0] :: pt d.q :: .tuple #[pt sq, iN .i64 0] :: pt sq :: iN .i64 0 :: iN .i64 0 :: .bool false :: iN .i64 (min xs.length 60) :: .slice o xs.length c :: iN .i64 xs.length :: .bool true :: .bool true :: iN .i64 (min xs.length 60) :: .bool false :: .bool false :: u13 35 :: u13 36 :: u13 37 :: u13 38 :: u13 39 :: u13 40 :: u13 41 :: u13 42 :: u13 43 :: u13 44 :: u13 45 :: u13 46 :: u13 47 :: u13 48 :: u13 49 :: u13 50 :: u13 51 :: u13 52 :: u13 53 :: u13 54 :: u13 55 :: u13 56 :: u13 57 :: u13 58 :: u13 59 :: u13 60 :: u13 61 :: u13 62 :: u13 63 :: u13 64 :: u13 65 :: u13 66 :: u13 67 :: u13 68 :: u13 69 :: u13 70 :: u13 71 :: u13 72 :: u13 73 :: u13 74 :: u13 75 :: u13 76 :: u13 77 :: u13 78 :: u13 79 :: u13 80 :: u13 81 :: u13 82 :: u13 83 :: u13 84 :: u13 85 :: pt sq :: .slice pa (lstR S.rows { data := #[] }).length ca :: pt sq :: .string p :: .slice ps (lstR S.rows p).length cs :: u54 91 :: u54 92 :: u54 93 :: u54 94 :: u54 95 :: u54 96 :: u54 97 :: u54 98 :: u54 99 :: u54 100 :: u54 101 :: u54 102 :: u54 103 :: u54 104 :: u54 105 :: u54 106 :: u54 107 :: u54 108 :: u54 109 :: u54 110 :: u54 111 :: u54 112 :: u54 113 :: u54 114 :: u54 115 :: u54 116 :: u54 117 :: u54 118 :: u54 119 :: u54 120 :: u54 121 :: u54 122 :: u54 123 :: u54 124 :: u54 125 :: u54 126 :: u54 127 :: u54 128 :: u54 129 :: u54 130 :: u54 131 :: u54 132 :: u54 133 :: u54 134 :: u54 135 :: u54 136 :: u54 137 :: u54 138 :: u54 139 :: u54 140 :: u54 141 :: u54 142 :: u54 143 :: u54 144 :: u54 145 :: u54 146 :: List.replicate 11 un).toArray, []⟩ ∧ HA ⟨w, m46 :: (sr, .mp (eR rs46) nx46) :: []⟩ ((sq, 44, scell d.q sr ((laidR S.rows)) S.size) :: ((Ls ++ La) ++ X46)) w') ((lstR S.rows { data := #[] }).length) ?_ ?_ ?_
   ·exact ⟨fun ii => (([(4, u13 4), (91, undef), (92, undef), (93, undef), (94, undef), (95, undef), (96, undef), (97, undef), (98, undef), (99, undef), (100, undef), (101, undef), (102, undef), (103, undef), (104, undef), (105, undef), (106, undef), (107, undef), (108, undef), (109, undef), (110, undef), (111, undef), (112, undef), (113, undef), (114, undef), (115, undef), (116, undef), (117, undef), (118, undef), (119, undef), (120, undef), (121, undef), (122, undef), (123, undef), (124, undef), (125, undef), (126, undef), (127, undef), (128, undef), (129, undef), (130, undef), (131, undef), (132, undef), (133, undef), (134, undef), (135, undef), (136, undef), (137, undef), (138, undef), (139, undef), (140, undef), (141, undef), (142, undef), (143, undef), (144, undef), (145, undef), (146, undef)] : List (Nat × Value)).find? (·.1 == ii)).elim undef (·.2), by kernel_rfl, h53⟩
   ·rintro j hj _ w55 ⟨u54, rfl, hL2⟩
    obtain ⟨ba, hba⟩ : ∃ b, (lstR S.rows { data := #[] })[j]? = some b := ⟨_, List.getElem?_eq_getElem hj⟩
    obtain ⟨aa, haa, ha3⟩ := nm_at hRa hba
    have hcs := cntP_succ (p := bl p) hba
    have hcl : cntP (lstR S.rows { data := #[] }) (bl p) j ≤ j := by unfold cntP; exact Nat.le_trans (List.length_filter_le _ _) (by rw [List.length_take]; omega)
    refine wp_seq ?_
    refine wp_seq ?_
    refine wl_region ?_
    refine wl_val (iN .i64 j) (by kernel_rfl) (by kernel_rfl) ?_
    refine wl_val (.slice pa (lstR S.rows { data := #[] }).length ca) (by kernel_rfl) (by kernel_rfl) ?_
    refine wl_val (iN .i64 ((lstR S.rows { data := #[] }).length)) (by kernel_rfl) (by kernel_rfl) ?_
    refine wl_val (.bool true) (by kernel_rfl) (run_lss (k := .i64) (a := j) (b := (lstR S.rows { data := #[] }).length) (by kernel_rfl) (by kernel_rfl) true (decide_eq_true (by omega))) ?_
    refine wl_nil ?_
    refine then_at rfl ?_
    refine wp_cond_true (by kernel_rfl) ?_
    refine wp_skip ?_
    refine then_at rfl ?_
    refine wp_seq ?_
    refine wp_block ?_
    refine wp_seq ?_
    refine wp_seq ?_
    by_cases hj0 : 0 < j
    ·obtain ⟨bp, hbp⟩ : ∃ b, (lstR S.rows { data := #[] })[j - 1]? = some b := ⟨_, List.getElem?_eq_getElem (by omega)⟩
     obtain ⟨ap, hap, hp3⟩ := nm_at hRa hbp
     have hlt : bp < ba := lst_sorted hOr.nodup hbp (by rw [show j - 1 + 1 = j by omega]; exact hba)
     refine wp_region_sure ⟨(.slice o xs.length c :: .string p :: un :: un :: u54 4 :: pt sq :: iN .i64 0 :: iN .i64 (min xs.length 60) :: u13 8 :: u13 9 :: u13 10 :: u13 11 :: u13 12 :: u13 13 :: .slice pa (lstR S.rows { data := #[] }).length ca :: .slice ps (lstR S.rows p).length cs :: iN .i64 (cntP (lstR S.rows { data := #[] }) (bl p) j) :: iN .i64 j :: .bool true :: .bool false :: .tuple #[pt sq, iN .i64 0] :: pt d.q :: .tuple #[pt sq, iN .i64 0] :: pt sq :: iN .i64 0 :: iN .i64 0 :: .bool false :: iN .i64 (min xs.length 60) :: .slice o xs.length c :: iN .i64 xs.length :: .bool true :: .bool true :: iN .i64 (min xs.length 60) :: .bool false :: .bool false :: u13 35 :: u13 36 :: u13 37 :: u13 38 :: u13 39 :: u13 40 :: u13 41 :: u13 42 :: u13 43 :: u13 44 :: u13 45 :: u13 46 :: u13 47 :: u13 48 :: u13 49 :: u13 50 :: u13 51 :: u13 52 :: u13 53 :: u13 54 :: u13 55 :: u13 56 :: u13 57 :: u13 58 :: u13 59 :: u13 60 :: u13 61 :: u13 62 :: u13 63 :: u13 64 :: u13 65 :: u13 66 :: u13 67 :: u13 68 :: u13 69 :: u13 70 :: u13 71 :: u13 72 :: u13 73 :: u13 74 :: u13 75 :: u13 76 :: u13 77 :: u13 78 :: u13 79 :: u13 80 :: u13 81 :: u13 82 :: u13 83 :: u13 84 :: u13 85 :: pt sq :: .slice pa (lstR S.rows { data := #[] }).length ca :: pt sq :: .string p :: .slice ps (lstR S.rows p).length cs :: iN .i64 j :: .slice pa (lstR S.rows { data := #[] }).length ca :: iN .i64 ((lstR S.rows { data := #[] }).length) :: .bool true :: u54 95 :: u54 96 :: iN .i64 j :: .bool true :: .bool true :: .slice pa (lstR S.rows { data := #[] }).length ca :: iN .i64 j :: iN .i64 (j - 1) :: .pointer (some (ap.add (j - 1))) :: .string ((⟨bp.toArray⟩ : ByteArray)) :: .slice pa (lstR S.rows { data := #[] }).length ca :: iN .i64 j :: .pointer (some (aa.add j)) :: .string ((⟨ba.toArray⟩ : ByteArray)) :: .bool false :: .bool false :: u54 111 :: u54 112 :: u54 113 :: u54 114 :: u54 115 :: u54 116 :: u54 117 :: u54 118 :: u54 119 :: u54 120 :: u54 121 :: u54 122 :: u54 123 :: u54 124 :: u54 125 :: u54 126 :: u54 127 :: u54 128 :: u54 129 :: u54 130 :: u54 131 :: u54 132 :: u54 133 :: u54 134 :: u54 135 :: u54 136 :: u54 137 :: u54 138 :: u54 139 :: u54 140 :: u54 141 :: u54 142 :: u54 143 :: u54 144 :: u54 145 :: u54 146 :: List.replicate 11 un).toArray, []⟩ (HA ⟨w, m46 :: (sr, .mp (eR rs46) nx46) :: []⟩ ((sq, 44, scell d.q sr ((laidR S.rows)) S.size) :: ((Ls ++ La) ++ X46))) [iN .i64 j, .bool true, .bool true, .slice pa (lstR S.rows { data := #[] }).length ca, iN .i64 j, iN .i64 (j - 1), .pointer (some (ap.add (j - 1))), .string ((⟨bp.toArray⟩ : ByteArray)), .slice pa (lstR S.rows { data := #[] }).length ca, iN .i64 j, .pointer (some (aa.add j)), .string ((⟨ba.toArray⟩ : ByteArray)), .bool false, .bool false] (by kernel_rfl) (by kernel_rfl) (by kernel_rfl) (by kernel_rfl) (fun _ _ _ h => h) hL2.drew ?_ ?_
     ·refine AllSure.cons (OpSure.take (v := iN .i64 j) (by kernel_rfl) (by kernel_rfl) (fun _ _ => (by kernel_rfl))) ?_
      refine AllSure.cons (OpSure.take (v := .bool true) (by kernel_rfl) (by kernel_rfl) (fun _ _ => (run_gtr (k := .i64) (a := j) (b := 0) (by kernel_rfl) (by kernel_rfl) true (decide_eq_true hj0)))) ?_
      refine AllSure.cons (OpSure.take (v := .bool true) (by kernel_rfl) (by kernel_rfl) (fun _ _ => (by kernel_rfl))) ?_
      refine AllSure.cons (OpSure.take (v := .slice pa (lstR S.rows { data := #[] }).length ca) (by kernel_rfl) (by kernel_rfl) (fun _ _ => (by kernel_rfl))) ?_
      refine AllSure.cons (OpSure.take (v := iN .i64 j) (by kernel_rfl) (by kernel_rfl) (fun _ _ => (by kernel_rfl))) ?_
      refine AllSure.cons (OpSure.take (v := iN .i64 (j - 1)) (by kernel_rfl) (by kernel_rfl) (fun _ _ => (run_sub (k := .i64) (a := j) (b := 1) (by kernel_rfl) (by kernel_rfl) (by first | omega | (simp only [top]; omega)) (by first | omega | (simp only [top]; omega))))) ?_
      refine AllSure.cons (OpSure.take (v := .pointer (some (ap.add (j - 1)))) (by kernel_rfl) (by kernel_rfl) (fun _ _ => (run_addr39 (o := pa) (a := ap) (n := (lstR S.rows { data := #[] }).length) (m := ca) (i := j - 1) hap (by kernel_rfl) (by kernel_rfl) (by omega)))) ?_
      refine AllSure.cons (OpSure.take (v := .string ((⟨bp.toArray⟩ : ByteArray))) (by kernel_rfl) (by kernel_rfl) (fun w' h' => run_load_at (b := ap.add (j - 1)) (fun w => Try.isAgg9 w) (by kernel_rfl) (hp3 _ (fun y hy => h'.blk y (List.mem_cons_of_mem _ (List.mem_append_left _ (List.mem_append_right _ hy))))))) ?_
      refine AllSure.cons (OpSure.take (v := .slice pa (lstR S.rows { data := #[] }).length ca) (by kernel_rfl) (by kernel_rfl) (fun _ _ => (by kernel_rfl))) ?_
      refine AllSure.cons (OpSure.take (v := iN .i64 j) (by kernel_rfl) (by kernel_rfl) (fun _ _ => (by kernel_rfl))) ?_
      refine AllSure.cons (OpSure.take (v := .pointer (some (aa.add j))) (by kernel_rfl) (by kernel_rfl) (fun _ _ => (run_addr39 (o := pa) (a := aa) (n := (lstR S.rows { data := #[] }).length) (m := ca) (i := j) haa (by kernel_rfl) (by kernel_rfl) (by omega)))) ?_
      refine AllSure.cons (OpSure.take (v := .string ((⟨ba.toArray⟩ : ByteArray))) (by kernel_rfl) (by kernel_rfl) (fun w' h' => run_load_at (b := aa.add j) (fun w => Try.isAgg9 w) (by kernel_rfl) (ha3 _ (fun y hy => h'.blk y (List.mem_cons_of_mem _ (List.mem_append_left _ (List.mem_append_right _ hy))))))) ?_
      refine AllSure.cons (OpSure.take (v := .bool false) (by kernel_rfl) (by kernel_rfl) (fun _ _ => (run_ges (s := (⟨bp.toArray⟩ : ByteArray)) (t := (⟨ba.toArray⟩ : ByteArray)) (by kernel_rfl) (by kernel_rfl) false (by rw [toL, toL, decide_eq_true hlt]; rfl)))) ?_
      refine AllSure.cons (OpSure.take (v := .bool false) (by kernel_rfl) (by kernel_rfl) (fun _ _ => (by kernel_rfl))) ?_
      exact AllSure.nil
     intro w56 h57
     refine then_at rfl ?_
     refine wp_cond_false (by kernel_rfl) ?_
     refine wp_skip ?_
     refine then_at rfl ?_
     refine wp_seq ?_
     have hpx := pfx_iff ba p
     have hbz : (⟨ba.toArray⟩ : ByteArray).size = ba.length := by show ba.toArray.size = _; simp
     by_cases hsz : p.size ≤ ba.length
     ·by_cases hex : (⟨ba.toArray⟩ : ByteArray).extract 0 p.size = p
      ·have hpf : Lib.hasPrefix ba (bl p) = true := by rw [hpx, decide_eq_true hsz, decide_eq_true hex]; rfl
       rw [if_pos hpf] at hcs
       have hsn : (lstR S.rows p)[cntP (lstR S.rows { data := #[] }) (bl p) j]? = some ba := by rw [hsome]; exact cntP_at hba hpf
       obtain ⟨as1, has, hs3⟩ := nm_at hRs hsn
       have hsl := (List.getElem?_eq_some_iff.1 hsn).1
       refine wl_region ?_
       refine wl_val (.slice pa (lstR S.rows { data := #[] }).length ca) (by kernel_rfl) (by kernel_rfl) ?_
       refine wl_val (iN .i64 j) (by kernel_rfl) (by kernel_rfl) ?_
       refine wl_val (.pointer (some (aa.add j))) (by kernel_rfl) (run_addr39 (o := pa) (a := aa) (n := (lstR S.rows { data := #[] }).length) (m := ca) (i := j) haa (by kernel_rfl) (by kernel_rfl) (by omega)) ?_
       refine wl_val (.string ((⟨ba.toArray⟩ : ByteArray))) (by kernel_rfl) (run_load_at (b := aa.add j) (fun w => Try.isAgg9 w) (by kernel_rfl) (ha3 _ (fun y hy => h57.blk y (List.mem_cons_of_mem _ (List.mem_append_left _ (List.mem_append_right _ hy)))))) ?_
       refine wl_val (iN .i64 (((⟨ba.toArray⟩ : ByteArray)).size)) (by kernel_rfl) (run_len (s := (⟨ba.toArray⟩ : ByteArray)) (by kernel_rfl)) ?_
       refine wl_val (.string p) (by kernel_rfl) (by kernel_rfl) ?_
       refine wl_val (iN .i64 p.size) (by kernel_rfl) (run_len (s := p) (by kernel_rfl)) ?_
       refine wl_val (.bool true) (by kernel_rfl) (run_geq (k := .i64) (a := ((⟨ba.toArray⟩ : ByteArray)).size) (b := p.size) (by kernel_rfl) (by kernel_rfl) true (decide_eq_true (by rw [hbz]; exact hsz))) ?_
       refine wl_val (.bool true) (by kernel_rfl) (by kernel_rfl) ?_
       refine wl_val (.slice pa (lstR S.rows { data := #[] }).length ca) (by kernel_rfl) (by kernel_rfl) ?_
       refine wl_val (iN .i64 j) (by kernel_rfl) (by kernel_rfl) ?_
       refine wl_val (.pointer (some (aa.add j))) (by kernel_rfl) (run_addr39 (o := pa) (a := aa) (n := (lstR S.rows { data := #[] }).length) (m := ca) (i := j) haa (by kernel_rfl) (by kernel_rfl) (by omega)) ?_
       refine wl_val (.string ((⟨ba.toArray⟩ : ByteArray))) (by kernel_rfl) (run_load_at (b := aa.add j) (fun w => Try.isAgg9 w) (by kernel_rfl) (ha3 _ (fun y hy => h57.blk y (List.mem_cons_of_mem _ (List.mem_append_left _ (List.mem_append_right _ hy)))))) ?_
       refine wl_val (.string p) (by kernel_rfl) (by kernel_rfl) ?_
       refine wl_val (iN .i64 p.size) (by kernel_rfl) (run_len (s := p) (by kernel_rfl)) ?_
       refine wl_val (.string (((⟨ba.toArray⟩ : ByteArray)).extract 0 p.size)) (by kernel_rfl) (run_cut_hi (s := (⟨ba.toArray⟩ : ByteArray)) (b := p.size) (by kernel_rfl) (by kernel_rfl) (by omega)) ?_
       refine wl_val (.string p) (by kernel_rfl) (by kernel_rfl) ?_
       refine wl_val (.bool true) (by kernel_rfl) (run_eqs (s := ((⟨ba.toArray⟩ : ByteArray)).extract 0 p.size) (t := p) (by kernel_rfl) (by kernel_rfl) true (decide_eq_true hex)) ?_
       refine wl_val (.bool true) (by kernel_rfl) (by kernel_rfl) ?_
       refine wl_nil ?_
       refine then_at (F := ⟨(.slice o xs.length c :: .string p :: un :: un :: u54 4 :: pt sq :: iN .i64 0 :: iN .i64 (min xs.length 60) :: u13 8 :: u13 9 :: u13 10 :: u13 11 :: u13 12 :: u13 13 :: .slice pa (lstR S.rows { data := #[] }).length ca :: .slice ps (lstR S.rows p).length cs :: iN .i64 (cntP (lstR S.rows { data := #[] }) (bl p) j) :: iN .i64 j :: .bool true :: .bool false :: .tuple #[pt sq, iN .i64 0] :: pt d.q :: .tuple #[pt sq, iN .i64 0] :: pt sq :: iN .i64 0 :: iN .i64 0 :: .bool false :: iN .i64 (min xs.length 60) :: .slice o xs.length c :: iN .i64 xs.length :: .bool true :: .bool true :: iN .i64 (min xs.length 60) :: .bool false :: .bool false :: u13 35 :: u13 36 :: u13 37 :: u13 38 :: u13 39 :: u13 40 :: u13 41 :: u13 42 :: u13 43 :: u13 44 :: u13 45 :: u13 46 :: u13 47 :: u13 48 :: u13 49 :: u13 50 :: u13 51 :: u13 52 :: u13 53 :: u13 54 :: u13 55 :: u13 56 :: u13 57 :: u13 58 :: u13 59 :: u13 60 :: u13 61 :: u13 62 :: u13 63 :: u13 64 :: u13 65 :: u13 66 :: u13 67 :: u13 68 :: u13 69 :: u13 70 :: u13 71 :: u13 72 :: u13 73 :: u13 74 :: u13 75 :: u13 76 :: u13 77 :: u13 78 :: u13 79 :: u13 80 :: u13 81 :: u13 82 :: u13 83 :: u13 84 :: u13 85 :: pt sq :: .slice pa (lstR S.rows { data := #[] }).length ca :: pt sq :: .string p :: .slice ps (lstR S.rows p).length cs :: iN .i64 j :: .slice pa (lstR S.rows { data := #[] }).length ca :: iN .i64 ((lstR S.rows { data := #[] }).length) :: .bool true :: u54 95 :: u54 96 :: iN .i64 j :: .bool true :: .bool true :: .slice pa (lstR S.rows { data := #[] }).length ca :: iN .i64 j :: iN .i64 (j - 1) :: .pointer (some (ap.add (j - 1))) :: .string ((⟨bp.toArray⟩ : ByteArray)) :: .slice pa (lstR S.rows { data := #[] }).length ca :: iN .i64 j :: .pointer (some (aa.add j)) :: .string ((⟨ba.toArray⟩ : ByteArray)) :: .bool false :: .bool false :: .slice pa (lstR S.rows { data := #[] }).length ca :: iN .i64 j :: .pointer (some (aa.add j)) :: .string ((⟨ba.toArray⟩ : ByteArray)) :: iN .i64 (((⟨ba.toArray⟩ : ByteArray)).size) :: .string p :: iN .i64 p.size :: .bool true :: .bool true :: .slice pa (lstR S.rows { data := #[] }).length ca :: iN .i64 j :: .pointer (some (aa.add j)) :: .string ((⟨ba.toArray⟩ : ByteArray)) :: .string p :: iN .i64 p.size :: .string (((⟨ba.toArray⟩ : ByteArray)).extract 0 p.size) :: .string p :: .bool true :: .bool true :: u54 130 :: u54 131 :: u54 132 :: u54 133 :: u54 134 :: u54 135 :: u54 136 :: u54 137 :: u54 138 :: u54 139 :: u54 140 :: u54 141 :: u54 142 :: u54 143 :: u54 144 :: u54 145 :: u54 146 :: List.replicate 11 un).toArray, []⟩) (by kernel_rfl) ?_
       refine wp_cond_true (by kernel_rfl) ?_
       refine wp_seq ?_
       refine wp_seq ?_
       refine wp_region_sure ⟨(.slice o xs.length c :: .string p :: un :: un :: u54 4 :: pt sq :: iN .i64 0 :: iN .i64 (min xs.length 60) :: u13 8 :: u13 9 :: u13 10 :: u13 11 :: u13 12 :: u13 13 :: .slice pa (lstR S.rows { data := #[] }).length ca :: .slice ps (lstR S.rows p).length cs :: iN .i64 (cntP (lstR S.rows { data := #[] }) (bl p) j) :: iN .i64 j :: .bool true :: .bool false :: .tuple #[pt sq, iN .i64 0] :: pt d.q :: .tuple #[pt sq, iN .i64 0] :: pt sq :: iN .i64 0 :: iN .i64 0 :: .bool false :: iN .i64 (min xs.length 60) :: .slice o xs.length c :: iN .i64 xs.length :: .bool true :: .bool true :: iN .i64 (min xs.length 60) :: .bool false :: .bool false :: u13 35 :: u13 36 :: u13 37 :: u13 38 :: u13 39 :: u13 40 :: u13 41 :: u13 42 :: u13 43 :: u13 44 :: u13 45 :: u13 46 :: u13 47 :: u13 48 :: u13 49 :: u13 50 :: u13 51 :: u13 52 :: u13 53 :: u13 54 :: u13 55 :: u13 56 :: u13 57 :: u13 58 :: u13 59 :: u13 60 :: u13 61 :: u13 62 :: u13 63 :: u13 64 :: u13 65 :: u13 66 :: u13 67 :: u13 68 :: u13 69 :: u13 70 :: u13 71 :: u13 72 :: u13 73 :: u13 74 :: u13 75 :: u13 76 :: u13 77 :: u13 78 :: u13 79 :: u13 80 :: u13 81 :: u13 82 :: u13 83 :: u13 84 :: u13 85 :: pt sq :: .slice pa (lstR S.rows { data := #[] }).length ca :: pt sq :: .string p :: .slice ps (lstR S.rows p).length cs :: iN .i64 j :: .slice pa (lstR S.rows { data := #[] }).length ca :: iN .i64 ((lstR S.rows { data := #[] }).length) :: .bool true :: u54 95 :: u54 96 :: iN .i64 j :: .bool true :: .bool true :: .slice pa (lstR S.rows { data := #[] }).length ca :: iN .i64 j :: iN .i64 (j - 1) :: .pointer (some (ap.add (j - 1))) :: .string ((⟨bp.toArray⟩ : ByteArray)) :: .slice pa (lstR S.rows { data := #[] }).length ca :: iN .i64 j :: .pointer (some (aa.add j)) :: .string ((⟨ba.toArray⟩ : ByteArray)) :: .bool false :: .bool false :: .slice pa (lstR S.rows { data := #[] }).length ca :: iN .i64 j :: .pointer (some (aa.add j)) :: .string ((⟨ba.toArray⟩ : ByteArray)) :: iN .i64 (((⟨ba.toArray⟩ : ByteArray)).size) :: .string p :: iN .i64 p.size :: .bool true :: .bool true :: .slice pa (lstR S.rows { data := #[] }).length ca :: iN .i64 j :: .pointer (some (aa.add j)) :: .string ((⟨ba.toArray⟩ : ByteArray)) :: .string p :: iN .i64 p.size :: .string (((⟨ba.toArray⟩ : ByteArray)).extract 0 p.size) :: .string p :: .bool true :: .bool true :: iN .i64 (cntP (lstR S.rows { data := #[] }) (bl p) j) :: .slice ps (lstR S.rows p).length cs :: iN .i64 ((lstR S.rows p).length) :: .bool false :: .bool false :: .slice ps (lstR S.rows p).length cs :: iN .i64 (cntP (lstR S.rows { data := #[] }) (bl p) j) :: .pointer (some (as1.add (cntP (lstR S.rows { data := #[] }) (bl p) j))) :: .string ((⟨ba.toArray⟩ : ByteArray)) :: .slice pa (lstR S.rows { data := #[] }).length ca :: iN .i64 j :: .pointer (some (aa.add j)) :: .string ((⟨ba.toArray⟩ : ByteArray)) :: .bool false :: .bool false :: u54 145 :: u54 146 :: List.replicate 11 un).toArray, []⟩ (HA ⟨w, m46 :: (sr, .mp (eR rs46) nx46) :: []⟩ ((sq, 44, scell d.q sr ((laidR S.rows)) S.size) :: ((Ls ++ La) ++ X46))) [iN .i64 (cntP (lstR S.rows { data := #[] }) (bl p) j), .slice ps (lstR S.rows p).length cs, iN .i64 ((lstR S.rows p).length), .bool false, .bool false, .slice ps (lstR S.rows p).length cs, iN .i64 (cntP (lstR S.rows { data := #[] }) (bl p) j), .pointer (some (as1.add (cntP (lstR S.rows { data := #[] }) (bl p) j))), .string ((⟨ba.toArray⟩ : ByteArray)), .slice pa (lstR S.rows { data := #[] }).length ca, iN .i64 j, .pointer (some (aa.add j)), .string ((⟨ba.toArray⟩ : ByteArray)), .bool false, .bool false] (by kernel_rfl) (by kernel_rfl) (by kernel_rfl) (by kernel_rfl) (fun _ _ _ h => h) h57.drew ?_ ?_
       ·refine AllSure.cons (OpSure.take (v := iN .i64 (cntP (lstR S.rows { data := #[] }) (bl p) j)) (by kernel_rfl) (by kernel_rfl) (fun _ _ => (by kernel_rfl))) ?_
        refine AllSure.cons (OpSure.take (v := .slice ps (lstR S.rows p).length cs) (by kernel_rfl) (by kernel_rfl) (fun _ _ => (by kernel_rfl))) ?_
        refine AllSure.cons (OpSure.take (v := iN .i64 ((lstR S.rows p).length)) (by kernel_rfl) (by kernel_rfl) (fun _ _ => (by kernel_rfl))) ?_
        refine AllSure.cons (OpSure.take (v := .bool false) (by kernel_rfl) (by kernel_rfl) (fun _ _ => (run_geq (k := .i64) (a := cntP (lstR S.rows { data := #[] }) (bl p) j) (b := (lstR S.rows p).length) (by kernel_rfl) (by kernel_rfl) false (decide_eq_false (by omega))))) ?_
        refine AllSure.cons (OpSure.take (v := .bool false) (by kernel_rfl) (by kernel_rfl) (fun _ _ => (by kernel_rfl))) ?_
        refine AllSure.cons (OpSure.take (v := .slice ps (lstR S.rows p).length cs) (by kernel_rfl) (by kernel_rfl) (fun _ _ => (by kernel_rfl))) ?_
        refine AllSure.cons (OpSure.take (v := iN .i64 (cntP (lstR S.rows { data := #[] }) (bl p) j)) (by kernel_rfl) (by kernel_rfl) (fun _ _ => (by kernel_rfl))) ?_
        refine AllSure.cons (OpSure.take (v := .pointer (some (as1.add (cntP (lstR S.rows { data := #[] }) (bl p) j)))) (by kernel_rfl) (by kernel_rfl) (fun _ _ => (run_addr39 (o := ps) (a := as1) (n := (lstR S.rows p).length) (m := cs) (i := cntP (lstR S.rows { data := #[] }) (bl p) j) has (by kernel_rfl) (by kernel_rfl) (List.getElem?_eq_some_iff.1 hsn).1))) ?_
        refine AllSure.cons (OpSure.take (v := .string ((⟨ba.toArray⟩ : ByteArray))) (by kernel_rfl) (by kernel_rfl) (fun w' h' => run_load_at (b := as1.add (cntP (lstR S.rows { data := #[] }) (bl p) j)) (fun w => Try.isAgg9 w) (by kernel_rfl) (hs3 _ (fun y hy => h'.blk y (List.mem_cons_of_mem _ (List.mem_append_left _ (List.mem_append_left _ hy))))))) ?_
        refine AllSure.cons (OpSure.take (v := .slice pa (lstR S.rows { data := #[] }).length ca) (by kernel_rfl) (by kernel_rfl) (fun _ _ => (by kernel_rfl))) ?_
        refine AllSure.cons (OpSure.take (v := iN .i64 j) (by kernel_rfl) (by kernel_rfl) (fun _ _ => (by kernel_rfl))) ?_
        refine AllSure.cons (OpSure.take (v := .pointer (some (aa.add j))) (by kernel_rfl) (by kernel_rfl) (fun _ _ => (run_addr39 (o := pa) (a := aa) (n := (lstR S.rows { data := #[] }).length) (m := ca) (i := j) haa (by kernel_rfl) (by kernel_rfl) (by omega)))) ?_
        refine AllSure.cons (OpSure.take (v := .string ((⟨ba.toArray⟩ : ByteArray))) (by kernel_rfl) (by kernel_rfl) (fun w' h' => run_load_at (b := aa.add j) (fun w => Try.isAgg9 w) (by kernel_rfl) (ha3 _ (fun y hy => h'.blk y (List.mem_cons_of_mem _ (List.mem_append_left _ (List.mem_append_right _ hy))))))) ?_
        refine AllSure.cons (OpSure.take (v := .bool false) (by kernel_rfl) (by kernel_rfl) (fun _ _ => (run_nes (s := (⟨ba.toArray⟩ : ByteArray)) (t := (⟨ba.toArray⟩ : ByteArray)) (by kernel_rfl) (by kernel_rfl) false (decide_eq_true rfl)))) ?_
        refine AllSure.cons (OpSure.take (v := .bool false) (by kernel_rfl) (by kernel_rfl) (fun _ _ => (by kernel_rfl))) ?_
        exact AllSure.nil
       intro w58 h59
       refine then_at rfl ?_
       refine wp_cond_false (by kernel_rfl) ?_
       refine wp_skip ?_
       refine then_at rfl ?_
       refine wl_region ?_
       refine wl_val (iN .i64 (cntP (lstR S.rows { data := #[] }) (bl p) j)) (by kernel_rfl) (by kernel_rfl) ?_
       refine wl_val (iN .i64 ((cntP (lstR S.rows { data := #[] }) (bl p) j) + 1)) (by kernel_rfl) (run_add (k := .i64) (a := cntP (lstR S.rows { data := #[] }) (bl p) j) (b := 1) (by kernel_rfl) (by kernel_rfl) (by first | omega | (simp only [top]; omega))) ?_
       refine wl_val (iN .i64 ((cntP (lstR S.rows { data := #[] }) (bl p) j) + 1)) (by kernel_rfl) (by kernel_rfl) ?_
       refine wl_nil ?_
       refine block_normal ?_
       refine then_at rfl ?_
       refine wl_region ?_
       refine wl_val (iN .i64 j) (by kernel_rfl) (by kernel_rfl) ?_
       refine wl_val (iN .i64 (j + 1)) (by kernel_rfl) (run_add (k := .i64) (a := j) (b := 1) (by kernel_rfl) (by kernel_rfl) (by first | omega | (simp only [top]; omega))) ?_
       refine wl_val (iN .i64 (j + 1)) (by kernel_rfl) (by kernel_rfl) ?_
       refine wl_nil ?_
       exact then_I ⟨fun ii => (([(4, u54 4), (91, iN .i64 j), (92, .slice pa (lstR S.rows { data := #[] }).length ca), (93, iN .i64 ((lstR S.rows { data := #[] }).length)), (94, .bool true), (95, iN .i64 j), (96, iN .i64 (j + 1)), (97, iN .i64 j), (98, .bool true), (99, .bool true), (100, .slice pa (lstR S.rows { data := #[] }).length ca), (101, iN .i64 j), (102, iN .i64 (j - 1)), (103, .pointer (some (ap.add (j - 1)))), (104, .string ((⟨bp.toArray⟩ : ByteArray))), (105, .slice pa (lstR S.rows { data := #[] }).length ca), (106, iN .i64 j), (107, .pointer (some (aa.add j))), (108, .string ((⟨ba.toArray⟩ : ByteArray))), (109, .bool false), (110, .bool false), (111, .slice pa (lstR S.rows { data := #[] }).length ca), (112, iN .i64 j), (113, .pointer (some (aa.add j))), (114, .string ((⟨ba.toArray⟩ : ByteArray))), (115, iN .i64 (((⟨ba.toArray⟩ : ByteArray)).size)), (116, .string p), (117, iN .i64 p.size), (118, .bool true), (119, .bool true), (120, .slice pa (lstR S.rows { data := #[] }).length ca), (121, iN .i64 j), (122, .pointer (some (aa.add j))), (123, .string ((⟨ba.toArray⟩ : ByteArray))), (124, .string p), (125, iN .i64 p.size), (126, .string (((⟨ba.toArray⟩ : ByteArray)).extract 0 p.size)), (127, .string p), (128, .bool true), (129, .bool true), (130, iN .i64 (cntP (lstR S.rows { data := #[] }) (bl p) j)), (131, .slice ps (lstR S.rows p).length cs), (132, iN .i64 ((lstR S.rows p).length)), (133, .bool false), (134, .bool false), (135, .slice ps (lstR S.rows p).length cs), (136, iN .i64 (cntP (lstR S.rows { data := #[] }) (bl p) j)), (137, .pointer (some (as1.add (cntP (lstR S.rows { data := #[] }) (bl p) j)))), (138, .string ((⟨ba.toArray⟩ : ByteArray))), (139, .slice pa (lstR S.rows { data := #[] }).length ca), (140, iN .i64 j), (141, .pointer (some (aa.add j))), (142, .string ((⟨ba.toArray⟩ : ByteArray))), (143, .bool false), (144, .bool false), (145, iN .i64 (cntP (lstR S.rows { data := #[] }) (bl p) j)), (146, iN .i64 ((cntP (lstR S.rows { data := #[] }) (bl p) j) + 1))] : List (Nat × Value)).find? (·.1 == ii)).elim undef (·.2), (by rw [hcs]; kernel_rfl), h59⟩
      ·have hpf : ¬ Lib.hasPrefix ba (bl p) = true := by rw [hpx, decide_eq_false hex, Bool.and_false]; decide
       rw [if_neg hpf] at hcs
       refine wl_region ?_
       refine wl_val (.slice pa (lstR S.rows { data := #[] }).length ca) (by kernel_rfl) (by kernel_rfl) ?_
       refine wl_val (iN .i64 j) (by kernel_rfl) (by kernel_rfl) ?_
       refine wl_val (.pointer (some (aa.add j))) (by kernel_rfl) (run_addr39 (o := pa) (a := aa) (n := (lstR S.rows { data := #[] }).length) (m := ca) (i := j) haa (by kernel_rfl) (by kernel_rfl) (by omega)) ?_
       refine wl_val (.string ((⟨ba.toArray⟩ : ByteArray))) (by kernel_rfl) (run_load_at (b := aa.add j) (fun w => Try.isAgg9 w) (by kernel_rfl) (ha3 _ (fun y hy => h57.blk y (List.mem_cons_of_mem _ (List.mem_append_left _ (List.mem_append_right _ hy)))))) ?_
       refine wl_val (iN .i64 (((⟨ba.toArray⟩ : ByteArray)).size)) (by kernel_rfl) (run_len (s := (⟨ba.toArray⟩ : ByteArray)) (by kernel_rfl)) ?_
       refine wl_val (.string p) (by kernel_rfl) (by kernel_rfl) ?_
       refine wl_val (iN .i64 p.size) (by kernel_rfl) (run_len (s := p) (by kernel_rfl)) ?_
       refine wl_val (.bool true) (by kernel_rfl) (run_geq (k := .i64) (a := ((⟨ba.toArray⟩ : ByteArray)).size) (b := p.size) (by kernel_rfl) (by kernel_rfl) true (decide_eq_true (by rw [hbz]; exact hsz))) ?_
       refine wl_val (.bool true) (by kernel_rfl) (by kernel_rfl) ?_
       refine wl_val (.slice pa (lstR S.rows { data := #[] }).length ca) (by kernel_rfl) (by kernel_rfl) ?_
       refine wl_val (iN .i64 j) (by kernel_rfl) (by kernel_rfl) ?_
       refine wl_val (.pointer (some (aa.add j))) (by kernel_rfl) (run_addr39 (o := pa) (a := aa) (n := (lstR S.rows { data := #[] }).length) (m := ca) (i := j) haa (by kernel_rfl) (by kernel_rfl) (by omega)) ?_
       refine wl_val (.string ((⟨ba.toArray⟩ : ByteArray))) (by kernel_rfl) (run_load_at (b := aa.add j) (fun w => Try.isAgg9 w) (by kernel_rfl) (ha3 _ (fun y hy => h57.blk y (List.mem_cons_of_mem _ (List.mem_append_left _ (List.mem_append_right _ hy)))))) ?_
       refine wl_val (.string p) (by kernel_rfl) (by kernel_rfl) ?_
       refine wl_val (iN .i64 p.size) (by kernel_rfl) (run_len (s := p) (by kernel_rfl)) ?_
       refine wl_val (.string (((⟨ba.toArray⟩ : ByteArray)).extract 0 p.size)) (by kernel_rfl) (run_cut_hi (s := (⟨ba.toArray⟩ : ByteArray)) (b := p.size) (by kernel_rfl) (by kernel_rfl) (by omega)) ?_
       refine wl_val (.string p) (by kernel_rfl) (by kernel_rfl) ?_
       refine wl_val (.bool false) (by kernel_rfl) (run_eqs (s := ((⟨ba.toArray⟩ : ByteArray)).extract 0 p.size) (t := p) (by kernel_rfl) (by kernel_rfl) false (decide_eq_false hex)) ?_
       refine wl_val (.bool false) (by kernel_rfl) (by kernel_rfl) ?_
       refine wl_nil ?_
       refine then_at rfl ?_
       refine wp_cond_false (by kernel_rfl) ?_
       refine wp_skip ?_
       refine block_normal ?_
       refine then_at rfl ?_
       refine wl_region ?_
       refine wl_val (iN .i64 j) (by kernel_rfl) (by kernel_rfl) ?_
       refine wl_val (iN .i64 (j + 1)) (by kernel_rfl) (run_add (k := .i64) (a := j) (b := 1) (by kernel_rfl) (by kernel_rfl) (by first | omega | (simp only [top]; omega))) ?_
       refine wl_val (iN .i64 (j + 1)) (by kernel_rfl) (by kernel_rfl) ?_
       refine wl_nil ?_
       exact then_I ⟨fun ii => (([(4, u54 4), (91, iN .i64 j), (92, .slice pa (lstR S.rows { data := #[] }).length ca), (93, iN .i64 ((lstR S.rows { data := #[] }).length)), (94, .bool true), (95, iN .i64 j), (96, iN .i64 (j + 1)), (97, iN .i64 j), (98, .bool true), (99, .bool true), (100, .slice pa (lstR S.rows { data := #[] }).length ca), (101, iN .i64 j), (102, iN .i64 (j - 1)), (103, .pointer (some (ap.add (j - 1)))), (104, .string ((⟨bp.toArray⟩ : ByteArray))), (105, .slice pa (lstR S.rows { data := #[] }).length ca), (106, iN .i64 j), (107, .pointer (some (aa.add j))), (108, .string ((⟨ba.toArray⟩ : ByteArray))), (109, .bool false), (110, .bool false), (111, .slice pa (lstR S.rows { data := #[] }).length ca), (112, iN .i64 j), (113, .pointer (some (aa.add j))), (114, .string ((⟨ba.toArray⟩ : ByteArray))), (115, iN .i64 (((⟨ba.toArray⟩ : ByteArray)).size)), (116, .string p), (117, iN .i64 p.size), (118, .bool true), (119, .bool true), (120, .slice pa (lstR S.rows { data := #[] }).length ca), (121, iN .i64 j), (122, .pointer (some (aa.add j))), (123, .string ((⟨ba.toArray⟩ : ByteArray))), (124, .string p), (125, iN .i64 p.size), (126, .string (((⟨ba.toArray⟩ : ByteArray)).extract 0 p.size)), (127, .string p), (128, .bool false), (129, .bool false), (130, u54 130), (131, u54 131), (132, u54 132), (133, u54 133), (134, u54 134), (135, u54 135), (136, u54 136), (137, u54 137), (138, u54 138), (139, u54 139), (140, u54 140), (141, u54 141), (142, u54 142), (143, u54 143), (144, u54 144), (145, u54 145), (146, u54 146)] : List (Nat × Value)).find? (·.1 == ii)).elim undef (·.2), (by rw [hcs]; kernel_rfl), h57⟩
     ·have hpf : ¬ Lib.hasPrefix ba (bl p) = true := by rw [hpx, decide_eq_false hsz, Bool.false_and]; decide
      rw [if_neg hpf] at hcs
      refine wl_region ?_
      refine wl_val (.slice pa (lstR S.rows { data := #[] }).length ca) (by kernel_rfl) (by kernel_rfl) ?_
      refine wl_val (iN .i64 j) (by kernel_rfl) (by kernel_rfl) ?_
      refine wl_val (.pointer (some (aa.add j))) (by kernel_rfl) (run_addr39 (o := pa) (a := aa) (n := (lstR S.rows { data := #[] }).length) (m := ca) (i := j) haa (by kernel_rfl) (by kernel_rfl) (by omega)) ?_
      refine wl_val (.string ((⟨ba.toArray⟩ : ByteArray))) (by kernel_rfl) (run_load_at (b := aa.add j) (fun w => Try.isAgg9 w) (by kernel_rfl) (ha3 _ (fun y hy => h57.blk y (List.mem_cons_of_mem _ (List.mem_append_left _ (List.mem_append_right _ hy)))))) ?_
      refine wl_val (iN .i64 (((⟨ba.toArray⟩ : ByteArray)).size)) (by kernel_rfl) (run_len (s := (⟨ba.toArray⟩ : ByteArray)) (by kernel_rfl)) ?_
      refine wl_val (.string p) (by kernel_rfl) (by kernel_rfl) ?_
      refine wl_val (iN .i64 p.size) (by kernel_rfl) (run_len (s := p) (by kernel_rfl)) ?_
      refine wl_val (.bool false) (by kernel_rfl) (run_geq (k := .i64) (a := ((⟨ba.toArray⟩ : ByteArray)).size) (b := p.size) (by kernel_rfl) (by kernel_rfl) false (decide_eq_false (by rw [hbz]; exact hsz))) ?_
      refine wl_val (.bool false) (by kernel_rfl) (by kernel_rfl) ?_
      refine wl_skip (by kernel_rfl) ?_
      refine wl_skip (by kernel_rfl) ?_
      refine wl_skip (by kernel_rfl) ?_
      refine wl_skip (by kernel_rfl) ?_
      refine wl_skip (by kernel_rfl) ?_
      refine wl_skip (by kernel_rfl) ?_
      refine wl_skip (by kernel_rfl) ?_
      refine wl_skip (by kernel_rfl) ?_
      refine wl_skip (by kernel_rfl) ?_
      refine wl_val (.bool false) (by kernel_rfl) (by kernel_rfl) ?_
      refine wl_nil ?_
      refine then_at (F := ⟨(.slice o xs.length c :: .string p :: un :: un :: u54 4 :: pt sq :: iN .i64 0 :: iN .i64 (min xs.length 60) :: u13 8 :: u13 9 :: u13 10 :: u13 11 :: u13 12 :: u13 13 :: .slice pa (lstR S.rows { data := #[] }).length ca :: .slice ps (lstR S.rows p).length cs :: iN .i64 (cntP (lstR S.rows { data := #[] }) (bl p) j) :: iN .i64 j :: .bool true :: .bool false :: .tuple #[pt sq, iN .i64 0] :: pt d.q :: .tuple #[pt sq, iN .i64 0] :: pt sq :: iN .i64 0 :: iN .i64 0 :: .bool false :: iN .i64 (min xs.length 60) :: .slice o xs.length c :: iN .i64 xs.length :: .bool true :: .bool true :: iN .i64 (min xs.length 60) :: .bool false :: .bool false :: u13 35 :: u13 36 :: u13 37 :: u13 38 :: u13 39 :: u13 40 :: u13 41 :: u13 42 :: u13 43 :: u13 44 :: u13 45 :: u13 46 :: u13 47 :: u13 48 :: u13 49 :: u13 50 :: u13 51 :: u13 52 :: u13 53 :: u13 54 :: u13 55 :: u13 56 :: u13 57 :: u13 58 :: u13 59 :: u13 60 :: u13 61 :: u13 62 :: u13 63 :: u13 64 :: u13 65 :: u13 66 :: u13 67 :: u13 68 :: u13 69 :: u13 70 :: u13 71 :: u13 72 :: u13 73 :: u13 74 :: u13 75 :: u13 76 :: u13 77 :: u13 78 :: u13 79 :: u13 80 :: u13 81 :: u13 82 :: u13 83 :: u13 84 :: u13 85 :: pt sq :: .slice pa (lstR S.rows { data := #[] }).length ca :: pt sq :: .string p :: .slice ps (lstR S.rows p).length cs :: iN .i64 j :: .slice pa (lstR S.rows { data := #[] }).length ca :: iN .i64 ((lstR S.rows { data := #[] }).length) :: .bool true :: u54 95 :: u54 96 :: iN .i64 j :: .bool true :: .bool true :: .slice pa (lstR S.rows { data := #[] }).length ca :: iN .i64 j :: iN .i64 (j - 1) :: .pointer (some (ap.add (j - 1))) :: .string ((⟨bp.toArray⟩ : ByteArray)) :: .slice pa (lstR S.rows { data := #[] }).length ca :: iN .i64 j :: .pointer (some (aa.add j)) :: .string ((⟨ba.toArray⟩ : ByteArray)) :: .bool false :: .bool false :: .slice pa (lstR S.rows { data := #[] }).length ca :: iN .i64 j :: .pointer (some (aa.add j)) :: .string ((⟨ba.toArray⟩ : ByteArray)) :: iN .i64 (((⟨ba.toArray⟩ : ByteArray)).size) :: .string p :: iN .i64 p.size :: .bool false :: .bool false :: un :: un :: un :: un :: un :: un :: un :: un :: un :: .bool false :: u54 130 :: u54 131 :: u54 132 :: u54 133 :: u54 134 :: u54 135 :: u54 136 :: u54 137 :: u54 138 :: u54 139 :: u54 140 :: u54 141 :: u54 142 :: u54 143 :: u54 144 :: u54 145 :: u54 146 :: List.replicate 11 un).toArray, []⟩) (by kernel_rfl) ?_
      refine wp_cond_false (by kernel_rfl) ?_
      refine wp_skip ?_
      refine block_normal ?_
      refine then_at rfl ?_
      refine wl_region ?_
      refine wl_val (iN .i64 j) (by kernel_rfl) (by kernel_rfl) ?_
      refine wl_val (iN .i64 (j + 1)) (by kernel_rfl) (run_add (k := .i64) (a := j) (b := 1) (by kernel_rfl) (by kernel_rfl) (by first | omega | (simp only [top]; omega))) ?_
      refine wl_val (iN .i64 (j + 1)) (by kernel_rfl) (by kernel_rfl) ?_
      refine wl_nil ?_
      exact then_I ⟨fun ii => (([(4, u54 4), (91, iN .i64 j), (92, .slice pa (lstR S.rows { data := #[] }).length ca), (93, iN .i64 ((lstR S.rows { data := #[] }).length)), (94, .bool true), (95, iN .i64 j), (96, iN .i64 (j + 1)), (97, iN .i64 j), (98, .bool true), (99, .bool true), (100, .slice pa (lstR S.rows { data := #[] }).length ca), (101, iN .i64 j), (102, iN .i64 (j - 1)), (103, .pointer (some (ap.add (j - 1)))), (104, .string ((⟨bp.toArray⟩ : ByteArray))), (105, .slice pa (lstR S.rows { data := #[] }).length ca), (106, iN .i64 j), (107, .pointer (some (aa.add j))), (108, .string ((⟨ba.toArray⟩ : ByteArray))), (109, .bool false), (110, .bool false), (111, .slice pa (lstR S.rows { data := #[] }).length ca), (112, iN .i64 j), (113, .pointer (some (aa.add j))), (114, .string ((⟨ba.toArray⟩ : ByteArray))), (115, iN .i64 (((⟨ba.toArray⟩ : ByteArray)).size)), (116, .string p), (117, iN .i64 p.size), (118, .bool false), (119, .bool false), (120, undef), (121, undef), (122, undef), (123, undef), (124, undef), (125, undef), (126, undef), (127, undef), (128, undef), (129, .bool false), (130, u54 130), (131, u54 131), (132, u54 132), (133, u54 133), (134, u54 134), (135, u54 135), (136, u54 136), (137, u54 137), (138, u54 138), (139, u54 139), (140, u54 140), (141, u54 141), (142, u54 142), (143, u54 143), (144, u54 144), (145, u54 145), (146, u54 146)] : List (Nat × Value)).find? (·.1 == ii)).elim undef (·.2), (by rw [hcs]; kernel_rfl), h57⟩
    ·refine wp_region_sure ⟨(.slice o xs.length c :: .string p :: un :: un :: u54 4 :: pt sq :: iN .i64 0 :: iN .i64 (min xs.length 60) :: u13 8 :: u13 9 :: u13 10 :: u13 11 :: u13 12 :: u13 13 :: .slice pa (lstR S.rows { data := #[] }).length ca :: .slice ps (lstR S.rows p).length cs :: iN .i64 (cntP (lstR S.rows { data := #[] }) (bl p) j) :: iN .i64 j :: .bool true :: .bool false :: .tuple #[pt sq, iN .i64 0] :: pt d.q :: .tuple #[pt sq, iN .i64 0] :: pt sq :: iN .i64 0 :: iN .i64 0 :: .bool false :: iN .i64 (min xs.length 60) :: .slice o xs.length c :: iN .i64 xs.length :: .bool true :: .bool true :: iN .i64 (min xs.length 60) :: .bool false :: .bool false :: u13 35 :: u13 36 :: u13 37 :: u13 38 :: u13 39 :: u13 40 :: u13 41 :: u13 42 :: u13 43 :: u13 44 :: u13 45 :: u13 46 :: u13 47 :: u13 48 :: u13 49 :: u13 50 :: u13 51 :: u13 52 :: u13 53 :: u13 54 :: u13 55 :: u13 56 :: u13 57 :: u13 58 :: u13 59 :: u13 60 :: u13 61 :: u13 62 :: u13 63 :: u13 64 :: u13 65 :: u13 66 :: u13 67 :: u13 68 :: u13 69 :: u13 70 :: u13 71 :: u13 72 :: u13 73 :: u13 74 :: u13 75 :: u13 76 :: u13 77 :: u13 78 :: u13 79 :: u13 80 :: u13 81 :: u13 82 :: u13 83 :: u13 84 :: u13 85 :: pt sq :: .slice pa (lstR S.rows { data := #[] }).length ca :: pt sq :: .string p :: .slice ps (lstR S.rows p).length cs :: iN .i64 j :: .slice pa (lstR S.rows { data := #[] }).length ca :: iN .i64 ((lstR S.rows { data := #[] }).length) :: .bool true :: u54 95 :: u54 96 :: iN .i64 j :: .bool false :: .bool false :: un :: un :: un :: un :: un :: un :: un :: un :: un :: un :: .bool false :: u54 111 :: u54 112 :: u54 113 :: u54 114 :: u54 115 :: u54 116 :: u54 117 :: u54 118 :: u54 119 :: u54 120 :: u54 121 :: u54 122 :: u54 123 :: u54 124 :: u54 125 :: u54 126 :: u54 127 :: u54 128 :: u54 129 :: u54 130 :: u54 131 :: u54 132 :: u54 133 :: u54 134 :: u54 135 :: u54 136 :: u54 137 :: u54 138 :: u54 139 :: u54 140 :: u54 141 :: u54 142 :: u54 143 :: u54 144 :: u54 145 :: u54 146 :: List.replicate 11 un).toArray, []⟩ (HA ⟨w, m46 :: (sr, .mp (eR rs46) nx46) :: []⟩ ((sq, 44, scell d.q sr ((laidR S.rows)) S.size) :: ((Ls ++ La) ++ X46))) [iN .i64 j, .bool false, .bool false, undef, undef, undef, undef, undef, undef, undef, undef, undef, undef, .bool false] (by kernel_rfl) (by kernel_rfl) (by kernel_rfl) (by kernel_rfl) (fun _ _ _ h => h) hL2.drew ?_ ?_
     ·refine AllSure.cons (OpSure.take (v := iN .i64 j) (by kernel_rfl) (by kernel_rfl) (fun _ _ => (by kernel_rfl))) ?_
      refine AllSure.cons (OpSure.take (v := .bool false) (by kernel_rfl) (by kernel_rfl) (fun _ _ => (run_gtr (k := .i64) (a := j) (b := 0) (by kernel_rfl) (by kernel_rfl) false (decide_eq_false hj0)))) ?_
      refine AllSure.cons (OpSure.take (v := .bool false) (by kernel_rfl) (by kernel_rfl) (fun _ _ => (by kernel_rfl))) ?_
      refine AllSure.cons (OpSure.skip (by kernel_rfl) (by kernel_rfl)) ?_
      refine AllSure.cons (OpSure.skip (by kernel_rfl) (by kernel_rfl)) ?_
      refine AllSure.cons (OpSure.skip (by kernel_rfl) (by kernel_rfl)) ?_
      refine AllSure.cons (OpSure.skip (by kernel_rfl) (by kernel_rfl)) ?_
      refine AllSure.cons (OpSure.skip (by kernel_rfl) (by kernel_rfl)) ?_
      refine AllSure.cons (OpSure.skip (by kernel_rfl) (by kernel_rfl)) ?_
      refine AllSure.cons (OpSure.skip (by kernel_rfl) (by kernel_rfl)) ?_
      refine AllSure.cons (OpSure.skip (by kernel_rfl) (by kernel_rfl)) ?_
      refine AllSure.cons (OpSure.skip (by kernel_rfl) (by kernel_rfl)) ?_
      refine AllSure.cons (OpSure.skip (by kernel_rfl) (by kernel_rfl)) ?_
      refine AllSure.cons (OpSure.take (v := .bool false) (by kernel_rfl) (by kernel_rfl) (fun _ _ => (by kernel_rfl))) ?_
      exact AllSure.nil
     intro w60 h61
     refine then_at rfl ?_
     refine wp_cond_false (by kernel_rfl) ?_
     refine wp_skip ?_
     refine then_at rfl ?_
     refine wp_seq ?_
     have hpx := pfx_iff ba p
     have hbz : (⟨ba.toArray⟩ : ByteArray).size = ba.length := by show ba.toArray.size = _; simp
     by_cases hsz : p.size ≤ ba.length
     ·by_cases hex : (⟨ba.toArray⟩ : ByteArray).extract 0 p.size = p
      ·have hpf : Lib.hasPrefix ba (bl p) = true := by rw [hpx, decide_eq_true hsz, decide_eq_true hex]; rfl
       rw [if_pos hpf] at hcs
       have hsn : (lstR S.rows p)[cntP (lstR S.rows { data := #[] }) (bl p) j]? = some ba := by rw [hsome]; exact cntP_at hba hpf
       obtain ⟨as1, has, hs3⟩ := nm_at hRs hsn
       have hsl := (List.getElem?_eq_some_iff.1 hsn).1
       refine wl_region ?_
       refine wl_val (.slice pa (lstR S.rows { data := #[] }).length ca) (by kernel_rfl) (by kernel_rfl) ?_
       refine wl_val (iN .i64 j) (by kernel_rfl) (by kernel_rfl) ?_
       refine wl_val (.pointer (some (aa.add j))) (by kernel_rfl) (run_addr39 (o := pa) (a := aa) (n := (lstR S.rows { data := #[] }).length) (m := ca) (i := j) haa (by kernel_rfl) (by kernel_rfl) (by omega)) ?_
       refine wl_val (.string ((⟨ba.toArray⟩ : ByteArray))) (by kernel_rfl) (run_load_at (b := aa.add j) (fun w => Try.isAgg9 w) (by kernel_rfl) (ha3 _ (fun y hy => h61.blk y (List.mem_cons_of_mem _ (List.mem_append_left _ (List.mem_append_right _ hy)))))) ?_
       refine wl_val (iN .i64 (((⟨ba.toArray⟩ : ByteArray)).size)) (by kernel_rfl) (run_len (s := (⟨ba.toArray⟩ : ByteArray)) (by kernel_rfl)) ?_
       refine wl_val (.string p) (by kernel_rfl) (by kernel_rfl) ?_
       refine wl_val (iN .i64 p.size) (by kernel_rfl) (run_len (s := p) (by kernel_rfl)) ?_
       refine wl_val (.bool true) (by kernel_rfl) (run_geq (k := .i64) (a := ((⟨ba.toArray⟩ : ByteArray)).size) (b := p.size) (by kernel_rfl) (by kernel_rfl) true (decide_eq_true (by rw [hbz]; exact hsz))) ?_
       refine wl_val (.bool true) (by kernel_rfl) (by kernel_rfl) ?_
       refine wl_val (.slice pa (lstR S.rows { data := #[] }).length ca) (by kernel_rfl) (by kernel_rfl) ?_
       refine wl_val (iN .i64 j) (by kernel_rfl) (by kernel_rfl) ?_
       refine wl_val (.pointer (some (aa.add j))) (by kernel_rfl) (run_addr39 (o := pa) (a := aa) (n := (lstR S.rows { data := #[] }).length) (m := ca) (i := j) haa (by kernel_rfl) (by kernel_rfl) (by omega)) ?_
       refine wl_val (.string ((⟨ba.toArray⟩ : ByteArray))) (by kernel_rfl) (run_load_at (b := aa.add j) (fun w => Try.isAgg9 w) (by kernel_rfl) (ha3 _ (fun y hy => h61.blk y (List.mem_cons_of_mem _ (List.mem_append_left _ (List.mem_append_right _ hy)))))) ?_
       refine wl_val (.string p) (by kernel_rfl) (by kernel_rfl) ?_
       refine wl_val (iN .i64 p.size) (by kernel_rfl) (run_len (s := p) (by kernel_rfl)) ?_
       refine wl_val (.string (((⟨ba.toArray⟩ : ByteArray)).extract 0 p.size)) (by kernel_rfl) (run_cut_hi (s := (⟨ba.toArray⟩ : ByteArray)) (b := p.size) (by kernel_rfl) (by kernel_rfl) (by omega)) ?_
       refine wl_val (.string p) (by kernel_rfl) (by kernel_rfl) ?_
       refine wl_val (.bool true) (by kernel_rfl) (run_eqs (s := ((⟨ba.toArray⟩ : ByteArray)).extract 0 p.size) (t := p) (by kernel_rfl) (by kernel_rfl) true (decide_eq_true hex)) ?_
       refine wl_val (.bool true) (by kernel_rfl) (by kernel_rfl) ?_
       refine wl_nil ?_
       refine then_at rfl ?_
       refine wp_cond_true (by kernel_rfl) ?_
       refine wp_seq ?_
       refine wp_seq ?_
       refine wp_region_sure ⟨(.slice o xs.length c :: .string p :: un :: un :: u54 4 :: pt sq :: iN .i64 0 :: iN .i64 (min xs.length 60) :: u13 8 :: u13 9 :: u13 10 :: u13 11 :: u13 12 :: u13 13 :: .slice pa (lstR S.rows { data := #[] }).length ca :: .slice ps (lstR S.rows p).length cs :: iN .i64 (cntP (lstR S.rows { data := #[] }) (bl p) j) :: iN .i64 j :: .bool true :: .bool false :: .tuple #[pt sq, iN .i64 0] :: pt d.q :: .tuple #[pt sq, iN .i64 0] :: pt sq :: iN .i64 0 :: iN .i64 0 :: .bool false :: iN .i64 (min xs.length 60) :: .slice o xs.length c :: iN .i64 xs.length :: .bool true :: .bool true :: iN .i64 (min xs.length 60) :: .bool false :: .bool false :: u13 35 :: u13 36 :: u13 37 :: u13 38 :: u13 39 :: u13 40 :: u13 41 :: u13 42 :: u13 43 :: u13 44 :: u13 45 :: u13 46 :: u13 47 :: u13 48 :: u13 49 :: u13 50 :: u13 51 :: u13 52 :: u13 53 :: u13 54 :: u13 55 :: u13 56 :: u13 57 :: u13 58 :: u13 59 :: u13 60 :: u13 61 :: u13 62 :: u13 63 :: u13 64 :: u13 65 :: u13 66 :: u13 67 :: u13 68 :: u13 69 :: u13 70 :: u13 71 :: u13 72 :: u13 73 :: u13 74 :: u13 75 :: u13 76 :: u13 77 :: u13 78 :: u13 79 :: u13 80 :: u13 81 :: u13 82 :: u13 83 :: u13 84 :: u13 85 :: pt sq :: .slice pa (lstR S.rows { data := #[] }).length ca :: pt sq :: .string p :: .slice ps (lstR S.rows p).length cs :: iN .i64 j :: .slice pa (lstR S.rows { data := #[] }).length ca :: iN .i64 ((lstR S.rows { data := #[] }).length) :: .bool true :: u54 95 :: u54 96 :: iN .i64 j :: .bool false :: .bool false :: un :: un :: un :: un :: un :: un :: un :: un :: un :: un :: .bool false :: .slice pa (lstR S.rows { data := #[] }).length ca :: iN .i64 j :: .pointer (some (aa.add j)) :: .string ((⟨ba.toArray⟩ : ByteArray)) :: iN .i64 (((⟨ba.toArray⟩ : ByteArray)).size) :: .string p :: iN .i64 p.size :: .bool true :: .bool true :: .slice pa (lstR S.rows { data := #[] }).length ca :: iN .i64 j :: .pointer (some (aa.add j)) :: .string ((⟨ba.toArray⟩ : ByteArray)) :: .string p :: iN .i64 p.size :: .string (((⟨ba.toArray⟩ : ByteArray)).extract 0 p.size) :: .string p :: .bool true :: .bool true :: iN .i64 (cntP (lstR S.rows { data := #[] }) (bl p) j) :: .slice ps (lstR S.rows p).length cs :: iN .i64 ((lstR S.rows p).length) :: .bool false :: .bool false :: .slice ps (lstR S.rows p).length cs :: iN .i64 (cntP (lstR S.rows { data := #[] }) (bl p) j) :: .pointer (some (as1.add (cntP (lstR S.rows { data := #[] }) (bl p) j))) :: .string ((⟨ba.toArray⟩ : ByteArray)) :: .slice pa (lstR S.rows { data := #[] }).length ca :: iN .i64 j :: .pointer (some (aa.add j)) :: .string ((⟨ba.toArray⟩ : ByteArray)) :: .bool false :: .bool false :: u54 145 :: u54 146 :: List.replicate 11 un).toArray, []⟩ (HA ⟨w, m46 :: (sr, .mp (eR rs46) nx46) :: []⟩ ((sq, 44, scell d.q sr ((laidR S.rows)) S.size) :: ((Ls ++ La) ++ X46))) [iN .i64 (cntP (lstR S.rows { data := #[] }) (bl p) j), .slice ps (lstR S.rows p).length cs, iN .i64 ((lstR S.rows p).length), .bool false, .bool false, .slice ps (lstR S.rows p).length cs, iN .i64 (cntP (lstR S.rows { data := #[] }) (bl p) j), .pointer (some (as1.add (cntP (lstR S.rows { data := #[] }) (bl p) j))), .string ((⟨ba.toArray⟩ : ByteArray)), .slice pa (lstR S.rows { data := #[] }).length ca, iN .i64 j, .pointer (some (aa.add j)), .string ((⟨ba.toArray⟩ : ByteArray)), .bool false, .bool false] (by kernel_rfl) (by kernel_rfl) (by kernel_rfl) (by kernel_rfl) (fun _ _ _ h => h) h61.drew ?_ ?_
       ·refine AllSure.cons (OpSure.take (v := iN .i64 (cntP (lstR S.rows { data := #[] }) (bl p) j)) (by kernel_rfl) (by kernel_rfl) (fun _ _ => (by kernel_rfl))) ?_
        refine AllSure.cons (OpSure.take (v := .slice ps (lstR S.rows p).length cs) (by kernel_rfl) (by kernel_rfl) (fun _ _ => (by kernel_rfl))) ?_
        refine AllSure.cons (OpSure.take (v := iN .i64 ((lstR S.rows p).length)) (by kernel_rfl) (by kernel_rfl) (fun _ _ => (by kernel_rfl))) ?_
        refine AllSure.cons (OpSure.take (v := .bool false) (by kernel_rfl) (by kernel_rfl) (fun _ _ => (run_geq (k := .i64) (a := cntP (lstR S.rows { data := #[] }) (bl p) j) (b := (lstR S.rows p).length) (by kernel_rfl) (by kernel_rfl) false (decide_eq_false (by omega))))) ?_
        refine AllSure.cons (OpSure.take (v := .bool false) (by kernel_rfl) (by kernel_rfl) (fun _ _ => (by kernel_rfl))) ?_
        refine AllSure.cons (OpSure.take (v := .slice ps (lstR S.rows p).length cs) (by kernel_rfl) (by kernel_rfl) (fun _ _ => (by kernel_rfl))) ?_
        refine AllSure.cons (OpSure.take (v := iN .i64 (cntP (lstR S.rows { data := #[] }) (bl p) j)) (by kernel_rfl) (by kernel_rfl) (fun _ _ => (by kernel_rfl))) ?_
        refine AllSure.cons (OpSure.take (v := .pointer (some (as1.add (cntP (lstR S.rows { data := #[] }) (bl p) j)))) (by kernel_rfl) (by kernel_rfl) (fun _ _ => (run_addr39 (o := ps) (a := as1) (n := (lstR S.rows p).length) (m := cs) (i := cntP (lstR S.rows { data := #[] }) (bl p) j) has (by kernel_rfl) (by kernel_rfl) (List.getElem?_eq_some_iff.1 hsn).1))) ?_
        refine AllSure.cons (OpSure.take (v := .string ((⟨ba.toArray⟩ : ByteArray))) (by kernel_rfl) (by kernel_rfl) (fun w' h' => run_load_at (b := as1.add (cntP (lstR S.rows { data := #[] }) (bl p) j)) (fun w => Try.isAgg9 w) (by kernel_rfl) (hs3 _ (fun y hy => h'.blk y (List.mem_cons_of_mem _ (List.mem_append_left _ (List.mem_append_left _ hy))))))) ?_
        refine AllSure.cons (OpSure.take (v := .slice pa (lstR S.rows { data := #[] }).length ca) (by kernel_rfl) (by kernel_rfl) (fun _ _ => (by kernel_rfl))) ?_
        refine AllSure.cons (OpSure.take (v := iN .i64 j) (by kernel_rfl) (by kernel_rfl) (fun _ _ => (by kernel_rfl))) ?_
        refine AllSure.cons (OpSure.take (v := .pointer (some (aa.add j))) (by kernel_rfl) (by kernel_rfl) (fun _ _ => (run_addr39 (o := pa) (a := aa) (n := (lstR S.rows { data := #[] }).length) (m := ca) (i := j) haa (by kernel_rfl) (by kernel_rfl) (by omega)))) ?_
        refine AllSure.cons (OpSure.take (v := .string ((⟨ba.toArray⟩ : ByteArray))) (by kernel_rfl) (by kernel_rfl) (fun w' h' => run_load_at (b := aa.add j) (fun w => Try.isAgg9 w) (by kernel_rfl) (ha3 _ (fun y hy => h'.blk y (List.mem_cons_of_mem _ (List.mem_append_left _ (List.mem_append_right _ hy))))))) ?_
        refine AllSure.cons (OpSure.take (v := .bool false) (by kernel_rfl) (by kernel_rfl) (fun _ _ => (run_nes (s := (⟨ba.toArray⟩ : ByteArray)) (t := (⟨ba.toArray⟩ : ByteArray)) (by kernel_rfl) (by kernel_rfl) false (decide_eq_true rfl)))) ?_
        refine AllSure.cons (OpSure.take (v := .bool false) (by kernel_rfl) (by kernel_rfl) (fun _ _ => (by kernel_rfl))) ?_
        exact AllSure.nil
       intro w62 h63
       refine then_at rfl ?_
       refine wp_cond_false (by kernel_rfl) ?_
       refine wp_skip ?_
       refine then_at (F := ⟨(.slice o xs.length c :: .string p :: un :: un :: u54 4 :: pt sq :: iN .i64 0 :: iN .i64 (min xs.length 60) :: u13 8 :: u13 9 :: u13 10 :: u13 11 :: u13 12 :: u13 13 :: .slice pa (lstR S.rows { data := #[] }).length ca :: .slice ps (lstR S.rows p).length cs :: iN .i64 (cntP (lstR S.rows { data := #[] }) (bl p) j) :: iN .i64 j :: .bool true :: .bool false :: .tuple #[pt sq, iN .i64 0] :: pt d.q :: .tuple #[pt sq, iN .i64 0] :: pt sq :: iN .i64 0 :: iN .i64 0 :: .bool false :: iN .i64 (min xs.length 60) :: .slice o xs.length c :: iN .i64 xs.length :: .bool true :: .bool true :: iN .i64 (min xs.length 60) :: .bool false :: .bool false :: u13 35 :: u13 36 :: u13 37 :: u13 38 :: u13 39 :: u13 40 :: u13 41 :: u13 42 :: u13 43 :: u13 44 :: u13 45 :: u13 46 :: u13 47 :: u13 48 :: u13 49 :: u13 50 :: u13 51 :: u13 52 :: u13 53 :: u13 54 :: u13 55 :: u13 56 :: u13 57 :: u13 58 :: u13 59 :: u13 60 :: u13 61 :: u13 62 :: u13 63 :: u13 64 :: u13 65 :: u13 66 :: u13 67 :: u13 68 :: u13 69 :: u13 70 :: u13 71 :: u13 72 :: u13 73 :: u13 74 :: u13 75 :: u13 76 :: u13 77 :: u13 78 :: u13 79 :: u13 80 :: u13 81 :: u13 82 :: u13 83 :: u13 84 :: u13 85 :: pt sq :: .slice pa (lstR S.rows { data := #[] }).length ca :: pt sq :: .string p :: .slice ps (lstR S.rows p).length cs :: iN .i64 j :: .slice pa (lstR S.rows { data := #[] }).length ca :: iN .i64 ((lstR S.rows { data := #[] }).length) :: .bool true :: u54 95 :: u54 96 :: iN .i64 j :: .bool false :: .bool false :: un :: un :: un :: un :: un :: un :: un :: un :: un :: un :: .bool false :: .slice pa (lstR S.rows { data := #[] }).length ca :: iN .i64 j :: .pointer (some (aa.add j)) :: .string ((⟨ba.toArray⟩ : ByteArray)) :: iN .i64 (((⟨ba.toArray⟩ : ByteArray)).size) :: .string p :: iN .i64 p.size :: .bool true :: .bool true :: .slice pa (lstR S.rows { data := #[] }).length ca :: iN .i64 j :: .pointer (some (aa.add j)) :: .string ((⟨ba.toArray⟩ : ByteArray)) :: .string p :: iN .i64 p.size :: .string (((⟨ba.toArray⟩ : ByteArray)).extract 0 p.size) :: .string p :: .bool true :: .bool true :: iN .i64 (cntP (lstR S.rows { data := #[] }) (bl p) j) :: .slice ps (lstR S.rows p).length cs :: iN .i64 ((lstR S.rows p).length) :: .bool false :: .bool false :: .slice ps (lstR S.rows p).length cs :: iN .i64 (cntP (lstR S.rows { data := #[] }) (bl p) j) :: .pointer (some (as1.add (cntP (lstR S.rows { data := #[] }) (bl p) j))) :: .string ((⟨ba.toArray⟩ : ByteArray)) :: .slice pa (lstR S.rows { data := #[] }).length ca :: iN .i64 j :: .pointer (some (aa.add j)) :: .string ((⟨ba.toArray⟩ : ByteArray)) :: .bool false :: .bool false :: u54 145 :: u54 146 :: List.replicate 11 un).toArray, []⟩) (by kernel_rfl) ?_
       refine wl_region ?_
       refine wl_val (iN .i64 (cntP (lstR S.rows { data := #[] }) (bl p) j)) (by kernel_rfl) (by kernel_rfl) ?_
       refine wl_val (iN .i64 ((cntP (lstR S.rows { data := #[] }) (bl p) j) + 1)) (by kernel_rfl) (run_add (k := .i64) (a := cntP (lstR S.rows { data := #[] }) (bl p) j) (b := 1) (by kernel_rfl) (by kernel_rfl) (by first | omega | (simp only [top]; omega))) ?_
       refine wl_val (iN .i64 ((cntP (lstR S.rows { data := #[] }) (bl p) j) + 1)) (by kernel_rfl) (by kernel_rfl) ?_
       refine wl_nil ?_
       refine block_normal ?_
       refine then_at rfl ?_
       refine wl_region ?_
       refine wl_val (iN .i64 j) (by kernel_rfl) (by kernel_rfl) ?_
       refine wl_val (iN .i64 (j + 1)) (by kernel_rfl) (run_add (k := .i64) (a := j) (b := 1) (by kernel_rfl) (by kernel_rfl) (by first | omega | (simp only [top]; omega))) ?_
       refine wl_val (iN .i64 (j + 1)) (by kernel_rfl) (by kernel_rfl) ?_
       refine wl_nil ?_
       exact then_I ⟨fun ii => (([(4, u54 4), (91, iN .i64 j), (92, .slice pa (lstR S.rows { data := #[] }).length ca), (93, iN .i64 ((lstR S.rows { data := #[] }).length)), (94, .bool true), (95, iN .i64 j), (96, iN .i64 (j + 1)), (97, iN .i64 j), (98, .bool false), (99, .bool false), (100, undef), (101, undef), (102, undef), (103, undef), (104, undef), (105, undef), (106, undef), (107, undef), (108, undef), (109, undef), (110, .bool false), (111, .slice pa (lstR S.rows { data := #[] }).length ca), (112, iN .i64 j), (113, .pointer (some (aa.add j))), (114, .string ((⟨ba.toArray⟩ : ByteArray))), (115, iN .i64 (((⟨ba.toArray⟩ : ByteArray)).size)), (116, .string p), (117, iN .i64 p.size), (118, .bool true), (119, .bool true), (120, .slice pa (lstR S.rows { data := #[] }).length ca), (121, iN .i64 j), (122, .pointer (some (aa.add j))), (123, .string ((⟨ba.toArray⟩ : ByteArray))), (124, .string p), (125, iN .i64 p.size), (126, .string (((⟨ba.toArray⟩ : ByteArray)).extract 0 p.size)), (127, .string p), (128, .bool true), (129, .bool true), (130, iN .i64 (cntP (lstR S.rows { data := #[] }) (bl p) j)), (131, .slice ps (lstR S.rows p).length cs), (132, iN .i64 ((lstR S.rows p).length)), (133, .bool false), (134, .bool false), (135, .slice ps (lstR S.rows p).length cs), (136, iN .i64 (cntP (lstR S.rows { data := #[] }) (bl p) j)), (137, .pointer (some (as1.add (cntP (lstR S.rows { data := #[] }) (bl p) j)))), (138, .string ((⟨ba.toArray⟩ : ByteArray))), (139, .slice pa (lstR S.rows { data := #[] }).length ca), (140, iN .i64 j), (141, .pointer (some (aa.add j))), (142, .string ((⟨ba.toArray⟩ : ByteArray))), (143, .bool false), (144, .bool false), (145, iN .i64 (cntP (lstR S.rows { data := #[] }) (bl p) j)), (146, iN .i64 ((cntP (lstR S.rows { data := #[] }) (bl p) j) + 1))] : List (Nat × Value)).find? (·.1 == ii)).elim undef (·.2), (by rw [hcs]; kernel_rfl), h63⟩
      ·have hpf : ¬ Lib.hasPrefix ba (bl p) = true := by rw [hpx, decide_eq_false hex, Bool.and_false]; decide
       rw [if_neg hpf] at hcs
       refine wl_region ?_
       refine wl_val (.slice pa (lstR S.rows { data := #[] }).length ca) (by kernel_rfl) (by kernel_rfl) ?_
       refine wl_val (iN .i64 j) (by kernel_rfl) (by kernel_rfl) ?_
       refine wl_val (.pointer (some (aa.add j))) (by kernel_rfl) (run_addr39 (o := pa) (a := aa) (n := (lstR S.rows { data := #[] }).length) (m := ca) (i := j) haa (by kernel_rfl) (by kernel_rfl) (by omega)) ?_
       refine wl_val (.string ((⟨ba.toArray⟩ : ByteArray))) (by kernel_rfl) (run_load_at (b := aa.add j) (fun w => Try.isAgg9 w) (by kernel_rfl) (ha3 _ (fun y hy => h61.blk y (List.mem_cons_of_mem _ (List.mem_append_left _ (List.mem_append_right _ hy)))))) ?_
       refine wl_val (iN .i64 (((⟨ba.toArray⟩ : ByteArray)).size)) (by kernel_rfl) (run_len (s := (⟨ba.toArray⟩ : ByteArray)) (by kernel_rfl)) ?_
       refine wl_val (.string p) (by kernel_rfl) (by kernel_rfl) ?_
       refine wl_val (iN .i64 p.size) (by kernel_rfl) (run_len (s := p) (by kernel_rfl)) ?_
       refine wl_val (.bool true) (by kernel_rfl) (run_geq (k := .i64) (a := ((⟨ba.toArray⟩ : ByteArray)).size) (b := p.size) (by kernel_rfl) (by kernel_rfl) true (decide_eq_true (by rw [hbz]; exact hsz))) ?_
       refine wl_val (.bool true) (by kernel_rfl) (by kernel_rfl) ?_
       refine wl_val (.slice pa (lstR S.rows { data := #[] }).length ca) (by kernel_rfl) (by kernel_rfl) ?_
       refine wl_val (iN .i64 j) (by kernel_rfl) (by kernel_rfl) ?_
       refine wl_val (.pointer (some (aa.add j))) (by kernel_rfl) (run_addr39 (o := pa) (a := aa) (n := (lstR S.rows { data := #[] }).length) (m := ca) (i := j) haa (by kernel_rfl) (by kernel_rfl) (by omega)) ?_
       refine wl_val (.string ((⟨ba.toArray⟩ : ByteArray))) (by kernel_rfl) (run_load_at (b := aa.add j) (fun w => Try.isAgg9 w) (by kernel_rfl) (ha3 _ (fun y hy => h61.blk y (List.mem_cons_of_mem _ (List.mem_append_left _ (List.mem_append_right _ hy)))))) ?_
       refine wl_val (.string p) (by kernel_rfl) (by kernel_rfl) ?_
       refine wl_val (iN .i64 p.size) (by kernel_rfl) (run_len (s := p) (by kernel_rfl)) ?_
       refine wl_val (.string (((⟨ba.toArray⟩ : ByteArray)).extract 0 p.size)) (by kernel_rfl) (run_cut_hi (s := (⟨ba.toArray⟩ : ByteArray)) (b := p.size) (by kernel_rfl) (by kernel_rfl) (by omega)) ?_
       refine wl_val (.string p) (by kernel_rfl) (by kernel_rfl) ?_
       refine wl_val (.bool false) (by kernel_rfl) (run_eqs (s := ((⟨ba.toArray⟩ : ByteArray)).extract 0 p.size) (t := p) (by kernel_rfl) (by kernel_rfl) false (decide_eq_false hex)) ?_
       refine wl_val (.bool false) (by kernel_rfl) (by kernel_rfl) ?_
       refine wl_nil ?_
       refine then_at rfl ?_
       refine wp_cond_false (by kernel_rfl) ?_
       refine wp_skip ?_
       refine block_normal ?_
       refine then_at rfl ?_
       refine wl_region ?_
       refine wl_val (iN .i64 j) (by kernel_rfl) (by kernel_rfl) ?_
       refine wl_val (iN .i64 (j + 1)) (by kernel_rfl) (run_add (k := .i64) (a := j) (b := 1) (by kernel_rfl) (by kernel_rfl) (by first | omega | (simp only [top]; omega))) ?_
       refine wl_val (iN .i64 (j + 1)) (by kernel_rfl) (by kernel_rfl) ?_
       refine wl_nil ?_
       exact then_I ⟨fun ii => (([(4, u54 4), (91, iN .i64 j), (92, .slice pa (lstR S.rows { data := #[] }).length ca), (93, iN .i64 ((lstR S.rows { data := #[] }).length)), (94, .bool true), (95, iN .i64 j), (96, iN .i64 (j + 1)), (97, iN .i64 j), (98, .bool false), (99, .bool false), (100, undef), (101, undef), (102, undef), (103, undef), (104, undef), (105, undef), (106, undef), (107, undef), (108, undef), (109, undef), (110, .bool false), (111, .slice pa (lstR S.rows { data := #[] }).length ca), (112, iN .i64 j), (113, .pointer (some (aa.add j))), (114, .string ((⟨ba.toArray⟩ : ByteArray))), (115, iN .i64 (((⟨ba.toArray⟩ : ByteArray)).size)), (116, .string p), (117, iN .i64 p.size), (118, .bool true), (119, .bool true), (120, .slice pa (lstR S.rows { data := #[] }).length ca), (121, iN .i64 j), (122, .pointer (some (aa.add j))), (123, .string ((⟨ba.toArray⟩ : ByteArray))), (124, .string p), (125, iN .i64 p.size), (126, .string (((⟨ba.toArray⟩ : ByteArray)).extract 0 p.size)), (127, .string p), (128, .bool false), (129, .bool false), (130, u54 130), (131, u54 131), (132, u54 132), (133, u54 133), (134, u54 134), (135, u54 135), (136, u54 136), (137, u54 137), (138, u54 138), (139, u54 139), (140, u54 140), (141, u54 141), (142, u54 142), (143, u54 143), (144, u54 144), (145, u54 145), (146, u54 146)] : List (Nat × Value)).find? (·.1 == ii)).elim undef (·.2), (by rw [hcs]; kernel_rfl), h61⟩
     ·have hpf : ¬ Lib.hasPrefix ba (bl p) = true := by rw [hpx, decide_eq_false hsz, Bool.false_and]; decide
      rw [if_neg hpf] at hcs
      refine wl_region ?_
      refine wl_val (.slice pa (lstR S.rows { data := #[] }).length ca) (by kernel_rfl) (by kernel_rfl) ?_
      refine wl_val (iN .i64 j) (by kernel_rfl) (by kernel_rfl) ?_
      refine wl_val (.pointer (some (aa.add j))) (by kernel_rfl) (run_addr39 (o := pa) (a := aa) (n := (lstR S.rows { data := #[] }).length) (m := ca) (i := j) haa (by kernel_rfl) (by kernel_rfl) (by omega)) ?_
      refine wl_val (.string ((⟨ba.toArray⟩ : ByteArray))) (by kernel_rfl) (run_load_at (b := aa.add j) (fun w => Try.isAgg9 w) (by kernel_rfl) (ha3 _ (fun y hy => h61.blk y (List.mem_cons_of_mem _ (List.mem_append_left _ (List.mem_append_right _ hy)))))) ?_
      refine wl_val (iN .i64 (((⟨ba.toArray⟩ : ByteArray)).size)) (by kernel_rfl) (run_len (s := (⟨ba.toArray⟩ : ByteArray)) (by kernel_rfl)) ?_
      refine wl_val (.string p) (by kernel_rfl) (by kernel_rfl) ?_
      refine wl_val (iN .i64 p.size) (by kernel_rfl) (run_len (s := p) (by kernel_rfl)) ?_
      refine wl_val (.bool false) (by kernel_rfl) (run_geq (k := .i64) (a := ((⟨ba.toArray⟩ : ByteArray)).size) (b := p.size) (by kernel_rfl) (by kernel_rfl) false (decide_eq_false (by rw [hbz]; exact hsz))) ?_
      refine wl_val (.bool false) (by kernel_rfl) (by kernel_rfl) ?_
      refine wl_skip (by kernel_rfl) ?_
      refine wl_skip (by kernel_rfl) ?_
      refine wl_skip (by kernel_rfl) ?_
      refine wl_skip (by kernel_rfl) ?_
      refine wl_skip (by kernel_rfl) ?_
      refine wl_skip (by kernel_rfl) ?_
      refine wl_skip (by kernel_rfl) ?_
      refine wl_skip (by kernel_rfl) ?_
      refine wl_skip (by kernel_rfl) ?_
      refine wl_val (.bool false) (by kernel_rfl) (by kernel_rfl) ?_
      refine wl_nil ?_
      refine then_at rfl ?_
      refine wp_cond_false (by kernel_rfl) ?_
      refine wp_skip ?_
      refine block_normal ?_
      refine then_at rfl ?_
      refine wl_region ?_
      refine wl_val (iN .i64 j) (by kernel_rfl) (by kernel_rfl) ?_
      refine wl_val (iN .i64 (j + 1)) (by kernel_rfl) (run_add (k := .i64) (a := j) (b := 1) (by kernel_rfl) (by kernel_rfl) (by first | omega | (simp only [top]; omega))) ?_
      refine wl_val (iN .i64 (j + 1)) (by kernel_rfl) (by kernel_rfl) ?_
      refine wl_nil ?_
      exact then_I ⟨fun ii => (([(4, u54 4), (91, iN .i64 j), (92, .slice pa (lstR S.rows { data := #[] }).length ca), (93, iN .i64 ((lstR S.rows { data := #[] }).length)), (94, .bool true), (95, iN .i64 j), (96, iN .i64 (j + 1)), (97, iN .i64 j), (98, .bool false), (99, .bool false), (100, undef), (101, undef), (102, undef), (103, undef), (104, undef), (105, undef), (106, undef), (107, undef), (108, undef), (109, undef), (110, .bool false), (111, .slice pa (lstR S.rows { data := #[] }).length ca), (112, iN .i64 j), (113, .pointer (some (aa.add j))), (114, .string ((⟨ba.toArray⟩ : ByteArray))), (115, iN .i64 (((⟨ba.toArray⟩ : ByteArray)).size)), (116, .string p), (117, iN .i64 p.size), (118, .bool false), (119, .bool false), (120, undef), (121, undef), (122, undef), (123, undef), (124, undef), (125, undef), (126, undef), (127, undef), (128, undef), (129, .bool false), (130, u54 130), (131, u54 131), (132, u54 132), (133, u54 133), (134, u54 134), (135, u54 135), (136, u54 136), (137, u54 137), (138, u54 138), (139, u54 139), (140, u54 140), (141, u54 141), (142, u54 142), (143, u54 143), (144, u54 144), (145, u54 145), (146, u54 146)] : List (Nat × Value)).find? (·.1 == ii)).elim undef (·.2), (by rw [hcs]; kernel_rfl), h61⟩
   ·rintro _ w64 ⟨u54, rfl, hL2⟩
    refine wp_seq ?_
    refine wp_seq ?_
    refine wl_region ?_
    refine wl_val (iN .i64 ((lstR S.rows { data := #[] }).length)) (by kernel_rfl) (by kernel_rfl) ?_
    refine wl_val (.slice pa (lstR S.rows { data := #[] }).length ca) (by kernel_rfl) (by kernel_rfl) ?_
    refine wl_val (iN .i64 ((lstR S.rows { data := #[] }).length)) (by kernel_rfl) (by kernel_rfl) ?_
    refine wl_val (.bool false) (by kernel_rfl) (run_lss (k := .i64) (a := (lstR S.rows { data := #[] }).length) (b := (lstR S.rows { data := #[] }).length) (by kernel_rfl) (by kernel_rfl) false (decide_eq_false (by omega))) ?_
    refine wl_nil ?_
    refine then_at (F := ⟨(.slice o xs.length c :: .string p :: un :: un :: u54 4 :: pt sq :: iN .i64 0 :: iN .i64 (min xs.length 60) :: u13 8 :: u13 9 :: u13 10 :: u13 11 :: u13 12 :: u13 13 :: .slice pa (lstR S.rows { data := #[] }).length ca :: .slice ps (lstR S.rows p).length cs :: iN .i64 (cntP (lstR S.rows { data := #[] }) (bl p) ((lstR S.rows { data := #[] }).length)) :: iN .i64 ((lstR S.rows { data := #[] }).length) :: .bool true :: .bool false :: .tuple #[pt sq, iN .i64 0] :: pt d.q :: .tuple #[pt sq, iN .i64 0] :: pt sq :: iN .i64 0 :: iN .i64 0 :: .bool false :: iN .i64 (min xs.length 60) :: .slice o xs.length c :: iN .i64 xs.length :: .bool true :: .bool true :: iN .i64 (min xs.length 60) :: .bool false :: .bool false :: u13 35 :: u13 36 :: u13 37 :: u13 38 :: u13 39 :: u13 40 :: u13 41 :: u13 42 :: u13 43 :: u13 44 :: u13 45 :: u13 46 :: u13 47 :: u13 48 :: u13 49 :: u13 50 :: u13 51 :: u13 52 :: u13 53 :: u13 54 :: u13 55 :: u13 56 :: u13 57 :: u13 58 :: u13 59 :: u13 60 :: u13 61 :: u13 62 :: u13 63 :: u13 64 :: u13 65 :: u13 66 :: u13 67 :: u13 68 :: u13 69 :: u13 70 :: u13 71 :: u13 72 :: u13 73 :: u13 74 :: u13 75 :: u13 76 :: u13 77 :: u13 78 :: u13 79 :: u13 80 :: u13 81 :: u13 82 :: u13 83 :: u13 84 :: u13 85 :: pt sq :: .slice pa (lstR S.rows { data := #[] }).length ca :: pt sq :: .string p :: .slice ps (lstR S.rows p).length cs :: iN .i64 ((lstR S.rows { data := #[] }).length) :: .slice pa (lstR S.rows { data := #[] }).length ca :: iN .i64 ((lstR S.rows { data := #[] }).length) :: .bool false :: u54 95 :: u54 96 :: u54 97 :: u54 98 :: u54 99 :: u54 100 :: u54 101 :: u54 102 :: u54 103 :: u54 104 :: u54 105 :: u54 106 :: u54 107 :: u54 108 :: u54 109 :: u54 110 :: u54 111 :: u54 112 :: u54 113 :: u54 114 :: u54 115 :: u54 116 :: u54 117 :: u54 118 :: u54 119 :: u54 120 :: u54 121 :: u54 122 :: u54 123 :: u54 124 :: u54 125 :: u54 126 :: u54 127 :: u54 128 :: u54 129 :: u54 130 :: u54 131 :: u54 132 :: u54 133 :: u54 134 :: u54 135 :: u54 136 :: u54 137 :: u54 138 :: u54 139 :: u54 140 :: u54 141 :: u54 142 :: u54 143 :: u54 144 :: u54 145 :: u54 146 :: List.replicate 11 un).toArray, []⟩) (by kernel_rfl) ?_
    refine wp_cond_false (by kernel_rfl) ?_
    refine wp_exit ?_
    repeat first | refine then_exit ?_ | refine block_exit ?_ | refine block_exit_ne (by decide) ?_
    refine then_at rfl ?_
    refine wp_seq ?_
    have hca := cntP_all (lstR S.rows { data := #[] }) (bl p)
    rw [← hsome] at hca
    refine wl_region ?_
    refine wl_val (iN .i64 (cntP (lstR S.rows { data := #[] }) (bl p) ((lstR S.rows { data := #[] }).length))) (by kernel_rfl) (by kernel_rfl) ?_
    refine wl_val (.slice ps (lstR S.rows p).length cs) (by kernel_rfl) (by kernel_rfl) ?_
    refine wl_val (iN .i64 ((lstR S.rows p).length)) (by kernel_rfl) (by kernel_rfl) ?_
    refine wl_val (.bool true) (by kernel_rfl) (run_eqi (k := .i64) (a := cntP (lstR S.rows { data := #[] }) (bl p) ((lstR S.rows { data := #[] }).length)) (b := (lstR S.rows p).length) (by kernel_rfl) (by kernel_rfl) true (decide_eq_true hca)) ?_
    refine wl_val (.bool true) (by kernel_rfl) (by kernel_rfl) ?_
    refine wl_val (.pointer (some ⟨sq, 0, none⟩)) (by kernel_rfl) (by kernel_rfl) ?_
    refine wl_call (v := iN .i64 ((lstR S.rows { data := #[] }).length)) hL2 (by kernel_rfl) enter10 #[.pointer (some ⟨sq, 0, none⟩)] (by kernel_rfl) (by have h9 := len_S (hc46 _ _ ((Ls ++ La)) _ ⟨_, _, hrs46, hK46, hL2⟩); rw [← hall] at h9; exact h9) ?_
    intro w65 h66
    refine wl_val (.slice pa (lstR S.rows { data := #[] }).length ca) (by kernel_rfl) (by kernel_rfl) ?_
    refine wl_val (iN .i64 ((lstR S.rows { data := #[] }).length)) (by kernel_rfl) (by kernel_rfl) ?_
    refine wl_val (.bool true) (by kernel_rfl) (run_eqi (k := .i64) (a := (lstR S.rows { data := #[] }).length) (b := (lstR S.rows { data := #[] }).length) (by kernel_rfl) (by kernel_rfl) true (decide_eq_true rfl)) ?_
    refine wl_val (.bool true) (by kernel_rfl) (by kernel_rfl) ?_
    refine wl_val (.bool true) (by kernel_rfl) (by kernel_rfl) ?_
    refine wl_nil ?_
    refine then_at rfl ?_
    refine wp_ret ?_
    repeat first | refine then_ret ?_ | refine block_ret ?_
    exact bodyPost_ret (v := .bool true) (by kernel_rfl) rfl ⟨rfl, h66.old.old⟩
  ·refine wl_region ?_
   refine wl_val (iN .i64 (min xs.length 60)) (by kernel_rfl) (by kernel_rfl) ?_
   refine wl_val (.slice o xs.length c) (by kernel_rfl) (by kernel_rfl) ?_
   refine wl_val (iN .i64 xs.length) (by kernel_rfl) (by kernel_rfl) ?_
   refine wl_val (.bool false) (by kernel_rfl) (run_lss (k := .i64) (a := min xs.length 60) (b := xs.length) (by kernel_rfl) (by kernel_rfl) false (decide_eq_false (by omega))) ?_
   refine wl_val (.bool false) (by kernel_rfl) (by kernel_rfl) ?_
   refine wl_skip (by kernel_rfl) ?_
   refine wl_skip (by kernel_rfl) ?_
   refine wl_val (.bool false) (by kernel_rfl) (by kernel_rfl) ?_
   refine wl_nil ?_
   refine then_at rfl ?_
   refine wp_cond_false (by kernel_rfl) ?_
   refine wp_exit ?_
   repeat first | refine then_exit ?_ | refine block_exit ?_ | refine block_exit_ne (by decide) ?_
   refine then_at rfl ?_
   refine wp_seq ?_
   have hOr60 := hOr.mono (j := 60) (by omega)
   have hall : (lstR S.rows { data := #[] }).length = S.rows.length := by
    have h9 : (S.rows.filter fun x => pfx x.k { data := #[] }) = S.rows := List.filter_eq_self.2 fun x _ => by simp [pfx, Lib.hasPrefix, bl]
    unfold lstR
    rw [h9, List.length_mergeSort, List.length_map]
   have hsome := lst_filter S.rows p
   have hlen60 : S.rows.length ≤ 60 := Nat.le_trans hOr.ln (by omega)
   refine wl_region ?_
   refine wl_val (.pointer (some ⟨sq, 0, none⟩)) (by kernel_rfl) (by kernel_rfl) ?_
   refine wl_callx (by kernel_rfl) enter9 #[.pointer (some ⟨sq, 0, none⟩), .string ({ data := #[] })] (by kernel_rfl) (list_S (hc46 _ _ ([]) _ ⟨_, _, hrs46, hK46, h47⟩) (hOr.rb (by omega)) (by decide) { data := #[] }) ?_
   rintro _ w67 ⟨va, La, rfl, hRa, hLa⟩
   refine ⟨_, rfl, ?_⟩
   obtain ⟨pa, ca, rfl⟩ := hRa.form
   have h68 : HA ⟨w, m46 :: (sr, .mp (eR rs46) nx46) :: []⟩ (La ++ ([(sq, 44, scell d.q sr ((laidR S.rows)) S.size)] ++ ([] ++ X46))) w67 := HA.join h47 hLa
   have h69 : HA ⟨w, m46 :: (sr, .mp (eR rs46) nx46) :: []⟩ ((sq, 44, scell d.q sr ((laidR S.rows)) S.size) :: (La ++ X46)) w67 := h68.perm (perm_mv La [(sq, 44, scell d.q sr ((laidR S.rows)) S.size)] ([] ++ X46))
   refine wl_val (.pointer (some ⟨sq, 0, none⟩)) (by kernel_rfl) (by kernel_rfl) ?_
   refine wl_val (.string p) (by kernel_rfl) (by kernel_rfl) ?_
   refine wl_callx (by kernel_rfl) enter9 #[.pointer (some ⟨sq, 0, none⟩), .string p] (by kernel_rfl) (list_S (hc46 _ _ (La) _ ⟨_, _, hrs46, hK46, h69⟩) (hOr.rb (by omega)) (by decide) p) ?_
   rintro _ w70 ⟨vs, Ls, rfl, hRs, hLs⟩
   refine ⟨_, rfl, ?_⟩
   obtain ⟨ps, cs, rfl⟩ := hRs.form
   have h71 : HA ⟨w, m46 :: (sr, .mp (eR rs46) nx46) :: []⟩ (Ls ++ ([(sq, 44, scell d.q sr ((laidR S.rows)) S.size)] ++ (La ++ X46))) w70 := HA.join h69 hLs
   have h72 : HA ⟨w, m46 :: (sr, .mp (eR rs46) nx46) :: []⟩ ((sq, 44, scell d.q sr ((laidR S.rows)) S.size) :: ((Ls ++ La) ++ X46)) w70 := (h71.perm (perm_mv Ls [(sq, 44, scell d.q sr ((laidR S.rows)) S.size)] (La ++ X46))).perm (by rw [← List.append_assoc Ls La X46]; exact List.Perm.refl _)
   refine wl_val (.slice pa (lstR S.rows { data := #[] }).length ca) (by kernel_rfl) (by kernel_rfl) ?_
   refine wl_val (.slice ps (lstR S.rows p).length cs) (by kernel_rfl) (by kernel_rfl) ?_
   refine wl_nil ?_
   refine then_at rfl ?_
   refine wp_seq ?_
   refine wl_region ?_
   refine wl_val (iN .i64 0) (by kernel_rfl) (by kernel_rfl) ?_
   refine wl_nil ?_
   refine then_at (F := ⟨(.slice o xs.length c :: .string p :: un :: un :: u13 4 :: pt sq :: iN .i64 0 :: iN .i64 (min xs.length 60) :: u13 8 :: u13 9 :: u13 10 :: u13 11 :: u13 12 :: u13 13 :: .slice pa (lstR S.rows { data := #[] }).length ca :: .slice ps (lstR S.rows p).length cs :: iN .i64 0 :: un :: .bool true :: .bool false :: .tuple #[pt sq, iN .i64 0] :: pt d.q :: .tuple #[pt sq, iN .i64 0] :: pt sq :: iN .i64 0 :: iN .i64 0 :: .bool false :: iN .i64 (min xs.length 60) :: .slice o xs.length c :: iN .i64 xs.length :: .bool false :: .bool false :: un :: un :: .bool false :: u13 35 :: u13 36 :: u13 37 :: u13 38 :: u13 39 :: u13 40 :: u13 41 :: u13 42 :: u13 43 :: u13 44 :: u13 45 :: u13 46 :: u13 47 :: u13 48 :: u13 49 :: u13 50 :: u13 51 :: u13 52 :: u13 53 :: u13 54 :: u13 55 :: u13 56 :: u13 57 :: u13 58 :: u13 59 :: u13 60 :: u13 61 :: u13 62 :: u13 63 :: u13 64 :: u13 65 :: u13 66 :: u13 67 :: u13 68 :: u13 69 :: u13 70 :: u13 71 :: u13 72 :: u13 73 :: u13 74 :: u13 75 :: u13 76 :: u13 77 :: u13 78 :: u13 79 :: u13 80 :: u13 81 :: u13 82 :: u13 83 :: u13 84 :: u13 85 :: pt sq :: .slice pa (lstR S.rows { data := #[] }).length ca :: pt sq :: .string p :: .slice ps (lstR S.rows p).length cs :: List.replicate 67 un).toArray, []⟩) (by kernel_rfl) ?_
   refine wp_seq ?_
   refine wp_seq ?_
   refine wl_region ?_
   refine wl_val (iN .i64 0) (by kernel_rfl) (by kernel_rfl) ?_
   refine wl_nil ?_
   refine then_at rfl ?_
   refine wp_block ?_
   refine wp_count (fun j A w' => ∃ u73 : Nat → Value, A = ⟨(.slice o xs.length c :: .string p :: un :: un :: u73 4 :: pt sq :: iN .i64 0 :: iN .i64 (min xs.length 60) :: u13 8 :: u13 9 :: u13 10 :: u13 11 :: u13 12 :: u13 13 :: .slice pa (lstR S.rows { data := #[] }).length ca :: .slice ps (lstR S.rows p).length cs :: iN .i64 (cntP (lstR S.rows { data := #[] }) (bl p) j) :: iN .i64 j :: .bool true :: .bool false :: .tuple #[pt sq, iN .i64 0] :: pt d.q :: .tuple #[pt sq, iN .i64 0] :: pt sq :: iN .i64 0 :: iN .i64 0 :: .bool false :: iN .i64 (min xs.length 60) :: .slice o xs.length c :: iN .i64 xs.length :: .bool false :: .bool false :: un :: un :: .bool false :: u13 35 :: u13 36 :: u13 37 :: u13 38 :: u13 39 :: u13 40 :: u13 41 :: u13 42 :: u13 43 :: u13 44 :: u13 45 :: u13 46 :: u13 47 :: u13 48 :: u13 49 :: u13 50 :: u13 51 :: u13 52 :: u13 53 :: u13 54 :: u13 55 :: u13 56 :: u13 57 :: u13 58 :: u13 59 :: u13 60 :: u13 61 :: u13 62 :: u13 63 :: u13 64 :: u13 65 :: u13 66 :: u13 67 :: u13 68 :: u13 69 :: u13 70 :: u13 71 :: u13 72 :: u13 73 :: u13 74 :: u13 75 :: u13 76 :: u13 77 :: u13 78 :: u13 79 :: u13 80 :: u13 81 :: u13 82 :: u13 83 :: u13 84 :: u13 85 :: pt sq :: .slice pa (lstR S.rows { data := #[] }).length ca :: pt sq :: .string p :: .slice ps (lstR S.rows p).length cs :: u73 91 :: u73 92 :: u73 93 :: u73 94 :: u73 95 :: u73 96 :: u73 97 :: u73 98 :: u73 99 :: u73 100 :: u73 101 :: u73 102 :: u73 103 :: u73 104 :: u73 105 :: u73 106 :: u73 107 :: u73 108 :: u73 109 :: u73 110 :: u73 111 :: u73 112 :: u73 113 :: u73 114 :: u73 115 :: u73 116 :: u73 117 :: u73 118 :: u73 119 :: u73 120 :: u73 121 :: u73 122 :: u73 123 :: u73 124 :: u73 125 :: u73 126 :: u73 127 :: u73 128 :: u73 129 :: u73 130 :: u73 131 :: u73 132 :: u73 133 :: u73 134 :: u73 135 :: u73 136 :: u73 137 :: u73 138 :: u73 139 :: u73 140 :: u73 141 :: u73 142 :: u73 143 :: u73 144 :: u73 145 :: u73 146 :: List.replicate 11 un).toArray, []⟩ ∧ HA ⟨w, m46 :: (sr, .mp (eR rs46) nx46) :: []⟩ ((sq, 44, scell d.q sr ((laidR S.rows)) S.size) :: ((Ls ++ La) ++ X46)) w') ((lstR S.rows { data := #[] }).length) ?_ ?_ ?_
   ·exact ⟨fun ii => (([(4, u13 4), (91, undef), (92, undef), (93, undef), (94, undef), (95, undef), (96, undef), (97, undef), (98, undef), (99, undef), (100, undef), (101, undef), (102, undef), (103, undef), (104, undef), (105, undef), (106, undef), (107, undef), (108, undef), (109, undef), (110, undef), (111, undef), (112, undef), (113, undef), (114, undef), (115, undef), (116, undef), (117, undef), (118, undef), (119, undef), (120, undef), (121, undef), (122, undef), (123, undef), (124, undef), (125, undef), (126, undef), (127, undef), (128, undef), (129, undef), (130, undef), (131, undef), (132, undef), (133, undef), (134, undef), (135, undef), (136, undef), (137, undef), (138, undef), (139, undef), (140, undef), (141, undef), (142, undef), (143, undef), (144, undef), (145, undef), (146, undef)] : List (Nat × Value)).find? (·.1 == ii)).elim undef (·.2), by kernel_rfl, h72⟩
   ·rintro j hj _ w74 ⟨u73, rfl, hL2⟩
    obtain ⟨ba, hba⟩ : ∃ b, (lstR S.rows { data := #[] })[j]? = some b := ⟨_, List.getElem?_eq_getElem hj⟩
    obtain ⟨aa, haa, ha3⟩ := nm_at hRa hba
    have hcs := cntP_succ (p := bl p) hba
    have hcl : cntP (lstR S.rows { data := #[] }) (bl p) j ≤ j := by unfold cntP; exact Nat.le_trans (List.length_filter_le _ _) (by rw [List.length_take]; omega)
    refine wp_seq ?_
    refine wp_seq ?_
    refine wl_region ?_
    refine wl_val (iN .i64 j) (by kernel_rfl) (by kernel_rfl) ?_
    refine wl_val (.slice pa (lstR S.rows { data := #[] }).length ca) (by kernel_rfl) (by kernel_rfl) ?_
    refine wl_val (iN .i64 ((lstR S.rows { data := #[] }).length)) (by kernel_rfl) (by kernel_rfl) ?_
    refine wl_val (.bool true) (by kernel_rfl) (run_lss (k := .i64) (a := j) (b := (lstR S.rows { data := #[] }).length) (by kernel_rfl) (by kernel_rfl) true (decide_eq_true (by omega))) ?_
    refine wl_nil ?_
    refine then_at rfl ?_
    refine wp_cond_true (by kernel_rfl) ?_
    refine wp_skip ?_
    refine then_at rfl ?_
    refine wp_seq ?_
    refine wp_block ?_
    refine wp_seq ?_
    refine wp_seq ?_
    by_cases hj0 : 0 < j
    ·obtain ⟨bp, hbp⟩ : ∃ b, (lstR S.rows { data := #[] })[j - 1]? = some b := ⟨_, List.getElem?_eq_getElem (by omega)⟩
     obtain ⟨ap, hap, hp3⟩ := nm_at hRa hbp
     have hlt : bp < ba := lst_sorted hOr.nodup hbp (by rw [show j - 1 + 1 = j by omega]; exact hba)
     refine wp_region_sure ⟨(.slice o xs.length c :: .string p :: un :: un :: u73 4 :: pt sq :: iN .i64 0 :: iN .i64 (min xs.length 60) :: u13 8 :: u13 9 :: u13 10 :: u13 11 :: u13 12 :: u13 13 :: .slice pa (lstR S.rows { data := #[] }).length ca :: .slice ps (lstR S.rows p).length cs :: iN .i64 (cntP (lstR S.rows { data := #[] }) (bl p) j) :: iN .i64 j :: .bool true :: .bool false :: .tuple #[pt sq, iN .i64 0] :: pt d.q :: .tuple #[pt sq, iN .i64 0] :: pt sq :: iN .i64 0 :: iN .i64 0 :: .bool false :: iN .i64 (min xs.length 60) :: .slice o xs.length c :: iN .i64 xs.length :: .bool false :: .bool false :: un :: un :: .bool false :: u13 35 :: u13 36 :: u13 37 :: u13 38 :: u13 39 :: u13 40 :: u13 41 :: u13 42 :: u13 43 :: u13 44 :: u13 45 :: u13 46 :: u13 47 :: u13 48 :: u13 49 :: u13 50 :: u13 51 :: u13 52 :: u13 53 :: u13 54 :: u13 55 :: u13 56 :: u13 57 :: u13 58 :: u13 59 :: u13 60 :: u13 61 :: u13 62 :: u13 63 :: u13 64 :: u13 65 :: u13 66 :: u13 67 :: u13 68 :: u13 69 :: u13 70 :: u13 71 :: u13 72 :: u13 73 :: u13 74 :: u13 75 :: u13 76 :: u13 77 :: u13 78 :: u13 79 :: u13 80 :: u13 81 :: u13 82 :: u13 83 :: u13 84 :: u13 85 :: pt sq :: .slice pa (lstR S.rows { data := #[] }).length ca :: pt sq :: .string p :: .slice ps (lstR S.rows p).length cs :: iN .i64 j :: .slice pa (lstR S.rows { data := #[] }).length ca :: iN .i64 ((lstR S.rows { data := #[] }).length) :: .bool true :: u73 95 :: u73 96 :: iN .i64 j :: .bool true :: .bool true :: .slice pa (lstR S.rows { data := #[] }).length ca :: iN .i64 j :: iN .i64 (j - 1) :: .pointer (some (ap.add (j - 1))) :: .string ((⟨bp.toArray⟩ : ByteArray)) :: .slice pa (lstR S.rows { data := #[] }).length ca :: iN .i64 j :: .pointer (some (aa.add j)) :: .string ((⟨ba.toArray⟩ : ByteArray)) :: .bool false :: .bool false :: u73 111 :: u73 112 :: u73 113 :: u73 114 :: u73 115 :: u73 116 :: u73 117 :: u73 118 :: u73 119 :: u73 120 :: u73 121 :: u73 122 :: u73 123 :: u73 124 :: u73 125 :: u73 126 :: u73 127 :: u73 128 :: u73 129 :: u73 130 :: u73 131 :: u73 132 :: u73 133 :: u73 134 :: u73 135 :: u73 136 :: u73 137 :: u73 138 :: u73 139 :: u73 140 :: u73 141 :: u73 142 :: u73 143 :: u73 144 :: u73 145 :: u73 146 :: List.replicate 11 un).toArray, []⟩ (HA ⟨w, m46 :: (sr, .mp (eR rs46) nx46) :: []⟩ ((sq, 44, scell d.q sr ((laidR S.rows)) S.size) :: ((Ls ++ La) ++ X46))) [iN .i64 j, .bool true, .bool true, .slice pa (lstR S.rows { data := #[] }).length ca, iN .i64 j, iN .i64 (j - 1), .pointer (some (ap.add (j - 1))), .string ((⟨bp.toArray⟩ : ByteArray)), .slice pa (lstR S.rows { data := #[] }).length ca, iN .i64 j, .pointer (some (aa.add j)), .string ((⟨ba.toArray⟩ : ByteArray)), .bool false, .bool false] (by kernel_rfl) (by kernel_rfl) (by kernel_rfl) (by kernel_rfl) (fun _ _ _ h => h) hL2.drew ?_ ?_
     ·refine AllSure.cons (OpSure.take (v := iN .i64 j) (by kernel_rfl) (by kernel_rfl) (fun _ _ => (by kernel_rfl))) ?_
      refine AllSure.cons (OpSure.take (v := .bool true) (by kernel_rfl) (by kernel_rfl) (fun _ _ => (run_gtr (k := .i64) (a := j) (b := 0) (by kernel_rfl) (by kernel_rfl) true (decide_eq_true hj0)))) ?_
      refine AllSure.cons (OpSure.take (v := .bool true) (by kernel_rfl) (by kernel_rfl) (fun _ _ => (by kernel_rfl))) ?_
      refine AllSure.cons (OpSure.take (v := .slice pa (lstR S.rows { data := #[] }).length ca) (by kernel_rfl) (by kernel_rfl) (fun _ _ => (by kernel_rfl))) ?_
      refine AllSure.cons (OpSure.take (v := iN .i64 j) (by kernel_rfl) (by kernel_rfl) (fun _ _ => (by kernel_rfl))) ?_
      refine AllSure.cons (OpSure.take (v := iN .i64 (j - 1)) (by kernel_rfl) (by kernel_rfl) (fun _ _ => (run_sub (k := .i64) (a := j) (b := 1) (by kernel_rfl) (by kernel_rfl) (by first | omega | (simp only [top]; omega)) (by first | omega | (simp only [top]; omega))))) ?_
      refine AllSure.cons (OpSure.take (v := .pointer (some (ap.add (j - 1)))) (by kernel_rfl) (by kernel_rfl) (fun _ _ => (run_addr39 (o := pa) (a := ap) (n := (lstR S.rows { data := #[] }).length) (m := ca) (i := j - 1) hap (by kernel_rfl) (by kernel_rfl) (by omega)))) ?_
      refine AllSure.cons (OpSure.take (v := .string ((⟨bp.toArray⟩ : ByteArray))) (by kernel_rfl) (by kernel_rfl) (fun w' h' => run_load_at (b := ap.add (j - 1)) (fun w => Try.isAgg9 w) (by kernel_rfl) (hp3 _ (fun y hy => h'.blk y (List.mem_cons_of_mem _ (List.mem_append_left _ (List.mem_append_right _ hy))))))) ?_
      refine AllSure.cons (OpSure.take (v := .slice pa (lstR S.rows { data := #[] }).length ca) (by kernel_rfl) (by kernel_rfl) (fun _ _ => (by kernel_rfl))) ?_
      refine AllSure.cons (OpSure.take (v := iN .i64 j) (by kernel_rfl) (by kernel_rfl) (fun _ _ => (by kernel_rfl))) ?_
      refine AllSure.cons (OpSure.take (v := .pointer (some (aa.add j))) (by kernel_rfl) (by kernel_rfl) (fun _ _ => (run_addr39 (o := pa) (a := aa) (n := (lstR S.rows { data := #[] }).length) (m := ca) (i := j) haa (by kernel_rfl) (by kernel_rfl) (by omega)))) ?_
      refine AllSure.cons (OpSure.take (v := .string ((⟨ba.toArray⟩ : ByteArray))) (by kernel_rfl) (by kernel_rfl) (fun w' h' => run_load_at (b := aa.add j) (fun w => Try.isAgg9 w) (by kernel_rfl) (ha3 _ (fun y hy => h'.blk y (List.mem_cons_of_mem _ (List.mem_append_left _ (List.mem_append_right _ hy))))))) ?_
      refine AllSure.cons (OpSure.take (v := .bool false) (by kernel_rfl) (by kernel_rfl) (fun _ _ => (run_ges (s := (⟨bp.toArray⟩ : ByteArray)) (t := (⟨ba.toArray⟩ : ByteArray)) (by kernel_rfl) (by kernel_rfl) false (by rw [toL, toL, decide_eq_true hlt]; rfl)))) ?_
      refine AllSure.cons (OpSure.take (v := .bool false) (by kernel_rfl) (by kernel_rfl) (fun _ _ => (by kernel_rfl))) ?_
      exact AllSure.nil
     intro w75 h76
     refine then_at rfl ?_
     refine wp_cond_false (by kernel_rfl) ?_
     refine wp_skip ?_
     refine then_at rfl ?_
     refine wp_seq ?_
     have hpx := pfx_iff ba p
     have hbz : (⟨ba.toArray⟩ : ByteArray).size = ba.length := by show ba.toArray.size = _; simp
     by_cases hsz : p.size ≤ ba.length
     ·by_cases hex : (⟨ba.toArray⟩ : ByteArray).extract 0 p.size = p
      ·have hpf : Lib.hasPrefix ba (bl p) = true := by rw [hpx, decide_eq_true hsz, decide_eq_true hex]; rfl
       rw [if_pos hpf] at hcs
       have hsn : (lstR S.rows p)[cntP (lstR S.rows { data := #[] }) (bl p) j]? = some ba := by rw [hsome]; exact cntP_at hba hpf
       obtain ⟨as1, has, hs3⟩ := nm_at hRs hsn
       have hsl := (List.getElem?_eq_some_iff.1 hsn).1
       refine wl_region ?_
       refine wl_val (.slice pa (lstR S.rows { data := #[] }).length ca) (by kernel_rfl) (by kernel_rfl) ?_
       refine wl_val (iN .i64 j) (by kernel_rfl) (by kernel_rfl) ?_
       refine wl_val (.pointer (some (aa.add j))) (by kernel_rfl) (run_addr39 (o := pa) (a := aa) (n := (lstR S.rows { data := #[] }).length) (m := ca) (i := j) haa (by kernel_rfl) (by kernel_rfl) (by omega)) ?_
       refine wl_val (.string ((⟨ba.toArray⟩ : ByteArray))) (by kernel_rfl) (run_load_at (b := aa.add j) (fun w => Try.isAgg9 w) (by kernel_rfl) (ha3 _ (fun y hy => h76.blk y (List.mem_cons_of_mem _ (List.mem_append_left _ (List.mem_append_right _ hy)))))) ?_
       refine wl_val (iN .i64 (((⟨ba.toArray⟩ : ByteArray)).size)) (by kernel_rfl) (run_len (s := (⟨ba.toArray⟩ : ByteArray)) (by kernel_rfl)) ?_
       refine wl_val (.string p) (by kernel_rfl) (by kernel_rfl) ?_
       refine wl_val (iN .i64 p.size) (by kernel_rfl) (run_len (s := p) (by kernel_rfl)) ?_
       refine wl_val (.bool true) (by kernel_rfl) (run_geq (k := .i64) (a := ((⟨ba.toArray⟩ : ByteArray)).size) (b := p.size) (by kernel_rfl) (by kernel_rfl) true (decide_eq_true (by rw [hbz]; exact hsz))) ?_
       refine wl_val (.bool true) (by kernel_rfl) (by kernel_rfl) ?_
       refine wl_val (.slice pa (lstR S.rows { data := #[] }).length ca) (by kernel_rfl) (by kernel_rfl) ?_
       refine wl_val (iN .i64 j) (by kernel_rfl) (by kernel_rfl) ?_
       refine wl_val (.pointer (some (aa.add j))) (by kernel_rfl) (run_addr39 (o := pa) (a := aa) (n := (lstR S.rows { data := #[] }).length) (m := ca) (i := j) haa (by kernel_rfl) (by kernel_rfl) (by omega)) ?_
       refine wl_val (.string ((⟨ba.toArray⟩ : ByteArray))) (by kernel_rfl) (run_load_at (b := aa.add j) (fun w => Try.isAgg9 w) (by kernel_rfl) (ha3 _ (fun y hy => h76.blk y (List.mem_cons_of_mem _ (List.mem_append_left _ (List.mem_append_right _ hy)))))) ?_
       refine wl_val (.string p) (by kernel_rfl) (by kernel_rfl) ?_
       refine wl_val (iN .i64 p.size) (by kernel_rfl) (run_len (s := p) (by kernel_rfl)) ?_
       refine wl_val (.string (((⟨ba.toArray⟩ : ByteArray)).extract 0 p.size)) (by kernel_rfl) (run_cut_hi (s := (⟨ba.toArray⟩ : ByteArray)) (b := p.size) (by kernel_rfl) (by kernel_rfl) (by omega)) ?_
       refine wl_val (.string p) (by kernel_rfl) (by kernel_rfl) ?_
       refine wl_val (.bool true) (by kernel_rfl) (run_eqs (s := ((⟨ba.toArray⟩ : ByteArray)).extract 0 p.size) (t := p) (by kernel_rfl) (by kernel_rfl) true (decide_eq_true hex)) ?_
       refine wl_val (.bool true) (by kernel_rfl) (by kernel_rfl) ?_
       refine wl_nil ?_
       refine then_at (F := ⟨(.slice o xs.length c :: .string p :: un :: un :: u73 4 :: pt sq :: iN .i64 0 :: iN .i64 (min xs.length 60) :: u13 8 :: u13 9 :: u13 10 :: u13 11 :: u13 12 :: u13 13 :: .slice pa (lstR S.rows { data := #[] }).length ca :: .slice ps (lstR S.rows p).length cs :: iN .i64 (cntP (lstR S.rows { data := #[] }) (bl p) j) :: iN .i64 j :: .bool true :: .bool false :: .tuple #[pt sq, iN .i64 0] :: pt d.q :: .tuple #[pt sq, iN .i64 0] :: pt sq :: iN .i64 0 :: iN .i64 0 :: .bool false :: iN .i64 (min xs.length 60) :: .slice o xs.length c :: iN .i64 xs.length :: .bool false :: .bool false :: un :: un :: .bool false :: u13 35 :: u13 36 :: u13 37 :: u13 38 :: u13 39 :: u13 40 :: u13 41 :: u13 42 :: u13 43 :: u13 44 :: u13 45 :: u13 46 :: u13 47 :: u13 48 :: u13 49 :: u13 50 :: u13 51 :: u13 52 :: u13 53 :: u13 54 :: u13 55 :: u13 56 :: u13 57 :: u13 58 :: u13 59 :: u13 60 :: u13 61 :: u13 62 :: u13 63 :: u13 64 :: u13 65 :: u13 66 :: u13 67 :: u13 68 :: u13 69 :: u13 70 :: u13 71 :: u13 72 :: u13 73 :: u13 74 :: u13 75 :: u13 76 :: u13 77 :: u13 78 :: u13 79 :: u13 80 :: u13 81 :: u13 82 :: u13 83 :: u13 84 :: u13 85 :: pt sq :: .slice pa (lstR S.rows { data := #[] }).length ca :: pt sq :: .string p :: .slice ps (lstR S.rows p).length cs :: iN .i64 j :: .slice pa (lstR S.rows { data := #[] }).length ca :: iN .i64 ((lstR S.rows { data := #[] }).length) :: .bool true :: u73 95 :: u73 96 :: iN .i64 j :: .bool true :: .bool true :: .slice pa (lstR S.rows { data := #[] }).length ca :: iN .i64 j :: iN .i64 (j - 1) :: .pointer (some (ap.add (j - 1))) :: .string ((⟨bp.toArray⟩ : ByteArray)) :: .slice pa (lstR S.rows { data := #[] }).length ca :: iN .i64 j :: .pointer (some (aa.add j)) :: .string ((⟨ba.toArray⟩ : ByteArray)) :: .bool false :: .bool false :: .slice pa (lstR S.rows { data := #[] }).length ca :: iN .i64 j :: .pointer (some (aa.add j)) :: .string ((⟨ba.toArray⟩ : ByteArray)) :: iN .i64 (((⟨ba.toArray⟩ : ByteArray)).size) :: .string p :: iN .i64 p.size :: .bool true :: .bool true :: .slice pa (lstR S.rows { data := #[] }).length ca :: iN .i64 j :: .pointer (some (aa.add j)) :: .string ((⟨ba.toArray⟩ : ByteArray)) :: .string p :: iN .i64 p.size :: .string (((⟨ba.toArray⟩ : ByteArray)).extract 0 p.size) :: .string p :: .bool true :: .bool true :: u73 130 :: u73 131 :: u73 132 :: u73 133 :: u73 134 :: u73 135 :: u73 136 :: u73 137 :: u73 138 :: u73 139 :: u73 140 :: u73 141 :: u73 142 :: u73 143 :: u73 144 :: u73 145 :: u73 146 :: List.replicate 11 un).toArray, []⟩) (by kernel_rfl) ?_
       refine wp_cond_true (by kernel_rfl) ?_
       refine wp_seq ?_
       refine wp_seq ?_
       refine wp_region_sure ⟨(.slice o xs.length c :: .string p :: un :: un :: u73 4 :: pt sq :: iN .i64 0 :: iN .i64 (min xs.length 60) :: u13 8 :: u13 9 :: u13 10 :: u13 11 :: u13 12 :: u13 13 :: .slice pa (lstR S.rows { data := #[] }).length ca :: .slice ps (lstR S.rows p).length cs :: iN .i64 (cntP (lstR S.rows { data := #[] }) (bl p) j) :: iN .i64 j :: .bool true :: .bool false :: .tuple #[pt sq, iN .i64 0] :: pt d.q :: .tuple #[pt sq, iN .i64 0] :: pt sq :: iN .i64 0 :: iN .i64 0 :: .bool false :: iN .i64 (min xs.length 60) :: .slice o xs.length c :: iN .i64 xs.length :: .bool false :: .bool false :: un :: un :: .bool false :: u13 35 :: u13 36 :: u13 37 :: u13 38 :: u13 39 :: u13 40 :: u13 41 :: u13 42 :: u13 43 :: u13 44 :: u13 45 :: u13 46 :: u13 47 :: u13 48 :: u13 49 :: u13 50 :: u13 51 :: u13 52 :: u13 53 :: u13 54 :: u13 55 :: u13 56 :: u13 57 :: u13 58 :: u13 59 :: u13 60 :: u13 61 :: u13 62 :: u13 63 :: u13 64 :: u13 65 :: u13 66 :: u13 67 :: u13 68 :: u13 69 :: u13 70 :: u13 71 :: u13 72 :: u13 73 :: u13 74 :: u13 75 :: u13 76 :: u13 77 :: u13 78 :: u13 79 :: u13 80 :: u13 81 :: u13 82 :: u13 83 :: u13 84 :: u13 85 :: pt sq :: .slice pa (lstR S.rows { data := #[] }).length ca :: pt sq :: .string p :: .slice ps (lstR S.rows p).length cs :: iN .i64 j :: .slice pa (lstR S.rows { data := #[] }).length ca :: iN .i64 ((lstR S.rows { data := #[] }).length) :: .bool true :: u73 95 :: u73 96 :: iN .i64 j :: .bool true :: .bool true :: .slice pa (lstR S.rows { data := #[] }).length ca :: iN .i64 j :: iN .i64 (j - 1) :: .pointer (some (ap.add (j - 1))) :: .string ((⟨bp.toArray⟩ : ByteArray)) :: .slice pa (lstR S.rows { data := #[] }).length ca :: iN .i64 j :: .pointer (some (aa.add j)) :: .string ((⟨ba.toArray⟩ : ByteArray)) :: .bool false :: .bool false :: .slice pa (lstR S.rows { data := #[] }).length ca :: iN .i64 j :: .pointer (some (aa.add j)) :: .string ((⟨ba.toArray⟩ : ByteArray)) :: iN .i64 (((⟨ba.toArray⟩ : ByteArray)).size) :: .string p :: iN .i64 p.size :: .bool true :: .bool true :: .slice pa (lstR S.rows { data := #[] }).length ca :: iN .i64 j :: .pointer (some (aa.add j)) :: .string ((⟨ba.toArray⟩ : ByteArray)) :: .string p :: iN .i64 p.size :: .string (((⟨ba.toArray⟩ : ByteArray)).extract 0 p.size) :: .string p :: .bool true :: .bool true :: iN .i64 (cntP (lstR S.rows { data := #[] }) (bl p) j) :: .slice ps (lstR S.rows p).length cs :: iN .i64 ((lstR S.rows p).length) :: .bool false :: .bool false :: .slice ps (lstR S.rows p).length cs :: iN .i64 (cntP (lstR S.rows { data := #[] }) (bl p) j) :: .pointer (some (as1.add (cntP (lstR S.rows { data := #[] }) (bl p) j))) :: .string ((⟨ba.toArray⟩ : ByteArray)) :: .slice pa (lstR S.rows { data := #[] }).length ca :: iN .i64 j :: .pointer (some (aa.add j)) :: .string ((⟨ba.toArray⟩ : ByteArray)) :: .bool false :: .bool false :: u73 145 :: u73 146 :: List.replicate 11 un).toArray, []⟩ (HA ⟨w, m46 :: (sr, .mp (eR rs46) nx46) :: []⟩ ((sq, 44, scell d.q sr ((laidR S.rows)) S.size) :: ((Ls ++ La) ++ X46))) [iN .i64 (cntP (lstR S.rows { data := #[] }) (bl p) j), .slice ps (lstR S.rows p).length cs, iN .i64 ((lstR S.rows p).length), .bool false, .bool false, .slice ps (lstR S.rows p).length cs, iN .i64 (cntP (lstR S.rows { data := #[] }) (bl p) j), .pointer (some (as1.add (cntP (lstR S.rows { data := #[] }) (bl p) j))), .string ((⟨ba.toArray⟩ : ByteArray)), .slice pa (lstR S.rows { data := #[] }).length ca, iN .i64 j, .pointer (some (aa.add j)), .string ((⟨ba.toArray⟩ : ByteArray)), .bool false, .bool false] (by kernel_rfl) (by kernel_rfl) (by kernel_rfl) (by kernel_rfl) (fun _ _ _ h => h) h76.drew ?_ ?_
       ·refine AllSure.cons (OpSure.take (v := iN .i64 (cntP (lstR S.rows { data := #[] }) (bl p) j)) (by kernel_rfl) (by kernel_rfl) (fun _ _ => (by kernel_rfl))) ?_
        refine AllSure.cons (OpSure.take (v := .slice ps (lstR S.rows p).length cs) (by kernel_rfl) (by kernel_rfl) (fun _ _ => (by kernel_rfl))) ?_
        refine AllSure.cons (OpSure.take (v := iN .i64 ((lstR S.rows p).length)) (by kernel_rfl) (by kernel_rfl) (fun _ _ => (by kernel_rfl))) ?_
        refine AllSure.cons (OpSure.take (v := .bool false) (by kernel_rfl) (by kernel_rfl) (fun _ _ => (run_geq (k := .i64) (a := cntP (lstR S.rows { data := #[] }) (bl p) j) (b := (lstR S.rows p).length) (by kernel_rfl) (by kernel_rfl) false (decide_eq_false (by omega))))) ?_
        refine AllSure.cons (OpSure.take (v := .bool false) (by kernel_rfl) (by kernel_rfl) (fun _ _ => (by kernel_rfl))) ?_
        refine AllSure.cons (OpSure.take (v := .slice ps (lstR S.rows p).length cs) (by kernel_rfl) (by kernel_rfl) (fun _ _ => (by kernel_rfl))) ?_
        refine AllSure.cons (OpSure.take (v := iN .i64 (cntP (lstR S.rows { data := #[] }) (bl p) j)) (by kernel_rfl) (by kernel_rfl) (fun _ _ => (by kernel_rfl))) ?_
        refine AllSure.cons (OpSure.take (v := .pointer (some (as1.add (cntP (lstR S.rows { data := #[] }) (bl p) j)))) (by kernel_rfl) (by kernel_rfl) (fun _ _ => (run_addr39 (o := ps) (a := as1) (n := (lstR S.rows p).length) (m := cs) (i := cntP (lstR S.rows { data := #[] }) (bl p) j) has (by kernel_rfl) (by kernel_rfl) (List.getElem?_eq_some_iff.1 hsn).1))) ?_
        refine AllSure.cons (OpSure.take (v := .string ((⟨ba.toArray⟩ : ByteArray))) (by kernel_rfl) (by kernel_rfl) (fun w' h' => run_load_at (b := as1.add (cntP (lstR S.rows { data := #[] }) (bl p) j)) (fun w => Try.isAgg9 w) (by kernel_rfl) (hs3 _ (fun y hy => h'.blk y (List.mem_cons_of_mem _ (List.mem_append_left _ (List.mem_append_left _ hy))))))) ?_
        refine AllSure.cons (OpSure.take (v := .slice pa (lstR S.rows { data := #[] }).length ca) (by kernel_rfl) (by kernel_rfl) (fun _ _ => (by kernel_rfl))) ?_
        refine AllSure.cons (OpSure.take (v := iN .i64 j) (by kernel_rfl) (by kernel_rfl) (fun _ _ => (by kernel_rfl))) ?_
        refine AllSure.cons (OpSure.take (v := .pointer (some (aa.add j))) (by kernel_rfl) (by kernel_rfl) (fun _ _ => (run_addr39 (o := pa) (a := aa) (n := (lstR S.rows { data := #[] }).length) (m := ca) (i := j) haa (by kernel_rfl) (by kernel_rfl) (by omega)))) ?_
        refine AllSure.cons (OpSure.take (v := .string ((⟨ba.toArray⟩ : ByteArray))) (by kernel_rfl) (by kernel_rfl) (fun w' h' => run_load_at (b := aa.add j) (fun w => Try.isAgg9 w) (by kernel_rfl) (ha3 _ (fun y hy => h'.blk y (List.mem_cons_of_mem _ (List.mem_append_left _ (List.mem_append_right _ hy))))))) ?_
        refine AllSure.cons (OpSure.take (v := .bool false) (by kernel_rfl) (by kernel_rfl) (fun _ _ => (run_nes (s := (⟨ba.toArray⟩ : ByteArray)) (t := (⟨ba.toArray⟩ : ByteArray)) (by kernel_rfl) (by kernel_rfl) false (decide_eq_true rfl)))) ?_
        refine AllSure.cons (OpSure.take (v := .bool false) (by kernel_rfl) (by kernel_rfl) (fun _ _ => (by kernel_rfl))) ?_
        exact AllSure.nil
       intro w77 h78
       refine then_at rfl ?_
       refine wp_cond_false (by kernel_rfl) ?_
       refine wp_skip ?_
       refine then_at rfl ?_
       refine wl_region ?_
       refine wl_val (iN .i64 (cntP (lstR S.rows { data := #[] }) (bl p) j)) (by kernel_rfl) (by kernel_rfl) ?_
       refine wl_val (iN .i64 ((cntP (lstR S.rows { data := #[] }) (bl p) j) + 1)) (by kernel_rfl) (run_add (k := .i64) (a := cntP (lstR S.rows { data := #[] }) (bl p) j) (b := 1) (by kernel_rfl) (by kernel_rfl) (by first | omega | (simp only [top]; omega))) ?_
       refine wl_val (iN .i64 ((cntP (lstR S.rows { data := #[] }) (bl p) j) + 1)) (by kernel_rfl) (by kernel_rfl) ?_
       refine wl_nil ?_
       refine block_normal ?_
       refine then_at rfl ?_
       refine wl_region ?_
       refine wl_val (iN .i64 j) (by kernel_rfl) (by kernel_rfl) ?_
       refine wl_val (iN .i64 (j + 1)) (by kernel_rfl) (run_add (k := .i64) (a := j) (b := 1) (by kernel_rfl) (by kernel_rfl) (by first | omega | (simp only [top]; omega))) ?_
       refine wl_val (iN .i64 (j + 1)) (by kernel_rfl) (by kernel_rfl) ?_
       refine wl_nil ?_
       exact then_I ⟨fun ii => (([(4, u73 4), (91, iN .i64 j), (92, .slice pa (lstR S.rows { data := #[] }).length ca), (93, iN .i64 ((lstR S.rows { data := #[] }).length)), (94, .bool true), (95, iN .i64 j), (96, iN .i64 (j + 1)), (97, iN .i64 j), (98, .bool true), (99, .bool true), (100, .slice pa (lstR S.rows { data := #[] }).length ca), (101, iN .i64 j), (102, iN .i64 (j - 1)), (103, .pointer (some (ap.add (j - 1)))), (104, .string ((⟨bp.toArray⟩ : ByteArray))), (105, .slice pa (lstR S.rows { data := #[] }).length ca), (106, iN .i64 j), (107, .pointer (some (aa.add j))), (108, .string ((⟨ba.toArray⟩ : ByteArray))), (109, .bool false), (110, .bool false), (111, .slice pa (lstR S.rows { data := #[] }).length ca), (112, iN .i64 j), (113, .pointer (some (aa.add j))), (114, .string ((⟨ba.toArray⟩ : ByteArray))), (115, iN .i64 (((⟨ba.toArray⟩ : ByteArray)).size)), (116, .string p), (117, iN .i64 p.size), (118, .bool true), (119, .bool true), (120, .slice pa (lstR S.rows { data := #[] }).length ca), (121, iN .i64 j), (122, .pointer (some (aa.add j))), (123, .string ((⟨ba.toArray⟩ : ByteArray))), (124, .string p), (125, iN .i64 p.size), (126, .string (((⟨ba.toArray⟩ : ByteArray)).extract 0 p.size)), (127, .string p), (128, .bool true), (129, .bool true), (130, iN .i64 (cntP (lstR S.rows { data := #[] }) (bl p) j)), (131, .slice ps (lstR S.rows p).length cs), (132, iN .i64 ((lstR S.rows p).length)), (133, .bool false), (134, .bool false), (135, .slice ps (lstR S.rows p).length cs), (136, iN .i64 (cntP (lstR S.rows { data := #[] }) (bl p) j)), (137, .pointer (some (as1.add (cntP (lstR S.rows { data := #[] }) (bl p) j)))), (138, .string ((⟨ba.toArray⟩ : ByteArray))), (139, .slice pa (lstR S.rows { data := #[] }).length ca), (140, iN .i64 j), (141, .pointer (some (aa.add j))), (142, .string ((⟨ba.toArray⟩ : ByteArray))), (143, .bool false), (144, .bool false), (145, iN .i64 (cntP (lstR S.rows { data := #[] }) (bl p) j)), (146, iN .i64 ((cntP (lstR S.rows { data := #[] }) (bl p) j) + 1))] : List (Nat × Value)).find? (·.1 == ii)).elim undef (·.2), (by rw [hcs]; kernel_rfl), h78⟩
      ·have hpf : ¬ Lib.hasPrefix ba (bl p) = true := by rw [hpx, decide_eq_false hex, Bool.and_false]; decide
       rw [if_neg hpf] at hcs
       refine wl_region ?_
       refine wl_val (.slice pa (lstR S.rows { data := #[] }).length ca) (by kernel_rfl) (by kernel_rfl) ?_
       refine wl_val (iN .i64 j) (by kernel_rfl) (by kernel_rfl) ?_
       refine wl_val (.pointer (some (aa.add j))) (by kernel_rfl) (run_addr39 (o := pa) (a := aa) (n := (lstR S.rows { data := #[] }).length) (m := ca) (i := j) haa (by kernel_rfl) (by kernel_rfl) (by omega)) ?_
       refine wl_val (.string ((⟨ba.toArray⟩ : ByteArray))) (by kernel_rfl) (run_load_at (b := aa.add j) (fun w => Try.isAgg9 w) (by kernel_rfl) (ha3 _ (fun y hy => h76.blk y (List.mem_cons_of_mem _ (List.mem_append_left _ (List.mem_append_right _ hy)))))) ?_
       refine wl_val (iN .i64 (((⟨ba.toArray⟩ : ByteArray)).size)) (by kernel_rfl) (run_len (s := (⟨ba.toArray⟩ : ByteArray)) (by kernel_rfl)) ?_
       refine wl_val (.string p) (by kernel_rfl) (by kernel_rfl) ?_
       refine wl_val (iN .i64 p.size) (by kernel_rfl) (run_len (s := p) (by kernel_rfl)) ?_
       refine wl_val (.bool true) (by kernel_rfl) (run_geq (k := .i64) (a := ((⟨ba.toArray⟩ : ByteArray)).size) (b := p.size) (by kernel_rfl) (by kernel_rfl) true (decide_eq_true (by rw [hbz]; exact hsz))) ?_
       refine wl_val (.bool true) (by kernel_rfl) (by kernel_rfl) ?_
       refine wl_val (.slice pa (lstR S.rows { data := #[] }).length ca) (by kernel_rfl) (by kernel_rfl) ?_
       refine wl_val (iN .i64 j) (by kernel_rfl) (by kernel_rfl) ?_
       refine wl_val (.pointer (some (aa.add j))) (by kernel_rfl) (run_addr39 (o := pa) (a := aa) (n := (lstR S.rows { data := #[] }).length) (m := ca) (i := j) haa (by kernel_rfl) (by kernel_rfl) (by omega)) ?_
       refine wl_val (.string ((⟨ba.toArray⟩ : ByteArray))) (by kernel_rfl) (run_load_at (b := aa.add j) (fun w => Try.isAgg9 w) (by kernel_rfl) (ha3 _ (fun y hy => h76.blk y (List.mem_cons_of_mem _ (List.mem_append_left _ (List.mem_append_right _ hy)))))) ?_
       refine wl_val (.string p) (by kernel_rfl) (by kernel_rfl) ?_
       refine wl_val (iN .i64 p.size) (by kernel_rfl) (run_len (s := p) (by kernel_rfl)) ?_
       refine wl_val (.string (((⟨ba.toArray⟩ : ByteArray)).extract 0 p.size)) (by kernel_rfl) (run_cut_hi (s := (⟨ba.toArray⟩ : ByteArray)) (b := p.size) (by kernel_rfl) (by kernel_rfl) (by omega)) ?_
       refine wl_val (.string p) (by kernel_rfl) (by kernel_rfl) ?_
       refine wl_val (.bool false) (by kernel_rfl) (run_eqs (s := ((⟨ba.toArray⟩ : ByteArray)).extract 0 p.size) (t := p) (by kernel_rfl) (by kernel_rfl) false (decide_eq_false hex)) ?_
       refine wl_val (.bool false) (by kernel_rfl) (by kernel_rfl) ?_
       refine wl_nil ?_
       refine then_at rfl ?_
       refine wp_cond_false (by kernel_rfl) ?_
       refine wp_skip ?_
       refine block_normal ?_
       refine then_at rfl ?_
       refine wl_region ?_
       refine wl_val (iN .i64 j) (by kernel_rfl) (by kernel_rfl) ?_
       refine wl_val (iN .i64 (j + 1)) (by kernel_rfl) (run_add (k := .i64) (a := j) (b := 1) (by kernel_rfl) (by kernel_rfl) (by first | omega | (simp only [top]; omega))) ?_
       refine wl_val (iN .i64 (j + 1)) (by kernel_rfl) (by kernel_rfl) ?_
       refine wl_nil ?_
       exact then_I ⟨fun ii => (([(4, u73 4), (91, iN .i64 j), (92, .slice pa (lstR S.rows { data := #[] }).length ca), (93, iN .i64 ((lstR S.rows { data := #[] }).length)), (94, .bool true), (95, iN .i64 j), (96, iN .i64 (j + 1)), (97, iN .i64 j), (98, .bool true), (99, .bool true), (100, .slice pa (lstR S.rows { data := #[] }).length ca), (101, iN .i64 j), (102, iN .i64 (j - 1)), (103, .pointer (some (ap.add (j - 1)))), (104, .string ((⟨bp.toArray⟩ : ByteArray))), (105, .slice pa (lstR S.rows { data := #[] }).length ca), (106, iN .i64 j), (107, .pointer (some (aa.add j))), (108, .string ((⟨ba.toArray⟩ : ByteArray))), (109, .bool false), (110, .bool false), (111, .slice pa (lstR S.rows { data := #[] }).length ca), (112, iN .i64 j), (113, .pointer (some (aa.add j))), (114, .string ((⟨ba.toArray⟩ : ByteArray))), (115, iN .i64 (((⟨ba.toArray⟩ : ByteArray)).size)), (116, .string p), (117, iN .i64 p.size), (118, .bool true), (119, .bool true), (120, .slice pa (lstR S.rows { data := #[] }).length ca), (121, iN .i64 j), (122, .pointer (some (aa.add j))), (123, .string ((⟨ba.toArray⟩ : ByteArray))), (124, .string p), (125, iN .i64 p.size), (126, .string (((⟨ba.toArray⟩ : ByteArray)).extract 0 p.size)), (127, .string p), (128, .bool false), (129, .bool false), (130, u73 130), (131, u73 131), (132, u73 132), (133, u73 133), (134, u73 134), (135, u73 135), (136, u73 136), (137, u73 137), (138, u73 138), (139, u73 139), (140, u73 140), (141, u73 141), (142, u73 142), (143, u73 143), (144, u73 144), (145, u73 145), (146, u73 146)] : List (Nat × Value)).find? (·.1 == ii)).elim undef (·.2), (by rw [hcs]; kernel_rfl), h76⟩
     ·have hpf : ¬ Lib.hasPrefix ba (bl p) = true := by rw [hpx, decide_eq_false hsz, Bool.false_and]; decide
      rw [if_neg hpf] at hcs
      refine wl_region ?_
      refine wl_val (.slice pa (lstR S.rows { data := #[] }).length ca) (by kernel_rfl) (by kernel_rfl) ?_
      refine wl_val (iN .i64 j) (by kernel_rfl) (by kernel_rfl) ?_
      refine wl_val (.pointer (some (aa.add j))) (by kernel_rfl) (run_addr39 (o := pa) (a := aa) (n := (lstR S.rows { data := #[] }).length) (m := ca) (i := j) haa (by kernel_rfl) (by kernel_rfl) (by omega)) ?_
      refine wl_val (.string ((⟨ba.toArray⟩ : ByteArray))) (by kernel_rfl) (run_load_at (b := aa.add j) (fun w => Try.isAgg9 w) (by kernel_rfl) (ha3 _ (fun y hy => h76.blk y (List.mem_cons_of_mem _ (List.mem_append_left _ (List.mem_append_right _ hy)))))) ?_
      refine wl_val (iN .i64 (((⟨ba.toArray⟩ : ByteArray)).size)) (by kernel_rfl) (run_len (s := (⟨ba.toArray⟩ : ByteArray)) (by kernel_rfl)) ?_
      refine wl_val (.string p) (by kernel_rfl) (by kernel_rfl) ?_
      refine wl_val (iN .i64 p.size) (by kernel_rfl) (run_len (s := p) (by kernel_rfl)) ?_
      refine wl_val (.bool false) (by kernel_rfl) (run_geq (k := .i64) (a := ((⟨ba.toArray⟩ : ByteArray)).size) (b := p.size) (by kernel_rfl) (by kernel_rfl) false (decide_eq_false (by rw [hbz]; exact hsz))) ?_
      refine wl_val (.bool false) (by kernel_rfl) (by kernel_rfl) ?_
      refine wl_skip (by kernel_rfl) ?_
      refine wl_skip (by kernel_rfl) ?_
      refine wl_skip (by kernel_rfl) ?_
      refine wl_skip (by kernel_rfl) ?_
      refine wl_skip (by kernel_rfl) ?_
      refine wl_skip (by kernel_rfl) ?_
      refine wl_skip (by kernel_rfl) ?_
      refine wl_skip (by kernel_rfl) ?_
      refine wl_skip (by kernel_rfl) ?_
      refine wl_val (.bool false) (by kernel_rfl) (by kernel_rfl) ?_
      refine wl_nil ?_
      refine then_at (F := ⟨(.slice o xs.length c :: .string p :: un :: un :: u73 4 :: pt sq :: iN .i64 0 :: iN .i64 (min xs.length 60) :: u13 8 :: u13 9 :: u13 10 :: u13 11 :: u13 12 :: u13 13 :: .slice pa (lstR S.rows { data := #[] }).length ca :: .slice ps (lstR S.rows p).length cs :: iN .i64 (cntP (lstR S.rows { data := #[] }) (bl p) j) :: iN .i64 j :: .bool true :: .bool false :: .tuple #[pt sq, iN .i64 0] :: pt d.q :: .tuple #[pt sq, iN .i64 0] :: pt sq :: iN .i64 0 :: iN .i64 0 :: .bool false :: iN .i64 (min xs.length 60) :: .slice o xs.length c :: iN .i64 xs.length :: .bool false :: .bool false :: un :: un :: .bool false :: u13 35 :: u13 36 :: u13 37 :: u13 38 :: u13 39 :: u13 40 :: u13 41 :: u13 42 :: u13 43 :: u13 44 :: u13 45 :: u13 46 :: u13 47 :: u13 48 :: u13 49 :: u13 50 :: u13 51 :: u13 52 :: u13 53 :: u13 54 :: u13 55 :: u13 56 :: u13 57 :: u13 58 :: u13 59 :: u13 60 :: u13 61 :: u13 62 :: u13 63 :: u13 64 :: u13 65 :: u13 66 :: u13 67 :: u13 68 :: u13 69 :: u13 70 :: u13 71 :: u13 72 :: u13 73 :: u13 74 :: u13 75 :: u13 76 :: u13 77 :: u13 78 :: u13 79 :: u13 80 :: u13 81 :: u13 82 :: u13 83 :: u13 84 :: u13 85 :: pt sq :: .slice pa (lstR S.rows { data := #[] }).length ca :: pt sq :: .string p :: .slice ps (lstR S.rows p).length cs :: iN .i64 j :: .slice pa (lstR S.rows { data := #[] }).length ca :: iN .i64 ((lstR S.rows { data := #[] }).length) :: .bool true :: u73 95 :: u73 96 :: iN .i64 j :: .bool true :: .bool true :: .slice pa (lstR S.rows { data := #[] }).length ca :: iN .i64 j :: iN .i64 (j - 1) :: .pointer (some (ap.add (j - 1))) :: .string ((⟨bp.toArray⟩ : ByteArray)) :: .slice pa (lstR S.rows { data := #[] }).length ca :: iN .i64 j :: .pointer (some (aa.add j)) :: .string ((⟨ba.toArray⟩ : ByteArray)) :: .bool false :: .bool false :: .slice pa (lstR S.rows { data := #[] }).length ca :: iN .i64 j :: .pointer (some (aa.add j)) :: .string ((⟨ba.toArray⟩ : ByteArray)) :: iN .i64 (((⟨ba.toArray⟩ : ByteArray)).size) :: .string p :: iN .i64 p.size :: .bool false :: .bool false :: un :: un :: un :: un :: un :: un :: un :: un :: un :: .bool false :: u73 130 :: u73 131 :: u73 132 :: u73 133 :: u73 134 :: u73 135 :: u73 136 :: u73 137 :: u73 138 :: u73 139 :: u73 140 :: u73 141 :: u73 142 :: u73 143 :: u73 144 :: u73 145 :: u73 146 :: List.replicate 11 un).toArray, []⟩) (by kernel_rfl) ?_
      refine wp_cond_false (by kernel_rfl) ?_
      refine wp_skip ?_
      refine block_normal ?_
      refine then_at rfl ?_
      refine wl_region ?_
      refine wl_val (iN .i64 j) (by kernel_rfl) (by kernel_rfl) ?_
      refine wl_val (iN .i64 (j + 1)) (by kernel_rfl) (run_add (k := .i64) (a := j) (b := 1) (by kernel_rfl) (by kernel_rfl) (by first | omega | (simp only [top]; omega))) ?_
      refine wl_val (iN .i64 (j + 1)) (by kernel_rfl) (by kernel_rfl) ?_
      refine wl_nil ?_
      exact then_I ⟨fun ii => (([(4, u73 4), (91, iN .i64 j), (92, .slice pa (lstR S.rows { data := #[] }).length ca), (93, iN .i64 ((lstR S.rows { data := #[] }).length)), (94, .bool true), (95, iN .i64 j), (96, iN .i64 (j + 1)), (97, iN .i64 j), (98, .bool true), (99, .bool true), (100, .slice pa (lstR S.rows { data := #[] }).length ca), (101, iN .i64 j), (102, iN .i64 (j - 1)), (103, .pointer (some (ap.add (j - 1)))), (104, .string ((⟨bp.toArray⟩ : ByteArray))), (105, .slice pa (lstR S.rows { data := #[] }).length ca), (106, iN .i64 j), (107, .pointer (some (aa.add j))), (108, .string ((⟨ba.toArray⟩ : ByteArray))), (109, .bool false), (110, .bool false), (111, .slice pa (lstR S.rows { data := #[] }).length ca), (112, iN .i64 j), (113, .pointer (some (aa.add j))), (114, .string ((⟨ba.toArray⟩ : ByteArray))), (115, iN .i64 (((⟨ba.toArray⟩ : ByteArray)).size)), (116, .string p), (117, iN .i64 p.size), (118, .bool false), (119, .bool false), (120, undef), (121, undef), (122, undef), (123, undef), (124, undef), (125, undef), (126, undef), (127, undef), (128, undef), (129, .bool false), (130, u73 130), (131, u73 131), (132, u73 132), (133, u73 133), (134, u73 134), (135, u73 135), (136, u73 136), (137, u73 137), (138, u73 138), (139, u73 139), (140, u73 140), (141, u73 141), (142, u73 142), (143, u73 143), (144, u73 144), (145, u73 145), (146, u73 146)] : List (Nat × Value)).find? (·.1 == ii)).elim undef (·.2), (by rw [hcs]; kernel_rfl), h76⟩
    ·refine wp_region_sure ⟨(.slice o xs.length c :: .string p :: un :: un :: u73 4 :: pt sq :: iN .i64 0 :: iN .i64 (min xs.length 60) :: u13 8 :: u13 9 :: u13 10 :: u13 11 :: u13 12 :: u13 13 :: .slice pa (lstR S.rows { data := #[] }).length ca :: .slice ps (lstR S.rows p).length cs :: iN .i64 (cntP (lstR S.rows { data := #[] }) (bl p) j) :: iN .i64 j :: .bool true :: .bool false :: .tuple #[pt sq, iN .i64 0] :: pt d.q :: .tuple #[pt sq, iN .i64 0] :: pt sq :: iN .i64 0 :: iN .i64 0 :: .bool false :: iN .i64 (min xs.length 60) :: .slice o xs.length c :: iN .i64 xs.length :: .bool false :: .bool false :: un :: un :: .bool false :: u13 35 :: u13 36 :: u13 37 :: u13 38 :: u13 39 :: u13 40 :: u13 41 :: u13 42 :: u13 43 :: u13 44 :: u13 45 :: u13 46 :: u13 47 :: u13 48 :: u13 49 :: u13 50 :: u13 51 :: u13 52 :: u13 53 :: u13 54 :: u13 55 :: u13 56 :: u13 57 :: u13 58 :: u13 59 :: u13 60 :: u13 61 :: u13 62 :: u13 63 :: u13 64 :: u13 65 :: u13 66 :: u13 67 :: u13 68 :: u13 69 :: u13 70 :: u13 71 :: u13 72 :: u13 73 :: u13 74 :: u13 75 :: u13 76 :: u13 77 :: u13 78 :: u13 79 :: u13 80 :: u13 81 :: u13 82 :: u13 83 :: u13 84 :: u13 85 :: pt sq :: .slice pa (lstR S.rows { data := #[] }).length ca :: pt sq :: .string p :: .slice ps (lstR S.rows p).length cs :: iN .i64 j :: .slice pa (lstR S.rows { data := #[] }).length ca :: iN .i64 ((lstR S.rows { data := #[] }).length) :: .bool true :: u73 95 :: u73 96 :: iN .i64 j :: .bool false :: .bool false :: un :: un :: un :: un :: un :: un :: un :: un :: un :: un :: .bool false :: u73 111 :: u73 112 :: u73 113 :: u73 114 :: u73 115 :: u73 116 :: u73 117 :: u73 118 :: u73 119 :: u73 120 :: u73 121 :: u73 122 :: u73 123 :: u73 124 :: u73 125 :: u73 126 :: u73 127 :: u73 128 :: u73 129 :: u73 130 :: u73 131 :: u73 132 :: u73 133 :: u73 134 :: u73 135 :: u73 136 :: u73 137 :: u73 138 :: u73 139 :: u73 140 :: u73 141 :: u73 142 :: u73 143 :: u73 144 :: u73 145 :: u73 146 :: List.replicate 11 un).toArray, []⟩ (HA ⟨w, m46 :: (sr, .mp (eR rs46) nx46) :: []⟩ ((sq, 44, scell d.q sr ((laidR S.rows)) S.size) :: ((Ls ++ La) ++ X46))) [iN .i64 j, .bool false, .bool false, undef, undef, undef, undef, undef, undef, undef, undef, undef, undef, .bool false] (by kernel_rfl) (by kernel_rfl) (by kernel_rfl) (by kernel_rfl) (fun _ _ _ h => h) hL2.drew ?_ ?_
     ·refine AllSure.cons (OpSure.take (v := iN .i64 j) (by kernel_rfl) (by kernel_rfl) (fun _ _ => (by kernel_rfl))) ?_
      refine AllSure.cons (OpSure.take (v := .bool false) (by kernel_rfl) (by kernel_rfl) (fun _ _ => (run_gtr (k := .i64) (a := j) (b := 0) (by kernel_rfl) (by kernel_rfl) false (decide_eq_false hj0)))) ?_
      refine AllSure.cons (OpSure.take (v := .bool false) (by kernel_rfl) (by kernel_rfl) (fun _ _ => (by kernel_rfl))) ?_
      refine AllSure.cons (OpSure.skip (by kernel_rfl) (by kernel_rfl)) ?_
      refine AllSure.cons (OpSure.skip (by kernel_rfl) (by kernel_rfl)) ?_
      refine AllSure.cons (OpSure.skip (by kernel_rfl) (by kernel_rfl)) ?_
      refine AllSure.cons (OpSure.skip (by kernel_rfl) (by kernel_rfl)) ?_
      refine AllSure.cons (OpSure.skip (by kernel_rfl) (by kernel_rfl)) ?_
      refine AllSure.cons (OpSure.skip (by kernel_rfl) (by kernel_rfl)) ?_
      refine AllSure.cons (OpSure.skip (by kernel_rfl) (by kernel_rfl)) ?_
      refine AllSure.cons (OpSure.skip (by kernel_rfl) (by kernel_rfl)) ?_
      refine AllSure.cons (OpSure.skip (by kernel_rfl) (by kernel_rfl)) ?_
      refine AllSure.cons (OpSure.skip (by kernel_rfl) (by kernel_rfl)) ?_
      refine AllSure.cons (OpSure.take (v := .bool false) (by kernel_rfl) (by kernel_rfl) (fun _ _ => (by kernel_rfl))) ?_
      exact AllSure.nil
     intro w79 h80
     refine then_at rfl ?_
     refine wp_cond_false (by kernel_rfl) ?_
     refine wp_skip ?_
     refine then_at rfl ?_
     refine wp_seq ?_
     have hpx := pfx_iff ba p
     have hbz : (⟨ba.toArray⟩ : ByteArray).size = ba.length := by show ba.toArray.size = _; simp
     by_cases hsz : p.size ≤ ba.length
     ·by_cases hex : (⟨ba.toArray⟩ : ByteArray).extract 0 p.size = p
      ·have hpf : Lib.hasPrefix ba (bl p) = true := by rw [hpx, decide_eq_true hsz, decide_eq_true hex]; rfl
       rw [if_pos hpf] at hcs
       have hsn : (lstR S.rows p)[cntP (lstR S.rows { data := #[] }) (bl p) j]? = some ba := by rw [hsome]; exact cntP_at hba hpf
       obtain ⟨as1, has, hs3⟩ := nm_at hRs hsn
       have hsl := (List.getElem?_eq_some_iff.1 hsn).1
       refine wl_region ?_
       refine wl_val (.slice pa (lstR S.rows { data := #[] }).length ca) (by kernel_rfl) (by kernel_rfl) ?_
       refine wl_val (iN .i64 j) (by kernel_rfl) (by kernel_rfl) ?_
       refine wl_val (.pointer (some (aa.add j))) (by kernel_rfl) (run_addr39 (o := pa) (a := aa) (n := (lstR S.rows { data := #[] }).length) (m := ca) (i := j) haa (by kernel_rfl) (by kernel_rfl) (by omega)) ?_
       refine wl_val (.string ((⟨ba.toArray⟩ : ByteArray))) (by kernel_rfl) (run_load_at (b := aa.add j) (fun w => Try.isAgg9 w) (by kernel_rfl) (ha3 _ (fun y hy => h80.blk y (List.mem_cons_of_mem _ (List.mem_append_left _ (List.mem_append_right _ hy)))))) ?_
       refine wl_val (iN .i64 (((⟨ba.toArray⟩ : ByteArray)).size)) (by kernel_rfl) (run_len (s := (⟨ba.toArray⟩ : ByteArray)) (by kernel_rfl)) ?_
       refine wl_val (.string p) (by kernel_rfl) (by kernel_rfl) ?_
       refine wl_val (iN .i64 p.size) (by kernel_rfl) (run_len (s := p) (by kernel_rfl)) ?_
       refine wl_val (.bool true) (by kernel_rfl) (run_geq (k := .i64) (a := ((⟨ba.toArray⟩ : ByteArray)).size) (b := p.size) (by kernel_rfl) (by kernel_rfl) true (decide_eq_true (by rw [hbz]; exact hsz))) ?_
       refine wl_val (.bool true) (by kernel_rfl) (by kernel_rfl) ?_
       refine wl_val (.slice pa (lstR S.rows { data := #[] }).length ca) (by kernel_rfl) (by kernel_rfl) ?_
       refine wl_val (iN .i64 j) (by kernel_rfl) (by kernel_rfl) ?_
       refine wl_val (.pointer (some (aa.add j))) (by kernel_rfl) (run_addr39 (o := pa) (a := aa) (n := (lstR S.rows { data := #[] }).length) (m := ca) (i := j) haa (by kernel_rfl) (by kernel_rfl) (by omega)) ?_
       refine wl_val (.string ((⟨ba.toArray⟩ : ByteArray))) (by kernel_rfl) (run_load_at (b := aa.add j) (fun w => Try.isAgg9 w) (by kernel_rfl) (ha3 _ (fun y hy => h80.blk y (List.mem_cons_of_mem _ (List.mem_append_left _ (List.mem_append_right _ hy)))))) ?_
       refine wl_val (.string p) (by kernel_rfl) (by kernel_rfl) ?_
       refine wl_val (iN .i64 p.size) (by kernel_rfl) (run_len (s := p) (by kernel_rfl)) ?_
       refine wl_val (.string (((⟨ba.toArray⟩ : ByteArray)).extract 0 p.size)) (by kernel_rfl) (run_cut_hi (s := (⟨ba.toArray⟩ : ByteArray)) (b := p.size) (by kernel_rfl) (by kernel_rfl) (by omega)) ?_
       refine wl_val (.string p) (by kernel_rfl) (by kernel_rfl) ?_
       refine wl_val (.bool true) (by kernel_rfl) (run_eqs (s := ((⟨ba.toArray⟩ : ByteArray)).extract 0 p.size) (t := p) (by kernel_rfl) (by kernel_rfl) true (decide_eq_true hex)) ?_
       refine wl_val (.bool true) (by kernel_rfl) (by kernel_rfl) ?_
       refine wl_nil ?_
       refine then_at rfl ?_
       refine wp_cond_true (by kernel_rfl) ?_
       refine wp_seq ?_
       refine wp_seq ?_
       refine wp_region_sure ⟨(.slice o xs.length c :: .string p :: un :: un :: u73 4 :: pt sq :: iN .i64 0 :: iN .i64 (min xs.length 60) :: u13 8 :: u13 9 :: u13 10 :: u13 11 :: u13 12 :: u13 13 :: .slice pa (lstR S.rows { data := #[] }).length ca :: .slice ps (lstR S.rows p).length cs :: iN .i64 (cntP (lstR S.rows { data := #[] }) (bl p) j) :: iN .i64 j :: .bool true :: .bool false :: .tuple #[pt sq, iN .i64 0] :: pt d.q :: .tuple #[pt sq, iN .i64 0] :: pt sq :: iN .i64 0 :: iN .i64 0 :: .bool false :: iN .i64 (min xs.length 60) :: .slice o xs.length c :: iN .i64 xs.length :: .bool false :: .bool false :: un :: un :: .bool false :: u13 35 :: u13 36 :: u13 37 :: u13 38 :: u13 39 :: u13 40 :: u13 41 :: u13 42 :: u13 43 :: u13 44 :: u13 45 :: u13 46 :: u13 47 :: u13 48 :: u13 49 :: u13 50 :: u13 51 :: u13 52 :: u13 53 :: u13 54 :: u13 55 :: u13 56 :: u13 57 :: u13 58 :: u13 59 :: u13 60 :: u13 61 :: u13 62 :: u13 63 :: u13 64 :: u13 65 :: u13 66 :: u13 67 :: u13 68 :: u13 69 :: u13 70 :: u13 71 :: u13 72 :: u13 73 :: u13 74 :: u13 75 :: u13 76 :: u13 77 :: u13 78 :: u13 79 :: u13 80 :: u13 81 :: u13 82 :: u13 83 :: u13 84 :: u13 85 :: pt sq :: .slice pa (lstR S.rows { data := #[] }).length ca :: pt sq :: .string p :: .slice ps (lstR S.rows p).length cs :: iN .i64 j :: .slice pa (lstR S.rows { data := #[] }).length ca :: iN .i64 ((lstR S.rows { data := #[] }).length) :: .bool true :: u73 95 :: u73 96 :: iN .i64 j :: .bool false :: .bool false :: un :: un :: un :: un :: un :: un :: un :: un :: un :: un :: .bool false :: .slice pa (lstR S.rows { data := #[] }).length ca :: iN .i64 j :: .pointer (some (aa.add j)) :: .string ((⟨ba.toArray⟩ : ByteArray)) :: iN .i64 (((⟨ba.toArray⟩ : ByteArray)).size) :: .string p :: iN .i64 p.size :: .bool true :: .bool true :: .slice pa (lstR S.rows { data := #[] }).length ca :: iN .i64 j :: .pointer (some (aa.add j)) :: .string ((⟨ba.toArray⟩ : ByteArray)) :: .string p :: iN .i64 p.size :: .string (((⟨ba.toArray⟩ : ByteArray)).extract 0 p.size) :: .string p :: .bool true :: .bool true :: iN .i64 (cntP (lstR S.rows { data := #[] }) (bl p) j) :: .slice ps (lstR S.rows p).length cs :: iN .i64 ((lstR S.rows p).length) :: .bool false :: .bool false :: .slice ps (lstR S.rows p).length cs :: iN .i64 (cntP (lstR S.rows { data := #[] }) (bl p) j) :: .pointer (some (as1.add (cntP (lstR S.rows { data := #[] }) (bl p) j))) :: .string ((⟨ba.toArray⟩ : ByteArray)) :: .slice pa (lstR S.rows { data := #[] }).length ca :: iN .i64 j :: .pointer (some (aa.add j)) :: .string ((⟨ba.toArray⟩ : ByteArray)) :: .bool false :: .bool false :: u73 145 :: u73 146 :: List.replicate 11 un).toArray, []⟩ (HA ⟨w, m46 :: (sr, .mp (eR rs46) nx46) :: []⟩ ((sq, 44, scell d.q sr ((laidR S.rows)) S.size) :: ((Ls ++ La) ++ X46))) [iN .i64 (cntP (lstR S.rows { data := #[] }) (bl p) j), .slice ps (lstR S.rows p).length cs, iN .i64 ((lstR S.rows p).length), .bool false, .bool false, .slice ps (lstR S.rows p).length cs, iN .i64 (cntP (lstR S.rows { data := #[] }) (bl p) j), .pointer (some (as1.add (cntP (lstR S.rows { data := #[] }) (bl p) j))), .string ((⟨ba.toArray⟩ : ByteArray)), .slice pa (lstR S.rows { data := #[] }).length ca, iN .i64 j, .pointer (some (aa.add j)), .string ((⟨ba.toArray⟩ : ByteArray)), .bool false, .bool false] (by kernel_rfl) (by kernel_rfl) (by kernel_rfl) (by kernel_rfl) (fun _ _ _ h => h) h80.drew ?_ ?_
       ·refine AllSure.cons (OpSure.take (v := iN .i64 (cntP (lstR S.rows { data := #[] }) (bl p) j)) (by kernel_rfl) (by kernel_rfl) (fun _ _ => (by kernel_rfl))) ?_
        refine AllSure.cons (OpSure.take (v := .slice ps (lstR S.rows p).length cs) (by kernel_rfl) (by kernel_rfl) (fun _ _ => (by kernel_rfl))) ?_
        refine AllSure.cons (OpSure.take (v := iN .i64 ((lstR S.rows p).length)) (by kernel_rfl) (by kernel_rfl) (fun _ _ => (by kernel_rfl))) ?_
        refine AllSure.cons (OpSure.take (v := .bool false) (by kernel_rfl) (by kernel_rfl) (fun _ _ => (run_geq (k := .i64) (a := cntP (lstR S.rows { data := #[] }) (bl p) j) (b := (lstR S.rows p).length) (by kernel_rfl) (by kernel_rfl) false (decide_eq_false (by omega))))) ?_
        refine AllSure.cons (OpSure.take (v := .bool false) (by kernel_rfl) (by kernel_rfl) (fun _ _ => (by kernel_rfl))) ?_
        refine AllSure.cons (OpSure.take (v := .slice ps (lstR S.rows p).length cs) (by kernel_rfl) (by kernel_rfl) (fun _ _ => (by kernel_rfl))) ?_
        refine AllSure.cons (OpSure.take (v := iN .i64 (cntP (lstR S.rows { data := #[] }) (bl p) j)) (by kernel_rfl) (by kernel_rfl) (fun _ _ => (by kernel_rfl))) ?_
        refine AllSure.cons (OpSure.take (v := .pointer (some (as1.add (cntP (lstR S.rows { data := #[] }) (bl p) j)))) (by kernel_rfl) (by kernel_rfl) (fun _ _ => (run_addr39 (o := ps) (a := as1) (n := (lstR S.rows p).length) (m := cs) (i := cntP (lstR S.rows { data := #[] }) (bl p) j) has (by kernel_rfl) (by kernel_rfl) (List.getElem?_eq_some_iff.1 hsn).1))) ?_
        refine AllSure.cons (OpSure.take (v := .string ((⟨ba.toArray⟩ : ByteArray))) (by kernel_rfl) (by kernel_rfl) (fun w' h' => run_load_at (b := as1.add (cntP (lstR S.rows { data := #[] }) (bl p) j)) (fun w => Try.isAgg9 w) (by kernel_rfl) (hs3 _ (fun y hy => h'.blk y (List.mem_cons_of_mem _ (List.mem_append_left _ (List.mem_append_left _ hy))))))) ?_
        refine AllSure.cons (OpSure.take (v := .slice pa (lstR S.rows { data := #[] }).length ca) (by kernel_rfl) (by kernel_rfl) (fun _ _ => (by kernel_rfl))) ?_
        refine AllSure.cons (OpSure.take (v := iN .i64 j) (by kernel_rfl) (by kernel_rfl) (fun _ _ => (by kernel_rfl))) ?_
        refine AllSure.cons (OpSure.take (v := .pointer (some (aa.add j))) (by kernel_rfl) (by kernel_rfl) (fun _ _ => (run_addr39 (o := pa) (a := aa) (n := (lstR S.rows { data := #[] }).length) (m := ca) (i := j) haa (by kernel_rfl) (by kernel_rfl) (by omega)))) ?_
        refine AllSure.cons (OpSure.take (v := .string ((⟨ba.toArray⟩ : ByteArray))) (by kernel_rfl) (by kernel_rfl) (fun w' h' => run_load_at (b := aa.add j) (fun w => Try.isAgg9 w) (by kernel_rfl) (ha3 _ (fun y hy => h'.blk y (List.mem_cons_of_mem _ (List.mem_append_left _ (List.mem_append_right _ hy))))))) ?_
        refine AllSure.cons (OpSure.take (v := .bool false) (by kernel_rfl) (by kernel_rfl) (fun _ _ => (run_nes (s := (⟨ba.toArray⟩ : ByteArray)) (t := (⟨ba.toArray⟩ : ByteArray)) (by kernel_rfl) (by kernel_rfl) false (decide_eq_true rfl)))) ?_
        refine AllSure.cons (OpSure.take (v := .bool false) (by kernel_rfl) (by kernel_rfl) (fun _ _ => (by kernel_rfl))) ?_
        exact AllSure.nil
       intro w81 h82
       refine then_at rfl ?_
       refine wp_cond_false (by kernel_rfl) ?_
       refine wp_skip ?_
       refine then_at (F := ⟨(.slice o xs.length c :: .string p :: un :: un :: u73 4 :: pt sq :: iN .i64 0 :: iN .i64 (min xs.length 60) :: u13 8 :: u13 9 :: u13 10 :: u13 11 :: u13 12 :: u13 13 :: .slice pa (lstR S.rows { data := #[] }).length ca :: .slice ps (lstR S.rows p).length cs :: iN .i64 (cntP (lstR S.rows { data := #[] }) (bl p) j) :: iN .i64 j :: .bool true :: .bool false :: .tuple #[pt sq, iN .i64 0] :: pt d.q :: .tuple #[pt sq, iN .i64 0] :: pt sq :: iN .i64 0 :: iN .i64 0 :: .bool false :: iN .i64 (min xs.length 60) :: .slice o xs.length c :: iN .i64 xs.length :: .bool false :: .bool false :: un :: un :: .bool false :: u13 35 :: u13 36 :: u13 37 :: u13 38 :: u13 39 :: u13 40 :: u13 41 :: u13 42 :: u13 43 :: u13 44 :: u13 45 :: u13 46 :: u13 47 :: u13 48 :: u13 49 :: u13 50 :: u13 51 :: u13 52 :: u13 53 :: u13 54 :: u13 55 :: u13 56 :: u13 57 :: u13 58 :: u13 59 :: u13 60 :: u13 61 :: u13 62 :: u13 63 :: u13 64 :: u13 65 :: u13 66 :: u13 67 :: u13 68 :: u13 69 :: u13 70 :: u13 71 :: u13 72 :: u13 73 :: u13 74 :: u13 75 :: u13 76 :: u13 77 :: u13 78 :: u13 79 :: u13 80 :: u13 81 :: u13 82 :: u13 83 :: u13 84 :: u13 85 :: pt sq :: .slice pa (lstR S.rows { data := #[] }).length ca :: pt sq :: .string p :: .slice ps (lstR S.rows p).length cs :: iN .i64 j :: .slice pa (lstR S.rows { data := #[] }).length ca :: iN .i64 ((lstR S.rows { data := #[] }).length) :: .bool true :: u73 95 :: u73 96 :: iN .i64 j :: .bool false :: .bool false :: un :: un :: un :: un :: un :: un :: un :: un :: un :: un :: .bool false :: .slice pa (lstR S.rows { data := #[] }).length ca :: iN .i64 j :: .pointer (some (aa.add j)) :: .string ((⟨ba.toArray⟩ : ByteArray)) :: iN .i64 (((⟨ba.toArray⟩ : ByteArray)).size) :: .string p :: iN .i64 p.size :: .bool true :: .bool true :: .slice pa (lstR S.rows { data := #[] }).length ca :: iN .i64 j :: .pointer (some (aa.add j)) :: .string ((⟨ba.toArray⟩ : ByteArray)) :: .string p :: iN .i64 p.size :: .string (((⟨ba.toArray⟩ : ByteArray)).extract 0 p.size) :: .string p :: .bool true :: .bool true :: iN .i64 (cntP (lstR S.rows { data := #[] }) (bl p) j) :: .slice ps (lstR S.rows p).length cs :: iN .i64 ((lstR S.rows p).length) :: .bool false :: .bool false :: .slice ps (lstR S.rows p).length cs :: iN .i64 (cntP (lstR S.rows { data := #[] }) (bl p) j) :: .pointer (some (as1.add (cntP (lstR S.rows { data := #[] }) (bl p) j))) :: .string ((⟨ba.toArray⟩ : ByteArray)) :: .slice pa (lstR S.rows { data := #[] }).length ca :: iN .i64 j :: .pointer (some (aa.add j)) :: .string ((⟨ba.toArray⟩ : ByteArray)) :: .bool false :: .bool false :: u73 145 :: u73 146 :: List.replicate 11 un).toArray, []⟩) (by kernel_rfl) ?_
       refine wl_region ?_
       refine wl_val (iN .i64 (cntP (lstR S.rows { data := #[] }) (bl p) j)) (by kernel_rfl) (by kernel_rfl) ?_
       refine wl_val (iN .i64 ((cntP (lstR S.rows { data := #[] }) (bl p) j) + 1)) (by kernel_rfl) (run_add (k := .i64) (a := cntP (lstR S.rows { data := #[] }) (bl p) j) (b := 1) (by kernel_rfl) (by kernel_rfl) (by first | omega | (simp only [top]; omega))) ?_
       refine wl_val (iN .i64 ((cntP (lstR S.rows { data := #[] }) (bl p) j) + 1)) (by kernel_rfl) (by kernel_rfl) ?_
       refine wl_nil ?_
       refine block_normal ?_
       refine then_at rfl ?_
       refine wl_region ?_
       refine wl_val (iN .i64 j) (by kernel_rfl) (by kernel_rfl) ?_
       refine wl_val (iN .i64 (j + 1)) (by kernel_rfl) (run_add (k := .i64) (a := j) (b := 1) (by kernel_rfl) (by kernel_rfl) (by first | omega | (simp only [top]; omega))) ?_
       refine wl_val (iN .i64 (j + 1)) (by kernel_rfl) (by kernel_rfl) ?_
       refine wl_nil ?_
       exact then_I ⟨fun ii => (([(4, u73 4), (91, iN .i64 j), (92, .slice pa (lstR S.rows { data := #[] }).length ca), (93, iN .i64 ((lstR S.rows { data := #[] }).length)), (94, .bool true), (95, iN .i64 j), (96, iN .i64 (j + 1)), (97, iN .i64 j), (98, .bool false), (99, .bool false), (100, undef), (101, undef), (102, undef), (103, undef), (104, undef), (105, undef), (106, undef), (107, undef), (108, undef), (109, undef), (110, .bool false), (111, .slice pa (lstR S.rows { data := #[] }).length ca), (112, iN .i64 j), (113, .pointer (some (aa.add j))), (114, .string ((⟨ba.toArray⟩ : ByteArray))), (115, iN .i64 (((⟨ba.toArray⟩ : ByteArray)).size)), (116, .string p), (117, iN .i64 p.size), (118, .bool true), (119, .bool true), (120, .slice pa (lstR S.rows { data := #[] }).length ca), (121, iN .i64 j), (122, .pointer (some (aa.add j))), (123, .string ((⟨ba.toArray⟩ : ByteArray))), (124, .string p), (125, iN .i64 p.size), (126, .string (((⟨ba.toArray⟩ : ByteArray)).extract 0 p.size)), (127, .string p), (128, .bool true), (129, .bool true), (130, iN .i64 (cntP (lstR S.rows { data := #[] }) (bl p) j)), (131, .slice ps (lstR S.rows p).length cs), (132, iN .i64 ((lstR S.rows p).length)), (133, .bool false), (134, .bool false), (135, .slice ps (lstR S.rows p).length cs), (136, iN .i64 (cntP (lstR S.rows { data := #[] }) (bl p) j)), (137, .pointer (some (as1.add (cntP (lstR S.rows { data := #[] }) (bl p) j)))), (138, .string ((⟨ba.toArray⟩ : ByteArray))), (139, .slice pa (lstR S.rows { data := #[] }).length ca), (140, iN .i64 j), (141, .pointer (some (aa.add j))), (142, .string ((⟨ba.toArray⟩ : ByteArray))), (143, .bool false), (144, .bool false), (145, iN .i64 (cntP (lstR S.rows { data := #[] }) (bl p) j)), (146, iN .i64 ((cntP (lstR S.rows { data := #[] }) (bl p) j) + 1))] : List (Nat × Value)).find? (·.1 == ii)).elim undef (·.2), (by rw [hcs]; kernel_rfl), h82⟩
      ·have hpf : ¬ Lib.hasPrefix ba (bl p) = true := by rw [hpx, decide_eq_false hex, Bool.and_false]; decide
       rw [if_neg hpf] at hcs
       refine wl_region ?_
       refine wl_val (.slice pa (lstR S.rows { data := #[] }).length ca) (by kernel_rfl) (by kernel_rfl) ?_
       refine wl_val (iN .i64 j) (by kernel_rfl) (by kernel_rfl) ?_
       refine wl_val (.pointer (some (aa.add j))) (by kernel_rfl) (run_addr39 (o := pa) (a := aa) (n := (lstR S.rows { data := #[] }).length) (m := ca) (i := j) haa (by kernel_rfl) (by kernel_rfl) (by omega)) ?_
       refine wl_val (.string ((⟨ba.toArray⟩ : ByteArray))) (by kernel_rfl) (run_load_at (b := aa.add j) (fun w => Try.isAgg9 w) (by kernel_rfl) (ha3 _ (fun y hy => h80.blk y (List.mem_cons_of_mem _ (List.mem_append_left _ (List.mem_append_right _ hy)))))) ?_
       refine wl_val (iN .i64 (((⟨ba.toArray⟩ : ByteArray)).size)) (by kernel_rfl) (run_len (s := (⟨ba.toArray⟩ : ByteArray)) (by kernel_rfl)) ?_
       refine wl_val (.string p) (by kernel_rfl) (by kernel_rfl) ?_
       refine wl_val (iN .i64 p.size) (by kernel_rfl) (run_len (s := p) (by kernel_rfl)) ?_
       refine wl_val (.bool true) (by kernel_rfl) (run_geq (k := .i64) (a := ((⟨ba.toArray⟩ : ByteArray)).size) (b := p.size) (by kernel_rfl) (by kernel_rfl) true (decide_eq_true (by rw [hbz]; exact hsz))) ?_
       refine wl_val (.bool true) (by kernel_rfl) (by kernel_rfl) ?_
       refine wl_val (.slice pa (lstR S.rows { data := #[] }).length ca) (by kernel_rfl) (by kernel_rfl) ?_
       refine wl_val (iN .i64 j) (by kernel_rfl) (by kernel_rfl) ?_
       refine wl_val (.pointer (some (aa.add j))) (by kernel_rfl) (run_addr39 (o := pa) (a := aa) (n := (lstR S.rows { data := #[] }).length) (m := ca) (i := j) haa (by kernel_rfl) (by kernel_rfl) (by omega)) ?_
       refine wl_val (.string ((⟨ba.toArray⟩ : ByteArray))) (by kernel_rfl) (run_load_at (b := aa.add j) (fun w => Try.isAgg9 w) (by kernel_rfl) (ha3 _ (fun y hy => h80.blk y (List.mem_cons_of_mem _ (List.mem_append_left _ (List.mem_append_right _ hy)))))) ?_
       refine wl_val (.string p) (by kernel_rfl) (by kernel_rfl) ?_
       refine wl_val (iN .i64 p.size) (by kernel_rfl) (run_len (s := p) (by kernel_rfl)) ?_
       refine wl_val (.string (((⟨ba.toArray⟩ : ByteArray)).extract 0 p.size)) (by kernel_rfl) (run_cut_hi (s := (⟨ba.toArray⟩ : ByteArray)) (b := p.size) (by kernel_rfl) (by kernel_rfl) (by omega)) ?_
       refine wl_val (.string p) (by kernel_rfl) (by kernel_rfl) ?_
       refine wl_val (.bool false) (by kernel_rfl) (run_eqs (s := ((⟨ba.toArray⟩ : ByteArray)).extract 0 p.size) (t := p) (by kernel_rfl) (by kernel_rfl) false (decide_eq_false hex)) ?_
       refine wl_val (.bool false) (by kernel_rfl) (by kernel_rfl) ?_
       refine wl_nil ?_
       refine then_at rfl ?_
       refine wp_cond_false (by kernel_rfl) ?_
       refine wp_skip ?_
       refine block_normal ?_
       refine then_at rfl ?_
       refine wl_region ?_
       refine wl_val (iN .i64 j) (by kernel_rfl) (by kernel_rfl) ?_
       refine wl_val (iN .i64 (j + 1)) (by kernel_rfl) (run_add (k := .i64) (a := j) (b := 1) (by kernel_rfl) (by kernel_rfl) (by first | omega | (simp only [top]; omega))) ?_
       refine wl_val (iN .i64 (j + 1)) (by kernel_rfl) (by kernel_rfl) ?_
       refine wl_nil ?_
       exact then_I ⟨fun ii => (([(4, u73 4), (91, iN .i64 j), (92, .slice pa (lstR S.rows { data := #[] }).length ca), (93, iN .i64 ((lstR S.rows { data := #[] }).length)), (94, .bool true), (95, iN .i64 j), (96, iN .i64 (j + 1)), (97, iN .i64 j), (98, .bool false), (99, .bool false), (100, undef), (101, undef), (102, undef), (103, undef), (104, undef), (105, undef), (106, undef), (107, undef), (108, undef), (109, undef), (110, .bool false), (111, .slice pa (lstR S.rows { data := #[] }).length ca), (112, iN .i64 j), (113, .pointer (some (aa.add j))), (114, .string ((⟨ba.toArray⟩ : ByteArray))), (115, iN .i64 (((⟨ba.toArray⟩ : ByteArray)).size)), (116, .string p), (117, iN .i64 p.size), (118, .bool true), (119, .bool true), (120, .slice pa (lstR S.rows { data := #[] }).length ca), (121, iN .i64 j), (122, .pointer (some (aa.add j))), (123, .string ((⟨ba.toArray⟩ : ByteArray))), (124, .string p), (125, iN .i64 p.size), (126, .string (((⟨ba.toArray⟩ : ByteArray)).extract 0 p.size)), (127, .string p), (128, .bool false), (129, .bool false), (130, u73 130), (131, u73 131), (132, u73 132), (133, u73 133), (134, u73 134), (135, u73 135), (136, u73 136), (137, u73 137), (138, u73 138), (139, u73 139), (140, u73 140), (141, u73 141), (142, u73 142), (143, u73 143), (144, u73 144), (145, u73 145), (146, u73 146)] : List (Nat × Value)).find? (·.1 == ii)).elim undef (·.2), (by rw [hcs]; kernel_rfl), h80⟩
     ·have hpf : ¬ Lib.hasPrefix ba (bl p) = true := by rw [hpx, decide_eq_false hsz, Bool.false_and]; decide
      rw [if_neg hpf] at hcs
      refine wl_region ?_
      refine wl_val (.slice pa (lstR S.rows { data := #[] }).length ca) (by kernel_rfl) (by kernel_rfl) ?_
      refine wl_val (iN .i64 j) (by kernel_rfl) (by kernel_rfl) ?_
      refine wl_val (.pointer (some (aa.add j))) (by kernel_rfl) (run_addr39 (o := pa) (a := aa) (n := (lstR S.rows { data := #[] }).length) (m := ca) (i := j) haa (by kernel_rfl) (by kernel_rfl) (by omega)) ?_
      refine wl_val (.string ((⟨ba.toArray⟩ : ByteArray))) (by kernel_rfl) (run_load_at (b := aa.add j) (fun w => Try.isAgg9 w) (by kernel_rfl) (ha3 _ (fun y hy => h80.blk y (List.mem_cons_of_mem _ (List.mem_append_left _ (List.mem_append_right _ hy)))))) ?_
      refine wl_val (iN .i64 (((⟨ba.toArray⟩ : ByteArray)).size)) (by kernel_rfl) (run_len (s := (⟨ba.toArray⟩ : ByteArray)) (by kernel_rfl)) ?_
      refine wl_val (.string p) (by kernel_rfl) (by kernel_rfl) ?_
      refine wl_val (iN .i64 p.size) (by kernel_rfl) (run_len (s := p) (by kernel_rfl)) ?_
      refine wl_val (.bool false) (by kernel_rfl) (run_geq (k := .i64) (a := ((⟨ba.toArray⟩ : ByteArray)).size) (b := p.size) (by kernel_rfl) (by kernel_rfl) false (decide_eq_false (by rw [hbz]; exact hsz))) ?_
      refine wl_val (.bool false) (by kernel_rfl) (by kernel_rfl) ?_
      refine wl_skip (by kernel_rfl) ?_
      refine wl_skip (by kernel_rfl) ?_
      refine wl_skip (by kernel_rfl) ?_
      refine wl_skip (by kernel_rfl) ?_
      refine wl_skip (by kernel_rfl) ?_
      refine wl_skip (by kernel_rfl) ?_
      refine wl_skip (by kernel_rfl) ?_
      refine wl_skip (by kernel_rfl) ?_
      refine wl_skip (by kernel_rfl) ?_
      refine wl_val (.bool false) (by kernel_rfl) (by kernel_rfl) ?_
      refine wl_nil ?_
      refine then_at rfl ?_
      refine wp_cond_false (by kernel_rfl) ?_
      refine wp_skip ?_
      refine block_normal ?_
      refine then_at rfl ?_
      refine wl_region ?_
      refine wl_val (iN .i64 j) (by kernel_rfl) (by kernel_rfl) ?_
      refine wl_val (iN .i64 (j + 1)) (by kernel_rfl) (run_add (k := .i64) (a := j) (b := 1) (by kernel_rfl) (by kernel_rfl) (by first | omega | (simp only [top]; omega))) ?_
      refine wl_val (iN .i64 (j + 1)) (by kernel_rfl) (by kernel_rfl) ?_
      refine wl_nil ?_
      exact then_I ⟨fun ii => (([(4, u73 4), (91, iN .i64 j), (92, .slice pa (lstR S.rows { data := #[] }).length ca), (93, iN .i64 ((lstR S.rows { data := #[] }).length)), (94, .bool true), (95, iN .i64 j), (96, iN .i64 (j + 1)), (97, iN .i64 j), (98, .bool false), (99, .bool false), (100, undef), (101, undef), (102, undef), (103, undef), (104, undef), (105, undef), (106, undef), (107, undef), (108, undef), (109, undef), (110, .bool false), (111, .slice pa (lstR S.rows { data := #[] }).length ca), (112, iN .i64 j), (113, .pointer (some (aa.add j))), (114, .string ((⟨ba.toArray⟩ : ByteArray))), (115, iN .i64 (((⟨ba.toArray⟩ : ByteArray)).size)), (116, .string p), (117, iN .i64 p.size), (118, .bool false), (119, .bool false), (120, undef), (121, undef), (122, undef), (123, undef), (124, undef), (125, undef), (126, undef), (127, undef), (128, undef), (129, .bool false), (130, u73 130), (131, u73 131), (132, u73 132), (133, u73 133), (134, u73 134), (135, u73 135), (136, u73 136), (137, u73 137), (138, u73 138), (139, u73 139), (140, u73 140), (141, u73 141), (142, u73 142), (143, u73 143), (144, u73 144), (145, u73 145), (146, u73 146)] : List (Nat × Value)).find? (·.1 == ii)).elim undef (·.2), (by rw [hcs]; kernel_rfl), h80⟩
   ·rintro _ w83 ⟨u73, rfl, hL2⟩
    refine wp_seq ?_
    refine wp_seq ?_
    refine wl_region ?_
    refine wl_val (iN .i64 ((lstR S.rows { data := #[] }).length)) (by kernel_rfl) (by kernel_rfl) ?_
    refine wl_val (.slice pa (lstR S.rows { data := #[] }).length ca) (by kernel_rfl) (by kernel_rfl) ?_
    refine wl_val (iN .i64 ((lstR S.rows { data := #[] }).length)) (by kernel_rfl) (by kernel_rfl) ?_
    refine wl_val (.bool false) (by kernel_rfl) (run_lss (k := .i64) (a := (lstR S.rows { data := #[] }).length) (b := (lstR S.rows { data := #[] }).length) (by kernel_rfl) (by kernel_rfl) false (decide_eq_false (by omega))) ?_
    refine wl_nil ?_
    refine then_at (F := ⟨(.slice o xs.length c :: .string p :: un :: un :: u73 4 :: pt sq :: iN .i64 0 :: iN .i64 (min xs.length 60) :: u13 8 :: u13 9 :: u13 10 :: u13 11 :: u13 12 :: u13 13 :: .slice pa (lstR S.rows { data := #[] }).length ca :: .slice ps (lstR S.rows p).length cs :: iN .i64 (cntP (lstR S.rows { data := #[] }) (bl p) ((lstR S.rows { data := #[] }).length)) :: iN .i64 ((lstR S.rows { data := #[] }).length) :: .bool true :: .bool false :: .tuple #[pt sq, iN .i64 0] :: pt d.q :: .tuple #[pt sq, iN .i64 0] :: pt sq :: iN .i64 0 :: iN .i64 0 :: .bool false :: iN .i64 (min xs.length 60) :: .slice o xs.length c :: iN .i64 xs.length :: .bool false :: .bool false :: un :: un :: .bool false :: u13 35 :: u13 36 :: u13 37 :: u13 38 :: u13 39 :: u13 40 :: u13 41 :: u13 42 :: u13 43 :: u13 44 :: u13 45 :: u13 46 :: u13 47 :: u13 48 :: u13 49 :: u13 50 :: u13 51 :: u13 52 :: u13 53 :: u13 54 :: u13 55 :: u13 56 :: u13 57 :: u13 58 :: u13 59 :: u13 60 :: u13 61 :: u13 62 :: u13 63 :: u13 64 :: u13 65 :: u13 66 :: u13 67 :: u13 68 :: u13 69 :: u13 70 :: u13 71 :: u13 72 :: u13 73 :: u13 74 :: u13 75 :: u13 76 :: u13 77 :: u13 78 :: u13 79 :: u13 80 :: u13 81 :: u13 82 :: u13 83 :: u13 84 :: u13 85 :: pt sq :: .slice pa (lstR S.rows { data := #[] }).length ca :: pt sq :: .string p :: .slice ps (lstR S.rows p).length cs :: iN .i64 ((lstR S.rows { data := #[] }).length) :: .slice pa (lstR S.rows { data := #[] }).length ca :: iN .i64 ((lstR S.rows { data := #[] }).length) :: .bool false :: u73 95 :: u73 96 :: u73 97 :: u73 98 :: u73 99 :: u73 100 :: u73 101 :: u73 102 :: u73 103 :: u73 104 :: u73 105 :: u73 106 :: u73 107 :: u73 108 :: u73 109 :: u73 110 :: u73 111 :: u73 112 :: u73 113 :: u73 114 :: u73 115 :: u73 116 :: u73 117 :: u73 118 :: u73 119 :: u73 120 :: u73 121 :: u73 122 :: u73 123 :: u73 124 :: u73 125 :: u73 126 :: u73 127 :: u73 128 :: u73 129 :: u73 130 :: u73 131 :: u73 132 :: u73 133 :: u73 134 :: u73 135 :: u73 136 :: u73 137 :: u73 138 :: u73 139 :: u73 140 :: u73 141 :: u73 142 :: u73 143 :: u73 144 :: u73 145 :: u73 146 :: List.replicate 11 un).toArray, []⟩) (by kernel_rfl) ?_
    refine wp_cond_false (by kernel_rfl) ?_
    refine wp_exit ?_
    repeat first | refine then_exit ?_ | refine block_exit ?_ | refine block_exit_ne (by decide) ?_
    refine then_at rfl ?_
    refine wp_seq ?_
    have hca := cntP_all (lstR S.rows { data := #[] }) (bl p)
    rw [← hsome] at hca
    refine wl_region ?_
    refine wl_val (iN .i64 (cntP (lstR S.rows { data := #[] }) (bl p) ((lstR S.rows { data := #[] }).length))) (by kernel_rfl) (by kernel_rfl) ?_
    refine wl_val (.slice ps (lstR S.rows p).length cs) (by kernel_rfl) (by kernel_rfl) ?_
    refine wl_val (iN .i64 ((lstR S.rows p).length)) (by kernel_rfl) (by kernel_rfl) ?_
    refine wl_val (.bool true) (by kernel_rfl) (run_eqi (k := .i64) (a := cntP (lstR S.rows { data := #[] }) (bl p) ((lstR S.rows { data := #[] }).length)) (b := (lstR S.rows p).length) (by kernel_rfl) (by kernel_rfl) true (decide_eq_true hca)) ?_
    refine wl_val (.bool true) (by kernel_rfl) (by kernel_rfl) ?_
    refine wl_val (.pointer (some ⟨sq, 0, none⟩)) (by kernel_rfl) (by kernel_rfl) ?_
    refine wl_call (v := iN .i64 ((lstR S.rows { data := #[] }).length)) hL2 (by kernel_rfl) enter10 #[.pointer (some ⟨sq, 0, none⟩)] (by kernel_rfl) (by have h9 := len_S (hc46 _ _ ((Ls ++ La)) _ ⟨_, _, hrs46, hK46, hL2⟩); rw [← hall] at h9; exact h9) ?_
    intro w84 h85
    refine wl_val (.slice pa (lstR S.rows { data := #[] }).length ca) (by kernel_rfl) (by kernel_rfl) ?_
    refine wl_val (iN .i64 ((lstR S.rows { data := #[] }).length)) (by kernel_rfl) (by kernel_rfl) ?_
    refine wl_val (.bool true) (by kernel_rfl) (run_eqi (k := .i64) (a := (lstR S.rows { data := #[] }).length) (b := (lstR S.rows { data := #[] }).length) (by kernel_rfl) (by kernel_rfl) true (decide_eq_true rfl)) ?_
    refine wl_val (.bool true) (by kernel_rfl) (by kernel_rfl) ?_
    refine wl_val (.bool true) (by kernel_rfl) (by kernel_rfl) ?_
    refine wl_nil ?_
    refine then_at rfl ?_
    refine wp_ret ?_
    repeat first | refine then_ret ?_ | refine block_ret ?_
    exact bodyPost_ret (v := .bool true) (by kernel_rfl) rfl ⟨rfl, h85.old.old⟩
end Go.Proofs.Ytckmlaempffpjaa
