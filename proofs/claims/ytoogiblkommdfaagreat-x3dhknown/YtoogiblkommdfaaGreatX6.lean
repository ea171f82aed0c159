/-
  The reference's word, May, EncodeBundle, DecodeBundle.
-/
import Derived.Test.YtoogiblkommdfaaGreatX5
set_option linter.unusedVariables false
namespace Go.Proofs.YtoogiblkommdfaaGreat
open Go.RowKit

set_option maxRecDepth 100000 in
set_option maxHeartbeats 2000000 in
theorem rw_0 {w : World} (s : ByteArray) (h : ¬ 1 ≤ s.size) :
    Calls Tryz.prog 86 #[.string s] w fun e w' => e = .returned (.bool false) ∧ Below w.heap.size w w' := by
  have H0 := HA.start w
  go_enter Tryz.func86, Tryz.ntmps86
  refine wp_seq (wl_region ?_)
  refine zv (.bool false) ?_
  refine wl_nil (then_at rfl (wp_seq (wl_region ?_)))
  refine zv (.string s) ?_
  refine zu (iN .i64 s.size) (run_len (s := s) ky) ?_
  refine zu (.bool false) (run_geq (k := .i64) (a := s.size) (b := 1) ky ky false (decide_eq_false (by omega))) ?_
  refine zv (.bool false) ?_
  refine wl_skip ky ?_
  refine wl_skip ky ?_
  refine wl_skip ky ?_
  refine zv (.bool false) ?_
  refine zv (.bool false) ?_
  refine wl_nil (then_at rfl ?_)
  refine wp_ret ?_
  repeat first | refine then_ret ?_ | refine block_ret ?_
  exact bodyPost_ret (v := .bool false) ky rfl ⟨rfl, H0.old.old⟩
set_option maxRecDepth 100000 in
set_option maxHeartbeats 2000000 in
theorem rw_1 {w : World} (s : ByteArray) (h : 1 ≤ s.size) (h2 : s.size ≤ 16384) :
    Calls Tryz.prog 86 #[.string s] w fun e w' => e = .returned (.bool true) ∧ Below w.heap.size w w' := by
  have H0 := HA.start w
  go_enter Tryz.func86, Tryz.ntmps86
  refine wp_seq (wl_region ?_)
  refine zv (.bool false) ?_
  refine wl_nil (then_at rfl (wp_seq (wl_region ?_)))
  refine zv (.string s) ?_
  refine zu (iN .i64 s.size) (run_len (s := s) ky) ?_
  refine zu (.bool true) (run_geq (k := .i64) (a := s.size) (b := 1) ky ky true (decide_eq_true (by omega))) ?_
  refine zv (.bool true) ?_
  refine zv (.string s) ?_
  refine zu (iN .i64 s.size) (run_len (s := s) ky) ?_
  refine zu (.bool true) (run_leq (k := .i64) (a := s.size) (b := 16384) ky ky true (decide_eq_true (by omega))) ?_
  refine zv (.bool true) ?_
  refine zv (.bool true) ?_
  refine wl_nil (then_at rfl ?_)
  refine wp_ret ?_
  repeat first | refine then_ret ?_ | refine block_ret ?_
  exact bodyPost_ret (v := .bool true) ky rfl ⟨rfl, H0.old.old⟩
set_option maxRecDepth 100000 in
set_option maxHeartbeats 2000000 in
theorem rw_2 {w : World} (s : ByteArray) (h : 1 ≤ s.size) (h2 : ¬ s.size ≤ 16384) :
    Calls Tryz.prog 86 #[.string s] w fun e w' => e = .returned (.bool false) ∧ Below w.heap.size w w' := by
  have H0 := HA.start w
  go_enter Tryz.func86, Tryz.ntmps86
  refine wp_seq (wl_region ?_)
  refine zv (.bool false) ?_
  refine wl_nil (then_at rfl (wp_seq (wl_region ?_)))
  refine zv (.string s) ?_
  refine zu (iN .i64 s.size) (run_len (s := s) ky) ?_
  refine zu (.bool true) (run_geq (k := .i64) (a := s.size) (b := 1) ky ky true (decide_eq_true (by omega))) ?_
  refine zv (.bool true) ?_
  refine zv (.string s) ?_
  refine zu (iN .i64 s.size) (run_len (s := s) ky) ?_
  refine zu (.bool false) (run_leq (k := .i64) (a := s.size) (b := 16384) ky ky false (decide_eq_false (by omega))) ?_
  refine zv (.bool false) ?_
  refine zv (.bool false) ?_
  refine wl_nil (then_at rfl ?_)
  refine wp_ret ?_
  repeat first | refine then_ret ?_ | refine block_ret ?_
  exact bodyPost_ret (v := .bool false) ky rfl ⟨rfl, H0.old.old⟩
theorem rword_any {w : World} (s : ByteArray) {b : Bool} (hb : wo s = b) :
    Calls Tryz.prog 86 #[.string s] w fun e w' => e = .returned (.bool b) ∧ Below w.heap.size w w' := by
  subst hb
  unfold wo wi
  by_cases h : 1 ≤ s.size
  · by_cases h2 : s.size ≤ 16384
    · rw [decide_eq_true (show (1 : Int) ≤ s.size by omega), decide_eq_true (show (s.size : Int) ≤ 16384 by omega)]; exact rw_1 s h h2
    · rw [decide_eq_true (show (1 : Int) ≤ s.size by omega), decide_eq_false (show ¬ (s.size : Int) ≤ 16384 by omega)]; exact rw_2 s h h2
  · rw [decide_eq_false (show ¬ (1 : Int) ≤ s.size by omega)]; exact rw_0 s h
theorem mayX_of {x : Bu} (u : 0 ≤ x.u ∧ x.u ≤ 2) (d : 0 ≤ x.d ∧ x.d ≤ 1) (p : 1 ≤ x.pi ∧ x.pi ≤ 1073741824) (h1 : wo x.sg = true) (h2 : wo x.dh = true) (h3 : wo x.pr = true) (h4 : wo x.ps = true) (h5 : (x.oi = 0 ∧ x.on = { data := #[] }) ∨ (1 ≤ x.oi ∧ x.oi ≤ 1073741824 ∧ wo x.on = true)) : mayX x = true := by
  unfold mayX
  rw [h1, h2, h3, h4, wi, wi, wi, decide_eq_true u.1, decide_eq_true u.2, decide_eq_true d.1, decide_eq_true d.2, decide_eq_true p.1, decide_eq_true p.2]
  rcases h5 with ⟨a, b⟩ | ⟨a, b, c⟩
  · have e : x = bare x := by
      obtain ⟨x1, x2, x3, x4, x5, x6, x7, x8, x9⟩ := x
      simp only at a b
      subst a b
      rfl
    rw [decide_eq_true e]; rfl
  · rw [wi, decide_eq_true a, decide_eq_true b, c]; simp
theorem mayX_wo {x : Bu} (h : mayX x = true) : wo x.sg = true ∧ wo x.dh = true ∧ wo x.pr = true ∧ wo x.ps = true ∧ ((x.oi = 0 ∧ x.on = { data := #[] }) ∨ (1 ≤ x.oi ∧ x.oi ≤ 1073741824 ∧ wo x.on = true)) := by
  unfold mayX at h
  simp only [Bool.and_eq_true, Bool.or_eq_true, decide_eq_true_eq] at h
  obtain ⟨⟨_, ⟨⟨⟨h4, h5⟩, h6⟩, h7⟩⟩, h8⟩ := h
  have h9 : (x.oi = 0 ∧ x.on = { data := #[] }) ∨ (wi x.oi 1 1073741824 = true ∧ wo x.on = true) := h8.imp (fun e => by
    constructor
    · rw [e]; rfl
    · rw [e]; rfl) id
  refine ⟨h4, h5, h6, h7, ?_⟩
  rcases h9 with h9 | h9
  · exact .inl h9
  · exact .inr ⟨(wi_le h9.1).1, (wi_le h9.1).2, h9.2⟩
set_option maxRecDepth 100000 in
set_option maxHeartbeats 2000000 in
theorem rm_0 {w : World} {x : Bu} (i0 : x.u < 0) :
    Calls Tryz.prog 41 #[.agg (buC x)] w fun e w' => e = .returned (.bool false) ∧ Below w.heap.size w w' := by
  have H0 := HA.start w
  go_enter Tryz.func41, Tryz.ntmps41
  refine wp_seq (wl_region ?_)
  refine wl_make (c := buC x) H0 23 ky ky ?_
  intro q1 w2 (h3 : HA (bs w) [(q1, 23, buC x)] w2)
  refine zv (.bool false) ?_
  refine wl_nil (then_at rfl (wp_seq (wp_seq (wl_region ?_))))
  refine zv (.pointer (some ⟨q1, 0, none⟩)) ?_
  refine zu (.int .i64 x.u) (run_load1 (fun w => Tryz.isAgg3 w) ky (((h3.get 0 rfl).cell 0).trans rfl)) ?_
  refine zu (.bool true) (run_ltZ (k := .i64) (a := x.u) (b := (0 : Int)) ky ky true (decide_eq_true (by omega))) ?_
  refine zv (.bool true) ?_
  refine wl_skip ky ?_
  refine wl_skip ky ?_
  refine wl_skip ky ?_
  refine zv (.bool true) ?_
  refine zv (.bool true) ?_
  refine wl_skip ky ?_
  refine wl_skip ky ?_
  refine wl_skip ky ?_
  refine zv (.bool true) ?_
  refine zv (.bool true) ?_
  refine wl_skip ky ?_
  refine wl_skip ky ?_
  refine wl_skip ky ?_
  refine zv (.bool true) ?_
  refine zv (.bool true) ?_
  refine wl_skip ky ?_
  refine wl_skip ky ?_
  refine wl_skip ky ?_
  refine zv (.bool true) ?_
  refine zv (.bool true) ?_
  refine wl_skip ky ?_
  refine wl_skip ky ?_
  refine wl_skip ky ?_
  refine zv (.bool true) ?_
  refine zv (.bool true) ?_
  refine wl_skip ky ?_
  refine wl_skip ky ?_
  refine wl_skip ky ?_
  refine zv (.bool true) ?_
  refine zv (.bool true) ?_
  refine wl_skip ky ?_
  refine wl_skip ky ?_
  refine wl_skip ky ?_
  refine zv (.bool true) ?_
  refine wl_nil (then_at rfl ?_)
  refine wp_cond_true ky ?_
  refine wp_seq (wl_region ?_)
  refine zv (.bool false) ?_
  refine wl_nil (then_at rfl ?_)
  refine wp_ret ?_
  repeat first | refine then_ret ?_ | refine block_ret ?_
  exact bodyPost_ret (v := .bool false) ky rfl ⟨rfl, h3.old.old⟩
set_option maxRecDepth 100000 in
set_option maxHeartbeats 2000000 in
theorem rm_1 {w : World} {x : Bu} (i0 : ¬ x.u < 0) (i1 : 3 ≤ x.u) :
    Calls Tryz.prog 41 #[.agg (buC x)] w fun e w' => e = .returned (.bool false) ∧ Below w.heap.size w w' := by
  have H0 := HA.start w
  go_enter Tryz.func41, Tryz.ntmps41
  refine wp_seq (wl_region ?_)
  refine wl_make (c := buC x) H0 23 ky ky ?_
  intro q1 w2 (h3 : HA (bs w) [(q1, 23, buC x)] w2)
  refine zv (.bool false) ?_
  refine wl_nil (then_at rfl (wp_seq (wp_seq (wl_region ?_))))
  refine zv (.pointer (some ⟨q1, 0, none⟩)) ?_
  refine zu (.int .i64 x.u) (run_load1 (fun w => Tryz.isAgg3 w) ky (((h3.get 0 rfl).cell 0).trans rfl)) ?_
  refine zu (.bool false) (run_ltZ (k := .i64) (a := x.u) (b := (0 : Int)) ky ky false (decide_eq_false (by omega))) ?_
  refine zv (.bool false) ?_
  refine zv (.pointer (some ⟨q1, 0, none⟩)) ?_
  refine zu (.int .i64 x.u) (run_load1 (fun w => Tryz.isAgg3 w) ky (((h3.get 0 rfl).cell 0).trans rfl)) ?_
  refine zu (.bool true) (run_geZ (k := .i64) (a := x.u) (b := (3 : Int)) ky ky true (decide_eq_true (by omega))) ?_
  refine zv (.bool true) ?_
  refine zv (.bool true) ?_
  refine wl_skip ky ?_
  refine wl_skip ky ?_
  refine wl_skip ky ?_
  refine zv (.bool true) ?_
  refine zv (.bool true) ?_
  refine wl_skip ky ?_
  refine wl_skip ky ?_
  refine wl_skip ky ?_
  refine zv (.bool true) ?_
  refine zv (.bool true) ?_
  refine wl_skip ky ?_
  refine wl_skip ky ?_
  refine wl_skip ky ?_
  refine zv (.bool true) ?_
  refine zv (.bool true) ?_
  refine wl_skip ky ?_
  refine wl_skip ky ?_
  refine wl_skip ky ?_
  refine zv (.bool true) ?_
  refine zv (.bool true) ?_
  refine wl_skip ky ?_
  refine wl_skip ky ?_
  refine wl_skip ky ?_
  refine zv (.bool true) ?_
  refine zv (.bool true) ?_
  refine wl_skip ky ?_
  refine wl_skip ky ?_
  refine wl_skip ky ?_
  refine zv (.bool true) ?_
  refine wl_nil (then_at rfl ?_)
  refine wp_cond_true ky ?_
  refine wp_seq (wl_region ?_)
  refine zv (.bool false) ?_
  refine wl_nil (then_at rfl ?_)
  refine wp_ret ?_
  repeat first | refine then_ret ?_ | refine block_ret ?_
  exact bodyPost_ret (v := .bool false) ky rfl ⟨rfl, h3.old.old⟩
set_option maxRecDepth 100000 in
set_option maxHeartbeats 2000000 in
theorem rm_2 {w : World} {x : Bu} (i0 : ¬ x.u < 0) (i1 : ¬ 3 ≤ x.u) (i2 : x.d < 0) :
    Calls Tryz.prog 41 #[.agg (buC x)] w fun e w' => e = .returned (.bool false) ∧ Below w.heap.size w w' := by
  have H0 := HA.start w
  go_enter Tryz.func41, Tryz.ntmps41
  refine wp_seq (wl_region ?_)
  refine wl_make (c := buC x) H0 23 ky ky ?_
  intro q1 w2 (h3 : HA (bs w) [(q1, 23, buC x)] w2)
  refine zv (.bool false) ?_
  refine wl_nil (then_at rfl (wp_seq (wp_seq (wl_region ?_))))
  refine zv (.pointer (some ⟨q1, 0, none⟩)) ?_
  refine zu (.int .i64 x.u) (run_load1 (fun w => Tryz.isAgg3 w) ky (((h3.get 0 rfl).cell 0).trans rfl)) ?_
  refine zu (.bool false) (run_ltZ (k := .i64) (a := x.u) (b := (0 : Int)) ky ky false (decide_eq_false (by omega))) ?_
  refine zv (.bool false) ?_
  refine zv (.pointer (some ⟨q1, 0, none⟩)) ?_
  refine zu (.int .i64 x.u) (run_load1 (fun w => Tryz.isAgg3 w) ky (((h3.get 0 rfl).cell 0).trans rfl)) ?_
  refine zu (.bool false) (run_geZ (k := .i64) (a := x.u) (b := (3 : Int)) ky ky false (decide_eq_false (by omega))) ?_
  refine zv (.bool false) ?_
  refine zv (.bool false) ?_
  refine zv (.pointer (some ⟨q1, 1, none⟩)) ?_
  refine zu (.int .i64 x.d) (run_load1 (fun w => Tryz.isAgg3 w) ky (((h3.get 0 rfl).cell 1).trans rfl)) ?_
  refine zu (.bool true) (run_ltZ (k := .i64) (a := x.d) (b := (0 : Int)) ky ky true (decide_eq_true (by omega))) ?_
  refine zv (.bool true) ?_
  refine zv (.bool true) ?_
  refine wl_skip ky ?_
  refine wl_skip ky ?_
  refine wl_skip ky ?_
  refine zv (.bool true) ?_
  refine zv (.bool true) ?_
  refine wl_skip ky ?_
  refine wl_skip ky ?_
  refine wl_skip ky ?_
  refine zv (.bool true) ?_
  refine zv (.bool true) ?_
  refine wl_skip ky ?_
  refine wl_skip ky ?_
  refine wl_skip ky ?_
  refine zv (.bool true) ?_
  refine zv (.bool true) ?_
  refine wl_skip ky ?_
  refine wl_skip ky ?_
  refine wl_skip ky ?_
  refine zv (.bool true) ?_
  refine zv (.bool true) ?_
  refine wl_skip ky ?_
  refine wl_skip ky ?_
  refine wl_skip ky ?_
  refine zv (.bool true) ?_
  refine wl_nil (then_at rfl ?_)
  refine wp_cond_true ky ?_
  refine wp_seq (wl_region ?_)
  refine zv (.bool false) ?_
  refine wl_nil (then_at rfl ?_)
  refine wp_ret ?_
  repeat first | refine then_ret ?_ | refine block_ret ?_
  exact bodyPost_ret (v := .bool false) ky rfl ⟨rfl, h3.old.old⟩
set_option maxRecDepth 100000 in
set_option maxHeartbeats 2000000 in
theorem rm_3 {w : World} {x : Bu} (i0 : ¬ x.u < 0) (i1 : ¬ 3 ≤ x.u) (i2 : ¬ x.d < 0) (i3 : 2 ≤ x.d) :
    Calls Tryz.prog 41 #[.agg (buC x)] w fun e w' => e = .returned (.bool false) ∧ Below w.heap.size w w' := by
  have H0 := HA.start w
  go_enter Tryz.func41, Tryz.ntmps41
  refine wp_seq (wl_region ?_)
  refine wl_make (c := buC x) H0 23 ky ky ?_
  intro q1 w2 (h3 : HA (bs w) [(q1, 23, buC x)] w2)
  refine zv (.bool false) ?_
  refine wl_nil (then_at rfl (wp_seq (wp_seq (wl_region ?_))))
  refine zv (.pointer (some ⟨q1, 0, none⟩)) ?_
  refine zu (.int .i64 x.u) (run_load1 (fun w => Tryz.isAgg3 w) ky (((h3.get 0 rfl).cell 0).trans rfl)) ?_
  refine zu (.bool false) (run_ltZ (k := .i64) (a := x.u) (b := (0 : Int)) ky ky false (decide_eq_false (by omega))) ?_
  refine zv (.bool false) ?_
  refine zv (.pointer (some ⟨q1, 0, none⟩)) ?_
  refine zu (.int .i64 x.u) (run_load1 (fun w => Tryz.isAgg3 w) ky (((h3.get 0 rfl).cell 0).trans rfl)) ?_
  refine zu (.bool false) (run_geZ (k := .i64) (a := x.u) (b := (3 : Int)) ky ky false (decide_eq_false (by omega))) ?_
  refine zv (.bool false) ?_
  refine zv (.bool false) ?_
  refine zv (.pointer (some ⟨q1, 1, none⟩)) ?_
  refine zu (.int .i64 x.d) (run_load1 (fun w => Tryz.isAgg3 w) ky (((h3.get 0 rfl).cell 1).trans rfl)) ?_
  refine zu (.bool false) (run_ltZ (k := .i64) (a := x.d) (b := (0 : Int)) ky ky false (decide_eq_false (by omega))) ?_
  refine zv (.bool false) ?_
  refine zv (.bool false) ?_
  refine zv (.pointer (some ⟨q1, 1, none⟩)) ?_
  refine zu (.int .i64 x.d) (run_load1 (fun w => Tryz.isAgg3 w) ky (((h3.get 0 rfl).cell 1).trans rfl)) ?_
  refine zu (.bool true) (run_geZ (k := .i64) (a := x.d) (b := (2 : Int)) ky ky true (decide_eq_true (by omega))) ?_
  refine zv (.bool true) ?_
  refine zv (.bool true) ?_
  refine wl_skip ky ?_
  refine wl_skip ky ?_
  refine wl_skip ky ?_
  refine zv (.bool true) ?_
  refine zv (.bool true) ?_
  refine wl_skip ky ?_
  refine wl_skip ky ?_
  refine wl_skip ky ?_
  refine zv (.bool true) ?_
  refine zv (.bool true) ?_
  refine wl_skip ky ?_
  refine wl_skip ky ?_
  refine wl_skip ky ?_
  refine zv (.bool true) ?_
  refine zv (.bool true) ?_
  refine wl_skip ky ?_
  refine wl_skip ky ?_
  refine wl_skip ky ?_
  refine zv (.bool true) ?_
  refine wl_nil (then_at rfl ?_)
  refine wp_cond_true ky ?_
  refine wp_seq (wl_region ?_)
  refine zv (.bool false) ?_
  refine wl_nil (then_at rfl ?_)
  refine wp_ret ?_
  repeat first | refine then_ret ?_ | refine block_ret ?_
  exact bodyPost_ret (v := .bool false) ky rfl ⟨rfl, h3.old.old⟩
set_option maxRecDepth 100000 in
set_option maxHeartbeats 2000000 in
theorem rm_4 {w : World} {x : Bu} (i0 : ¬ x.u < 0) (i1 : ¬ 3 ≤ x.u) (i2 : ¬ x.d < 0) (i3 : ¬ 2 ≤ x.d) (i4 : x.pi < 1) :
    Calls Tryz.prog 41 #[.agg (buC x)] w fun e w' => e = .returned (.bool false) ∧ Below w.heap.size w w' := by
  have H0 := HA.start w
  go_enter Tryz.func41, Tryz.ntmps41
  refine wp_seq (wl_region ?_)
  refine wl_make (c := buC x) H0 23 ky ky ?_
  intro q1 w2 (h3 : HA (bs w) [(q1, 23, buC x)] w2)
  refine zv (.bool false) ?_
  refine wl_nil (then_at rfl (wp_seq (wp_seq (wl_region ?_))))
  refine zv (.pointer (some ⟨q1, 0, none⟩)) ?_
  refine zu (.int .i64 x.u) (run_load1 (fun w => Tryz.isAgg3 w) ky (((h3.get 0 rfl).cell 0).trans rfl)) ?_
  refine zu (.bool false) (run_ltZ (k := .i64) (a := x.u) (b := (0 : Int)) ky ky false (decide_eq_false (by omega))) ?_
  refine zv (.bool false) ?_
  refine zv (.pointer (some ⟨q1, 0, none⟩)) ?_
  refine zu (.int .i64 x.u) (run_load1 (fun w => Tryz.isAgg3 w) ky (((h3.get 0 rfl).cell 0).trans rfl)) ?_
  refine zu (.bool false) (run_geZ (k := .i64) (a := x.u) (b := (3 : Int)) ky ky false (decide_eq_false (by omega))) ?_
  refine zv (.bool false) ?_
  refine zv (.bool false) ?_
  refine zv (.pointer (some ⟨q1, 1, none⟩)) ?_
  refine zu (.int .i64 x.d) (run_load1 (fun w => Tryz.isAgg3 w) ky (((h3.get 0 rfl).cell 1).trans rfl)) ?_
  refine zu (.bool false) (run_ltZ (k := .i64) (a := x.d) (b := (0 : Int)) ky ky false (decide_eq_false (by omega))) ?_
  refine zv (.bool false) ?_
  refine zv (.bool false) ?_
  refine zv (.pointer (some ⟨q1, 1, none⟩)) ?_
  refine zu (.int .i64 x.d) (run_load1 (fun w => Tryz.isAgg3 w) ky (((h3.get 0 rfl).cell 1).trans rfl)) ?_
  refine zu (.bool false) (run_geZ (k := .i64) (a := x.d) (b := (2 : Int)) ky ky false (decide_eq_false (by omega))) ?_
  refine zv (.bool false) ?_
  refine zv (.bool false) ?_
  refine zv (.pointer (some ⟨q1, 4, none⟩)) ?_
  refine zu (.int .i64 x.pi) (run_load1 (fun w => Tryz.isAgg3 w) ky (((h3.get 0 rfl).cell 4).trans rfl)) ?_
  refine zu (.bool true) (run_ltZ (k := .i64) (a := x.pi) (b := (1 : Int)) ky ky true (decide_eq_true (by omega))) ?_
  refine zv (.bool true) ?_
  refine zv (.bool true) ?_
  refine wl_skip ky ?_
  refine wl_skip ky ?_
  refine wl_skip ky ?_
  refine zv (.bool true) ?_
  refine zv (.bool true) ?_
  refine wl_skip ky ?_
  refine wl_skip ky ?_
  refine wl_skip ky ?_
  refine zv (.bool true) ?_
  refine zv (.bool true) ?_
  refine wl_skip ky ?_
  refine wl_skip ky ?_
  refine wl_skip ky ?_
  refine zv (.bool true) ?_
  refine wl_nil (then_at rfl ?_)
  refine wp_cond_true ky ?_
  refine wp_seq (wl_region ?_)
  refine zv (.bool false) ?_
  refine wl_nil (then_at rfl ?_)
  refine wp_ret ?_
  repeat first | refine then_ret ?_ | refine block_ret ?_
  exact bodyPost_ret (v := .bool false) ky rfl ⟨rfl, h3.old.old⟩
set_option maxRecDepth 100000 in
set_option maxHeartbeats 2000000 in
theorem rm_5 {w : World} {x : Bu} (i0 : ¬ x.u < 0) (i1 : ¬ 3 ≤ x.u) (i2 : ¬ x.d < 0) (i3 : ¬ 2 ≤ x.d) (i4 : ¬ x.pi < 1) (i5 : 1073741824 < x.pi) :
    Calls Tryz.prog 41 #[.agg (buC x)] w fun e w' => e = .returned (.bool false) ∧ Below w.heap.size w w' := by
  have H0 := HA.start w
  go_enter Tryz.func41, Tryz.ntmps41
  refine wp_seq (wl_region ?_)
  refine wl_make (c := buC x) H0 23 ky ky ?_
  intro q1 w2 (h3 : HA (bs w) [(q1, 23, buC x)] w2)
  refine zv (.bool false) ?_
  refine wl_nil (then_at rfl (wp_seq (wp_seq (wl_region ?_))))
  refine zv (.pointer (some ⟨q1, 0, none⟩)) ?_
  refine zu (.int .i64 x.u) (run_load1 (fun w => Tryz.isAgg3 w) ky (((h3.get 0 rfl).cell 0).trans rfl)) ?_
  refine zu (.bool false) (run_ltZ (k := .i64) (a := x.u) (b := (0 : Int)) ky ky false (decide_eq_false (by omega))) ?_
  refine zv (.bool false) ?_
  refine zv (.pointer (some ⟨q1, 0, none⟩)) ?_
  refine zu (.int .i64 x.u) (run_load1 (fun w => Tryz.isAgg3 w) ky (((h3.get 0 rfl).cell 0).trans rfl)) ?_
  refine zu (.bool false) (run_geZ (k := .i64) (a := x.u) (b := (3 : Int)) ky ky false (decide_eq_false (by omega))) ?_
  refine zv (.bool false) ?_
  refine zv (.bool false) ?_
  refine zv (.pointer (some ⟨q1, 1, none⟩)) ?_
  refine zu (.int .i64 x.d) (run_load1 (fun w => Tryz.isAgg3 w) ky (((h3.get 0 rfl).cell 1).trans rfl)) ?_
  refine zu (.bool false) (run_ltZ (k := .i64) (a := x.d) (b := (0 : Int)) ky ky false (decide_eq_false (by omega))) ?_
  refine zv (.bool false) ?_
  refine zv (.bool false) ?_
  refine zv (.pointer (some ⟨q1, 1, none⟩)) ?_
  refine zu (.int .i64 x.d) (run_load1 (fun w => Tryz.isAgg3 w) ky (((h3.get 0 rfl).cell 1).trans rfl)) ?_
  refine zu (.bool false) (run_geZ (k := .i64) (a := x.d) (b := (2 : Int)) ky ky false (decide_eq_false (by omega))) ?_
  refine zv (.bool false) ?_
  refine zv (.bool false) ?_
  refine zv (.pointer (some ⟨q1, 4, none⟩)) ?_
  refine zu (.int .i64 x.pi) (run_load1 (fun w => Tryz.isAgg3 w) ky (((h3.get 0 rfl).cell 4).trans rfl)) ?_
  refine zu (.bool false) (run_ltZ (k := .i64) (a := x.pi) (b := (1 : Int)) ky ky false (decide_eq_false (by omega))) ?_
  refine zv (.bool false) ?_
  refine zv (.bool false) ?_
  refine zv (.pointer (some ⟨q1, 4, none⟩)) ?_
  refine zu (.int .i64 x.pi) (run_load1 (fun w => Tryz.isAgg3 w) ky (((h3.get 0 rfl).cell 4).trans rfl)) ?_
  refine zu (.bool true) (run_gtZ (k := .i64) (a := x.pi) (b := (1073741824 : Int)) ky ky true (decide_eq_true (by omega))) ?_
  refine zv (.bool true) ?_
  refine zv (.bool true) ?_
  refine wl_skip ky ?_
  refine wl_skip ky ?_
  refine wl_skip ky ?_
  refine zv (.bool true) ?_
  refine zv (.bool true) ?_
  refine wl_skip ky ?_
  refine wl_skip ky ?_
  refine wl_skip ky ?_
  refine zv (.bool true) ?_
  refine wl_nil (then_at rfl ?_)
  refine wp_cond_true ky ?_
  refine wp_seq (wl_region ?_)
  refine zv (.bool false) ?_
  refine wl_nil (then_at rfl ?_)
  refine wp_ret ?_
  repeat first | refine then_ret ?_ | refine block_ret ?_
  exact bodyPost_ret (v := .bool false) ky rfl ⟨rfl, h3.old.old⟩
set_option maxRecDepth 100000 in
set_option maxHeartbeats 2000000 in
theorem rm_6 {w : World} {x : Bu} (i0 : ¬ x.u < 0) (i1 : ¬ 3 ≤ x.u) (i2 : ¬ x.d < 0) (i3 : ¬ 2 ≤ x.d) (i4 : ¬ x.pi < 1) (i5 : ¬ 1073741824 < x.pi) (i6 : x.oi < 0) :
    Calls Tryz.prog 41 #[.agg (buC x)] w fun e w' => e = .returned (.bool false) ∧ Below w.heap.size w w' := by
  have H0 := HA.start w
  go_enter Tryz.func41, Tryz.ntmps41
  refine wp_seq (wl_region ?_)
  refine wl_make (c := buC x) H0 23 ky ky ?_
  intro q1 w2 (h3 : HA (bs w) [(q1, 23, buC x)] w2)
  refine zv (.bool false) ?_
  refine wl_nil (then_at rfl (wp_seq (wp_seq (wl_region ?_))))
  refine zv (.pointer (some ⟨q1, 0, none⟩)) ?_
  refine zu (.int .i64 x.u) (run_load1 (fun w => Tryz.isAgg3 w) ky (((h3.get 0 rfl).cell 0).trans rfl)) ?_
  refine zu (.bool false) (run_ltZ (k := .i64) (a := x.u) (b := (0 : Int)) ky ky false (decide_eq_false (by omega))) ?_
  refine zv (.bool false) ?_
  refine zv (.pointer (some ⟨q1, 0, none⟩)) ?_
  refine zu (.int .i64 x.u) (run_load1 (fun w => Tryz.isAgg3 w) ky (((h3.get 0 rfl).cell 0).trans rfl)) ?_
  refine zu (.bool false) (run_geZ (k := .i64) (a := x.u) (b := (3 : Int)) ky ky false (decide_eq_false (by omega))) ?_
  refine zv (.bool false) ?_
  refine zv (.bool false) ?_
  refine zv (.pointer (some ⟨q1, 1, none⟩)) ?_
  refine zu (.int .i64 x.d) (run_load1 (fun w => Tryz.isAgg3 w) ky (((h3.get 0 rfl).cell 1).trans rfl)) ?_
  refine zu (.bool false) (run_ltZ (k := .i64) (a := x.d) (b := (0 : Int)) ky ky false (decide_eq_false (by omega))) ?_
  refine zv (.bool false) ?_
  refine zv (.bool false) ?_
  refine zv (.pointer (some ⟨q1, 1, none⟩)) ?_
  refine zu (.int .i64 x.d) (run_load1 (fun w => Tryz.isAgg3 w) ky (((h3.get 0 rfl).cell 1).trans rfl)) ?_
  refine zu (.bool false) (run_geZ (k := .i64) (a := x.d) (b := (2 : Int)) ky ky false (decide_eq_false (by omega))) ?_
  refine zv (.bool false) ?_
  refine zv (.bool false) ?_
  refine zv (.pointer (some ⟨q1, 4, none⟩)) ?_
  refine zu (.int .i64 x.pi) (run_load1 (fun w => Tryz.isAgg3 w) ky (((h3.get 0 rfl).cell 4).trans rfl)) ?_
  refine zu (.bool false) (run_ltZ (k := .i64) (a := x.pi) (b := (1 : Int)) ky ky false (decide_eq_false (by omega))) ?_
  refine zv (.bool false) ?_
  refine zv (.bool false) ?_
  refine zv (.pointer (some ⟨q1, 4, none⟩)) ?_
  refine zu (.int .i64 x.pi) (run_load1 (fun w => Tryz.isAgg3 w) ky (((h3.get 0 rfl).cell 4).trans rfl)) ?_
  refine zu (.bool false) (run_gtZ (k := .i64) (a := x.pi) (b := (1073741824 : Int)) ky ky false (decide_eq_false (by omega))) ?_
  refine zv (.bool false) ?_
  refine zv (.bool false) ?_
  refine zv (.pointer (some ⟨q1, 7, none⟩)) ?_
  refine zu (.int .i64 x.oi) (run_load1 (fun w => Tryz.isAgg3 w) ky (((h3.get 0 rfl).cell 7).trans rfl)) ?_
  refine zu (.bool true) (run_ltZ (k := .i64) (a := x.oi) (b := (0 : Int)) ky ky true (decide_eq_true (by omega))) ?_
  refine zv (.bool true) ?_
  refine zv (.bool true) ?_
  refine wl_skip ky ?_
  refine wl_skip ky ?_
  refine wl_skip ky ?_
  refine zv (.bool true) ?_
  refine wl_nil (then_at rfl ?_)
  refine wp_cond_true ky ?_
  refine wp_seq (wl_region ?_)
  refine zv (.bool false) ?_
  refine wl_nil (then_at rfl ?_)
  refine wp_ret ?_
  repeat first | refine then_ret ?_ | refine block_ret ?_
  exact bodyPost_ret (v := .bool false) ky rfl ⟨rfl, h3.old.old⟩
set_option maxRecDepth 100000 in
set_option maxHeartbeats 2000000 in
theorem rm_7 {w : World} {x : Bu} (i0 : ¬ x.u < 0) (i1 : ¬ 3 ≤ x.u) (i2 : ¬ x.d < 0) (i3 : ¬ 2 ≤ x.d) (i4 : ¬ x.pi < 1) (i5 : ¬ 1073741824 < x.pi) (i6 : ¬ x.oi < 0) (i7 : 1073741824 < x.oi) :
    Calls Tryz.prog 41 #[.agg (buC x)] w fun e w' => e = .returned (.bool false) ∧ Below w.heap.size w w' := by
  have H0 := HA.start w
  go_enter Tryz.func41, Tryz.ntmps41
  refine wp_seq (wl_region ?_)
  refine wl_make (c := buC x) H0 23 ky ky ?_
  intro q1 w2 (h3 : HA (bs w) [(q1, 23, buC x)] w2)
  refine zv (.bool false) ?_
  refine wl_nil (then_at rfl (wp_seq (wp_seq (wl_region ?_))))
  refine zv (.pointer (some ⟨q1, 0, none⟩)) ?_
  refine zu (.int .i64 x.u) (run_load1 (fun w => Tryz.isAgg3 w) ky (((h3.get 0 rfl).cell 0).trans rfl)) ?_
  refine zu (.bool false) (run_ltZ (k := .i64) (a := x.u) (b := (0 : Int)) ky ky false (decide_eq_false (by omega))) ?_
  refine zv (.bool false) ?_
  refine zv (.pointer (some ⟨q1, 0, none⟩)) ?_
  refine zu (.int .i64 x.u) (run_load1 (fun w => Tryz.isAgg3 w) ky (((h3.get 0 rfl).cell 0).trans rfl)) ?_
  refine zu (.bool false) (run_geZ (k := .i64) (a := x.u) (b := (3 : Int)) ky ky false (decide_eq_false (by omega))) ?_
  refine zv (.bool false) ?_
  refine zv (.bool false) ?_
  refine zv (.pointer (some ⟨q1, 1, none⟩)) ?_
  refine zu (.int .i64 x.d) (run_load1 (fun w => Tryz.isAgg3 w) ky (((h3.get 0 rfl).cell 1).trans rfl)) ?_
  refine zu (.bool false) (run_ltZ (k := .i64) (a := x.d) (b := (0 : Int)) ky ky false (decide_eq_false (by omega))) ?_
  refine zv (.bool false) ?_
  refine zv (.bool false) ?_
  refine zv (.pointer (some ⟨q1, 1, none⟩)) ?_
  refine zu (.int .i64 x.d) (run_load1 (fun w => Tryz.isAgg3 w) ky (((h3.get 0 rfl).cell 1).trans rfl)) ?_
  refine zu (.bool false) (run_geZ (k := .i64) (a := x.d) (b := (2 : Int)) ky ky false (decide_eq_false (by omega))) ?_
  refine zv (.bool false) ?_
  refine zv (.bool false) ?_
  refine zv (.pointer (some ⟨q1, 4, none⟩)) ?_
  refine zu (.int .i64 x.pi) (run_load1 (fun w => Tryz.isAgg3 w) ky (((h3.get 0 rfl).cell 4).trans rfl)) ?_
  refine zu (.bool false) (run_ltZ (k := .i64) (a := x.pi) (b := (1 : Int)) ky ky false (decide_eq_false (by omega))) ?_
  refine zv (.bool false) ?_
  refine zv (.bool false) ?_
  refine zv (.pointer (some ⟨q1, 4, none⟩)) ?_
  refine zu (.int .i64 x.pi) (run_load1 (fun w => Tryz.isAgg3 w) ky (((h3.get 0 rfl).cell 4).trans rfl)) ?_
  refine zu (.bool false) (run_gtZ (k := .i64) (a := x.pi) (b := (1073741824 : Int)) ky ky false (decide_eq_false (by omega))) ?_
  refine zv (.bool false) ?_
  refine zv (.bool false) ?_
  refine zv (.pointer (some ⟨q1, 7, none⟩)) ?_
  refine zu (.int .i64 x.oi) (run_load1 (fun w => Tryz.isAgg3 w) ky (((h3.get 0 rfl).cell 7).trans rfl)) ?_
  refine zu (.bool false) (run_ltZ (k := .i64) (a := x.oi) (b := (0 : Int)) ky ky false (decide_eq_false (by omega))) ?_
  refine zv (.bool false) ?_
  refine zv (.bool false) ?_
  refine zv (.pointer (some ⟨q1, 7, none⟩)) ?_
  refine zu (.int .i64 x.oi) (run_load1 (fun w => Tryz.isAgg3 w) ky (((h3.get 0 rfl).cell 7).trans rfl)) ?_
  refine zu (.bool true) (run_gtZ (k := .i64) (a := x.oi) (b := (1073741824 : Int)) ky ky true (decide_eq_true (by omega))) ?_
  refine zv (.bool true) ?_
  refine wl_nil (then_at rfl ?_)
  refine wp_cond_true ky ?_
  refine wp_seq (wl_region ?_)
  refine zv (.bool false) ?_
  refine wl_nil (then_at rfl ?_)
  refine wp_ret ?_
  repeat first | refine then_ret ?_ | refine block_ret ?_
  exact bodyPost_ret (v := .bool false) ky rfl ⟨rfl, h3.old.old⟩
set_option maxRecDepth 100000 in
set_option maxHeartbeats 2000000 in
theorem rm_8 {w : World} {x : Bu} (i0 : ¬ x.u < 0) (i1 : ¬ 3 ≤ x.u) (i2 : ¬ x.d < 0) (i3 : ¬ 2 ≤ x.d) (i4 : ¬ x.pi < 1) (i5 : ¬ 1073741824 < x.pi) (i6 : ¬ x.oi < 0) (i7 : ¬ 1073741824 < x.oi) (j_sg : wo x.sg = false) :
    Calls Tryz.prog 41 #[.agg (buC x)] w fun e w' => e = .returned (.bool false) ∧ Below w.heap.size w w' := by
  have H0 := HA.start w
  go_enter Tryz.func41, Tryz.ntmps41
  refine wp_seq (wl_region ?_)
  refine wl_make (c := buC x) H0 23 ky ky ?_
  intro q1 w2 (h3 : HA (bs w) [(q1, 23, buC x)] w2)
  refine zv (.bool false) ?_
  refine wl_nil (then_at rfl (wp_seq (wp_seq (wl_region ?_))))
  refine zv (.pointer (some ⟨q1, 0, none⟩)) ?_
  refine zu (.int .i64 x.u) (run_load1 (fun w => Tryz.isAgg3 w) ky (((h3.get 0 rfl).cell 0).trans rfl)) ?_
  refine zu (.bool false) (run_ltZ (k := .i64) (a := x.u) (b := (0 : Int)) ky ky false (decide_eq_false (by omega))) ?_
  refine zv (.bool false) ?_
  refine zv (.pointer (some ⟨q1, 0, none⟩)) ?_
  refine zu (.int .i64 x.u) (run_load1 (fun w => Tryz.isAgg3 w) ky (((h3.get 0 rfl).cell 0).trans rfl)) ?_
  refine zu (.bool false) (run_geZ (k := .i64) (a := x.u) (b := (3 : Int)) ky ky false (decide_eq_false (by omega))) ?_
  refine zv (.bool false) ?_
  refine zv (.bool false) ?_
  refine zv (.pointer (some ⟨q1, 1, none⟩)) ?_
  refine zu (.int .i64 x.d) (run_load1 (fun w => Tryz.isAgg3 w) ky (((h3.get 0 rfl).cell 1).trans rfl)) ?_
  refine zu (.bool false) (run_ltZ (k := .i64) (a := x.d) (b := (0 : Int)) ky ky false (decide_eq_false (by omega))) ?_
  refine zv (.bool false) ?_
  refine zv (.bool false) ?_
  refine zv (.pointer (some ⟨q1, 1, none⟩)) ?_
  refine zu (.int .i64 x.d) (run_load1 (fun w => Tryz.isAgg3 w) ky (((h3.get 0 rfl).cell 1).trans rfl)) ?_
  refine zu (.bool false) (run_geZ (k := .i64) (a := x.d) (b := (2 : Int)) ky ky false (decide_eq_false (by omega))) ?_
  refine zv (.bool false) ?_
  refine zv (.bool false) ?_
  refine zv (.pointer (some ⟨q1, 4, none⟩)) ?_
  refine zu (.int .i64 x.pi) (run_load1 (fun w => Tryz.isAgg3 w) ky (((h3.get 0 rfl).cell 4).trans rfl)) ?_
  refine zu (.bool false) (run_ltZ (k := .i64) (a := x.pi) (b := (1 : Int)) ky ky false (decide_eq_false (by omega))) ?_
  refine zv (.bool false) ?_
  refine zv (.bool false) ?_
  refine zv (.pointer (some ⟨q1, 4, none⟩)) ?_
  refine zu (.int .i64 x.pi) (run_load1 (fun w => Tryz.isAgg3 w) ky (((h3.get 0 rfl).cell 4).trans rfl)) ?_
  refine zu (.bool false) (run_gtZ (k := .i64) (a := x.pi) (b := (1073741824 : Int)) ky ky false (decide_eq_false (by omega))) ?_
  refine zv (.bool false) ?_
  refine zv (.bool false) ?_
  refine zv (.pointer (some ⟨q1, 7, none⟩)) ?_
  refine zu (.int .i64 x.oi) (run_load1 (fun w => Tryz.isAgg3 w) ky (((h3.get 0 rfl).cell 7).trans rfl)) ?_
  refine zu (.bool false) (run_ltZ (k := .i64) (a := x.oi) (b := (0 : Int)) ky ky false (decide_eq_false (by omega))) ?_
  refine zv (.bool false) ?_
  refine zv (.bool false) ?_
  refine zv (.pointer (some ⟨q1, 7, none⟩)) ?_
  refine zu (.int .i64 x.oi) (run_load1 (fun w => Tryz.isAgg3 w) ky (((h3.get 0 rfl).cell 7).trans rfl)) ?_
  refine zu (.bool false) (run_gtZ (k := .i64) (a := x.oi) (b := (1073741824 : Int)) ky ky false (decide_eq_false (by omega))) ?_
  refine zv (.bool false) ?_
  refine wl_nil (then_at rfl ?_)
  refine wp_cond_false ky ?_
  refine wp_skip (then_at rfl (wp_seq (wl_region ?_)))
  refine zv (.pointer (some ⟨q1, 2, none⟩)) ?_
  refine zu (.string x.sg) (run_load1 (fun w => Tryz.isAgg9 w) ky (((h3.get 0 rfl).cell 2).trans rfl)) ?_
  refine wl_call (v := .bool false) h3 ky enter86 #[.string x.sg] ky (rword_any _ j_sg) ?_
  intro w4 h5
  refine zv (.bool false) ?_
  refine wl_skip ky ?_
  refine wl_skip ky ?_
  refine wl_skip ky ?_
  refine zv (.bool false) ?_
  refine zv (.bool false) ?_
  refine wl_skip ky ?_
  refine wl_skip ky ?_
  refine wl_skip ky ?_
  refine zv (.bool false) ?_
  refine zv (.bool false) ?_
  refine wl_skip ky ?_
  refine wl_skip ky ?_
  refine wl_skip ky ?_
  refine zv (.bool false) ?_
  refine zv (.bool false) ?_
  refine wl_skip ky ?_
  refine wl_skip ky ?_
  refine wl_skip ky ?_
  refine wl_skip ky ?_
  refine wl_skip ky ?_
  refine wl_skip ky ?_
  refine wl_skip ky ?_
  refine wl_skip ky ?_
  refine wl_skip ky ?_
  refine wl_skip ky ?_
  refine wl_skip ky ?_
  refine wl_skip ky ?_
  refine wl_skip ky ?_
  refine wl_skip ky ?_
  refine wl_skip ky ?_
  refine wl_skip ky ?_
  refine wl_skip ky ?_
  refine wl_skip ky ?_
  refine zv (.bool false) ?_
  refine zv (.bool false) ?_
  refine wl_nil (then_at rfl ?_)
  refine wp_ret ?_
  repeat first | refine then_ret ?_ | refine block_ret ?_
  exact bodyPost_ret (v := .bool false) ky rfl ⟨rfl, h5.old.old⟩
set_option maxRecDepth 100000 in
set_option maxHeartbeats 2000000 in
theorem rm_9 {w : World} {x : Bu} (i0 : ¬ x.u < 0) (i1 : ¬ 3 ≤ x.u) (i2 : ¬ x.d < 0) (i3 : ¬ 2 ≤ x.d) (i4 : ¬ x.pi < 1) (i5 : ¬ 1073741824 < x.pi) (i6 : ¬ x.oi < 0) (i7 : ¬ 1073741824 < x.oi) (j_sg : wo x.sg = true) (j_dh : wo x.dh = false) :
    Calls Tryz.prog 41 #[.agg (buC x)] w fun e w' => e = .returned (.bool false) ∧ Below w.heap.size w w' := by
  have H0 := HA.start w
  go_enter Tryz.func41, Tryz.ntmps41
  refine wp_seq (wl_region ?_)
  refine wl_make (c := buC x) H0 23 ky ky ?_
  intro q1 w2 (h3 : HA (bs w) [(q1, 23, buC x)] w2)
  refine zv (.bool false) ?_
  refine wl_nil (then_at rfl (wp_seq (wp_seq (wl_region ?_))))
  refine zv (.pointer (some ⟨q1, 0, none⟩)) ?_
  refine zu (.int .i64 x.u) (run_load1 (fun w => Tryz.isAgg3 w) ky (((h3.get 0 rfl).cell 0).trans rfl)) ?_
  refine zu (.bool false) (run_ltZ (k := .i64) (a := x.u) (b := (0 : Int)) ky ky false (decide_eq_false (by omega))) ?_
  refine zv (.bool false) ?_
  refine zv (.pointer (some ⟨q1, 0, none⟩)) ?_
  refine zu (.int .i64 x.u) (run_load1 (fun w => Tryz.isAgg3 w) ky (((h3.get 0 rfl).cell 0).trans rfl)) ?_
  refine zu (.bool false) (run_geZ (k := .i64) (a := x.u) (b := (3 : Int)) ky ky false (decide_eq_false (by omega))) ?_
  refine zv (.bool false) ?_
  refine zv (.bool false) ?_
  refine zv (.pointer (some ⟨q1, 1, none⟩)) ?_
  refine zu (.int .i64 x.d) (run_load1 (fun w => Tryz.isAgg3 w) ky (((h3.get 0 rfl).cell 1).trans rfl)) ?_
  refine zu (.bool false) (run_ltZ (k := .i64) (a := x.d) (b := (0 : Int)) ky ky false (decide_eq_false (by omega))) ?_
  refine zv (.bool false) ?_
  refine zv (.bool false) ?_
  refine zv (.pointer (some ⟨q1, 1, none⟩)) ?_
  refine zu (.int .i64 x.d) (run_load1 (fun w => Tryz.isAgg3 w) ky (((h3.get 0 rfl).cell 1).trans rfl)) ?_
  refine zu (.bool false) (run_geZ (k := .i64) (a := x.d) (b := (2 : Int)) ky ky false (decide_eq_false (by omega))) ?_
  refine zv (.bool false) ?_
  refine zv (.bool false) ?_
  refine zv (.pointer (some ⟨q1, 4, none⟩)) ?_
  refine zu (.int .i64 x.pi) (run_load1 (fun w => Tryz.isAgg3 w) ky (((h3.get 0 rfl).cell 4).trans rfl)) ?_
  refine zu (.bool false) (run_ltZ (k := .i64) (a := x.pi) (b := (1 : Int)) ky ky false (decide_eq_false (by omega))) ?_
  refine zv (.bool false) ?_
  refine zv (.bool false) ?_
  refine zv (.pointer (some ⟨q1, 4, none⟩)) ?_
  refine zu (.int .i64 x.pi) (run_load1 (fun w => Tryz.isAgg3 w) ky (((h3.get 0 rfl).cell 4).trans rfl)) ?_
  refine zu (.bool false) (run_gtZ (k := .i64) (a := x.pi) (b := (1073741824 : Int)) ky ky false (decide_eq_false (by omega))) ?_
  refine zv (.bool false) ?_
  refine zv (.bool false) ?_
  refine zv (.pointer (some ⟨q1, 7, none⟩)) ?_
  refine zu (.int .i64 x.oi) (run_load1 (fun w => Tryz.isAgg3 w) ky (((h3.get 0 rfl).cell 7).trans rfl)) ?_
  refine zu (.bool false) (run_ltZ (k := .i64) (a := x.oi) (b := (0 : Int)) ky ky false (decide_eq_false (by omega))) ?_
  refine zv (.bool false) ?_
  refine zv (.bool false) ?_
  refine zv (.pointer (some ⟨q1, 7, none⟩)) ?_
  refine zu (.int .i64 x.oi) (run_load1 (fun w => Tryz.isAgg3 w) ky (((h3.get 0 rfl).cell 7).trans rfl)) ?_
  refine zu (.bool false) (run_gtZ (k := .i64) (a := x.oi) (b := (1073741824 : Int)) ky ky false (decide_eq_false (by omega))) ?_
  refine zv (.bool false) ?_
  refine wl_nil (then_at rfl ?_)
  refine wp_cond_false ky ?_
  refine wp_skip (then_at rfl (wp_seq (wl_region ?_)))
  refine zv (.pointer (some ⟨q1, 2, none⟩)) ?_
  refine zu (.string x.sg) (run_load1 (fun w => Tryz.isAgg9 w) ky (((h3.get 0 rfl).cell 2).trans rfl)) ?_
  refine wl_call (v := .bool true) h3 ky enter86 #[.string x.sg] ky (rword_any _ j_sg) ?_
  intro w4 h5
  refine zv (.bool true) ?_
  refine zv (.pointer (some ⟨q1, 3, none⟩)) ?_
  refine zu (.string x.dh) (run_load1 (fun w => Tryz.isAgg9 w) ky (((h5.get 0 rfl).cell 3).trans rfl)) ?_
  refine wl_call (v := .bool false) h5 ky enter86 #[.string x.dh] ky (rword_any _ j_dh) ?_
  intro w6 h7
  refine zv (.bool false) ?_
  refine zv (.bool false) ?_
  refine wl_skip ky ?_
  refine wl_skip ky ?_
  refine wl_skip ky ?_
  refine zv (.bool false) ?_
  refine zv (.bool false) ?_
  refine wl_skip ky ?_
  refine wl_skip ky ?_
  refine wl_skip ky ?_
  refine zv (.bool false) ?_
  refine zv (.bool false) ?_
  refine wl_skip ky ?_
  refine wl_skip ky ?_
  refine wl_skip ky ?_
  refine wl_skip ky ?_
  refine wl_skip ky ?_
  refine wl_skip ky ?_
  refine wl_skip ky ?_
  refine wl_skip ky ?_
  refine wl_skip ky ?_
  refine wl_skip ky ?_
  refine wl_skip ky ?_
  refine wl_skip ky ?_
  refine wl_skip ky ?_
  refine wl_skip ky ?_
  refine wl_skip ky ?_
  refine wl_skip ky ?_
  refine wl_skip ky ?_
  refine wl_skip ky ?_
  refine zv (.bool false) ?_
  refine zv (.bool false) ?_
  refine wl_nil (then_at rfl ?_)
  refine wp_ret ?_
  repeat first | refine then_ret ?_ | refine block_ret ?_
  exact bodyPost_ret (v := .bool false) ky rfl ⟨rfl, h7.old.old⟩
set_option maxRecDepth 100000 in
set_option maxHeartbeats 2000000 in
theorem rm_10 {w : World} {x : Bu} (i0 : ¬ x.u < 0) (i1 : ¬ 3 ≤ x.u) (i2 : ¬ x.d < 0) (i3 : ¬ 2 ≤ x.d) (i4 : ¬ x.pi < 1) (i5 : ¬ 1073741824 < x.pi) (i6 : ¬ x.oi < 0) (i7 : ¬ 1073741824 < x.oi) (j_sg : wo x.sg = true) (j_dh : wo x.dh = true) (j_pr : wo x.pr = false) :
    Calls Tryz.prog 41 #[.agg (buC x)] w fun e w' => e = .returned (.bool false) ∧ Below w.heap.size w w' := by
  have H0 := HA.start w
  go_enter Tryz.func41, Tryz.ntmps41
  refine wp_seq (wl_region ?_)
  refine wl_make (c := buC x) H0 23 ky ky ?_
  intro q1 w2 (h3 : HA (bs w) [(q1, 23, buC x)] w2)
  refine zv (.bool false) ?_
  refine wl_nil (then_at rfl (wp_seq (wp_seq (wl_region ?_))))
  refine zv (.pointer (some ⟨q1, 0, none⟩)) ?_
  refine zu (.int .i64 x.u) (run_load1 (fun w => Tryz.isAgg3 w) ky (((h3.get 0 rfl).cell 0).trans rfl)) ?_
  refine zu (.bool false) (run_ltZ (k := .i64) (a := x.u) (b := (0 : Int)) ky ky false (decide_eq_false (by omega))) ?_
  refine zv (.bool false) ?_
  refine zv (.pointer (some ⟨q1, 0, none⟩)) ?_
  refine zu (.int .i64 x.u) (run_load1 (fun w => Tryz.isAgg3 w) ky (((h3.get 0 rfl).cell 0).trans rfl)) ?_
  refine zu (.bool false) (run_geZ (k := .i64) (a := x.u) (b := (3 : Int)) ky ky false (decide_eq_false (by omega))) ?_
  refine zv (.bool false) ?_
  refine zv (.bool false) ?_
  refine zv (.pointer (some ⟨q1, 1, none⟩)) ?_
  refine zu (.int .i64 x.d) (run_load1 (fun w => Tryz.isAgg3 w) ky (((h3.get 0 rfl).cell 1).trans rfl)) ?_
  refine zu (.bool false) (run_ltZ (k := .i64) (a := x.d) (b := (0 : Int)) ky ky false (decide_eq_false (by omega))) ?_
  refine zv (.bool false) ?_
  refine zv (.bool false) ?_
  refine zv (.pointer (some ⟨q1, 1, none⟩)) ?_
  refine zu (.int .i64 x.d) (run_load1 (fun w => Tryz.isAgg3 w) ky (((h3.get 0 rfl).cell 1).trans rfl)) ?_
  refine zu (.bool false) (run_geZ (k := .i64) (a := x.d) (b := (2 : Int)) ky ky false (decide_eq_false (by omega))) ?_
  refine zv (.bool false) ?_
  refine zv (.bool false) ?_
  refine zv (.pointer (some ⟨q1, 4, none⟩)) ?_
  refine zu (.int .i64 x.pi) (run_load1 (fun w => Tryz.isAgg3 w) ky (((h3.get 0 rfl).cell 4).trans rfl)) ?_
  refine zu (.bool false) (run_ltZ (k := .i64) (a := x.pi) (b := (1 : Int)) ky ky false (decide_eq_false (by omega))) ?_
  refine zv (.bool false) ?_
  refine zv (.bool false) ?_
  refine zv (.pointer (some ⟨q1, 4, none⟩)) ?_
  refine zu (.int .i64 x.pi) (run_load1 (fun w => Tryz.isAgg3 w) ky (((h3.get 0 rfl).cell 4).trans rfl)) ?_
  refine zu (.bool false) (run_gtZ (k := .i64) (a := x.pi) (b := (1073741824 : Int)) ky ky false (decide_eq_false (by omega))) ?_
  refine zv (.bool false) ?_
  refine zv (.bool false) ?_
  refine zv (.pointer (some ⟨q1, 7, none⟩)) ?_
  refine zu (.int .i64 x.oi) (run_load1 (fun w => Tryz.isAgg3 w) ky (((h3.get 0 rfl).cell 7).trans rfl)) ?_
  refine zu (.bool false) (run_ltZ (k := .i64) (a := x.oi) (b := (0 : Int)) ky ky false (decide_eq_false (by omega))) ?_
  refine zv (.bool false) ?_
  refine zv (.bool false) ?_
  refine zv (.pointer (some ⟨q1, 7, none⟩)) ?_
  refine zu (.int .i64 x.oi) (run_load1 (fun w => Tryz.isAgg3 w) ky (((h3.get 0 rfl).cell 7).trans rfl)) ?_
  refine zu (.bool false) (run_gtZ (k := .i64) (a := x.oi) (b := (1073741824 : Int)) ky ky false (decide_eq_false (by omega))) ?_
  refine zv (.bool false) ?_
  refine wl_nil (then_at rfl ?_)
  refine wp_cond_false ky ?_
  refine wp_skip (then_at rfl (wp_seq (wl_region ?_)))
  refine zv (.pointer (some ⟨q1, 2, none⟩)) ?_
  refine zu (.string x.sg) (run_load1 (fun w => Tryz.isAgg9 w) ky (((h3.get 0 rfl).cell 2).trans rfl)) ?_
  refine wl_call (v := .bool true) h3 ky enter86 #[.string x.sg] ky (rword_any _ j_sg) ?_
  intro w4 h5
  refine zv (.bool true) ?_
  refine zv (.pointer (some ⟨q1, 3, none⟩)) ?_
  refine zu (.string x.dh) (run_load1 (fun w => Tryz.isAgg9 w) ky (((h5.get 0 rfl).cell 3).trans rfl)) ?_
  refine wl_call (v := .bool true) h5 ky enter86 #[.string x.dh] ky (rword_any _ j_dh) ?_
  intro w6 h7
  refine zv (.bool true) ?_
  refine zv (.bool true) ?_
  refine zv (.pointer (some ⟨q1, 5, none⟩)) ?_
  refine zu (.string x.pr) (run_load1 (fun w => Tryz.isAgg9 w) ky (((h7.get 0 rfl).cell 5).trans rfl)) ?_
  refine wl_call (v := .bool false) h7 ky enter86 #[.string x.pr] ky (rword_any _ j_pr) ?_
  intro w8 h9
  refine zv (.bool false) ?_
  refine zv (.bool false) ?_
  refine wl_skip ky ?_
  refine wl_skip ky ?_
  refine wl_skip ky ?_
  refine zv (.bool false) ?_
  refine zv (.bool false) ?_
  refine wl_skip ky ?_
  refine wl_skip ky ?_
  refine wl_skip ky ?_
  refine wl_skip ky ?_
  refine wl_skip ky ?_
  refine wl_skip ky ?_
  refine wl_skip ky ?_
  refine wl_skip ky ?_
  refine wl_skip ky ?_
  refine wl_skip ky ?_
  refine wl_skip ky ?_
  refine wl_skip ky ?_
  refine wl_skip ky ?_
  refine wl_skip ky ?_
  refine wl_skip ky ?_
  refine wl_skip ky ?_
  refine wl_skip ky ?_
  refine wl_skip ky ?_
  refine zv (.bool false) ?_
  refine zv (.bool false) ?_
  refine wl_nil (then_at rfl ?_)
  refine wp_ret ?_
  repeat first | refine then_ret ?_ | refine block_ret ?_
  exact bodyPost_ret (v := .bool false) ky rfl ⟨rfl, h9.old.old⟩
set_option maxRecDepth 100000 in
set_option maxHeartbeats 2000000 in
theorem rm_11 {w : World} {x : Bu} (i0 : ¬ x.u < 0) (i1 : ¬ 3 ≤ x.u) (i2 : ¬ x.d < 0) (i3 : ¬ 2 ≤ x.d) (i4 : ¬ x.pi < 1) (i5 : ¬ 1073741824 < x.pi) (i6 : ¬ x.oi < 0) (i7 : ¬ 1073741824 < x.oi) (j_sg : wo x.sg = true) (j_dh : wo x.dh = true) (j_pr : wo x.pr = true) (j_ps : wo x.ps = false) :
    Calls Tryz.prog 41 #[.agg (buC x)] w fun e w' => e = .returned (.bool false) ∧ Below w.heap.size w w' := by
  have H0 := HA.start w
  go_enter Tryz.func41, Tryz.ntmps41
  refine wp_seq (wl_region ?_)
  refine wl_make (c := buC x) H0 23 ky ky ?_
  intro q1 w2 (h3 : HA (bs w) [(q1, 23, buC x)] w2)
  refine zv (.bool false) ?_
  refine wl_nil (then_at rfl (wp_seq (wp_seq (wl_region ?_))))
  refine zv (.pointer (some ⟨q1, 0, none⟩)) ?_
  refine zu (.int .i64 x.u) (run_load1 (fun w => Tryz.isAgg3 w) ky (((h3.get 0 rfl).cell 0).trans rfl)) ?_
  refine zu (.bool false) (run_ltZ (k := .i64) (a := x.u) (b := (0 : Int)) ky ky false (decide_eq_false (by omega))) ?_
  refine zv (.bool false) ?_
  refine zv (.pointer (some ⟨q1, 0, none⟩)) ?_
  refine zu (.int .i64 x.u) (run_load1 (fun w => Tryz.isAgg3 w) ky (((h3.get 0 rfl).cell 0).trans rfl)) ?_
  refine zu (.bool false) (run_geZ (k := .i64) (a := x.u) (b := (3 : Int)) ky ky false (decide_eq_false (by omega))) ?_
  refine zv (.bool false) ?_
  refine zv (.bool false) ?_
  refine zv (.pointer (some ⟨q1, 1, none⟩)) ?_
  refine zu (.int .i64 x.d) (run_load1 (fun w => Tryz.isAgg3 w) ky (((h3.get 0 rfl).cell 1).trans rfl)) ?_
  refine zu (.bool false) (run_ltZ (k := .i64) (a := x.d) (b := (0 : Int)) ky ky false (decide_eq_false (by omega))) ?_
  refine zv (.bool false) ?_
  refine zv (.bool false) ?_
  refine zv (.pointer (some ⟨q1, 1, none⟩)) ?_
  refine zu (.int .i64 x.d) (run_load1 (fun w => Tryz.isAgg3 w) ky (((h3.get 0 rfl).cell 1).trans rfl)) ?_
  refine zu (.bool false) (run_geZ (k := .i64) (a := x.d) (b := (2 : Int)) ky ky false (decide_eq_false (by omega))) ?_
  refine zv (.bool false) ?_
  refine zv (.bool false) ?_
  refine zv (.pointer (some ⟨q1, 4, none⟩)) ?_
  refine zu (.int .i64 x.pi) (run_load1 (fun w => Tryz.isAgg3 w) ky (((h3.get 0 rfl).cell 4).trans rfl)) ?_
  refine zu (.bool false) (run_ltZ (k := .i64) (a := x.pi) (b := (1 : Int)) ky ky false (decide_eq_false (by omega))) ?_
  refine zv (.bool false) ?_
  refine zv (.bool false) ?_
  refine zv (.pointer (some ⟨q1, 4, none⟩)) ?_
  refine zu (.int .i64 x.pi) (run_load1 (fun w => Tryz.isAgg3 w) ky (((h3.get 0 rfl).cell 4).trans rfl)) ?_
  refine zu (.bool false) (run_gtZ (k := .i64) (a := x.pi) (b := (1073741824 : Int)) ky ky false (decide_eq_false (by omega))) ?_
  refine zv (.bool false) ?_
  refine zv (.bool false) ?_
  refine zv (.pointer (some ⟨q1, 7, none⟩)) ?_
  refine zu (.int .i64 x.oi) (run_load1 (fun w => Tryz.isAgg3 w) ky (((h3.get 0 rfl).cell 7).trans rfl)) ?_
  refine zu (.bool false) (run_ltZ (k := .i64) (a := x.oi) (b := (0 : Int)) ky ky false (decide_eq_false (by omega))) ?_
  refine zv (.bool false) ?_
  refine zv (.bool false) ?_
  refine zv (.pointer (some ⟨q1, 7, none⟩)) ?_
  refine zu (.int .i64 x.oi) (run_load1 (fun w => Tryz.isAgg3 w) ky (((h3.get 0 rfl).cell 7).trans rfl)) ?_
  refine zu (.bool false) (run_gtZ (k := .i64) (a := x.oi) (b := (1073741824 : Int)) ky ky false (decide_eq_false (by omega))) ?_
  refine zv (.bool false) ?_
  refine wl_nil (then_at rfl ?_)
  refine wp_cond_false ky ?_
  refine wp_skip (then_at rfl (wp_seq (wl_region ?_)))
  refine zv (.pointer (some ⟨q1, 2, none⟩)) ?_
  refine zu (.string x.sg) (run_load1 (fun w => Tryz.isAgg9 w) ky (((h3.get 0 rfl).cell 2).trans rfl)) ?_
  refine wl_call (v := .bool true) h3 ky enter86 #[.string x.sg] ky (rword_any _ j_sg) ?_
  intro w4 h5
  refine zv (.bool true) ?_
  refine zv (.pointer (some ⟨q1, 3, none⟩)) ?_
  refine zu (.string x.dh) (run_load1 (fun w => Tryz.isAgg9 w) ky (((h5.get 0 rfl).cell 3).trans rfl)) ?_
  refine wl_call (v := .bool true) h5 ky enter86 #[.string x.dh] ky (rword_any _ j_dh) ?_
  intro w6 h7
  refine zv (.bool true) ?_
  refine zv (.bool true) ?_
  refine zv (.pointer (some ⟨q1, 5, none⟩)) ?_
  refine zu (.string x.pr) (run_load1 (fun w => Tryz.isAgg9 w) ky (((h7.get 0 rfl).cell 5).trans rfl)) ?_
  refine wl_call (v := .bool true) h7 ky enter86 #[.string x.pr] ky (rword_any _ j_pr) ?_
  intro w8 h9
  refine zv (.bool true) ?_
  refine zv (.bool true) ?_
  refine zv (.pointer (some ⟨q1, 6, none⟩)) ?_
  refine zu (.string x.ps) (run_load1 (fun w => Tryz.isAgg9 w) ky (((h9.get 0 rfl).cell 6).trans rfl)) ?_
  refine wl_call (v := .bool false) h9 ky enter86 #[.string x.ps] ky (rword_any _ j_ps) ?_
  intro w10 h11
  refine zv (.bool false) ?_
  refine zv (.bool false) ?_
  refine wl_skip ky ?_
  refine wl_skip ky ?_
  refine wl_skip ky ?_
  refine wl_skip ky ?_
  refine wl_skip ky ?_
  refine wl_skip ky ?_
  refine wl_skip ky ?_
  refine wl_skip ky ?_
  refine wl_skip ky ?_
  refine wl_skip ky ?_
  refine wl_skip ky ?_
  refine wl_skip ky ?_
  refine wl_skip ky ?_
  refine wl_skip ky ?_
  refine wl_skip ky ?_
  refine wl_skip ky ?_
  refine wl_skip ky ?_
  refine wl_skip ky ?_
  refine zv (.bool false) ?_
  refine zv (.bool false) ?_
  refine wl_nil (then_at rfl ?_)
  refine wp_ret ?_
  repeat first | refine then_ret ?_ | refine block_ret ?_
  exact bodyPost_ret (v := .bool false) ky rfl ⟨rfl, h11.old.old⟩
set_option maxRecDepth 100000 in
set_option maxHeartbeats 2000000 in
theorem rm_12 {w : World} {x : Bu} (i0 : ¬ x.u < 0) (i1 : ¬ 3 ≤ x.u) (i2 : ¬ x.d < 0) (i3 : ¬ 2 ≤ x.d) (i4 : ¬ x.pi < 1) (i5 : ¬ 1073741824 < x.pi) (i6 : ¬ x.oi < 0) (i7 : ¬ 1073741824 < x.oi) (j_sg : wo x.sg = true) (j_dh : wo x.dh = true) (j_pr : wo x.pr = true) (j_ps : wo x.ps = true) (e0 : x.oi = 0) (e1 : x.on = { data := #[] }) :
    Calls Tryz.prog 41 #[.agg (buC x)] w fun e w' => e = .returned (.bool true) ∧ Below w.heap.size w w' := by
  have H0 := HA.start w
  go_enter Tryz.func41, Tryz.ntmps41
  refine wp_seq (wl_region ?_)
  refine wl_make (c := buC x) H0 23 ky ky ?_
  intro q1 w2 (h3 : HA (bs w) [(q1, 23, buC x)] w2)
  refine zv (.bool false) ?_
  refine wl_nil (then_at rfl (wp_seq (wp_seq (wl_region ?_))))
  refine zv (.pointer (some ⟨q1, 0, none⟩)) ?_
  refine zu (.int .i64 x.u) (run_load1 (fun w => Tryz.isAgg3 w) ky (((h3.get 0 rfl).cell 0).trans rfl)) ?_
  refine zu (.bool false) (run_ltZ (k := .i64) (a := x.u) (b := (0 : Int)) ky ky false (decide_eq_false (by omega))) ?_
  refine zv (.bool false) ?_
  refine zv (.pointer (some ⟨q1, 0, none⟩)) ?_
  refine zu (.int .i64 x.u) (run_load1 (fun w => Tryz.isAgg3 w) ky (((h3.get 0 rfl).cell 0).trans rfl)) ?_
  refine zu (.bool false) (run_geZ (k := .i64) (a := x.u) (b := (3 : Int)) ky ky false (decide_eq_false (by omega))) ?_
  refine zv (.bool false) ?_
  refine zv (.bool false) ?_
  refine zv (.pointer (some ⟨q1, 1, none⟩)) ?_
  refine zu (.int .i64 x.d) (run_load1 (fun w => Tryz.isAgg3 w) ky (((h3.get 0 rfl).cell 1).trans rfl)) ?_
  refine zu (.bool false) (run_ltZ (k := .i64) (a := x.d) (b := (0 : Int)) ky ky false (decide_eq_false (by omega))) ?_
  refine zv (.bool false) ?_
  refine zv (.bool false) ?_
  refine zv (.pointer (some ⟨q1, 1, none⟩)) ?_
  refine zu (.int .i64 x.d) (run_load1 (fun w => Tryz.isAgg3 w) ky (((h3.get 0 rfl).cell 1).trans rfl)) ?_
  refine zu (.bool false) (run_geZ (k := .i64) (a := x.d) (b := (2 : Int)) ky ky false (decide_eq_false (by omega))) ?_
  refine zv (.bool false) ?_
  refine zv (.bool false) ?_
  refine zv (.pointer (some ⟨q1, 4, none⟩)) ?_
  refine zu (.int .i64 x.pi) (run_load1 (fun w => Tryz.isAgg3 w) ky (((h3.get 0 rfl).cell 4).trans rfl)) ?_
  refine zu (.bool false) (run_ltZ (k := .i64) (a := x.pi) (b := (1 : Int)) ky ky false (decide_eq_false (by omega))) ?_
  refine zv (.bool false) ?_
  refine zv (.bool false) ?_
  refine zv (.pointer (some ⟨q1, 4, none⟩)) ?_
  refine zu (.int .i64 x.pi) (run_load1 (fun w => Tryz.isAgg3 w) ky (((h3.get 0 rfl).cell 4).trans rfl)) ?_
  refine zu (.bool false) (run_gtZ (k := .i64) (a := x.pi) (b := (1073741824 : Int)) ky ky false (decide_eq_false (by omega))) ?_
  refine zv (.bool false) ?_
  refine zv (.bool false) ?_
  refine zv (.pointer (some ⟨q1, 7, none⟩)) ?_
  refine zu (.int .i64 x.oi) (run_load1 (fun w => Tryz.isAgg3 w) ky (((h3.get 0 rfl).cell 7).trans rfl)) ?_
  refine zu (.bool false) (run_ltZ (k := .i64) (a := x.oi) (b := (0 : Int)) ky ky false (decide_eq_false (by omega))) ?_
  refine zv (.bool false) ?_
  refine zv (.bool false) ?_
  refine zv (.pointer (some ⟨q1, 7, none⟩)) ?_
  refine zu (.int .i64 x.oi) (run_load1 (fun w => Tryz.isAgg3 w) ky (((h3.get 0 rfl).cell 7).trans rfl)) ?_
  refine zu (.bool false) (run_gtZ (k := .i64) (a := x.oi) (b := (1073741824 : Int)) ky ky false (decide_eq_false (by omega))) ?_
  refine zv (.bool false) ?_
  refine wl_nil (then_at rfl ?_)
  refine wp_cond_false ky ?_
  refine wp_skip (then_at rfl (wp_seq (wl_region ?_)))
  refine zv (.pointer (some ⟨q1, 2, none⟩)) ?_
  refine zu (.string x.sg) (run_load1 (fun w => Tryz.isAgg9 w) ky (((h3.get 0 rfl).cell 2).trans rfl)) ?_
  refine wl_call (v := .bool true) h3 ky enter86 #[.string x.sg] ky (rword_any _ j_sg) ?_
  intro w4 h5
  refine zv (.bool true) ?_
  refine zv (.pointer (some ⟨q1, 3, none⟩)) ?_
  refine zu (.string x.dh) (run_load1 (fun w => Tryz.isAgg9 w) ky (((h5.get 0 rfl).cell 3).trans rfl)) ?_
  refine wl_call (v := .bool true) h5 ky enter86 #[.string x.dh] ky (rword_any _ j_dh) ?_
  intro w6 h7
  refine zv (.bool true) ?_
  refine zv (.bool true) ?_
  refine zv (.pointer (some ⟨q1, 5, none⟩)) ?_
  refine zu (.string x.pr) (run_load1 (fun w => Tryz.isAgg9 w) ky (((h7.get 0 rfl).cell 5).trans rfl)) ?_
  refine wl_call (v := .bool true) h7 ky enter86 #[.string x.pr] ky (rword_any _ j_pr) ?_
  intro w8 h9
  refine zv (.bool true) ?_
  refine zv (.bool true) ?_
  refine zv (.pointer (some ⟨q1, 6, none⟩)) ?_
  refine zu (.string x.ps) (run_load1 (fun w => Tryz.isAgg9 w) ky (((h9.get 0 rfl).cell 6).trans rfl)) ?_
  refine wl_call (v := .bool true) h9 ky enter86 #[.string x.ps] ky (rword_any _ j_ps) ?_
  intro w10 h11
  refine zv (.bool true) ?_
  refine zv (.bool true) ?_
  refine zv (.pointer (some ⟨q1, 7, none⟩)) ?_
  refine zu (.int .i64 x.oi) (run_load1 (fun w => Tryz.isAgg3 w) ky (((h11.get 0 rfl).cell 7).trans rfl)) ?_
  refine zu (.bool true) (run_eqZ (k := .i64) (a := x.oi) (b := (0 : Int)) ky ky true (decide_eq_true e0)) ?_
  refine zv (.bool true) ?_
  refine zv (.pointer (some ⟨q1, 8, none⟩)) ?_
  refine zu (.string x.on) (run_load1 (fun w => Tryz.isAgg9 w) ky (((h11.get 0 rfl).cell 8).trans rfl)) ?_
  refine zu (.bool true) (run_eqs (s := x.on) (t := { data := #[] }) ky ky true (decide_eq_true e1)) ?_
  refine zv (.bool true) ?_
  refine zv (.bool true) ?_
  refine wl_skip ky ?_
  refine wl_skip ky ?_
  refine wl_skip ky ?_
  refine wl_skip ky ?_
  refine wl_skip ky ?_
  refine wl_skip ky ?_
  refine wl_skip ky ?_
  refine wl_skip ky ?_
  refine zv (.bool true) ?_
  refine zv (.bool true) ?_
  refine zv (.bool true) ?_
  refine wl_nil (then_at rfl ?_)
  refine wp_ret ?_
  repeat first | refine then_ret ?_ | refine block_ret ?_
  exact bodyPost_ret (v := .bool true) ky rfl ⟨rfl, h11.old.old⟩
set_option maxRecDepth 100000 in
set_option maxHeartbeats 2000000 in
theorem rm_13 {w : World} {x : Bu} (i0 : ¬ x.u < 0) (i1 : ¬ 3 ≤ x.u) (i2 : ¬ x.d < 0) (i3 : ¬ 2 ≤ x.d) (i4 : ¬ x.pi < 1) (i5 : ¬ 1073741824 < x.pi) (i6 : ¬ x.oi < 0) (i7 : ¬ 1073741824 < x.oi) (j_sg : wo x.sg = true) (j_dh : wo x.dh = true) (j_pr : wo x.pr = true) (j_ps : wo x.ps = true) (e0 : x.oi = 0) (e1 : ¬ x.on = { data := #[] }) :
    Calls Tryz.prog 41 #[.agg (buC x)] w fun e w' => e = .returned (.bool false) ∧ Below w.heap.size w w' := by
  have H0 := HA.start w
  go_enter Tryz.func41, Tryz.ntmps41
  refine wp_seq (wl_region ?_)
  refine wl_make (c := buC x) H0 23 ky ky ?_
  intro q1 w2 (h3 : HA (bs w) [(q1, 23, buC x)] w2)
  refine zv (.bool false) ?_
  refine wl_nil (then_at rfl (wp_seq (wp_seq (wl_region ?_))))
  refine zv (.pointer (some ⟨q1, 0, none⟩)) ?_
  refine zu (.int .i64 x.u) (run_load1 (fun w => Tryz.isAgg3 w) ky (((h3.get 0 rfl).cell 0).trans rfl)) ?_
  refine zu (.bool false) (run_ltZ (k := .i64) (a := x.u) (b := (0 : Int)) ky ky false (decide_eq_false (by omega))) ?_
  refine zv (.bool false) ?_
  refine zv (.pointer (some ⟨q1, 0, none⟩)) ?_
  refine zu (.int .i64 x.u) (run_load1 (fun w => Tryz.isAgg3 w) ky (((h3.get 0 rfl).cell 0).trans rfl)) ?_
  refine zu (.bool false) (run_geZ (k := .i64) (a := x.u) (b := (3 : Int)) ky ky false (decide_eq_false (by omega))) ?_
  refine zv (.bool false) ?_
  refine zv (.bool false) ?_
  refine zv (.pointer (some ⟨q1, 1, none⟩)) ?_
  refine zu (.int .i64 x.d) (run_load1 (fun w => Tryz.isAgg3 w) ky (((h3.get 0 rfl).cell 1).trans rfl)) ?_
  refine zu (.bool false) (run_ltZ (k := .i64) (a := x.d) (b := (0 : Int)) ky ky false (decide_eq_false (by omega))) ?_
  refine zv (.bool false) ?_
  refine zv (.bool false) ?_
  refine zv (.pointer (some ⟨q1, 1, none⟩)) ?_
  refine zu (.int .i64 x.d) (run_load1 (fun w => Tryz.isAgg3 w) ky (((h3.get 0 rfl).cell 1).trans rfl)) ?_
  refine zu (.bool false) (run_geZ (k := .i64) (a := x.d) (b := (2 : Int)) ky ky false (decide_eq_false (by omega))) ?_
  refine zv (.bool false) ?_
  refine zv (.bool false) ?_
  refine zv (.pointer (some ⟨q1, 4, none⟩)) ?_
  refine zu (.int .i64 x.pi) (run_load1 (fun w => Tryz.isAgg3 w) ky (((h3.get 0 rfl).cell 4).trans rfl)) ?_
  refine zu (.bool false) (run_ltZ (k := .i64) (a := x.pi) (b := (1 : Int)) ky ky false (decide_eq_false (by omega))) ?_
  refine zv (.bool false) ?_
  refine zv (.bool false) ?_
  refine zv (.pointer (some ⟨q1, 4, none⟩)) ?_
  refine zu (.int .i64 x.pi) (run_load1 (fun w => Tryz.isAgg3 w) ky (((h3.get 0 rfl).cell 4).trans rfl)) ?_
  refine zu (.bool false) (run_gtZ (k := .i64) (a := x.pi) (b := (1073741824 : Int)) ky ky false (decide_eq_false (by omega))) ?_
  refine zv (.bool false) ?_
  refine zv (.bool false) ?_
  refine zv (.pointer (some ⟨q1, 7, none⟩)) ?_
  refine zu (.int .i64 x.oi) (run_load1 (fun w => Tryz.isAgg3 w) ky (((h3.get 0 rfl).cell 7).trans rfl)) ?_
  refine zu (.bool false) (run_ltZ (k := .i64) (a := x.oi) (b := (0 : Int)) ky ky false (decide_eq_false (by omega))) ?_
  refine zv (.bool false) ?_
  refine zv (.bool false) ?_
  refine zv (.pointer (some ⟨q1, 7, none⟩)) ?_
  refine zu (.int .i64 x.oi) (run_load1 (fun w => Tryz.isAgg3 w) ky (((h3.get 0 rfl).cell 7).trans rfl)) ?_
  refine zu (.bool false) (run_gtZ (k := .i64) (a := x.oi) (b := (1073741824 : Int)) ky ky false (decide_eq_false (by omega))) ?_
  refine zv (.bool false) ?_
  refine wl_nil (then_at rfl ?_)
  refine wp_cond_false ky ?_
  refine wp_skip (then_at rfl (wp_seq (wl_region ?_)))
  refine zv (.pointer (some ⟨q1, 2, none⟩)) ?_
  refine zu (.string x.sg) (run_load1 (fun w => Tryz.isAgg9 w) ky (((h3.get 0 rfl).cell 2).trans rfl)) ?_
  refine wl_call (v := .bool true) h3 ky enter86 #[.string x.sg] ky (rword_any _ j_sg) ?_
  intro w4 h5
  refine zv (.bool true) ?_
  refine zv (.pointer (some ⟨q1, 3, none⟩)) ?_
  refine zu (.string x.dh) (run_load1 (fun w => Tryz.isAgg9 w) ky (((h5.get 0 rfl).cell 3).trans rfl)) ?_
  refine wl_call (v := .bool true) h5 ky enter86 #[.string x.dh] ky (rword_any _ j_dh) ?_
  intro w6 h7
  refine zv (.bool true) ?_
  refine zv (.bool true) ?_
  refine zv (.pointer (some ⟨q1, 5, none⟩)) ?_
  refine zu (.string x.pr) (run_load1 (fun w => Tryz.isAgg9 w) ky (((h7.get 0 rfl).cell 5).trans rfl)) ?_
  refine wl_call (v := .bool true) h7 ky enter86 #[.string x.pr] ky (rword_any _ j_pr) ?_
  intro w8 h9
  refine zv (.bool true) ?_
  refine zv (.bool true) ?_
  refine zv (.pointer (some ⟨q1, 6, none⟩)) ?_
  refine zu (.string x.ps) (run_load1 (fun w => Tryz.isAgg9 w) ky (((h9.get 0 rfl).cell 6).trans rfl)) ?_
  refine wl_call (v := .bool true) h9 ky enter86 #[.string x.ps] ky (rword_any _ j_ps) ?_
  intro w10 h11
  refine zv (.bool true) ?_
  refine zv (.bool true) ?_
  refine zv (.pointer (some ⟨q1, 7, none⟩)) ?_
  refine zu (.int .i64 x.oi) (run_load1 (fun w => Tryz.isAgg3 w) ky (((h11.get 0 rfl).cell 7).trans rfl)) ?_
  refine zu (.bool true) (run_eqZ (k := .i64) (a := x.oi) (b := (0 : Int)) ky ky true (decide_eq_true e0)) ?_
  refine zv (.bool true) ?_
  refine zv (.pointer (some ⟨q1, 8, none⟩)) ?_
  refine zu (.string x.on) (run_load1 (fun w => Tryz.isAgg9 w) ky (((h11.get 0 rfl).cell 8).trans rfl)) ?_
  refine zu (.bool false) (run_eqs (s := x.on) (t := { data := #[] }) ky ky false (decide_eq_false e1)) ?_
  refine zv (.bool false) ?_
  refine zv (.bool false) ?_
  refine zv (.pointer (some ⟨q1, 7, none⟩)) ?_
  refine zu (.int .i64 x.oi) (run_load1 (fun w => Tryz.isAgg3 w) ky (((h11.get 0 rfl).cell 7).trans rfl)) ?_
  refine zu (.bool false) (run_gtZ (k := .i64) (a := x.oi) (b := (0 : Int)) ky ky false (decide_eq_false (by omega))) ?_
  refine zv (.bool false) ?_
  refine wl_skip ky ?_
  refine wl_skip ky ?_
  refine wl_skip ky ?_
  refine zv (.bool false) ?_
  refine zv (.bool false) ?_
  refine zv (.bool false) ?_
  refine zv (.bool false) ?_
  refine wl_nil (then_at rfl ?_)
  refine wp_ret ?_
  repeat first | refine then_ret ?_ | refine block_ret ?_
  exact bodyPost_ret (v := .bool false) ky rfl ⟨rfl, h11.old.old⟩
set_option maxRecDepth 100000 in
set_option maxHeartbeats 2000000 in
theorem rm_14 {w : World} {x : Bu} (i0 : ¬ x.u < 0) (i1 : ¬ 3 ≤ x.u) (i2 : ¬ x.d < 0) (i3 : ¬ 2 ≤ x.d) (i4 : ¬ x.pi < 1) (i5 : ¬ 1073741824 < x.pi) (i6 : ¬ x.oi < 0) (i7 : ¬ 1073741824 < x.oi) (j_sg : wo x.sg = true) (j_dh : wo x.dh = true) (j_pr : wo x.pr = true) (j_ps : wo x.ps = true) (e0 : ¬ x.oi = 0) (j_on : wo x.on = false) :
    Calls Tryz.prog 41 #[.agg (buC x)] w fun e w' => e = .returned (.bool false) ∧ Below w.heap.size w w' := by
  have H0 := HA.start w
  go_enter Tryz.func41, Tryz.ntmps41
  refine wp_seq (wl_region ?_)
  refine wl_make (c := buC x) H0 23 ky ky ?_
  intro q1 w2 (h3 : HA (bs w) [(q1, 23, buC x)] w2)
  refine zv (.bool false) ?_
  refine wl_nil (then_at rfl (wp_seq (wp_seq (wl_region ?_))))
  refine zv (.pointer (some ⟨q1, 0, none⟩)) ?_
  refine zu (.int .i64 x.u) (run_load1 (fun w => Tryz.isAgg3 w) ky (((h3.get 0 rfl).cell 0).trans rfl)) ?_
  refine zu (.bool false) (run_ltZ (k := .i64) (a := x.u) (b := (0 : Int)) ky ky false (decide_eq_false (by omega))) ?_
  refine zv (.bool false) ?_
  refine zv (.pointer (some ⟨q1, 0, none⟩)) ?_
  refine zu (.int .i64 x.u) (run_load1 (fun w => Tryz.isAgg3 w) ky (((h3.get 0 rfl).cell 0).trans rfl)) ?_
  refine zu (.bool false) (run_geZ (k := .i64) (a := x.u) (b := (3 : Int)) ky ky false (decide_eq_false (by omega))) ?_
  refine zv (.bool false) ?_
  refine zv (.bool false) ?_
  refine zv (.pointer (some ⟨q1, 1, none⟩)) ?_
  refine zu (.int .i64 x.d) (run_load1 (fun w => Tryz.isAgg3 w) ky (((h3.get 0 rfl).cell 1).trans rfl)) ?_
  refine zu (.bool false) (run_ltZ (k := .i64) (a := x.d) (b := (0 : Int)) ky ky false (decide_eq_false (by omega))) ?_
  refine zv (.bool false) ?_
  refine zv (.bool false) ?_
  refine zv (.pointer (some ⟨q1, 1, none⟩)) ?_
  refine zu (.int .i64 x.d) (run_load1 (fun w => Tryz.isAgg3 w) ky (((h3.get 0 rfl).cell 1).trans rfl)) ?_
  refine zu (.bool false) (run_geZ (k := .i64) (a := x.d) (b := (2 : Int)) ky ky false (decide_eq_false (by omega))) ?_
  refine zv (.bool false) ?_
  refine zv (.bool false) ?_
  refine zv (.pointer (some ⟨q1, 4, none⟩)) ?_
  refine zu (.int .i64 x.pi) (run_load1 (fun w => Tryz.isAgg3 w) ky (((h3.get 0 rfl).cell 4).trans rfl)) ?_
  refine zu (.bool false) (run_ltZ (k := .i64) (a := x.pi) (b := (1 : Int)) ky ky false (decide_eq_false (by omega))) ?_
  refine zv (.bool false) ?_
  refine zv (.bool false) ?_
  refine zv (.pointer (some ⟨q1, 4, none⟩)) ?_
  refine zu (.int .i64 x.pi) (run_load1 (fun w => Tryz.isAgg3 w) ky (((h3.get 0 rfl).cell 4).trans rfl)) ?_
  refine zu (.bool false) (run_gtZ (k := .i64) (a := x.pi) (b := (1073741824 : Int)) ky ky false (decide_eq_false (by omega))) ?_
  refine zv (.bool false) ?_
  refine zv (.bool false) ?_
  refine zv (.pointer (some ⟨q1, 7, none⟩)) ?_
  refine zu (.int .i64 x.oi) (run_load1 (fun w => Tryz.isAgg3 w) ky (((h3.get 0 rfl).cell 7).trans rfl)) ?_
  refine zu (.bool false) (run_ltZ (k := .i64) (a := x.oi) (b := (0 : Int)) ky ky false (decide_eq_false (by omega))) ?_
  refine zv (.bool false) ?_
  refine zv (.bool false) ?_
  refine zv (.pointer (some ⟨q1, 7, none⟩)) ?_
  refine zu (.int .i64 x.oi) (run_load1 (fun w => Tryz.isAgg3 w) ky (((h3.get 0 rfl).cell 7).trans rfl)) ?_
  refine zu (.bool false) (run_gtZ (k := .i64) (a := x.oi) (b := (1073741824 : Int)) ky ky false (decide_eq_false (by omega))) ?_
  refine zv (.bool false) ?_
  refine wl_nil (then_at rfl ?_)
  refine wp_cond_false ky ?_
  refine wp_skip (then_at rfl (wp_seq (wl_region ?_)))
  refine zv (.pointer (some ⟨q1, 2, none⟩)) ?_
  refine zu (.string x.sg) (run_load1 (fun w => Tryz.isAgg9 w) ky (((h3.get 0 rfl).cell 2).trans rfl)) ?_
  refine wl_call (v := .bool true) h3 ky enter86 #[.string x.sg] ky (rword_any _ j_sg) ?_
  intro w4 h5
  refine zv (.bool true) ?_
  refine zv (.pointer (some ⟨q1, 3, none⟩)) ?_
  refine zu (.string x.dh) (run_load1 (fun w => Tryz.isAgg9 w) ky (((h5.get 0 rfl).cell 3).trans rfl)) ?_
  refine wl_call (v := .bool true) h5 ky enter86 #[.string x.dh] ky (rword_any _ j_dh) ?_
  intro w6 h7
  refine zv (.bool true) ?_
  refine zv (.bool true) ?_
  refine zv (.pointer (some ⟨q1, 5, none⟩)) ?_
  refine zu (.string x.pr) (run_load1 (fun w => Tryz.isAgg9 w) ky (((h7.get 0 rfl).cell 5).trans rfl)) ?_
  refine wl_call (v := .bool true) h7 ky enter86 #[.string x.pr] ky (rword_any _ j_pr) ?_
  intro w8 h9
  refine zv (.bool true) ?_
  refine zv (.bool true) ?_
  refine zv (.pointer (some ⟨q1, 6, none⟩)) ?_
  refine zu (.string x.ps) (run_load1 (fun w => Tryz.isAgg9 w) ky (((h9.get 0 rfl).cell 6).trans rfl)) ?_
  refine wl_call (v := .bool true) h9 ky enter86 #[.string x.ps] ky (rword_any _ j_ps) ?_
  intro w10 h11
  refine zv (.bool true) ?_
  refine zv (.bool true) ?_
  refine zv (.pointer (some ⟨q1, 7, none⟩)) ?_
  refine zu (.int .i64 x.oi) (run_load1 (fun w => Tryz.isAgg3 w) ky (((h11.get 0 rfl).cell 7).trans rfl)) ?_
  refine zu (.bool false) (run_eqZ (k := .i64) (a := x.oi) (b := (0 : Int)) ky ky false (decide_eq_false e0)) ?_
  refine zv (.bool false) ?_
  refine wl_skip ky ?_
  refine wl_skip ky ?_
  refine wl_skip ky ?_
  refine zv (.bool false) ?_
  refine zv (.bool false) ?_
  refine zv (.pointer (some ⟨q1, 7, none⟩)) ?_
  refine zu (.int .i64 x.oi) (run_load1 (fun w => Tryz.isAgg3 w) ky (((h11.get 0 rfl).cell 7).trans rfl)) ?_
  refine zu (.bool true) (run_gtZ (k := .i64) (a := x.oi) (b := (0 : Int)) ky ky true (decide_eq_true (by omega))) ?_
  refine zv (.bool true) ?_
  refine zv (.pointer (some ⟨q1, 8, none⟩)) ?_
  refine zu (.string x.on) (run_load1 (fun w => Tryz.isAgg9 w) ky (((h11.get 0 rfl).cell 8).trans rfl)) ?_
  refine wl_call (v := .bool false) h11 ky enter86 #[.string x.on] ky (rword_any _ j_on) ?_
  intro w12 h13
  refine zv (.bool false) ?_
  refine zv (.bool false) ?_
  refine zv (.bool false) ?_
  refine zv (.bool false) ?_
  refine wl_nil (then_at rfl ?_)
  refine wp_ret ?_
  repeat first | refine then_ret ?_ | refine block_ret ?_
  exact bodyPost_ret (v := .bool false) ky rfl ⟨rfl, h13.old.old⟩
set_option maxRecDepth 100000 in
set_option maxHeartbeats 2000000 in
theorem rm_15 {w : World} {x : Bu} (i0 : ¬ x.u < 0) (i1 : ¬ 3 ≤ x.u) (i2 : ¬ x.d < 0) (i3 : ¬ 2 ≤ x.d) (i4 : ¬ x.pi < 1) (i5 : ¬ 1073741824 < x.pi) (i6 : ¬ x.oi < 0) (i7 : ¬ 1073741824 < x.oi) (j_sg : wo x.sg = true) (j_dh : wo x.dh = true) (j_pr : wo x.pr = true) (j_ps : wo x.ps = true) (e0 : ¬ x.oi = 0) (j_on : wo x.on = true) :
    Calls Tryz.prog 41 #[.agg (buC x)] w fun e w' => e = .returned (.bool true) ∧ Below w.heap.size w w' := by
  have H0 := HA.start w
  go_enter Tryz.func41, Tryz.ntmps41
  refine wp_seq (wl_region ?_)
  refine wl_make (c := buC x) H0 23 ky ky ?_
  intro q1 w2 (h3 : HA (bs w) [(q1, 23, buC x)] w2)
  refine zv (.bool false) ?_
  refine wl_nil (then_at rfl (wp_seq (wp_seq (wl_region ?_))))
  refine zv (.pointer (some ⟨q1, 0, none⟩)) ?_
  refine zu (.int .i64 x.u) (run_load1 (fun w => Tryz.isAgg3 w) ky (((h3.get 0 rfl).cell 0).trans rfl)) ?_
  refine zu (.bool false) (run_ltZ (k := .i64) (a := x.u) (b := (0 : Int)) ky ky false (decide_eq_false (by omega))) ?_
  refine zv (.bool false) ?_
  refine zv (.pointer (some ⟨q1, 0, none⟩)) ?_
  refine zu (.int .i64 x.u) (run_load1 (fun w => Tryz.isAgg3 w) ky (((h3.get 0 rfl).cell 0).trans rfl)) ?_
  refine zu (.bool false) (run_geZ (k := .i64) (a := x.u) (b := (3 : Int)) ky ky false (decide_eq_false (by omega))) ?_
  refine zv (.bool false) ?_
  refine zv (.bool false) ?_
  refine zv (.pointer (some ⟨q1, 1, none⟩)) ?_
  refine zu (.int .i64 x.d) (run_load1 (fun w => Tryz.isAgg3 w) ky (((h3.get 0 rfl).cell 1).trans rfl)) ?_
  refine zu (.bool false) (run_ltZ (k := .i64) (a := x.d) (b := (0 : Int)) ky ky false (decide_eq_false (by omega))) ?_
  refine zv (.bool false) ?_
  refine zv (.bool false) ?_
  refine zv (.pointer (some ⟨q1, 1, none⟩)) ?_
  refine zu (.int .i64 x.d) (run_load1 (fun w => Tryz.isAgg3 w) ky (((h3.get 0 rfl).cell 1).trans rfl)) ?_
  refine zu (.bool false) (run_geZ (k := .i64) (a := x.d) (b := (2 : Int)) ky ky false (decide_eq_false (by omega))) ?_
  refine zv (.bool false) ?_
  refine zv (.bool false) ?_
  refine zv (.pointer (some ⟨q1, 4, none⟩)) ?_
  refine zu (.int .i64 x.pi) (run_load1 (fun w => Tryz.isAgg3 w) ky (((h3.get 0 rfl).cell 4).trans rfl)) ?_
  refine zu (.bool false) (run_ltZ (k := .i64) (a := x.pi) (b := (1 : Int)) ky ky false (decide_eq_false (by omega))) ?_
  refine zv (.bool false) ?_
  refine zv (.bool false) ?_
  refine zv (.pointer (some ⟨q1, 4, none⟩)) ?_
  refine zu (.int .i64 x.pi) (run_load1 (fun w => Tryz.isAgg3 w) ky (((h3.get 0 rfl).cell 4).trans rfl)) ?_
  refine zu (.bool false) (run_gtZ (k := .i64) (a := x.pi) (b := (1073741824 : Int)) ky ky false (decide_eq_false (by omega))) ?_
  refine zv (.bool false) ?_
  refine zv (.bool false) ?_
  refine zv (.pointer (some ⟨q1, 7, none⟩)) ?_
  refine zu (.int .i64 x.oi) (run_load1 (fun w => Tryz.isAgg3 w) ky (((h3.get 0 rfl).cell 7).trans rfl)) ?_
  refine zu (.bool false) (run_ltZ (k := .i64) (a := x.oi) (b := (0 : Int)) ky ky false (decide_eq_false (by omega))) ?_
  refine zv (.bool false) ?_
  refine zv (.bool false) ?_
  refine zv (.pointer (some ⟨q1, 7, none⟩)) ?_
  refine zu (.int .i64 x.oi) (run_load1 (fun w => Tryz.isAgg3 w) ky (((h3.get 0 rfl).cell 7).trans rfl)) ?_
  refine zu (.bool false) (run_gtZ (k := .i64) (a := x.oi) (b := (1073741824 : Int)) ky ky false (decide_eq_false (by omega))) ?_
  refine zv (.bool false) ?_
  refine wl_nil (then_at rfl ?_)
  refine wp_cond_false ky ?_
  refine wp_skip (then_at rfl (wp_seq (wl_region ?_)))
  refine zv (.pointer (some ⟨q1, 2, none⟩)) ?_
  refine zu (.string x.sg) (run_load1 (fun w => Tryz.isAgg9 w) ky (((h3.get 0 rfl).cell 2).trans rfl)) ?_
  refine wl_call (v := .bool true) h3 ky enter86 #[.string x.sg] ky (rword_any _ j_sg) ?_
  intro w4 h5
  refine zv (.bool true) ?_
  refine zv (.pointer (some ⟨q1, 3, none⟩)) ?_
  refine zu (.string x.dh) (run_load1 (fun w => Tryz.isAgg9 w) ky (((h5.get 0 rfl).cell 3).trans rfl)) ?_
  refine wl_call (v := .bool true) h5 ky enter86 #[.string x.dh] ky (rword_any _ j_dh) ?_
  intro w6 h7
  refine zv (.bool true) ?_
  refine zv (.bool true) ?_
  refine zv (.pointer (some ⟨q1, 5, none⟩)) ?_
  refine zu (.string x.pr) (run_load1 (fun w => Tryz.isAgg9 w) ky (((h7.get 0 rfl).cell 5).trans rfl)) ?_
  refine wl_call (v := .bool true) h7 ky enter86 #[.string x.pr] ky (rword_any _ j_pr) ?_
  intro w8 h9
  refine zv (.bool true) ?_
  refine zv (.bool true) ?_
  refine zv (.pointer (some ⟨q1, 6, none⟩)) ?_
  refine zu (.string x.ps) (run_load1 (fun w => Tryz.isAgg9 w) ky (((h9.get 0 rfl).cell 6).trans rfl)) ?_
  refine wl_call (v := .bool true) h9 ky enter86 #[.string x.ps] ky (rword_any _ j_ps) ?_
  intro w10 h11
  refine zv (.bool true) ?_
  refine zv (.bool true) ?_
  refine zv (.pointer (some ⟨q1, 7, none⟩)) ?_
  refine zu (.int .i64 x.oi) (run_load1 (fun w => Tryz.isAgg3 w) ky (((h11.get 0 rfl).cell 7).trans rfl)) ?_
  refine zu (.bool false) (run_eqZ (k := .i64) (a := x.oi) (b := (0 : Int)) ky ky false (decide_eq_false e0)) ?_
  refine zv (.bool false) ?_
  refine wl_skip ky ?_
  refine wl_skip ky ?_
  refine wl_skip ky ?_
  refine zv (.bool false) ?_
  refine zv (.bool false) ?_
  refine zv (.pointer (some ⟨q1, 7, none⟩)) ?_
  refine zu (.int .i64 x.oi) (run_load1 (fun w => Tryz.isAgg3 w) ky (((h11.get 0 rfl).cell 7).trans rfl)) ?_
  refine zu (.bool true) (run_gtZ (k := .i64) (a := x.oi) (b := (0 : Int)) ky ky true (decide_eq_true (by omega))) ?_
  refine zv (.bool true) ?_
  refine zv (.pointer (some ⟨q1, 8, none⟩)) ?_
  refine zu (.string x.on) (run_load1 (fun w => Tryz.isAgg9 w) ky (((h11.get 0 rfl).cell 8).trans rfl)) ?_
  refine wl_call (v := .bool true) h11 ky enter86 #[.string x.on] ky (rword_any _ j_on) ?_
  intro w12 h13
  refine zv (.bool true) ?_
  refine zv (.bool true) ?_
  refine zv (.bool true) ?_
  refine zv (.bool true) ?_
  refine wl_nil (then_at rfl ?_)
  refine wp_ret ?_
  repeat first | refine then_ret ?_ | refine block_ret ?_
  exact bodyPost_ret (v := .bool true) ky rfl ⟨rfl, h13.old.old⟩
set_option maxHeartbeats 1000000 in
theorem rmay_any {w : World} (x : Bu) {b : Bool} (hb : mayX x = b) :
    Calls Tryz.prog 41 #[.agg (buC x)] w fun e w' => e = .returned (.bool b) ∧ Below w.heap.size w w' := by
  subst hb
  by_cases i0 : x.u < 0
  · rw [show mayX x = false from Bool.eq_false_iff.2 (fun h => by have hM := mayX_iff h; have := hM.u0; have := hM.u1; have := hM.d0; have := hM.d1; have := hM.p0; have := hM.p1; have := hM.o0; have := hM.o1; omega)]
    exact rm_0 i0
  by_cases i1 : 3 ≤ x.u
  · rw [show mayX x = false from Bool.eq_false_iff.2 (fun h => by have hM := mayX_iff h; have := hM.u0; have := hM.u1; have := hM.d0; have := hM.d1; have := hM.p0; have := hM.p1; have := hM.o0; have := hM.o1; omega)]
    exact rm_1 i0 i1
  by_cases i2 : x.d < 0
  · rw [show mayX x = false from Bool.eq_false_iff.2 (fun h => by have hM := mayX_iff h; have := hM.u0; have := hM.u1; have := hM.d0; have := hM.d1; have := hM.p0; have := hM.p1; have := hM.o0; have := hM.o1; omega)]
    exact rm_2 i0 i1 i2
  by_cases i3 : 2 ≤ x.d
  · rw [show mayX x = false from Bool.eq_false_iff.2 (fun h => by have hM := mayX_iff h; have := hM.u0; have := hM.u1; have := hM.d0; have := hM.d1; have := hM.p0; have := hM.p1; have := hM.o0; have := hM.o1; omega)]
    exact rm_3 i0 i1 i2 i3
  by_cases i4 : x.pi < 1
  · rw [show mayX x = false from Bool.eq_false_iff.2 (fun h => by have hM := mayX_iff h; have := hM.u0; have := hM.u1; have := hM.d0; have := hM.d1; have := hM.p0; have := hM.p1; have := hM.o0; have := hM.o1; omega)]
    exact rm_4 i0 i1 i2 i3 i4
  by_cases i5 : 1073741824 < x.pi
  · rw [show mayX x = false from Bool.eq_false_iff.2 (fun h => by have hM := mayX_iff h; have := hM.u0; have := hM.u1; have := hM.d0; have := hM.d1; have := hM.p0; have := hM.p1; have := hM.o0; have := hM.o1; omega)]
    exact rm_5 i0 i1 i2 i3 i4 i5
  by_cases i6 : x.oi < 0
  · rw [show mayX x = false from Bool.eq_false_iff.2 (fun h => by have hM := mayX_iff h; have := hM.u0; have := hM.u1; have := hM.d0; have := hM.d1; have := hM.p0; have := hM.p1; have := hM.o0; have := hM.o1; omega)]
    exact rm_6 i0 i1 i2 i3 i4 i5 i6
  by_cases i7 : 1073741824 < x.oi
  · rw [show mayX x = false from Bool.eq_false_iff.2 (fun h => by have hM := mayX_iff h; have := hM.u0; have := hM.u1; have := hM.d0; have := hM.d1; have := hM.p0; have := hM.p1; have := hM.o0; have := hM.o1; omega)]
    exact rm_7 i0 i1 i2 i3 i4 i5 i6 i7
  rcases j_sg : wo x.sg with _ | _
  · rw [show mayX x = false from Bool.eq_false_iff.2 (fun h => by have := (mayX_wo h).1; rw [j_sg] at this; cases this)]
    exact rm_8 i0 i1 i2 i3 i4 i5 i6 i7 j_sg
  rcases j_dh : wo x.dh with _ | _
  · rw [show mayX x = false from Bool.eq_false_iff.2 (fun h => by have := (mayX_wo h).2.1; rw [j_dh] at this; cases this)]
    exact rm_9 i0 i1 i2 i3 i4 i5 i6 i7 j_sg j_dh
  rcases j_pr : wo x.pr with _ | _
  · rw [show mayX x = false from Bool.eq_false_iff.2 (fun h => by have := (mayX_wo h).2.2.1; rw [j_pr] at this; cases this)]
    exact rm_10 i0 i1 i2 i3 i4 i5 i6 i7 j_sg j_dh j_pr
  rcases j_ps : wo x.ps with _ | _
  · rw [show mayX x = false from Bool.eq_false_iff.2 (fun h => by have := (mayX_wo h).2.2.2.1; rw [j_ps] at this; cases this)]
    exact rm_11 i0 i1 i2 i3 i4 i5 i6 i7 j_sg j_dh j_pr j_ps
  by_cases e0 : x.oi = 0
  · by_cases e1 : x.on = { data := #[] }
    · rw [mayX_of (by omega) (by omega) (by omega) j_sg j_dh j_pr j_ps (.inl ⟨e0, e1⟩)]
      exact rm_12 i0 i1 i2 i3 i4 i5 i6 i7 j_sg j_dh j_pr j_ps e0 e1
    · rw [show mayX x = false from Bool.eq_false_iff.2 (fun h => by rcases (mayX_wo h).2.2.2.2 with h2 | h2; exact e1 h2.2; omega)]
      exact rm_13 i0 i1 i2 i3 i4 i5 i6 i7 j_sg j_dh j_pr j_ps e0 e1
  · rcases j_on : wo x.on with _ | _
    · rw [show mayX x = false from Bool.eq_false_iff.2 (fun h => by rcases (mayX_wo h).2.2.2.2 with h2 | h2; exact e0 h2.1; rw [j_on] at h2; cases h2.2.2)]
      exact rm_14 i0 i1 i2 i3 i4 i5 i6 i7 j_sg j_dh j_pr j_ps e0 j_on
    · rw [mayX_of (by omega) (by omega) (by omega) j_sg j_dh j_pr j_ps (.inr ⟨by omega, by omega, j_on⟩)]
      exact rm_15 i0 i1 i2 i3 i4 i5 i6 i7 j_sg j_dh j_pr j_ps e0 j_on
end Go.Proofs.YtoogiblkommdfaaGreat
