/-
  operateOn, Sync, Remove, Rename.
-/
import Derived.Test.YtjedhnjjgmbcbaaD5
namespace Go.Proofs.Ytjedhnjjgmbcbaa
open Go.RowKit

/-- an operation on a file that must be there -/
def onD (D D2 : DS) (nm : ByteArray) (er : Nat) : DS × Nat × Nat := if ∃ x ∈ D.fs, x.nm = nm then (D2, 0, er) else (D, 0, 5)
theorem ex_ab {fl : List Fl} {D : DS} {nm : ByteArray} (h : fl.map ab = D.fs) : (∃ x ∈ D.fs, x.nm = nm) ↔ ∃ f ∈ fl, f.nm = nm := by
  rw [← h]
  constructor
  · rintro ⟨x, hx, e⟩
    obtain ⟨f, hf, rfl⟩ := List.mem_map.1 hx
    exact ⟨f, hf, e⟩
  · rintro ⟨f, hf, e⟩
    exact ⟨ab f, List.mem_map.2 ⟨f, hf, rfl⟩, e⟩
set_option linter.unusedVariables false in
set_option maxRecDepth 100000 in
set_option maxHeartbeats 2000000 in
theorem on_no {w0 : World} {M : ML} {d : Dk} {D : DS} {L : BL} {bn bf bq : Nat} {nm : ByteArray} {F : FuncId} {cap : Array Value} {w : World} (hD : DH w0 M d D ((bf, 79, #[.func (.func F) #[] cap]) :: (bn, 9, #[.string nm]) :: (bq, 23, #[pt d.q]) :: L) w) {D2 : DS} {er : Nat} (hno : ¬ ∃ x ∈ D.fs, x.nm = nm) :
    Calls Try.prog 63 #[pt bq, pt bn, pt bf] w fun e w' => e = .returned (.tuple #[iN .i64 (onD D D2 nm er).2.1, iN .i64 (onD D D2 nm er).2.2]) ∧ DH w0 M d (onD D D2 nm er).1 ((bf, 79, #[.func (.func F) #[] cap]) :: (bn, 9, #[.string nm]) :: (bq, 23, #[pt d.q]) :: L) w' := by
  obtain ⟨fl, nx, v, Lr, hfl, hK, hR, H0⟩ := hD
  have hn : ∀ f ∈ fl, f.nm ≠ nm := fun f hf e => hno ((ex_ab hfl).2 ⟨f, hf, e⟩)
  go_enter Try.func63, Try.ntmps63
  refine wp_seq ?_
  refine wl_region ?_
  refine wl_val (iN .i64 0) (by kernel_rfl) (by kernel_rfl) ?_
  refine wl_val (iN .i64 0) (by kernel_rfl) (by kernel_rfl) ?_
  refine wl_nil ?_
  refine then_at (F := ⟨(pt bq :: pt bn :: pt bf :: iN .i64 0 :: iN .i64 0 :: List.replicate 12 un).toArray, []⟩) (by kernel_rfl) ?_
  refine wp_seq ?_
  refine wp_region_sure ⟨(pt bq :: pt bn :: pt bf :: iN .i64 0 :: iN .i64 0 :: .pointer none :: pt d.q :: pt d.q :: pt d.q :: .map (some d.r) :: .string nm :: .pointer none :: List.replicate 5 un).toArray, []⟩ (HA ⟨w0, (d.r, .mp (eF fl) nx) :: M⟩ ((d.q, 61, dcell d.r D.free D.left D.down v) :: (Lr ++ (FB fl ++ ((bf, 79, #[.func (.func F) #[] cap]) :: (bn, 9, #[.string nm]) :: (bq, 23, #[pt d.q]) :: L))))) [.pointer (some ⟨d.q, 0, none⟩), .pointer (some ⟨d.q, 0, none⟩), .pointer (some ⟨d.q, 0, none⟩), .map (some d.r), .string nm, .pointer none, .pointer none] (by kernel_rfl) (by kernel_rfl) (by kernel_rfl) (by kernel_rfl) (fun _ _ _ h => h) H0.drew ?_ ?_
  · refine AllSure.cons (OpSure.take (v := .pointer (some ⟨d.q, 0, none⟩)) (by kernel_rfl) (by kernel_rfl) (fun w' h' => run_load1 (fun w => Try.isAgg23 w) (by kernel_rfl) (((h'.blk (bq, 23, #[pt d.q]) (by simp)).cell 0).trans rfl))) ?_
    refine AllSure.cons (OpSure.take (v := .pointer (some ⟨d.q, 0, none⟩)) (by kernel_rfl) (by kernel_rfl) (fun _ _ => (by kernel_rfl))) ?_
    refine AllSure.cons (OpSure.take (v := .pointer (some ⟨d.q, 0, none⟩)) (by kernel_rfl) (by kernel_rfl) (fun _ _ => (by kernel_rfl))) ?_
    refine AllSure.cons (OpSure.take (v := .map (some d.r)) (by kernel_rfl) (by kernel_rfl) (fun w' h' => run_load1 (fun w => Try.isAgg59 w) (by kernel_rfl) (((h'.get 0 rfl).cell 0).trans rfl))) ?_
    refine AllSure.cons (OpSure.take (v := .string nm) (by kernel_rfl) (by kernel_rfl) (fun w' h' => run_load1 (fun w => Try.isAgg9 w) (by kernel_rfl) (((h'.blk (bn, 9, #[.string nm]) (by simp)).cell 0).trans rfl))) ?_
    refine AllSure.cons (OpSure.take (v := .pointer none) (by kernel_rfl) (by kernel_rfl) (fun w' h' => run_look_no (h'.old.maps _ (List.mem_cons_self ..)) hn (by kernel_rfl) (by kernel_rfl))) ?_
    refine AllSure.cons (OpSure.take (v := .pointer none) (by kernel_rfl) (by kernel_rfl) (fun _ _ => (by kernel_rfl))) ?_
    exact AllSure.nil
  intro w1 h2
  refine then_at (F := ⟨(pt bq :: pt bn :: pt bf :: iN .i64 0 :: iN .i64 0 :: .pointer none :: pt d.q :: pt d.q :: pt d.q :: .map (some d.r) :: .string nm :: .pointer none :: List.replicate 5 un).toArray, []⟩) (by kernel_rfl) ?_
  refine wp_seq ?_
  refine wp_seq ?_
  refine wl_region ?_
  refine wl_val (.pointer none) (by kernel_rfl) (by kernel_rfl) ?_
  refine wl_val (.bool true) (by kernel_rfl) (by kernel_rfl) ?_
  refine wl_nil ?_
  refine then_at (F := ⟨(pt bq :: pt bn :: pt bf :: iN .i64 0 :: iN .i64 0 :: .pointer none :: pt d.q :: pt d.q :: pt d.q :: .map (some d.r) :: .string nm :: .pointer none :: .pointer none :: .bool true :: List.replicate 3 un).toArray, []⟩) (by kernel_rfl) ?_
  refine wp_cond_true (by kernel_rfl) ?_
  refine wp_seq ?_
  refine wl_region ?_
  refine wl_val (iN .i64 0) (by kernel_rfl) (by kernel_rfl) ?_
  refine wl_val (iN .i64 5) (by kernel_rfl) (by kernel_rfl) ?_
  refine wl_nil ?_
  refine then_at (F := ⟨(pt bq :: pt bn :: pt bf :: iN .i64 0 :: iN .i64 5 :: .pointer none :: pt d.q :: pt d.q :: pt d.q :: .map (some d.r) :: .string nm :: .pointer none :: .pointer none :: .bool true :: List.replicate 3 un).toArray, []⟩) (by kernel_rfl) ?_
  refine wp_ret ?_
  repeat first | refine then_ret ?_ | refine block_ret ?_
  exact bodyPost_ret (v := .tuple #[iN .i64 0, iN .i64 5]) (by kernel_rfl) rfl ⟨by rw [onD, if_neg hno], by rw [onD, if_neg hno]; exact ⟨fl, nx, v, Lr, hfl, hK, hR, h2⟩⟩
set_option linter.unusedVariables false in
set_option maxRecDepth 100000 in
set_option maxHeartbeats 2000000 in
theorem on_yes {w0 : World} {M : ML} {d : Dk} {D : DS} {L : BL} {bn bf bq : Nat} {nm : ByteArray} {F : FuncId} {cap : Array Value} {w : World} (hD : DH w0 M d D ((bf, 79, #[.func (.func F) #[] cap]) :: (bn, 9, #[.string nm]) :: (bq, 23, #[pt d.q]) :: L) w) {D2 : DS} {er : Nat} (hF : ∀ args w, (callFunc F args).run Try.prog w = .ok (.enter F args) w) (hyes : ∃ x ∈ D.fs, x.nm = nm) (hdeed : ∀ (w : World) (A B : List Fl) (f : Fl) (nx : Nat) (v : Value) (Lr : BL), (A ++ f :: B).map ab = D.fs → f.nm = nm → FK (A ++ f :: B) nx → Row 3 1 v D.sizes.length (D.sizes.map (iN .i64 ·)) Lr → HA ⟨w0, (d.r, .mp (eF (A ++ f :: B)) nx) :: M⟩ ((d.q, 61, dcell d.r D.free D.left D.down v) :: (Lr ++ (FB (A ++ f :: B) ++ ((bf, 79, #[.func (.func F) #[] cap]) :: (bn, 9, #[.string nm]) :: (bq, 23, #[pt d.q]) :: L)))) w →
      Calls Try.prog F (#[pt f.p] ++ cap) w fun e w' => e = .returned (iN .i64 er) ∧ DH w0 M d D2 ((bf, 79, #[.func (.func F) #[] cap]) :: (bn, 9, #[.string nm]) :: (bq, 23, #[pt d.q]) :: L) w') :
    Calls Try.prog 63 #[pt bq, pt bn, pt bf] w fun e w' => e = .returned (.tuple #[iN .i64 (onD D D2 nm er).2.1, iN .i64 (onD D D2 nm er).2.2]) ∧ DH w0 M d (onD D D2 nm er).1 ((bf, 79, #[.func (.func F) #[] cap]) :: (bn, 9, #[.string nm]) :: (bq, 23, #[pt d.q]) :: L) w' := by
  obtain ⟨fl, nx, v, Lr, hfl, hK, hR, H0⟩ := hD
  obtain ⟨A, f, B, rfl, hf, hA⟩ := fl_split ((ex_ab hfl).1 hyes)
  go_enter Try.func63, Try.ntmps63
  refine wp_seq ?_
  refine wl_region ?_
  refine wl_val (iN .i64 0) (by kernel_rfl) (by kernel_rfl) ?_
  refine wl_val (iN .i64 0) (by kernel_rfl) (by kernel_rfl) ?_
  refine wl_nil ?_
  refine then_at (F := ⟨(pt bq :: pt bn :: pt bf :: iN .i64 0 :: iN .i64 0 :: List.replicate 12 un).toArray, []⟩) (by kernel_rfl) ?_
  refine wp_seq ?_
  refine wp_region_sure ⟨(pt bq :: pt bn :: pt bf :: iN .i64 0 :: iN .i64 0 :: pt f.p :: pt d.q :: pt d.q :: pt d.q :: .map (some d.r) :: .string nm :: pt f.p :: List.replicate 5 un).toArray, []⟩ (HA ⟨w0, (d.r, .mp (eF (A ++ f :: B)) nx) :: M⟩ ((d.q, 61, dcell d.r D.free D.left D.down v) :: (Lr ++ (FB (A ++ f :: B) ++ ((bf, 79, #[.func (.func F) #[] cap]) :: (bn, 9, #[.string nm]) :: (bq, 23, #[pt d.q]) :: L))))) [.pointer (some ⟨d.q, 0, none⟩), .pointer (some ⟨d.q, 0, none⟩), .pointer (some ⟨d.q, 0, none⟩), .map (some d.r), .string nm, .pointer (some ⟨f.p, 0, none⟩), .pointer (some ⟨f.p, 0, none⟩)] (by kernel_rfl) (by kernel_rfl) (by kernel_rfl) (by kernel_rfl) (fun _ _ _ h => h) H0.drew ?_ ?_
  · refine AllSure.cons (OpSure.take (v := .pointer (some ⟨d.q, 0, none⟩)) (by kernel_rfl) (by kernel_rfl) (fun w' h' => run_load1 (fun w => Try.isAgg23 w) (by kernel_rfl) (((h'.blk (bq, 23, #[pt d.q]) (by simp)).cell 0).trans rfl))) ?_
    refine AllSure.cons (OpSure.take (v := .pointer (some ⟨d.q, 0, none⟩)) (by kernel_rfl) (by kernel_rfl) (fun _ _ => (by kernel_rfl))) ?_
    refine AllSure.cons (OpSure.take (v := .pointer (some ⟨d.q, 0, none⟩)) (by kernel_rfl) (by kernel_rfl) (fun _ _ => (by kernel_rfl))) ?_
    refine AllSure.cons (OpSure.take (v := .map (some d.r)) (by kernel_rfl) (by kernel_rfl) (fun w' h' => run_load1 (fun w => Try.isAgg59 w) (by kernel_rfl) (((h'.get 0 rfl).cell 0).trans rfl))) ?_
    refine AllSure.cons (OpSure.take (v := .string nm) (by kernel_rfl) (by kernel_rfl) (fun w' h' => run_load1 (fun w => Try.isAgg9 w) (by kernel_rfl) (((h'.blk (bn, 9, #[.string nm]) (by simp)).cell 0).trans rfl))) ?_
    refine AllSure.cons (OpSure.take (v := .pointer (some ⟨f.p, 0, none⟩)) (by kernel_rfl) (by kernel_rfl) (fun w' h' => run_look_yes (h'.old.maps _ (List.mem_cons_self ..)) hf (hf ▸ hK.apartA) (by kernel_rfl) (by kernel_rfl))) ?_
    refine AllSure.cons (OpSure.take (v := .pointer (some ⟨f.p, 0, none⟩)) (by kernel_rfl) (by kernel_rfl) (fun _ _ => (by kernel_rfl))) ?_
    exact AllSure.nil
  intro w1 h2
  refine then_at (F := ⟨(pt bq :: pt bn :: pt bf :: iN .i64 0 :: iN .i64 0 :: pt f.p :: pt d.q :: pt d.q :: pt d.q :: .map (some d.r) :: .string nm :: pt f.p :: List.replicate 5 un).toArray, []⟩) (by kernel_rfl) ?_
  refine wp_seq ?_
  refine wp_seq ?_
  refine wl_region ?_
  refine wl_val (.pointer (some ⟨f.p, 0, none⟩)) (by kernel_rfl) (by kernel_rfl) ?_
  refine wl_val (.bool false) (by kernel_rfl) (by kernel_rfl) ?_
  refine wl_nil ?_
  refine then_at (F := ⟨(pt bq :: pt bn :: pt bf :: iN .i64 0 :: iN .i64 0 :: pt f.p :: pt d.q :: pt d.q :: pt d.q :: .map (some d.r) :: .string nm :: pt f.p :: pt f.p :: .bool false :: List.replicate 3 un).toArray, []⟩) (by kernel_rfl) ?_
  refine wp_cond_false (by kernel_rfl) ?_
  refine wp_skip ?_
  refine then_at (F := ⟨(pt bq :: pt bn :: pt bf :: iN .i64 0 :: iN .i64 0 :: pt f.p :: pt d.q :: pt d.q :: pt d.q :: .map (some d.r) :: .string nm :: pt f.p :: pt f.p :: .bool false :: List.replicate 3 un).toArray, []⟩) (by kernel_rfl) ?_
  refine wp_seq ?_
  refine wl_region ?_
  refine wl_val (.func (.func F) #[] cap) (by kernel_rfl) (run_load1 (fun w => Try.isAgg79 w) (by kernel_rfl) (((h2.blk (bf, 79, #[.func (.func F) #[] cap]) (by simp)).cell 0).trans rfl)) ?_
  refine wl_val (.pointer (some ⟨f.p, 0, none⟩)) (by kernel_rfl) (by kernel_rfl) ?_
  refine wl_callvx (cap := cap) (args := #[pt f.p] ++ cap) (by kernel_rfl) hF (by kernel_rfl) (by simp [Act.eval, Act.put]; rfl) (hdeed w1 A B f nx v Lr hfl hf hK hR h2) ?_
  rintro _ w3 ⟨rfl, hD2⟩
  refine ⟨_, rfl, ?_⟩
  refine wl_val (iN .i64 0) (by kernel_rfl) (by kernel_rfl) ?_
  refine wl_val (iN .i64 er) (by kernel_rfl) (by kernel_rfl) ?_
  refine wl_nil ?_
  refine then_at (F := ⟨(pt bq :: pt bn :: pt bf :: iN .i64 0 :: iN .i64 er :: pt f.p :: pt d.q :: pt d.q :: pt d.q :: .map (some d.r) :: .string nm :: pt f.p :: pt f.p :: .bool false :: .func (.func F) #[] cap :: pt f.p :: iN .i64 er :: List.replicate 0 un).toArray, []⟩) (by kernel_rfl) ?_
  refine wp_ret ?_
  repeat first | refine then_ret ?_ | refine block_ret ?_
  exact bodyPost_ret (v := .tuple #[iN .i64 0, iN .i64 er]) (by kernel_rfl) rfl ⟨by rw [onD, if_pos hyes], by rw [onD, if_pos hyes]; exact hD2⟩
theorem on_any {w0 : World} {M : ML} {d : Dk} {D : DS} {L : BL} {bn bf bq : Nat} {nm : ByteArray} {F : FuncId} {cap : Array Value} {w : World} (hD : DH w0 M d D ((bf, 79, #[.func (.func F) #[] cap]) :: (bn, 9, #[.string nm]) :: (bq, 23, #[pt d.q]) :: L) w) {D2 : DS} {er : Nat} (hF : ∀ args w, (callFunc F args).run Try.prog w = .ok (.enter F args) w) (hdeed : ∀ (w : World) (A B : List Fl) (f : Fl) (nx : Nat) (v : Value) (Lr : BL), (A ++ f :: B).map ab = D.fs → f.nm = nm → FK (A ++ f :: B) nx → Row 3 1 v D.sizes.length (D.sizes.map (iN .i64 ·)) Lr → HA ⟨w0, (d.r, .mp (eF (A ++ f :: B)) nx) :: M⟩ ((d.q, 61, dcell d.r D.free D.left D.down v) :: (Lr ++ (FB (A ++ f :: B) ++ ((bf, 79, #[.func (.func F) #[] cap]) :: (bn, 9, #[.string nm]) :: (bq, 23, #[pt d.q]) :: L)))) w →
      Calls Try.prog F (#[pt f.p] ++ cap) w fun e w' => e = .returned (iN .i64 er) ∧ DH w0 M d D2 ((bf, 79, #[.func (.func F) #[] cap]) :: (bn, 9, #[.string nm]) :: (bq, 23, #[pt d.q]) :: L) w') :
    Calls Try.prog 63 #[pt bq, pt bn, pt bf] w fun e w' => e = .returned (.tuple #[iN .i64 (onD D D2 nm er).2.1, iN .i64 (onD D D2 nm er).2.2]) ∧ DH w0 M d (onD D D2 nm er).1 ((bf, 79, #[.func (.func F) #[] cap]) :: (bn, 9, #[.string nm]) :: (bq, 23, #[pt d.q]) :: L) w' := by
  by_cases h : ∃ x ∈ D.fs, x.nm = nm
  · exact on_yes hD hF h hdeed
  · exact on_no hD h
def OnD (D D2 : DS) (nm : ByteArray) (er : Nat) : DS × Nat := opD D (onD (spendD D) D2 nm er).1 (onD (spendD D) D2 nm er).2.1 (onD (spendD D) D2 nm er).2.2
theorem onD_sz {D D2 : DS} {nm : ByteArray} {er N : Nat} (h : D.sizes.length ≤ N) (h2 : D2.sizes.length ≤ N) : (onD D D2 nm er).1.sizes.length ≤ N := by
  unfold onD
  split
  · exact h2
  · exact h
set_option linter.unusedVariables false in
set_option maxRecDepth 100000 in
set_option maxHeartbeats 2000000 in
theorem operateOn_any {w0 : World} {M : ML} {d : Dk} {D : DS} {L : BL} {w : World} (hD : DH w0 M d D L w) {nm : ByteArray} {F : FuncId} {cap : Array Value} {D2 : DS} {er U N : Nat} (hF : ∀ args w, (callFunc F args).run Try.prog w = .ok (.enter F args) w) (hb : DB D U N) (hN : N ≤ 1000000) (hs2 : D2.sizes.length ≤ 1000000) (hdeed : ∀ (b3 b4 b5 : Nat) (w : World) (A B : List Fl) (f : Fl) (nx : Nat) (v : Value) (Lr : BL), (A ++ f :: B).map ab = (spendD D).fs → f.nm = nm → FK (A ++ f :: B) nx → Row 3 1 v (spendD D).sizes.length ((spendD D).sizes.map (iN .i64 ·)) Lr → HA ⟨w0, (d.r, .mp (eF (A ++ f :: B)) nx) :: M⟩ ((d.q, 61, dcell d.r (spendD D).free (spendD D).left (spendD D).down v) :: (Lr ++ (FB (A ++ f :: B) ++ ((b5, 79, #[.func (.func F) #[] cap]) :: (b4, 9, #[.string nm]) :: (b3, 23, #[pt d.q]) :: L)))) w →
      Calls Try.prog F (#[pt f.p] ++ cap) w fun e w' => e = .returned (iN .i64 er) ∧ DH w0 M d D2 ((b5, 79, #[.func (.func F) #[] cap]) :: (b4, 9, #[.string nm]) :: (b3, 23, #[pt d.q]) :: L) w') :
    Calls Try.prog 42 #[pt d.q, .string nm, .func (.func F) #[] cap] w fun e w' => e = .returned (iN .i64 (OnD D D2 nm er).2) ∧ DH w0 M d (OnD D D2 nm er).1 L w' := by
  obtain ⟨fl, nx, v, Lr, hfl, hK, hR, H0⟩ := hD
  go_enter Try.func42, Try.ntmps42
  refine wp_seq ?_
  refine wl_region ?_
  refine wl_make (c := #[.pointer (some ⟨d.q, 0, none⟩)]) H0 23 (by kernel_rfl) (by kernel_rfl) ?_
  intro q1 w2 (h3 : HA ⟨w0, (d.r, .mp (eF fl) nx) :: M⟩ ((q1, 23, #[.pointer (some ⟨d.q, 0, none⟩)]) :: (d.q, 61, dcell d.r D.free D.left D.down v) :: (Lr ++ (FB fl ++ L))) w2)
  refine wl_make (c := #[.string nm]) h3 9 (by kernel_rfl) (by kernel_rfl) ?_
  intro q4 w5 (h6 : HA ⟨w0, (d.r, .mp (eF fl) nx) :: M⟩ ((q4, 9, #[.string nm]) :: (q1, 23, #[.pointer (some ⟨d.q, 0, none⟩)]) :: (d.q, 61, dcell d.r D.free D.left D.down v) :: (Lr ++ (FB fl ++ L))) w5)
  refine wl_make (c := #[.func (.func F) #[] cap]) h6 79 (by kernel_rfl) (by kernel_rfl) ?_
  intro q7 w8 (h9 : HA ⟨w0, (d.r, .mp (eF fl) nx) :: M⟩ ((q7, 79, #[.func (.func F) #[] cap]) :: (q4, 9, #[.string nm]) :: (q1, 23, #[.pointer (some ⟨d.q, 0, none⟩)]) :: (d.q, 61, dcell d.r D.free D.left D.down v) :: (Lr ++ (FB fl ++ L))) w8)
  refine wl_val (iN .i64 0) (by kernel_rfl) (by kernel_rfl) ?_
  refine wl_nil ?_
  refine then_at (F := ⟨(pt d.q :: .string nm :: .func (.func F) #[] cap :: pt q1 :: pt q4 :: pt q7 :: iN .i64 0 :: List.replicate 3 un).toArray, []⟩) (by kernel_rfl) ?_
  refine wp_seq ?_
  refine wl_region ?_
  refine wl_val (.pointer (some ⟨d.q, 0, none⟩)) (by kernel_rfl) (run_load1 (fun w => Try.isAgg23 w) (by kernel_rfl) (((h9.get 2 rfl).cell 0).trans rfl)) ?_
  refine wl_val (.func (.func 63) #[] #[.pointer (some ⟨q1, 0, none⟩), .pointer (some ⟨q4, 0, none⟩), .pointer (some ⟨q7, 0, none⟩)]) (by kernel_rfl) (by kernel_rfl) ?_
  refine wl_callx (by kernel_rfl) enter32 #[.pointer (some ⟨d.q, 0, none⟩), .func (.func 63) #[] #[.pointer (some ⟨q1, 0, none⟩), .pointer (some ⟨q4, 0, none⟩), .pointer (some ⟨q7, 0, none⟩)]] (by kernel_rfl) (operate_any (D2 := (onD (spendD D) D2 nm er).1) (put := (onD (spendD D) D2 nm er).2.1) (er := (onD (spendD D) D2 nm er).2.2) ⟨fl, nx, v, Lr, hfl, hK, hR, HA.back [(q7, 79, #[.func (.func F) #[] cap]), (q4, 9, #[.string nm]), (q1, 23, #[.pointer (some ⟨d.q, 0, none⟩)])] h9⟩ enter63 hb.lf (onD_sz (Nat.le_trans hb.sz hN) hs2) (fun w h => on_any h hF (hdeed q1 q4 q7))) ?_
  rintro _ w10 ⟨rfl, hD2⟩
  refine ⟨_, rfl, ?_⟩
  refine wl_val (iN .i64 ((OnD D D2 nm er).2)) (by kernel_rfl) (by kernel_rfl) ?_
  refine wl_nil ?_
  refine then_at (F := ⟨(pt d.q :: .string nm :: .func (.func F) #[] cap :: pt q1 :: pt q4 :: pt q7 :: iN .i64 ((OnD D D2 nm er).2) :: pt d.q :: .func (.func 63) #[] #[pt q1, pt q4, pt q7] :: iN .i64 ((OnD D D2 nm er).2) :: List.replicate 0 un).toArray, []⟩) (by kernel_rfl) ?_
  refine wp_ret ?_
  repeat first | refine then_ret ?_ | refine block_ret ?_
  exact bodyPost_ret (v := iN .i64 (OnD D D2 nm er).2) (by kernel_rfl) rfl ⟨rfl, DH.drop (A := [(q7, 79, #[.func (.func F) #[] cap]), (q4, 9, #[.string nm]), (q1, 23, #[.pointer (some ⟨d.q, 0, none⟩)])]) hD2⟩
end Go.Proofs.Ytjedhnjjgmbcbaa
