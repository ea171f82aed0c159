/-
  A new prim of terms; secrets.
-/
import Derived.Test.YtoogiblkommdfaaGreatP7
namespace Go.Proofs.YtoogiblkommdfaaGreat
open Go.RowKit

theorem tx_ne (k : Nat) : ¬ txt k = { data := #[] } := fun h => by
  have h2 := congrArg ByteArray.size h
  rw [txt_size] at h2
  cases h2
theorem perm_new (a c : Nat × TypeId × Array Value) (R B L' : BL) : (c :: (a :: (R ++ (B ++ L')))).Perm (a :: (R ++ (B ++ (c :: ([] ++ L'))))) := by
  have e : c :: (a :: (R ++ (B ++ L'))) = [c] ++ ((a :: (R ++ B)) ++ L') := by simp
  have e2 : a :: (R ++ (B ++ (c :: ([] ++ L')))) = (a :: (R ++ B)) ++ ([c] ++ L') := by simp
  rw [e, e2, ← List.append_assoc, ← List.append_assoc]
  exact List.Perm.append_right _ List.perm_append_comm
theorem Secret_E {w0 w : World} {M : ML} {p : Pr} {A A' : List Ent} {n : Nat} {L : BL} (H : PH w0 M p A n L w) (d : ByteArray) (hf : A.length < 58000) (hm : frA A = A') {x : Nat} (hx : A.length = x) :
    Calls Tryz.prog 18 #[pt p.q, .string d] w fun e w' => e = .returned (.string (txt x)) ∧ PH w0 M p A' n L w' := by
  have h := Secret_P H d hf
  rw [hm, hx] at h
  exact h
set_option linter.unusedVariables false in
set_option maxRecDepth 100000 in
set_option maxHeartbeats 2000000 in
theorem New_P {w0 w : World} {M : ML} {L : BL} (H0 : HA ⟨w0, M⟩ L w) :
    Calls Tryz.prog 15 #[iN .i64 1] w fun e w' => ∃ p : Pr, e = .returned (.tuple #[pt p.q, iN .i64 0]) ∧ PH w0 M p [] 0 L w' := by
  go_enter Tryz.func15, Tryz.ntmps15
  refine wp_seq (wl_region ?_)
  refine zv (.pointer none) ?_
  refine zv (iN .i64 0) ?_
  refine wl_nil ?_
  refine then_at (F := ⟨(iN .i64 1 :: un :: .pointer none :: iN .i64 0 :: List.replicate 14 un).toArray, []⟩) ky ?_
  refine wp_seq (wp_seq (wl_region ?_))
  refine zv (iN .i64 1) ?_
  refine wl_nil ?_
  refine then_at (F := ⟨(iN .i64 1 :: un :: .pointer none :: iN .i64 0 :: iN .i64 1 :: List.replicate 13 un).toArray, []⟩) ky ?_
  refine wp_block (wp_seq (wl_region ?_))
  refine zu (.bool false) (run_eqi (k := .i64) (a := 1) (b := 0) ky ky false (by decide)) ?_
  refine zv (.bool false) ?_
  refine wl_nil ?_
  refine then_at (F := ⟨(iN .i64 1 :: un :: .pointer none :: iN .i64 0 :: iN .i64 1 :: .bool false :: .bool false :: List.replicate 11 un).toArray, []⟩) ky ?_
  refine wp_cond_false ky ?_
  refine wp_seq (wl_region ?_)
  refine zu (.bool true) (run_eqi (k := .i64) (a := 1) (b := 1) ky ky true (by decide)) ?_
  refine zv (.bool true) ?_
  refine wl_nil ?_
  refine then_at (F := ⟨(iN .i64 1 :: un :: .pointer none :: iN .i64 0 :: iN .i64 1 :: .bool false :: .bool false :: un :: un :: un :: un :: .bool true :: .bool true :: List.replicate 5 un).toArray, []⟩) ky ?_
  refine wp_cond_true ky ?_
  refine wp_seq (wl_region ?_)
  refine wl_callx ky enter54 #[] ky (New_ok H0) ?_
  rintro _ w7 ⟨tb1, rfl, hT2⟩
  refine ⟨_, rfl, ?_⟩
  obtain ⟨v3, Lr4, hr5, h6⟩ := hT2
  refine zv (.agg #[.pointer (some ⟨tb1.q, 0, none⟩)]) ?_
  refine zv (.iface 114 (.agg #[.pointer (some ⟨tb1.q, 0, none⟩)])) ?_
  refine zv (.agg #[.iface 114 (.agg #[.pointer (some ⟨tb1.q, 0, none⟩)]), .slice none 0 0]) ?_
  refine wl_make (c := #[.iface 114 (.agg #[.pointer (some ⟨tb1.q, 0, none⟩)]), .slice none 0 0]) h6 112 ky ky ?_
  intro q8 w9 (h10 : HA (zb w0 M tb1 []) ((q8, 112, #[.iface 114 (.agg #[.pointer (some ⟨tb1.q, 0, none⟩)]), .slice none 0 0]) :: ((tb1.q, 145, tcell tb1 (nms []) v3) :: (Lr4 ++ (PB [] ++ L)))) w9)
  refine zv (.pointer (some ⟨q8, 0, none⟩)) ?_
  refine zv (iN .i64 0) ?_
  refine wl_nil ?_
  refine then_at (F := ⟨(iN .i64 1 :: un :: pt q8 :: iN .i64 0 :: iN .i64 1 :: .bool false :: .bool false :: un :: un :: un :: un :: .bool true :: .bool true :: pt tb1.q :: .agg #[pt tb1.q] :: .iface 114 (.agg #[pt tb1.q]) :: .agg #[.iface 114 (.agg #[pt tb1.q]), .slice none 0 0] :: pt q8 :: List.replicate 0 un).toArray, []⟩) ky ?_
  refine wp_ret ?_
  repeat first | refine then_ret ?_ | refine block_ret ?_
  exact bodyPost_ret (v := .tuple #[pt q8, iN .i64 0]) ky rfl ⟨⟨q8, tb1⟩, rfl, [], .slice none 0 0, [], [], rfl, OkT.nil, Row.nil 71 6, v3, Lr4, hr5, h10.perm (perm_new _ _ Lr4 (PB []) L)⟩
end Go.Proofs.YtoogiblkommdfaaGreat
