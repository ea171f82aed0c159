/-
 Builder: WriteString, String; frame.
-/
import Derived.Test.YtckmlaempffpjaaGreatGG
import Derived.Test.YtckmlaempffpjaaGreatSB
import Derived.Test.YtckmlaempffpjaaGreatWA
namespace Go.Proofs.YtckmlaempffpjaaGreat
open Go.RowKit

theorem run_appB {ρ : Operand → Value} {x y : Operand} {w w' : World} {dst : Option Tmp} {ty : TypeId} {pos : String} {aft : Array Edge} {gd : Option (Nat × Bool)} {v v' : Value} {s : ByteArray} (hx : ρ x = v) (hy : ρ y = .string s) (hrun : (Builtin.append_ #[62, 9] ty #[v, .string s]).run Tryz.prog w = .ok v' w') :
  (execOp ρ ⟨dst, .call { callee := .builtin .append, args := #[x, y], argTypes := #[62, 9] }, ty, pos, aft, gd⟩).run Tryz.prog w = .ok (.value v') w' := by
 unfold execOp
 simp only [resolve, invoke, builtin, Sem.run_bind, Sem.run_pure, Result.andThen_ok, List.map_toArray, List.map_cons, List.map_nil, hx, hy, hrun]
set_option linter.unusedVariables false in
set_option maxRecDepth 100000 in
set_option maxHeartbeats 2000000 in
theorem bwrite_any {z : Base} {L Lr : BL} {w : World} {b : Nat} {p v : Value} {l : List UInt8} (hp : BuP b p) (hR : RowB v l Lr) (H0 : HA z ((b, 147, #[p, v]) :: (Lr ++ L)) w) (s : ByteArray) (hlen : l.length + s.size ≤ 1099511627776) :
  Calls Tryz.prog 98 #[pt b, .string s] w fun e w' => e = .returned (.tuple #[iN .i64 s.size, .nilIface]) ∧ ∃ v' Lr', RowB v' (l ++ bl s) Lr' ∧ HA z ((b, 147, #[pt b, v']) :: (Lr' ++ L)) w' := by
 obtain ⟨p2, c2, hv2⟩ := hR.form
 subst hv2
 go_enter Tryz.func98, Tryz.ntmps98
 refine wp_seq ?_
 refine wl_region ?_
 refine zwv (iN .i64 0) ?_
 refine zwv (.nilIface) ?_
 refine wl_nil ?_
 refine then_at (F := ⟨(pt b :: .string s :: un :: un :: iN .i64 0 :: .nilIface :: List.replicate 13 un).toArray, []⟩) (by kernel_rfl) ?_
 refine wp_seq ?_
 refine wl_region ?_
 refine zwv (.pointer (some ⟨b, 0, none⟩)) ?_
 refine wl_callx (by kernel_rfl) enter133 #[.pointer (some ⟨b, 0, none⟩)] (by kernel_rfl) (check_any hp H0) ?_
 rintro _ w1 ⟨rfl, hck⟩
 refine ⟨_, rfl, ?_⟩
 refine wl_nil ?_
 refine then_at (F := ⟨(pt b :: .string s :: un :: un :: iN .i64 0 :: .nilIface :: pt b :: .tuple #[] :: List.replicate 11 un).toArray, []⟩) (by kernel_rfl) ?_
 refine wp_seq ?_
 refine wl_region ?_
 refine zwv (.pointer (some ⟨b, 0, none⟩)) ?_
 refine zwv (.pointer (some ⟨b, 0, none⟩)) ?_
 refine zwv (.pointer (some ⟨b, 0, none⟩)) ?_
 refine zwv (.pointer (some ⟨b, 1, none⟩)) ?_
 refine zwx (.slice p2 l.length c2) (run_load1 (fun w => Tryz.isAgg62 w) (by kernel_rfl) (((hck.get 0 rfl).cell 1).trans rfl)) ?_
 refine zwv (.string s) ?_
 obtain ⟨v4, w4, Lr4, hrun, hR4, h2⟩ := RowB.apps (L := (b, 147, #[pt b, .slice p2 l.length c2]) :: L) hR (hck.perm List.perm_middle.symm) s 62 hlen
 refine wl_any (by kernel_rfl) (run_appB (by kernel_rfl) (by kernel_rfl) hrun) ?_
 obtain ⟨p4, c4, hv4⟩ := hR4.form
 subst hv4
 have h3 : HA z ((b, 147, #[pt b, .slice p2 l.length c2]) :: (Lr4 ++ L)) w4 := h2.perm List.perm_middle
 refine zwv (.pointer (some ⟨b, 0, none⟩)) ?_
 refine zwv (.pointer (some ⟨b, 1, none⟩)) ?_
 refine wl_putv (v := .slice p4 (l ++ bl s).length c4) h3 0 rfl 1 (by show 1 < 2; decide) (by kernel_rfl) (fun w => Tryz.sizeOf62 w) (by kernel_rfl) (by kernel_rfl) (by kernel_rfl) ?_
 intro w4 (h5 : HA z ((b, 147, #[.pointer (some ⟨b, 0, none⟩), .slice p4 (l ++ bl s).length c4]) :: (Lr4 ++ L)) w4)
 refine wl_nil ?_
 refine then_at (F := ⟨(pt b :: .string s :: un :: un :: iN .i64 0 :: .nilIface :: pt b :: .tuple #[] :: pt b :: pt b :: pt b :: .pointer (some ⟨b, 1, none⟩) :: .slice p2 l.length c2 :: .string s :: .slice p4 (l ++ bl s).length c4 :: pt b :: .pointer (some ⟨b, 1, none⟩) :: List.replicate 2 un).toArray, []⟩) (by kernel_rfl) ?_
 refine wp_seq ?_
 refine wl_region ?_
 refine zwv (.string s) ?_
 refine zwx (iN .i64 s.size) (run_len (s := s) (by kernel_rfl)) ?_
 refine zwv (iN .i64 s.size) ?_
 refine zwv (.nilIface) ?_
 refine wl_nil ?_
 refine then_at (F := ⟨(pt b :: .string s :: un :: un :: iN .i64 s.size :: .nilIface :: pt b :: .tuple #[] :: pt b :: pt b :: pt b :: .pointer (some ⟨b, 1, none⟩) :: .slice p2 l.length c2 :: .string s :: .slice p4 (l ++ bl s).length c4 :: pt b :: .pointer (some ⟨b, 1, none⟩) :: .string s :: iN .i64 s.size :: List.replicate 0 un).toArray, []⟩) (by kernel_rfl) ?_
 refine wp_ret ?_
 repeat first | refine then_ret ?_ | refine block_ret ?_
 exact bodyPost_ret (v := .tuple #[iN .i64 s.size, .nilIface]) (by kernel_rfl) rfl ⟨rfl, _, Lr4, hR4, h5⟩
set_option linter.unusedVariables false in
set_option maxRecDepth 100000 in
set_option maxHeartbeats 2000000 in
theorem bstr_some {z : Base} {L : BL} {w : World} {b g cap : Nat} {p : Value} {l cur : List UInt8} (h0 : l ≠ []) (hl : l.length ≤ 9223372036854775807) (k1 : l.length ≤ cap) (k3 : cur.length = cap) (k4 : cur.take l.length = l) (hc0 : cap ≠ 0) (H0 : HA z ((b, 147, #[p, .slice (some ⟨g, 0, none⟩) l.length cap]) :: (g, 5, bc cur) :: L) w) :
  Calls Tryz.prog 99 #[pt b] w fun e w' => e = .returned (.string ⟨l.toArray⟩) ∧ HA z [] w' := by
 go_enter Tryz.func99, Tryz.ntmps99
 refine wp_seq ?_
 refine wl_region ?_
 refine zwv (.string ({ data := #[] })) ?_
 refine wl_nil ?_
 refine then_at (F := ⟨(pt b :: un :: .string ({ data := #[] }) :: List.replicate 11 un).toArray, []⟩) (by kernel_rfl) ?_
 refine wp_seq ?_
 refine wp_region_wx (HA z ((b, 147, #[p, .slice (some ⟨g, 0, none⟩) l.length cap]) :: (g, 5, bc cur) :: L)) (fun AQ w' => AQ = ⟨(pt b :: un :: .string ⟨l.toArray⟩ :: pt b :: pt b :: .pointer (some ⟨b, 1, none⟩) :: .slice (some ⟨g, 0, none⟩) l.length cap :: pt g :: pt b :: pt b :: .pointer (some ⟨b, 1, none⟩) :: .slice (some ⟨g, 0, none⟩) l.length cap :: iN .i64 l.length :: .string ⟨l.toArray⟩ :: List.replicate 0 un).toArray, []⟩ ∧ HA z [] w') 12 (by kernel_rfl) (by kernel_rfl) (by kernel_rfl) (by kernel_rfl) (by kernel_rfl) (H0.drew) ?_ ?_
 ·have h1 := H0.drew
  refine wx_pure (i := 0) (.pointer (some ⟨b, 0, none⟩)) rfl rfl (by kernel_rfl) (by kernel_rfl) (fun _ => (by kernel_rfl)) ?_
  refine wx_pure (i := 1) (.pointer (some ⟨b, 0, none⟩)) rfl rfl (by kernel_rfl) (by kernel_rfl) (fun _ => (by kernel_rfl)) ?_
  refine wx_pure (i := 2) (.pointer (some ⟨b, 1, none⟩)) rfl rfl (by kernel_rfl) (by kernel_rfl) (fun _ => (by kernel_rfl)) ?_
  refine wx_val (i := 3) (.slice (some ⟨g, 0, none⟩) l.length cap) rfl rfl (by kernel_rfl) (by kernel_rfl) (fun w' h' => run_load1 (fun w => Tryz.isAgg62 w) (by kernel_rfl) (((h'.get 0 rfl).cell 1).trans rfl)) ?_
  refine wx_pure (i := 4) (.pointer (some ⟨g, 0, none⟩)) rfl rfl (by kernel_rfl) (by kernel_rfl) (fun _ => (run_sdata (a := ⟨g, 0, none⟩) (n := l.length) (c := cap) (by kernel_rfl) hc0)) ?_
  refine wx_pure (i := 5) (.pointer (some ⟨b, 0, none⟩)) rfl rfl (by kernel_rfl) (by kernel_rfl) (fun _ => (by kernel_rfl)) ?_
  refine wx_pure (i := 6) (.pointer (some ⟨b, 0, none⟩)) rfl rfl (by kernel_rfl) (by kernel_rfl) (fun _ => (by kernel_rfl)) ?_
  refine wx_pure (i := 7) (.pointer (some ⟨b, 1, none⟩)) rfl rfl (by kernel_rfl) (by kernel_rfl) (fun _ => (by kernel_rfl)) ?_
  refine wx_val (i := 8) (.slice (some ⟨g, 0, none⟩) l.length cap) rfl rfl (by kernel_rfl) (by kernel_rfl) (fun w' h' => run_load1 (fun w => Tryz.isAgg62 w) (by kernel_rfl) (((h'.get 0 rfl).cell 1).trans rfl)) ?_
  refine wx_pure (i := 9) (iN .i64 l.length) rfl rfl (by kernel_rfl) (by kernel_rfl) (fun _ => (by kernel_rfl)) ?_
  refine wx_one 10 (by kernel_rfl) ?_
  refine ex_do rfl (by kernel_rfl) (by kernel_rfl) h1 fun w2 h3 => ⟨_, _, run_ustr (h3.get 1 rfl) k3 k1 k4 h0 hl (by kernel_rfl) (by kernel_rfl), HA z [], h3.frz (g := g) (t := 5) (c := bc cur) (by simp) _, ?_⟩
  have h4 := h3.frz (g := g) (t := 5) (c := bc cur) (by simp) l.length
  refine wx_pure (i := 11) (.string ⟨l.toArray⟩) rfl rfl (by kernel_rfl) (by kernel_rfl) (fun _ => (by kernel_rfl)) ?_
  refine wx_end fun w5 hbx _ => ?_
  have h6 := HA.keep _ _ h4 hbx
  exact ⟨by kernel_rfl, h6⟩
 ·rintro _ w7 ⟨rfl, h8⟩
  refine then_at (F := ⟨(pt b :: un :: .string ⟨l.toArray⟩ :: pt b :: pt b :: .pointer (some ⟨b, 1, none⟩) :: .slice (some ⟨g, 0, none⟩) l.length cap :: pt g :: pt b :: pt b :: .pointer (some ⟨b, 1, none⟩) :: .slice (some ⟨g, 0, none⟩) l.length cap :: iN .i64 l.length :: .string ⟨l.toArray⟩ :: List.replicate 0 un).toArray, []⟩) (by kernel_rfl) ?_
  refine wp_ret ?_
  repeat first | refine then_ret ?_ | refine block_ret ?_
  exact bodyPost_ret (v := .string ⟨l.toArray⟩) (by kernel_rfl) rfl ⟨rfl, h8.sub (List.nil_sublist _)⟩
set_option linter.unusedVariables false in
set_option maxRecDepth 100000 in
set_option maxHeartbeats 2000000 in
theorem bstr_none {z : Base} {L : BL} {w : World} {b : Nat} {p : Value} (H0 : HA z ((b, 147, #[p, .slice none 0 0]) :: L) w) :
  Calls Tryz.prog 99 #[pt b] w fun e w' => e = .returned (.string { data := #[] }) ∧ HA z [] w' := by
 go_enter Tryz.func99, Tryz.ntmps99
 refine wp_seq ?_
 refine wl_region ?_
 refine zwv (.string ({ data := #[] })) ?_
 refine wl_nil ?_
 refine then_at (F := ⟨(pt b :: un :: .string ({ data := #[] }) :: List.replicate 11 un).toArray, []⟩) (by kernel_rfl) ?_
 refine wp_seq ?_
 refine wp_region_sure ⟨(pt b :: un :: .string ({ data := #[] }) :: pt b :: pt b :: .pointer (some ⟨b, 1, none⟩) :: .slice none 0 0 :: .pointer none :: pt b :: pt b :: .pointer (some ⟨b, 1, none⟩) :: .slice none 0 0 :: iN .i64 0 :: .string ({ data := #[] }) :: List.replicate 0 un).toArray, []⟩ (HA z ((b, 147, #[p, .slice none 0 0]) :: L)) [.pointer (some ⟨b, 0, none⟩), .pointer (some ⟨b, 0, none⟩), .pointer (some ⟨b, 1, none⟩), .slice none 0 0, .pointer none, .pointer (some ⟨b, 0, none⟩), .pointer (some ⟨b, 0, none⟩), .pointer (some ⟨b, 1, none⟩), .slice none 0 0, iN .i64 0, .string ({ data := #[] }), .string ({ data := #[] })] (by kernel_rfl) (by kernel_rfl) (by kernel_rfl) (by kernel_rfl) (fun _ _ _ h => h) H0.drew ?_ ?_
 ·refine AllSure.cons (OpSure.take (v := .pointer (some ⟨b, 0, none⟩)) (by kernel_rfl) (by kernel_rfl) (fun _ _ => (by kernel_rfl))) ?_
  refine AllSure.cons (OpSure.take (v := .pointer (some ⟨b, 0, none⟩)) (by kernel_rfl) (by kernel_rfl) (fun _ _ => (by kernel_rfl))) ?_
  refine AllSure.cons (OpSure.take (v := .pointer (some ⟨b, 1, none⟩)) (by kernel_rfl) (by kernel_rfl) (fun _ _ => (by kernel_rfl))) ?_
  refine AllSure.cons (OpSure.take (v := .slice none 0 0) (by kernel_rfl) (by kernel_rfl) (fun w' h' => run_load1 (fun w => Tryz.isAgg62 w) (by kernel_rfl) (((h'.get 0 rfl).cell 1).trans rfl))) ?_
  refine AllSure.cons (OpSure.take (v := .pointer none) (by kernel_rfl) (by kernel_rfl) (fun _ _ => (run_sdata0 (by kernel_rfl)))) ?_
  refine AllSure.cons (OpSure.take (v := .pointer (some ⟨b, 0, none⟩)) (by kernel_rfl) (by kernel_rfl) (fun _ _ => (by kernel_rfl))) ?_
  refine AllSure.cons (OpSure.take (v := .pointer (some ⟨b, 0, none⟩)) (by kernel_rfl) (by kernel_rfl) (fun _ _ => (by kernel_rfl))) ?_
  refine AllSure.cons (OpSure.take (v := .pointer (some ⟨b, 1, none⟩)) (by kernel_rfl) (by kernel_rfl) (fun _ _ => (by kernel_rfl))) ?_
  refine AllSure.cons (OpSure.take (v := .slice none 0 0) (by kernel_rfl) (by kernel_rfl) (fun w' h' => run_load1 (fun w => Tryz.isAgg62 w) (by kernel_rfl) (((h'.get 0 rfl).cell 1).trans rfl))) ?_
  refine AllSure.cons (OpSure.take (v := iN .i64 0) (by kernel_rfl) (by kernel_rfl) (fun _ _ => (by kernel_rfl))) ?_
  refine AllSure.cons (OpSure.take (v := .string ({ data := #[] })) (by kernel_rfl) (by kernel_rfl) (fun _ _ => (run_ustr0 (by kernel_rfl) (by kernel_rfl)))) ?_
  refine AllSure.cons (OpSure.take (v := .string ({ data := #[] })) (by kernel_rfl) (by kernel_rfl) (fun _ _ => (by kernel_rfl))) ?_
  exact AllSure.nil
 intro w1 h2
 refine then_at (F := ⟨(pt b :: un :: .string ({ data := #[] }) :: pt b :: pt b :: .pointer (some ⟨b, 1, none⟩) :: .slice none 0 0 :: .pointer none :: pt b :: pt b :: .pointer (some ⟨b, 1, none⟩) :: .slice none 0 0 :: iN .i64 0 :: .string ({ data := #[] }) :: List.replicate 0 un).toArray, []⟩) (by kernel_rfl) ?_
 refine wp_ret ?_
 repeat first | refine then_ret ?_ | refine block_ret ?_
 exact bodyPost_ret (v := .string { data := #[] }) (by kernel_rfl) rfl ⟨rfl, h2.sub (List.nil_sublist _)⟩
theorem bstr_any {z : Base} {L Lr : BL} {w : World} {b : Nat} {p v : Value} {l : List UInt8} (hR : RowB v l Lr) (hl : l.length ≤ 9223372036854775807) (hne : l = [] → v = .slice none 0 0) (H : HA z ((b, 147, #[p, v]) :: (Lr ++ L)) w) :
  Calls Tryz.prog 99 #[pt b] w fun e w' => e = .returned (.string ⟨l.toArray⟩) ∧ HA z [] w' := by
 rcases hR with ⟨rfl, rfl, rfl⟩ | ⟨g, cap, cur, rfl, rfl, k1, k2, k3, k4⟩
 ·exact bstr_none H
 ·by_cases h0 : l = []
  ·have := hne h0
   cases this
  ·have : l.length ≠ 0 := fun e => h0 (List.length_eq_zero_iff.1 e)
   exact bstr_some h0 hl k1 k3 k4 (by omega) H
end Go.Proofs.YtckmlaempffpjaaGreat
