/-
 TermMore: who has more texts knows no less; known texts add nothing.
-/
import Derived.Test.YtihfeoanognonaaT45
import Derived.Test.YtihfeoanognonaaB3
import Derived.Test.YtihfeoanognonaaT10
namespace Go.Proofs.Ytihfeoanognonaa
set_option linter.unusedVariables false
set_option maxRecDepth 100000
set_option maxHeartbeats 8000000
open Go.RowKit
theorem run_app0 {ρ : Operand → Value} {x y : Operand} {w : World} {dst : Option Tmp} {ty : TypeId} {pos : String} {aft : Array Edge} {gd : Option (Nat × Bool)} {p o : Option Addr} {n c c' : Nat} (hx : ρ x = .slice p n c) (hy : ρ y = .slice o 0 c') (hn : n ≤ c) :
  (execOp ρ ⟨dst, .call { callee := .builtin .append, args := #[x, y], argTypes := #[48, 48] }, ty, pos, aft, gd⟩).run Try.prog w = .ok (.value (.slice p n c)) w := by
 unfold execOp
 simp only [resolve, invoke, builtin, Sem.run_bind, Sem.run_pure, Result.andThen_ok, List.map_toArray, List.map_cons, List.map_nil, hx, hy]
 cases p <;> cases o <;> simp [Builtin.append_, go_sem, Try.sizeOf9, hn]
section
variable {ops : Array Oper} {Q : Exit → Act → World → Prop} {a : Act} {rest : List Oper} {w : World} {z : Base} {Lr L : BL} {dst : Option Tmp} {ty : TypeId} {pos : String} {aft : Array Edge} {gd : Option (Nat × Bool)}
theorem wl_appS {n c : Nat} {v : Value} {xs : List Value} {ss : List ByteArray} {o : Option Addr} {x y : Operand} (hR : Row 9 1 v n xs Lr) (H : HA z (Lr ++ L) w) (hp : ss = [] ∨ ∃ pq cs, o = some ⟨pq, 0, none⟩ ∧ PreS cs ss ∧ Blk w pq 9 cs)
  (hw : Region.wanted ⟨dst, .call { callee := .builtin .append, args := #[x, y], argTypes := #[48, 48] }, ty, pos, aft, gd⟩ (yielded ops a.tmps) = true)
  (hx : a.eval x = v) (hy : a.eval y = .slice o ss.length c) (h63 : n + ss.length ≤ 1000000)
  (h : ∀ v' w' Lr', Row 9 1 v' (n + ss.length) (xs ++ ss.map Value.string) Lr' → HA z (Lr' ++ L) w' → WL Try.prog ops Q rest (a.put dst v') w') :
  WL Try.prog ops Q (⟨dst, .call { callee := .builtin .append, args := #[x, y], argTypes := #[48, 48] }, ty, pos, aft, gd⟩ :: rest) a w := by
 by_cases he : ss = []
 ·subst he
  obtain ⟨p, c1, hv, hc⟩ : ∃ p c1, v = .slice p n c1 ∧ n ≤ c1 := by
   rcases hR.2 with ⟨h1, h2, _⟩ | ⟨g, cap, cur, h1, _, h3, _⟩
   ·exact ⟨none, 0, by rw [h1, h2], by omega⟩
   ·exact ⟨_, _, h1, h3⟩
  rw [hv] at hx
  have := h v w Lr (by simpa using hR) H
  rw [hv] at this
  exact wl_val _ hw (run_app0 hx hy hc) this
 ·obtain ⟨pq, cs, rfl, hps, hb⟩ := hp.resolve_left he
  have hpos : 0 < ss.length := List.length_pos_iff.2 he
  refine wl_appendR (p := pq) (m := ss.length) (c := c) (news := ss.map Value.string) hR H (by decide) _ 16 Try.underlying48 info9 rfl (by decide) hw hx hy (by simp) (fun j u hu => ?_) (fun u hu => ?_) (by unfold maxLen; omega) (by omega) hpos h
  ·rw [hb.cell j]
   rw [List.getElem?_map] at hu
   obtain ⟨s, hs, rfl⟩ := Option.map_eq_some_iff.1 hu
   have hj : j < ss.length := (List.getElem?_eq_some_iff.1 hs).1
   rw [hps j hj, List.getD_eq_getElem?_getD, hs]; rfl
  ·obtain ⟨s, _, rfl⟩ := List.mem_map.1 hu; rfl
end
theorem perm_out (B Lr N N' : BL) : (B ++ ((Lr ++ N) ++ N')).Perm (Lr ++ (B ++ (N ++ N'))) := by
 rw [List.append_assoc Lr N N', ← List.append_assoc B Lr, ← List.append_assoc Lr B]; exact List.Perm.append_right _ List.perm_append_comm
theorem perm_in2 (B Lr N N' : BL) : (Lr ++ (B ++ (N ++ N'))).Perm (B ++ ((Lr ++ N) ++ N')) := (perm_out B Lr N N').symm
theorem Newer.one {B : Nat} {w : World} {q : Nat} {t : TypeId} {c : Array Value} (h1 : B ≤ q) (h2 : Blk w q t c) : Newer B w [(q, t, c)] := ⟨fun y hy => by rw [List.mem_singleton.1 hy]; exact ⟨h1, h2⟩, by simp⟩
theorem HA.add1 {z : Base} {L : BL} {w w' : World} {q : Nat} {t : TypeId} {c : Array Value} (H : HA z L w) (hb : Below w.heap.size w w') (h1 : w.heap.size ≤ q) (h2 : Blk w' q t c) : HA z ((q, t, c) :: L) w' := HA.perm (HA.addL H hb (Newer.one h1 h2)) (List.perm_append_singleton _ _)
theorem knownF_len {es : List Ent} (hwf : Wf es) (hwg : Wg es) (ss : List ByteArray) : (knownF es ss).length = es.length := by
 unfold knownF spreadS
 have h := seenK_ok (layK_ok hwf hwg es.length (Nat.le_refl _)).1 ss ss.length
 have key : ∀ n st, Wok es.length st → (runS n st).known.length = es.length := by
  intro n
  induction n with
  | zero => exact fun st h => h.kl
  | succ n ih =>
   intro st h
   rw [runS]
   split
   ·exact h.kl
   ·exact ih _ (stepS_ok h (by assumption)).1
 exact key _ _ h
def bsd (K : List Bool) (A : List ByteArray) : Nat → List ByteArray
 | 0 => A
 | k + 1 => if K.getD k false = true then bsd K A k ++ [txt k] else bsd K A k
theorem bsd_len (K : List Bool) (A : List ByteArray) : ∀ k, (bsd K A k).length ≤ A.length + k
 | 0 => Nat.le_refl _
 | k + 1 => by
  have := bsd_len K A k
  rw [bsd]
  split
  ·rw [List.length_append]; simp; omega
  ·omega
theorem bsd_mem (K : List Bool) (A : List ByteArray) : ∀ k, (∀ s ∈ A, s ∈ bsd K A k) ∧ ∀ s ∈ bsd K A k, s ∈ A ∨ ∃ i, i < k ∧ s = txt i ∧ K.getD i false = true
 | 0 => ⟨fun _ h => h, fun _ h => .inl h⟩
 | k + 1 => by
  obtain ⟨h1, h2⟩ := bsd_mem K A k
  rw [bsd]
  split
  ·rename_i hk
   refine ⟨fun s hs => List.mem_append_left _ (h1 s hs), fun s hs => ?_⟩
   rcases List.mem_append.1 hs with hs | hs
   ·exact (h2 s hs).imp id (fun ⟨i, a, b⟩ => ⟨i, by omega, b⟩)
   ·exact .inr ⟨k, by omega, List.mem_singleton.1 hs, hk⟩
  ·exact ⟨h1, fun s hs => (h2 s hs).imp id (fun ⟨i, a, b⟩ => ⟨i, by omega, b⟩)⟩
theorem bsd_size {K : List Bool} {A : List ByteArray} {k : Nat} (h : ∀ s ∈ A, s.size ≤ 60) : ∀ s ∈ bsd K A k, s.size ≤ 1000000 := fun s hs => by
 rcases (bsd_mem K A k).2 s hs with h1 | ⟨i, _, rfl, _⟩
 ·have := h s h1; omega
 ·rw [txt_size]; omega
theorem ActA.take {w : World} {o : Option Addr} {al : List Ac} (h : ActA w o al) (n : Nat) : ActA w o (al.take n) := fun i hi => by
 rw [List.length_take] at hi
 have e : (al.take n).getD i ac0 = al.getD i ac0 := by rw [List.getD_eq_getElem?_getD, List.getElem?_take, if_pos (by omega), ← List.getD_eq_getElem?_getD]
 rw [e]
 exact h i (by omega)
theorem run_cutA {ρ : Operand → Value} {x y : Operand} {w : World} {dst : Option Tmp} {ty : TypeId} {pos : String} {aft : Array Edge} {gd : Option (Nat × Bool)} {o : Option Addr} {n c k k' : Nat} (hx : ρ x = .slice o n c) (hy : ρ y = iN .i64 k) (hk : k ≤ c) (ho : o = none → c = 0 ∧ n = 0) (hkk : k = k') :
  (execOp ρ ⟨dst, .slice 22 x none (some y) none, ty, pos, aft, gd⟩).run Try.prog w = .ok (.value (.slice o k' c)) w := by
 subst hkk
 cases o with
 | none =>
  obtain ⟨rfl, rfl⟩ := ho rfl
  obtain rfl : k = 0 := by omega
  simp only [execOp, hx]
  simp [go_sem, Try.underlying22, hy, iN]
 | some a =>
  simp only [execOp, hx]
  simp [go_sem, Try.underlying22, Try.sizeOf56, hy, iN, hk]
theorem run_neqb {ρ : Operand → Value} {x y : Operand} {w : World} {dst : Option Tmp} {ty : TypeId} {pos : String} {aft : Array Edge} {gd : Option (Nat × Bool)} {b : Bool} (hx : ρ x = .bool b) (hy : ρ y = .bool b) : (execOp ρ ⟨dst, .binOp .neq 4 x y 4, ty, pos, aft, gd⟩).run Try.prog w = .ok (.value (.bool false)) w := by
 simp only [execOp, hx, hy]
 cases b <;> kernel_rfl
theorem more_any {w : World} {m0 : Int} (hv : w.cell? ⟨0, 0, none⟩ = some (.int .i64 m0)) (al : List Ac) (o : Option Addr) (c : Nat) (hp : ActA w o al) (hln : al.length ≤ 9223372036854775807) (hlc : al.length ≤ c) (ho : o = none → c = 0 ∧ al.length = 0) (ps1 : List (Int × ByteArray)) (o1 : Option Addr) (c1 : Nat) (hp1 : PcA w o1 ps1) (hpl1 : ps1.length ≤ 9223372036854775807) (ps2 : List (Int × ByteArray)) (o2 : Option Addr) (c2 : Nat) (hp2 : PcA w o2 ps2) (hpl2 : ps2.length ≤ 9223372036854775807) :
  Calls Try.prog 5 #[.slice o al.length c, .slice o1 ps1.length c1, .slice o2 ps2.length c2] w fun e w' => e = .returned (.bool true) ∧ Below w.heap.size w w' := by
 have H0 := HA.start w
 go_enter Try.func5, Try.ntmps5
 refine zsr ?_
 refine zwv (.bool false) ?_
 refine znt ?_
 refine zsr ?_
 refine zwv (.slice o al.length c) ?_
 refine zwv (.slice o al.length c) ?_
 refine zwv (iN .i64 al.length) ?_
 refine zwu (run_min (i := al.length) (j := 25)) ?_
 refine zwu (v := .slice o (al.take 25).length c) (run_cutA (n := al.length) (k := min al.length 25) (by kernel_rfl) (by kernel_rfl) (by omega) ho (by rw [List.length_take, Nat.min_comm])) ?_
 refine wl_callx enter8 #[.slice o (al.take 25).length c] (played_any (al.take 25) o c (hp.take 25) (by rw [List.length_take]; omega)) ?_
 rintro _ w1 ⟨tb, es, rv, RL, rfl, hT0, hr, hI, hle⟩
 refine ⟨_, rfl, ?_⟩
 obtain ⟨ro, rc, rfl⟩ := hr.form
 obtain ⟨tp2, tc3, Lr4, hR5, h6⟩ := TH.op hT0
 have h7 : HA (zb w [] tb es) ((RL ++ ((tb.q, 74, tcell tb (nms es) (.slice tp2 es.length tc3)) :: (Lr4 ++ PB es)))) w1 := h6
 refine zwv (.tuple #[.pointer (some ⟨tb.q, 0, none⟩), .agg #[.slice ro (es.map trm).length rc], .bool true]) ?_
 refine zwv (.pointer (some ⟨tb.q, 0, none⟩)) ?_
 refine zwv (.agg #[.slice ro (es.map trm).length rc]) ?_
 refine zwv (.bool true) ?_
 refine wl_make (c := #[.slice none 0 0]) h7 26 ?_
 intro q8 w9 (h10 : HA (zb w [] tb es) ((q8, 26, #[.slice none 0 0]) :: (RL ++ ((tb.q, 74, tcell tb (nms es) (.slice tp2 es.length tc3)) :: (Lr4 ++ PB es)))) w9)
 refine zwv (.pointer (some ⟨tb.q, 0, none⟩)) ?_
 refine wl_fill (c' := #[.slice ro (es.map trm).length rc]) h10 0 rfl rfl ?_
 intro w11 (h12 : HA (zb w [] tb es) ((q8, 26, #[.slice ro (es.map trm).length rc]) :: (RL ++ ((tb.q, 74, tcell tb (nms es) (.slice tp2 es.length tc3)) :: (Lr4 ++ PB es)))) w11)
 refine zwv (.bool true) ?_
 refine znt ?_
 refine wp_seq ?_
 refine zsr ?_
 refine zwv (.bool true) ?_
 refine zwv (.bool false) ?_
 refine znt ?_
 refine zcf ?_
 refine wp_skip ?_
 refine then_at rfl ?_
 refine zsr ?_
 refine zwv (.slice o1 ps1.length c1) ?_
 refine wl_callx enter21 #[.slice o1 ps1.length c1] (texts_any ps1 o1 c1 (hp1.keep h12.old.old) hpl1) ?_
 rintro _ w13 ⟨pv1, Lt1, rfl, hRt1, hNt1, hbt1⟩
 refine ⟨_, rfl, ?_⟩
 have h14 : HA (zb w [] tb es) ((q8, 26, #[.slice ro (es.map trm).length rc]) :: ((Lt1 ++ RL) ++ ((tb.q, 74, tcell tb (nms es) (.slice tp2 es.length tc3)) :: (Lr4 ++ PB es)))) w13 := HA.perm (HA.addL h12 hbt1 hNt1) (perm_ref [(q8, 26, #[.slice ro (es.map trm).length rc])] RL ((tb.q, 74, tcell tb (nms es) (.slice tp2 es.length tc3)) :: (Lr4 ++ PB es)) Lt1)
 obtain ⟨oa1, ca1, rfl, hpre1⟩ := Row.pre hRt1
 refine zwv (.tuple #[.slice oa1 (txl ps1 (min ps1.length 6)).length ca1, .string (txw ps1 (min ps1.length 6))]) ?_
 refine zwv (.slice oa1 (txl ps1 (min ps1.length 6)).length ca1) ?_
 refine zwv (.string (txw ps1 (min ps1.length 6))) ?_
 refine zwv (.slice oa1 (txl ps1 (min ps1.length 6)).length ca1) ?_
 refine zwv (.string (txw ps1 (min ps1.length 6))) ?_
 refine znt ?_
 refine zsr ?_
 refine zwv (.slice o2 ps2.length c2) ?_
 refine wl_callx enter21 #[.slice o2 ps2.length c2] (texts_any ps2 o2 c2 (hp2.keep h14.old.old) hpl2) ?_
 rintro _ w15 ⟨pv2, Lt2, rfl, hRt2, hNt2, hbt2⟩
 refine ⟨_, rfl, ?_⟩
 have h16 : HA (zb w [] tb es) ((q8, 26, #[.slice ro (es.map trm).length rc]) :: ((Lt2 ++ (Lt1 ++ RL)) ++ ((tb.q, 74, tcell tb (nms es) (.slice tp2 es.length tc3)) :: (Lr4 ++ PB es)))) w15 := HA.perm (HA.addL h14 hbt2 hNt2) (perm_ref [(q8, 26, #[.slice ro (es.map trm).length rc])] (Lt1 ++ RL) ((tb.q, 74, tcell tb (nms es) (.slice tp2 es.length tc3)) :: (Lr4 ++ PB es)) Lt2)
 obtain ⟨oa2, ca2, rfl, hpre2⟩ := Row.pre hRt2
 refine zwv (.tuple #[.slice oa2 (txl ps2 (min ps2.length 6)).length ca2, .string (txw ps2 (min ps2.length 6))]) ?_
 refine zwv (.slice oa2 (txl ps2 (min ps2.length 6)).length ca2) ?_
 refine zwv (.string (txw ps2 (min ps2.length 6))) ?_
 refine zwv (.slice oa2 (txl ps2 (min ps2.length 6)).length ca2) ?_
 refine zwv (.string (txw ps2 (min ps2.length 6))) ?_
 refine znt ?_
 refine zsr ?_
 refine zwv (.pointer (some ⟨tb.q, 0, none⟩)) ?_
 refine zwv (.slice oa1 (txl ps1 (min ps1.length 6)).length ca1) ?_
 refine wl_callx enter19 #[.pointer (some ⟨tb.q, 0, none⟩), .slice oa1 (txl ps1 (min ps1.length 6)).length ca1] (Known_any (TH.view (TH.cl ((q8, 26, #[.slice ro (es.map trm).length rc]) :: (Lt2 ++ (Lt1 ++ RL))) hR5 h16)) hI.wf hI.wg (by omega) (fun i u hu => hI.dd u (List.mem_of_getElem? hu)) (got (w := w) h16.old.old hv) (txl ps1 (min ps1.length 6)) oa1 ca1 (hpre1.imp id (fun ⟨pq, cs, e1, e2, e3⟩ => ⟨pq, cs, e1, e2, h16.blk (pq, 9, cs) (by simp [e3])⟩)) (fun i => by have := txl_get ps1 (min ps1.length 6) i; omega) (by rw [txl_len]; omega)) ?_
 rintro _ w22 ⟨kb18, rfl, hk19, hk20, hk21⟩
 refine ⟨_, rfl, ?_⟩
 have h23 : HA (zb w [] tb es) ((kb18, 4, boc (knownF es (txl ps1 (min ps1.length 6)))) :: (q8, 26, #[.slice ro (es.map trm).length rc]) :: ((Lt2 ++ (Lt1 ++ RL)) ++ ((tb.q, 74, tcell tb (nms es) (.slice tp2 es.length tc3)) :: (Lr4 ++ PB es)))) w22 := HA.add1 h16 hk21 hk19 hk20
 refine zwv (.slice (some ⟨kb18, 0, none⟩) es.length es.length) ?_
 refine znt ?_
 refine zsr ?_
 refine zwv (.pointer (some ⟨tb.q, 0, none⟩)) ?_
 refine zwv (.slice oa2 (txl ps2 (min ps2.length 6)).length ca2) ?_
 refine zwv (.slice oa1 (txl ps1 (min ps1.length 6)).length ca1) ?_
 have h24 : HA (zb w [] tb es) (Lt2 ++ ([(kb18, 4, boc (knownF es (txl ps1 (min ps1.length 6)))), (q8, 26, #[.slice ro (es.map trm).length rc])] ++ ((Lt1 ++ RL) ++ ((tb.q, 74, tcell tb (nms es) (.slice tp2 es.length tc3)) :: (Lr4 ++ PB es))))) w22 := HA.perm h23 (perm_out [(kb18, 4, boc (knownF es (txl ps1 (min ps1.length 6)))), (q8, 26, #[.slice ro (es.map trm).length rc])] Lt2 (Lt1 ++ RL) ((tb.q, 74, tcell tb (nms es) (.slice tp2 es.length tc3)) :: (Lr4 ++ PB es)))
 refine wl_appS (ss := (txl ps1 (min ps1.length 6))) (o := oa1) (c := ca1) hRt2 h24 (hpre1.imp id (fun ⟨pq, cs, e1, e2, e3⟩ => ⟨pq, cs, e1, e2, h23.blk (pq, 9, cs) (by simp [e3])⟩)) (by kernel_rfl) (by kernel_rfl) (by kernel_rfl) (by rw [txl_len, txl_len]; omega) ?_
 intro vb w25 Lb hRb h26
 have h27 : HA (zb w [] tb es) ((kb18, 4, boc (knownF es (txl ps1 (min ps1.length 6)))) :: (q8, 26, #[.slice ro (es.map trm).length rc]) :: ((Lb ++ (Lt1 ++ RL)) ++ ((tb.q, 74, tcell tb (nms es) (.slice tp2 es.length tc3)) :: (Lr4 ++ PB es)))) w25 := HA.perm h26 (perm_in2 [(kb18, 4, boc (knownF es (txl ps1 (min ps1.length 6)))), (q8, 26, #[.slice ro (es.map trm).length rc])] Lb (Lt1 ++ RL) ((tb.q, 74, tcell tb (nms es) (.slice tp2 es.length tc3)) :: (Lr4 ++ PB es)))
 have hRb2 : Row 9 1 vb ((txl ps2 (min ps2.length 6)) ++ (txl ps1 (min ps1.length 6))).length (((txl ps2 (min ps2.length 6)) ++ (txl ps1 (min ps1.length 6))).map Value.string) Lb := by rw [List.map_append, List.length_append]; exact hRb
 obtain ⟨ob, cb, rfl, hpreb⟩ := Row.pre hRb2
 refine wl_callx enter19 #[.pointer (some ⟨tb.q, 0, none⟩), .slice ob ((txl ps2 (min ps2.length 6)) ++ (txl ps1 (min ps1.length 6))).length cb] (Known_any (TH.view (TH.cl ((kb18, 4, boc (knownF es (txl ps1 (min ps1.length 6)))) :: (q8, 26, #[.slice ro (es.map trm).length rc]) :: (Lb ++ (Lt1 ++ RL))) hR5 h27)) hI.wf hI.wg (by omega) (fun i u hu => hI.dd u (List.mem_of_getElem? hu)) (got (w := w) h27.old.old hv) ((txl ps2 (min ps2.length 6)) ++ (txl ps1 (min ps1.length 6))) ob cb (hpreb.imp id (fun ⟨pq, cs, e1, e2, e3⟩ => ⟨pq, cs, e1, e2, h27.blk (pq, 9, cs) (by simp [e3])⟩)) (strs_le (fun s hs => by have := (List.mem_append.1 hs).elim (txl_size ps2 _ s) (txl_size ps1 _ s); omega)) (by rw [List.length_append, txl_len, txl_len]; omega)) ?_
 rintro _ w33 ⟨kb29, rfl, hk30, hk31, hk32⟩
 refine ⟨_, rfl, ?_⟩
 have h34 : HA (zb w [] tb es) ((kb29, 4, boc (knownF es ((txl ps2 (min ps2.length 6)) ++ (txl ps1 (min ps1.length 6))))) :: (kb18, 4, boc (knownF es (txl ps1 (min ps1.length 6)))) :: (q8, 26, #[.slice ro (es.map trm).length rc]) :: ((Lb ++ (Lt1 ++ RL)) ++ ((tb.q, 74, tcell tb (nms es) (.slice tp2 es.length tc3)) :: (Lr4 ++ PB es)))) w33 := HA.add1 h27 hk32 hk30 hk31
 refine zwv (.slice (some ⟨kb29, 0, none⟩) es.length es.length) ?_
 refine znt ?_
 refine zsr ?_
 refine zwv (.slice none 0 0) ?_
 refine znt ?_
 refine zsr ?_
 refine zwv (.slice none 0 0) ?_
 refine zwv (.slice oa1 (txl ps1 (min ps1.length 6)).length ca1) ?_
 refine wl_appS (ss := (txl ps1 (min ps1.length 6))) (o := oa1) (c := ca1) (Lr := []) (L := ((kb29, 4, boc (knownF es ((txl ps2 (min ps2.length 6)) ++ (txl ps1 (min ps1.length 6))))) :: (kb18, 4, boc (knownF es (txl ps1 (min ps1.length 6)))) :: (q8, 26, #[.slice ro (es.map trm).length rc]) :: ((Lb ++ (Lt1 ++ RL)) ++ ((tb.q, 74, tcell tb (nms es) (.slice tp2 es.length tc3)) :: (Lr4 ++ PB es))))) (Row.nil 9 1) h34 (hpre1.imp id (fun ⟨pq, cs, e1, e2, e3⟩ => ⟨pq, cs, e1, e2, h34.blk (pq, 9, cs) (by simp [e3])⟩)) (by kernel_rfl) (by kernel_rfl) (by kernel_rfl) (by rw [txl_len]; omega) ?_
 intro vs w36 Ls hRs h37
 have h38 : HA (zb w [] tb es) ((kb29, 4, boc (knownF es ((txl ps2 (min ps2.length 6)) ++ (txl ps1 (min ps1.length 6))))) :: (kb18, 4, boc (knownF es (txl ps1 (min ps1.length 6)))) :: (q8, 26, #[.slice ro (es.map trm).length rc]) :: ((Ls ++ (Lb ++ (Lt1 ++ RL))) ++ ((tb.q, 74, tcell tb (nms es) (.slice tp2 es.length tc3)) :: (Lr4 ++ PB es)))) w36 := HA.perm h37 (perm_in2 [(kb29, 4, boc (knownF es ((txl ps2 (min ps2.length 6)) ++ (txl ps1 (min ps1.length 6))))), (kb18, 4, boc (knownF es (txl ps1 (min ps1.length 6)))), (q8, 26, #[.slice ro (es.map trm).length rc])] Ls (Lb ++ (Lt1 ++ RL)) ((tb.q, 74, tcell tb (nms es) (.slice tp2 es.length tc3)) :: (Lr4 ++ PB es)))
 have hRs2 : Row 9 1 vs (bsd (knownF es (txl ps1 (min ps1.length 6))) (txl ps1 (min ps1.length 6)) 0).length ((bsd (knownF es (txl ps1 (min ps1.length 6))) (txl ps1 (min ps1.length 6)) 0).map Value.string) Ls := by rw [Nat.zero_add, List.nil_append] at hRs; exact hRs
 refine zwv (vs) ?_
 refine zna ⟨(.slice o al.length c :: .slice o1 ps1.length c1 :: .slice o2 ps2.length c2 :: un :: un :: un :: .bool false :: pt tb.q :: pt q8 :: .bool true :: .slice oa1 (txl ps1 (min ps1.length 6)).length ca1 :: .string (txw ps1 (min ps1.length 6)) :: .slice oa2 (txl ps2 (min ps2.length 6)).length ca2 :: .string (txw ps2 (min ps2.length 6)) :: .slice (some ⟨kb18, 0, none⟩) es.length es.length :: .slice (some ⟨kb29, 0, none⟩) es.length es.length :: vs :: un :: un :: un :: .tuple #[pt tb.q, .agg #[.slice ro (es.map trm).length rc], .bool true] :: .slice o al.length c :: .slice o al.length c :: iN .i64 al.length :: iN .i64 (min al.length 25) :: .slice o (al.take 25).length c :: .tuple #[pt tb.q, .agg #[.slice ro (es.map trm).length rc], .bool true] :: pt tb.q :: .agg #[.slice ro (es.map trm).length rc] :: .bool true :: .bool true :: .bool false :: .tuple #[.slice oa1 (txl ps1 (min ps1.length 6)).length ca1, .string (txw ps1 (min ps1.length 6))] :: .slice o1 ps1.length c1 :: .tuple #[.slice oa1 (txl ps1 (min ps1.length 6)).length ca1, .string (txw ps1 (min ps1.length 6))] :: .slice oa1 (txl ps1 (min ps1.length 6)).length ca1 :: .string (txw ps1 (min ps1.length 6)) :: .tuple #[.slice oa2 (txl ps2 (min ps2.length 6)).length ca2, .string (txw ps2 (min ps2.length 6))] :: .slice o2 ps2.length c2 :: .tuple #[.slice oa2 (txl ps2 (min ps2.length 6)).length ca2, .string (txw ps2 (min ps2.length 6))] :: .slice oa2 (txl ps2 (min ps2.length 6)).length ca2 :: .string (txw ps2 (min ps2.length 6)) :: pt tb.q :: .slice oa1 (txl ps1 (min ps1.length 6)).length ca1 :: .slice (some ⟨kb18, 0, none⟩) es.length es.length :: pt tb.q :: .slice oa2 (txl ps2 (min ps2.length 6)).length ca2 :: .slice oa1 (txl ps1 (min ps1.length 6)).length ca1 :: .slice ob ((txl ps2 (min ps2.length 6)) ++ (txl ps1 (min ps1.length 6))).length cb :: .slice (some ⟨kb29, 0, none⟩) es.length es.length :: .slice none 0 0 :: .slice oa1 (txl ps1 (min ps1.length 6)).length ca1 :: vs :: List.replicate 51 un).toArray, []⟩ ?_
 refine wp_seq ?_
 refine zsr ?_
 refine zwv (iN .i64 0) ?_
 refine znt ?_
 refine wp_block ?_
 refine wp_count (fun i A w' => ∃ u39 : Nat → Value, A = ⟨(.slice o al.length c :: .slice o1 ps1.length c1 :: .slice o2 ps2.length c2 :: un :: un :: un :: u39 6 :: pt tb.q :: pt q8 :: .bool true :: .slice oa1 (txl ps1 (min ps1.length 6)).length ca1 :: .string (txw ps1 (min ps1.length 6)) :: .slice oa2 (txl ps2 (min ps2.length 6)).length ca2 :: .string (txw ps2 (min ps2.length 6)) :: .slice (some ⟨kb18, 0, none⟩) es.length es.length :: .slice (some ⟨kb29, 0, none⟩) es.length es.length :: u39 16 :: iN .i64 i :: un :: un :: .tuple #[pt tb.q, .agg #[.slice ro (es.map trm).length rc], .bool true] :: .slice o al.length c :: .slice o al.length c :: iN .i64 al.length :: iN .i64 (min al.length 25) :: .slice o (al.take 25).length c :: .tuple #[pt tb.q, .agg #[.slice ro (es.map trm).length rc], .bool true] :: pt tb.q :: .agg #[.slice ro (es.map trm).length rc] :: .bool true :: .bool true :: .bool false :: .tuple #[.slice oa1 (txl ps1 (min ps1.length 6)).length ca1, .string (txw ps1 (min ps1.length 6))] :: .slice o1 ps1.length c1 :: .tuple #[.slice oa1 (txl ps1 (min ps1.length 6)).length ca1, .string (txw ps1 (min ps1.length 6))] :: .slice oa1 (txl ps1 (min ps1.length 6)).length ca1 :: .string (txw ps1 (min ps1.length 6)) :: .tuple #[.slice oa2 (txl ps2 (min ps2.length 6)).length ca2, .string (txw ps2 (min ps2.length 6))] :: .slice o2 ps2.length c2 :: .tuple #[.slice oa2 (txl ps2 (min ps2.length 6)).length ca2, .string (txw ps2 (min ps2.length 6))] :: .slice oa2 (txl ps2 (min ps2.length 6)).length ca2 :: .string (txw ps2 (min ps2.length 6)) :: pt tb.q :: .slice oa1 (txl ps1 (min ps1.length 6)).length ca1 :: .slice (some ⟨kb18, 0, none⟩) es.length es.length :: pt tb.q :: .slice oa2 (txl ps2 (min ps2.length 6)).length ca2 :: .slice oa1 (txl ps1 (min ps1.length 6)).length ca1 :: .slice ob ((txl ps2 (min ps2.length 6)) ++ (txl ps1 (min ps1.length 6))).length cb :: .slice (some ⟨kb29, 0, none⟩) es.length es.length :: .slice none 0 0 :: .slice oa1 (txl ps1 (min ps1.length 6)).length ca1 :: vs :: u39 53 :: u39 54 :: u39 55 :: u39 56 :: u39 57 :: u39 58 :: u39 59 :: u39 60 :: u39 61 :: u39 62 :: u39 63 :: u39 64 :: u39 65 :: u39 66 :: u39 67 :: u39 68 :: u39 69 :: u39 70 :: u39 71 :: u39 72 :: u39 73 :: u39 74 :: u39 75 :: u39 76 :: u39 77 :: u39 78 :: u39 79 :: u39 80 :: u39 81 :: u39 82 :: u39 83 :: u39 84 :: List.replicate 19 un).toArray, []⟩ ∧ ∃ Ls, Row 9 1 (u39 16) (bsd (knownF es (txl ps1 (min ps1.length 6))) (txl ps1 (min ps1.length 6)) i).length ((bsd (knownF es (txl ps1 (min ps1.length 6))) (txl ps1 (min ps1.length 6)) i).map Value.string) Ls ∧ HA (zb w [] tb es) ((kb29, 4, boc (knownF es ((txl ps2 (min ps2.length 6)) ++ (txl ps1 (min ps1.length 6))))) :: (kb18, 4, boc (knownF es (txl ps1 (min ps1.length 6)))) :: (q8, 26, #[.slice ro (es.map trm).length rc]) :: ((Ls ++ (Lb ++ (Lt1 ++ RL))) ++ ((tb.q, 74, tcell tb (nms es) (.slice tp2 es.length tc3)) :: (Lr4 ++ PB es)))) w') es.length ?_ ?_ ?_
 ·exact ⟨lku (fun _ => undef) [(6, .bool false), (16, vs)], by kernel_rfl, ⟨Ls, by exact hRs2, h38⟩⟩
 ·rintro i hk _ w40 ⟨u39, rfl, ⟨Ls, hRs, hA⟩⟩
  have hbl := bsd_len (knownF es (txl ps1 (min ps1.length 6))) (txl ps1 (min ps1.length 6)) i
  rw [txl_len] at hbl
  refine wp_seq ?_
  refine zsr ?_
  refine zwv (iN .i64 i) ?_
  refine zwv (.slice (some ⟨kb18, 0, none⟩) es.length es.length) ?_
  refine zwv (iN .i64 es.length) ?_
  refine zwu (run_lss (k := .i64) (a := i) (b := es.length) true (decide_eq_true (by omega))) ?_
  refine znt ?_
  refine zct ?_
  refine wp_skip ?_
  refine then_at rfl ?_
  refine wp_seq ?_
  refine wp_block ?_
  refine wp_seq ?_
  refine wp_seq ?_
  rcases hx1 : (knownF es (txl ps1 (min ps1.length 6))).getD i false with _ | _
  ·have hRs0 : Row 9 1 (u39 16) (bsd (knownF es (txl ps1 (min ps1.length 6))) (txl ps1 (min ps1.length 6)) (i + 1)).length ((bsd (knownF es (txl ps1 (min ps1.length 6))) (txl ps1 (min ps1.length 6)) (i + 1)).map Value.string) Ls := by rw [bsd, if_neg (by rw [hx1]; decide)]; exact hRs
   refine wl_region ?_
   refine zwv (iN .i64 i) ?_
   refine zwv (.slice (some ⟨kb29, 0, none⟩) es.length es.length) ?_
   refine zwv (iN .i64 es.length) ?_
   refine zwu (run_geq (k := .i64) (a := i) (b := es.length) false (decide_eq_false (by omega))) ?_
   refine zwv (.bool false) ?_
   refine zwv (.slice (some ⟨kb18, 0, none⟩) es.length es.length) ?_
   refine zwv (iN .i64 i) ?_
   refine zwu (v := .pointer (some ⟨kb18, i, none⟩)) (run_addr_slice (q := kb18) (n := es.length) (m := es.length) (a := i) Try.underlying46 Try.sizeOf4 (by omega)) ?_
   refine zwu (v := .bool false) (run_load1 Try.isAgg4 (((hA.get 1 rfl).cell i).trans ((boc_get (knownF es (txl ps1 (min ps1.length 6))) i (by rw [knownF_len hI.wf hI.wg]; omega)).trans (by rw [hx1])))) ?_
   refine zwv (.bool false) ?_
   refine wl_skip ?_
   refine wl_skip ?_
   refine wl_skip ?_
   refine wl_skip ?_
   refine wl_skip ?_
   refine zwv (.bool false) ?_
   refine zwv (.bool false) ?_
   refine znt ?_
   refine zcf ?_
   refine wp_skip ?_
   refine then_at rfl ?_
   refine zsr ?_
   refine zwv (.slice (some ⟨kb18, 0, none⟩) es.length es.length) ?_
   refine zwv (iN .i64 i) ?_
   refine zwu (v := .pointer (some ⟨kb18, i, none⟩)) (run_addr_slice (q := kb18) (n := es.length) (m := es.length) (a := i) Try.underlying46 Try.sizeOf4 (by omega)) ?_
   refine zwu (v := .bool false) (run_load1 Try.isAgg4 (((hA.get 1 rfl).cell i).trans ((boc_get (knownF es (txl ps1 (min ps1.length 6))) i (by rw [knownF_len hI.wf hI.wg]; omega)).trans (by rw [hx1])))) ?_
   refine znt ?_
   refine zcf ?_
   refine wp_skip ?_
   refine block_normal ?_
   refine then_at rfl ?_
   refine wl_region ?_
   refine zwv (iN .i64 i) ?_
   refine zwu (run_add (k := .i64) (a := i) (b := 1) (by simp only [top]; omega)) ?_
   refine zwv (iN .i64 (i + 1)) ?_
   refine wl_nil ?_
   exact then_I ⟨lku u39 [(53, iN .i64 i), (54, .slice (some ⟨kb18, 0, none⟩) es.length es.length), (55, iN .i64 es.length), (56, .bool true), (57, iN .i64 i), (58, iN .i64 (i + 1)), (59, iN .i64 i), (60, .slice (some ⟨kb29, 0, none⟩) es.length es.length), (61, iN .i64 es.length), (62, .bool false), (63, .bool false), (64, .slice (some ⟨kb18, 0, none⟩) es.length es.length), (65, iN .i64 i), (66, .pointer (some ⟨kb18, i, none⟩)), (67, .bool false), (68, .bool false), (69, undef), (70, undef), (71, undef), (72, undef), (73, undef), (74, .bool false), (75, .bool false), (76, .slice (some ⟨kb18, 0, none⟩) es.length es.length), (77, iN .i64 i), (78, .pointer (some ⟨kb18, i, none⟩)), (79, .bool false)], by kernel_rfl, ⟨Ls, by exact hRs0, hA⟩⟩
  ·have hy1 := known_mono hI.wf hI.wg (by omega) (ss := (txl ps1 (min ps1.length 6))) (ss' := (txl ps2 (min ps2.length 6)) ++ (txl ps1 (min ps1.length 6))) (fun s hs => List.mem_append_right _ hs) hx1
   refine wl_region ?_
   refine zwv (iN .i64 i) ?_
   refine zwv (.slice (some ⟨kb29, 0, none⟩) es.length es.length) ?_
   refine zwv (iN .i64 es.length) ?_
   refine zwu (run_geq (k := .i64) (a := i) (b := es.length) false (decide_eq_false (by omega))) ?_
   refine zwv (.bool false) ?_
   refine zwv (.slice (some ⟨kb18, 0, none⟩) es.length es.length) ?_
   refine zwv (iN .i64 i) ?_
   refine zwu (v := .pointer (some ⟨kb18, i, none⟩)) (run_addr_slice (q := kb18) (n := es.length) (m := es.length) (a := i) Try.underlying46 Try.sizeOf4 (by omega)) ?_
   refine zwu (v := .bool true) (run_load1 Try.isAgg4 (((hA.get 1 rfl).cell i).trans ((boc_get (knownF es (txl ps1 (min ps1.length 6))) i (by rw [knownF_len hI.wf hI.wg]; omega)).trans (by rw [hx1])))) ?_
   refine zwv (.bool true) ?_
   refine zwv (.slice (some ⟨kb29, 0, none⟩) es.length es.length) ?_
   refine zwv (iN .i64 i) ?_
   refine zwu (v := .pointer (some ⟨kb29, i, none⟩)) (run_addr_slice (q := kb29) (n := es.length) (m := es.length) (a := i) Try.underlying46 Try.sizeOf4 (by omega)) ?_
   refine zwu (v := .bool true) (run_load1 Try.isAgg4 (((hA.get 0 rfl).cell i).trans ((boc_get (knownF es ((txl ps2 (min ps2.length 6)) ++ (txl ps1 (min ps1.length 6)))) i (by rw [knownF_len hI.wf hI.wg]; omega)).trans (by rw [hy1])))) ?_
   refine zwv (.bool false) ?_
   refine zwv (.bool false) ?_
   refine zwv (.bool false) ?_
   refine zna ⟨(.slice o al.length c :: .slice o1 ps1.length c1 :: .slice o2 ps2.length c2 :: un :: un :: un :: u39 6 :: pt tb.q :: pt q8 :: .bool true :: .slice oa1 (txl ps1 (min ps1.length 6)).length ca1 :: .string (txw ps1 (min ps1.length 6)) :: .slice oa2 (txl ps2 (min ps2.length 6)).length ca2 :: .string (txw ps2 (min ps2.length 6)) :: .slice (some ⟨kb18, 0, none⟩) es.length es.length :: .slice (some ⟨kb29, 0, none⟩) es.length es.length :: u39 16 :: iN .i64 i :: un :: un :: .tuple #[pt tb.q, .agg #[.slice ro (es.map trm).length rc], .bool true] :: .slice o al.length c :: .slice o al.length c :: iN .i64 al.length :: iN .i64 (min al.length 25) :: .slice o (al.take 25).length c :: .tuple #[pt tb.q, .agg #[.slice ro (es.map trm).length rc], .bool true] :: pt tb.q :: .agg #[.slice ro (es.map trm).length rc] :: .bool true :: .bool true :: .bool false :: .tuple #[.slice oa1 (txl ps1 (min ps1.length 6)).length ca1, .string (txw ps1 (min ps1.length 6))] :: .slice o1 ps1.length c1 :: .tuple #[.slice oa1 (txl ps1 (min ps1.length 6)).length ca1, .string (txw ps1 (min ps1.length 6))] :: .slice oa1 (txl ps1 (min ps1.length 6)).length ca1 :: .string (txw ps1 (min ps1.length 6)) :: .tuple #[.slice oa2 (txl ps2 (min ps2.length 6)).length ca2, .string (txw ps2 (min ps2.length 6))] :: .slice o2 ps2.length c2 :: .tuple #[.slice oa2 (txl ps2 (min ps2.length 6)).length ca2, .string (txw ps2 (min ps2.length 6))] :: .slice oa2 (txl ps2 (min ps2.length 6)).length ca2 :: .string (txw ps2 (min ps2.length 6)) :: pt tb.q :: .slice oa1 (txl ps1 (min ps1.length 6)).length ca1 :: .slice (some ⟨kb18, 0, none⟩) es.length es.length :: pt tb.q :: .slice oa2 (txl ps2 (min ps2.length 6)).length ca2 :: .slice oa1 (txl ps1 (min ps1.length 6)).length ca1 :: .slice ob ((txl ps2 (min ps2.length 6)) ++ (txl ps1 (min ps1.length 6))).length cb :: .slice (some ⟨kb29, 0, none⟩) es.length es.length :: .slice none 0 0 :: .slice oa1 (txl ps1 (min ps1.length 6)).length ca1 :: vs :: iN .i64 i :: .slice (some ⟨kb18, 0, none⟩) es.length es.length :: iN .i64 es.length :: .bool true :: u39 57 :: u39 58 :: iN .i64 i :: .slice (some ⟨kb29, 0, none⟩) es.length es.length :: iN .i64 es.length :: .bool false :: .bool false :: .slice (some ⟨kb18, 0, none⟩) es.length es.length :: iN .i64 i :: .pointer (some ⟨kb18, i, none⟩) :: .bool true :: .bool true :: .slice (some ⟨kb29, 0, none⟩) es.length es.length :: iN .i64 i :: .pointer (some ⟨kb29, i, none⟩) :: .bool true :: .bool false :: .bool false :: .bool false :: u39 76 :: u39 77 :: u39 78 :: u39 79 :: u39 80 :: u39 81 :: u39 82 :: u39 83 :: u39 84 :: List.replicate 19 un).toArray, []⟩ ?_
   refine zcf ?_
   refine wp_skip ?_
   refine then_at rfl ?_
   refine zsr ?_
   refine zwv (.slice (some ⟨kb18, 0, none⟩) es.length es.length) ?_
   refine zwv (iN .i64 i) ?_
   refine zwu (v := .pointer (some ⟨kb18, i, none⟩)) (run_addr_slice (q := kb18) (n := es.length) (m := es.length) (a := i) Try.underlying46 Try.sizeOf4 (by omega)) ?_
   refine zwu (v := .bool true) (run_load1 Try.isAgg4 (((hA.get 1 rfl).cell i).trans ((boc_get (knownF es (txl ps1 (min ps1.length 6))) i (by rw [knownF_len hI.wf hI.wg]; omega)).trans (by rw [hx1])))) ?_
   refine znt ?_
   refine zct ?_
   refine wl_region ?_
   refine zwv (u39 16) ?_
   refine zwv (iN .i64 i) ?_
   refine zwc hA enter22 (name_any i (by omega) w40) ?_
   intro w41 h42
   refine wl_mks (n := 1) (m := 1) (c := #[.string (txt i)]) h42 9 ?_
   intro q43 w44 (h45 : HA (zb w [] tb es) ((q43, 9, #[.string (txt i)]) :: (kb29, 4, boc (knownF es ((txl ps2 (min ps2.length 6)) ++ (txl ps1 (min ps1.length 6))))) :: (kb18, 4, boc (knownF es (txl ps1 (min ps1.length 6)))) :: (q8, 26, #[.slice ro (es.map trm).length rc]) :: ((Ls ++ (Lb ++ (Lt1 ++ RL))) ++ ((tb.q, 74, tcell tb (nms es) (.slice tp2 es.length tc3)) :: (Lr4 ++ PB es)))) w44)
   have h46 : HA (zb w [] tb es) ((q43, 9, #[.string (txt i)]) :: (Ls ++ ([(kb29, 4, boc (knownF es ((txl ps2 (min ps2.length 6)) ++ (txl ps1 (min ps1.length 6))))), (kb18, 4, boc (knownF es (txl ps1 (min ps1.length 6)))), (q8, 26, #[.slice ro (es.map trm).length rc])] ++ ((Lb ++ (Lt1 ++ RL)) ++ ((tb.q, 74, tcell tb (nms es) (.slice tp2 es.length tc3)) :: (Lr4 ++ PB es)))))) w44 := HA.perm h45 (perm_row _ [(kb29, 4, boc (knownF es ((txl ps2 (min ps2.length 6)) ++ (txl ps1 (min ps1.length 6))))), (kb18, 4, boc (knownF es (txl ps1 (min ps1.length 6)))), (q8, 26, #[.slice ro (es.map trm).length rc])] Ls (Lb ++ (Lt1 ++ RL)) ((tb.q, 74, tcell tb (nms es) (.slice tp2 es.length tc3)) :: (Lr4 ++ PB es)))
   refine wl_append (m := 1) (c := 1) (Lr := Ls) hRs h46 _ 16 Try.underlying48 info9 rfl rfl (by unfold maxLen; omega) (by omega) ?_
   intro v2 w47 Ls2 hRs2 h48
   have h49 : HA (zb w [] tb es) ((kb29, 4, boc (knownF es ((txl ps2 (min ps2.length 6)) ++ (txl ps1 (min ps1.length 6))))) :: (kb18, 4, boc (knownF es (txl ps1 (min ps1.length 6)))) :: (q8, 26, #[.slice ro (es.map trm).length rc]) :: ((Ls2 ++ (Lb ++ (Lt1 ++ RL))) ++ ((tb.q, 74, tcell tb (nms es) (.slice tp2 es.length tc3)) :: (Lr4 ++ PB es)))) w47 := HA.perm h48 (perm_in2 [(kb29, 4, boc (knownF es ((txl ps2 (min ps2.length 6)) ++ (txl ps1 (min ps1.length 6))))), (kb18, 4, boc (knownF es (txl ps1 (min ps1.length 6)))), (q8, 26, #[.slice ro (es.map trm).length rc])] Ls2 (Lb ++ (Lt1 ++ RL)) ((tb.q, 74, tcell tb (nms es) (.slice tp2 es.length tc3)) :: (Lr4 ++ PB es)))
   have hRs3 : Row 9 1 v2 (bsd (knownF es (txl ps1 (min ps1.length 6))) (txl ps1 (min ps1.length 6)) (i + 1)).length ((bsd (knownF es (txl ps1 (min ps1.length 6))) (txl ps1 (min ps1.length 6)) (i + 1)).map Value.string) Ls2 := by rw [bsd, if_pos hx1, List.map_append, List.length_append]; exact hRs2
   refine zwv (v2) ?_
   refine wl_nil ?_
   refine block_normal ?_
   refine then_at rfl ?_
   refine wl_region ?_
   refine zwv (iN .i64 i) ?_
   refine zwu (run_add (k := .i64) (a := i) (b := 1) (by simp only [top]; omega)) ?_
   refine zwv (iN .i64 (i + 1)) ?_
   refine wl_nil ?_
   exact then_I ⟨lku u39 [(16, v2), (53, iN .i64 i), (54, .slice (some ⟨kb18, 0, none⟩) es.length es.length), (55, iN .i64 es.length), (56, .bool true), (57, iN .i64 i), (58, iN .i64 (i + 1)), (59, iN .i64 i), (60, .slice (some ⟨kb29, 0, none⟩) es.length es.length), (61, iN .i64 es.length), (62, .bool false), (63, .bool false), (64, .slice (some ⟨kb18, 0, none⟩) es.length es.length), (65, iN .i64 i), (66, .pointer (some ⟨kb18, i, none⟩)), (67, .bool true), (68, .bool true), (69, .slice (some ⟨kb29, 0, none⟩) es.length es.length), (70, iN .i64 i), (71, .pointer (some ⟨kb29, i, none⟩)), (72, .bool true), (73, .bool false), (74, .bool false), (75, .bool false), (76, .slice (some ⟨kb18, 0, none⟩) es.length es.length), (77, iN .i64 i), (78, .pointer (some ⟨kb18, i, none⟩)), (79, .bool true), (80, u39 16), (81, iN .i64 i), (82, .string (txt i)), (83, .slice (some ⟨q43, 0, none⟩) 1 1), (84, v2)], by kernel_rfl, ⟨Ls2, by exact hRs3, h49⟩⟩
 ·rintro _ w50 ⟨u39, rfl, ⟨Ls, hRs, hA⟩⟩
  have hbl := bsd_len (knownF es (txl ps1 (min ps1.length 6))) (txl ps1 (min ps1.length 6)) es.length
  rw [txl_len] at hbl
  refine wp_seq ?_
  refine zsr ?_
  refine zwv (iN .i64 es.length) ?_
  refine zwv (.slice (some ⟨kb18, 0, none⟩) es.length es.length) ?_
  refine zwv (iN .i64 es.length) ?_
  refine zwu (run_lss (k := .i64) (a := es.length) (b := es.length) false (decide_eq_false (by omega))) ?_
  refine znt ?_
  refine zcf ?_
  refine wp_exit ?_
  repeat first | refine then_exit ?_ | refine block_exit ?_ | refine block_exit_ne (by decide) ?_
  refine then_at rfl ?_
  refine wp_seq ?_
  obtain ⟨oz, cz, ez, hprez⟩ := Row.pre hRs
  refine wl_region ?_
  refine zwv (.pointer (some ⟨tb.q, 0, none⟩)) ?_
  refine zwv (u39 16) ?_
  have hKz := Known_any (TH.view (TH.cl ((kb29, 4, boc (knownF es ((txl ps2 (min ps2.length 6)) ++ (txl ps1 (min ps1.length 6))))) :: (kb18, 4, boc (knownF es (txl ps1 (min ps1.length 6)))) :: (q8, 26, #[.slice ro (es.map trm).length rc]) :: (Ls ++ (Lb ++ (Lt1 ++ RL)))) hR5 hA)) hI.wf hI.wg (by omega) (fun i u hu => hI.dd u (List.mem_of_getElem? hu)) (got (w := w) hA.old.old hv) (bsd (knownF es (txl ps1 (min ps1.length 6))) (txl ps1 (min ps1.length 6)) es.length) oz cz (hprez.imp id (fun ⟨pq, cs, e1, e2, e3⟩ => ⟨pq, cs, e1, e2, hA.blk (pq, 9, cs) (by simp [e3])⟩)) (strs_le (bsd_size (txl_size ps1 _))) (by omega)
  rw [← ez] at hKz
  refine wl_callx enter19 #[.pointer (some ⟨tb.q, 0, none⟩), u39 16] (hKz) ?_
  rintro _ w56 ⟨kb52, rfl, hk53, hk54, hk55⟩
  refine ⟨_, rfl, ?_⟩
  have h57 : HA (zb w [] tb es) ((kb52, 4, boc (knownF es (bsd (knownF es (txl ps1 (min ps1.length 6))) (txl ps1 (min ps1.length 6)) es.length))) :: (kb29, 4, boc (knownF es ((txl ps2 (min ps2.length 6)) ++ (txl ps1 (min ps1.length 6))))) :: (kb18, 4, boc (knownF es (txl ps1 (min ps1.length 6)))) :: (q8, 26, #[.slice ro (es.map trm).length rc]) :: ((Ls ++ (Lb ++ (Lt1 ++ RL))) ++ ((tb.q, 74, tcell tb (nms es) (.slice tp2 es.length tc3)) :: (Lr4 ++ PB es)))) w56 := HA.add1 hA hk55 hk53 hk54
  refine zwv (.slice (some ⟨kb52, 0, none⟩) es.length es.length) ?_
  refine znt ?_
  refine wp_seq ?_
  refine zsr ?_
  refine zwv (iN .i64 0) ?_
  refine znt ?_
  refine wp_block ?_
  refine wp_count (fun i A w' => ∃ u58 : Nat → Value, A = ⟨(.slice o al.length c :: .slice o1 ps1.length c1 :: .slice o2 ps2.length c2 :: un :: un :: un :: u58 6 :: pt tb.q :: pt q8 :: .bool true :: .slice oa1 (txl ps1 (min ps1.length 6)).length ca1 :: .string (txw ps1 (min ps1.length 6)) :: .slice oa2 (txl ps2 (min ps2.length 6)).length ca2 :: .string (txw ps2 (min ps2.length 6)) :: .slice (some ⟨kb18, 0, none⟩) es.length es.length :: .slice (some ⟨kb29, 0, none⟩) es.length es.length :: u39 16 :: iN .i64 es.length :: .slice (some ⟨kb52, 0, none⟩) es.length es.length :: iN .i64 i :: .tuple #[pt tb.q, .agg #[.slice ro (es.map trm).length rc], .bool true] :: .slice o al.length c :: .slice o al.length c :: iN .i64 al.length :: iN .i64 (min al.length 25) :: .slice o (al.take 25).length c :: .tuple #[pt tb.q, .agg #[.slice ro (es.map trm).length rc], .bool true] :: pt tb.q :: .agg #[.slice ro (es.map trm).length rc] :: .bool true :: .bool true :: .bool false :: .tuple #[.slice oa1 (txl ps1 (min ps1.length 6)).length ca1, .string (txw ps1 (min ps1.length 6))] :: .slice o1 ps1.length c1 :: .tuple #[.slice oa1 (txl ps1 (min ps1.length 6)).length ca1, .string (txw ps1 (min ps1.length 6))] :: .slice oa1 (txl ps1 (min ps1.length 6)).length ca1 :: .string (txw ps1 (min ps1.length 6)) :: .tuple #[.slice oa2 (txl ps2 (min ps2.length 6)).length ca2, .string (txw ps2 (min ps2.length 6))] :: .slice o2 ps2.length c2 :: .tuple #[.slice oa2 (txl ps2 (min ps2.length 6)).length ca2, .string (txw ps2 (min ps2.length 6))] :: .slice oa2 (txl ps2 (min ps2.length 6)).length ca2 :: .string (txw ps2 (min ps2.length 6)) :: pt tb.q :: .slice oa1 (txl ps1 (min ps1.length 6)).length ca1 :: .slice (some ⟨kb18, 0, none⟩) es.length es.length :: pt tb.q :: .slice oa2 (txl ps2 (min ps2.length 6)).length ca2 :: .slice oa1 (txl ps1 (min ps1.length 6)).length ca1 :: .slice ob ((txl ps2 (min ps2.length 6)) ++ (txl ps1 (min ps1.length 6))).length cb :: .slice (some ⟨kb29, 0, none⟩) es.length es.length :: .slice none 0 0 :: .slice oa1 (txl ps1 (min ps1.length 6)).length ca1 :: vs :: iN .i64 es.length :: .slice (some ⟨kb18, 0, none⟩) es.length es.length :: iN .i64 es.length :: .bool false :: u39 57 :: u39 58 :: u39 59 :: u39 60 :: u39 61 :: u39 62 :: u39 63 :: u39 64 :: u39 65 :: u39 66 :: u39 67 :: u39 68 :: u39 69 :: u39 70 :: u39 71 :: u39 72 :: u39 73 :: u39 74 :: u39 75 :: u39 76 :: u39 77 :: u39 78 :: u39 79 :: u39 80 :: u39 81 :: u39 82 :: u39 83 :: u39 84 :: pt tb.q :: u39 16 :: .slice (some ⟨kb52, 0, none⟩) es.length es.length :: u58 88 :: u58 89 :: u58 90 :: u58 91 :: u58 92 :: u58 93 :: u58 94 :: u58 95 :: u58 96 :: u58 97 :: u58 98 :: u58 99 :: u58 100 :: u58 101 :: u58 102 :: List.replicate 1 un).toArray, []⟩ ∧ HA (zb w [] tb es) ((kb52, 4, boc (knownF es (bsd (knownF es (txl ps1 (min ps1.length 6))) (txl ps1 (min ps1.length 6)) es.length))) :: (kb29, 4, boc (knownF es ((txl ps2 (min ps2.length 6)) ++ (txl ps1 (min ps1.length 6))))) :: (kb18, 4, boc (knownF es (txl ps1 (min ps1.length 6)))) :: (q8, 26, #[.slice ro (es.map trm).length rc]) :: ((Ls ++ (Lb ++ (Lt1 ++ RL))) ++ ((tb.q, 74, tcell tb (nms es) (.slice tp2 es.length tc3)) :: (Lr4 ++ PB es)))) w') es.length ?_ ?_ ?_
  ·exact zex h57
  ·rintro i hk _ w59 ⟨u58, rfl, hA⟩
   refine wp_seq ?_
   refine zsr ?_
   refine zwv (iN .i64 i) ?_
   refine zwv (.slice (some ⟨kb18, 0, none⟩) es.length es.length) ?_
   refine zwv (iN .i64 es.length) ?_
   refine zwu (run_lss (k := .i64) (a := i) (b := es.length) true (decide_eq_true (by omega))) ?_
   refine znt ?_
   refine zct ?_
   refine wp_skip ?_
   refine then_at rfl ?_
   refine wp_seq ?_
   refine wp_block ?_
   refine wp_seq ?_
   refine zrs ⟨(.slice o al.length c :: .slice o1 ps1.length c1 :: .slice o2 ps2.length c2 :: un :: un :: un :: u58 6 :: pt tb.q :: pt q8 :: .bool true :: .slice oa1 (txl ps1 (min ps1.length 6)).length ca1 :: .string (txw ps1 (min ps1.length 6)) :: .slice oa2 (txl ps2 (min ps2.length 6)).length ca2 :: .string (txw ps2 (min ps2.length 6)) :: .slice (some ⟨kb18, 0, none⟩) es.length es.length :: .slice (some ⟨kb29, 0, none⟩) es.length es.length :: u39 16 :: iN .i64 es.length :: .slice (some ⟨kb52, 0, none⟩) es.length es.length :: iN .i64 i :: .tuple #[pt tb.q, .agg #[.slice ro (es.map trm).length rc], .bool true] :: .slice o al.length c :: .slice o al.length c :: iN .i64 al.length :: iN .i64 (min al.length 25) :: .slice o (al.take 25).length c :: .tuple #[pt tb.q, .agg #[.slice ro (es.map trm).length rc], .bool true] :: pt tb.q :: .agg #[.slice ro (es.map trm).length rc] :: .bool true :: .bool true :: .bool false :: .tuple #[.slice oa1 (txl ps1 (min ps1.length 6)).length ca1, .string (txw ps1 (min ps1.length 6))] :: .slice o1 ps1.length c1 :: .tuple #[.slice oa1 (txl ps1 (min ps1.length 6)).length ca1, .string (txw ps1 (min ps1.length 6))] :: .slice oa1 (txl ps1 (min ps1.length 6)).length ca1 :: .string (txw ps1 (min ps1.length 6)) :: .tuple #[.slice oa2 (txl ps2 (min ps2.length 6)).length ca2, .string (txw ps2 (min ps2.length 6))] :: .slice o2 ps2.length c2 :: .tuple #[.slice oa2 (txl ps2 (min ps2.length 6)).length ca2, .string (txw ps2 (min ps2.length 6))] :: .slice oa2 (txl ps2 (min ps2.length 6)).length ca2 :: .string (txw ps2 (min ps2.length 6)) :: pt tb.q :: .slice oa1 (txl ps1 (min ps1.length 6)).length ca1 :: .slice (some ⟨kb18, 0, none⟩) es.length es.length :: pt tb.q :: .slice oa2 (txl ps2 (min ps2.length 6)).length ca2 :: .slice oa1 (txl ps1 (min ps1.length 6)).length ca1 :: .slice ob ((txl ps2 (min ps2.length 6)) ++ (txl ps1 (min ps1.length 6))).length cb :: .slice (some ⟨kb29, 0, none⟩) es.length es.length :: .slice none 0 0 :: .slice oa1 (txl ps1 (min ps1.length 6)).length ca1 :: vs :: iN .i64 es.length :: .slice (some ⟨kb18, 0, none⟩) es.length es.length :: iN .i64 es.length :: .bool false :: u39 57 :: u39 58 :: u39 59 :: u39 60 :: u39 61 :: u39 62 :: u39 63 :: u39 64 :: u39 65 :: u39 66 :: u39 67 :: u39 68 :: u39 69 :: u39 70 :: u39 71 :: u39 72 :: u39 73 :: u39 74 :: u39 75 :: u39 76 :: u39 77 :: u39 78 :: u39 79 :: u39 80 :: u39 81 :: u39 82 :: u39 83 :: u39 84 :: pt tb.q :: u39 16 :: .slice (some ⟨kb52, 0, none⟩) es.length es.length :: iN .i64 i :: .slice (some ⟨kb18, 0, none⟩) es.length es.length :: iN .i64 es.length :: .bool true :: u58 92 :: u58 93 :: .slice (some ⟨kb18, 0, none⟩) es.length es.length :: iN .i64 i :: .pointer (some ⟨kb18, i, none⟩) :: .bool ((knownF es (txl ps1 (min ps1.length 6))).getD i false) :: .slice (some ⟨kb52, 0, none⟩) es.length es.length :: iN .i64 i :: .pointer (some ⟨kb52, i, none⟩) :: .bool ((knownF es (bsd (knownF es (txl ps1 (min ps1.length 6))) (txl ps1 (min ps1.length 6)) es.length)).getD i false) :: .bool false :: List.replicate 1 un).toArray, []⟩ (HA (zb w [] tb es) ((kb52, 4, boc (knownF es (bsd (knownF es (txl ps1 (min ps1.length 6))) (txl ps1 (min ps1.length 6)) es.length))) :: (kb29, 4, boc (knownF es ((txl ps2 (min ps2.length 6)) ++ (txl ps1 (min ps1.length 6))))) :: (kb18, 4, boc (knownF es (txl ps1 (min ps1.length 6)))) :: (q8, 26, #[.slice ro (es.map trm).length rc]) :: ((Ls ++ (Lb ++ (Lt1 ++ RL))) ++ ((tb.q, 74, tcell tb (nms es) (.slice tp2 es.length tc3)) :: (Lr4 ++ PB es))))) hA.drew ?_ ?_
   ·refine zsp (.slice (some ⟨kb18, 0, none⟩) es.length es.length) ?_
    refine zsp (iN .i64 i) ?_
    refine zst (v := .pointer (some ⟨kb18, i, none⟩)) (fun _ _ => (run_addr_slice (q := kb18) (n := es.length) (m := es.length) (a := i) Try.underlying46 Try.sizeOf4 (by omega))) ?_
    refine zst (v := .bool ((knownF es (txl ps1 (min ps1.length 6))).getD i false)) (fun w' h' => run_load1 Try.isAgg4 (((h'.get 2 rfl).cell i).trans (boc_get (knownF es (txl ps1 (min ps1.length 6))) i (by rw [knownF_len hI.wf hI.wg]; omega)))) ?_
    refine zsp (.slice (some ⟨kb52, 0, none⟩) es.length es.length) ?_
    refine zsp (iN .i64 i) ?_
    refine zst (v := .pointer (some ⟨kb52, i, none⟩)) (fun _ _ => (run_addr_slice (q := kb52) (n := es.length) (m := es.length) (a := i) Try.underlying46 Try.sizeOf4 (by omega))) ?_
    refine zst (v := .bool ((knownF es (bsd (knownF es (txl ps1 (min ps1.length 6))) (txl ps1 (min ps1.length 6)) es.length)).getD i false)) (fun w' h' => run_load1 Try.isAgg4 (((h'.get 0 rfl).cell i).trans (boc_get (knownF es (bsd (knownF es (txl ps1 (min ps1.length 6))) (txl ps1 (min ps1.length 6)) es.length)) i (by rw [knownF_len hI.wf hI.wg]; omega)))) ?_
    refine zst (v := .bool false) (fun _ _ => (run_neqb (b := (knownF es (txl ps1 (min ps1.length 6))).getD i false) (by kernel_rfl) (by show Value.bool _ = _; rw [known_more hI.wf hI.wg (by omega) (bsd_mem _ (txl ps1 (min ps1.length 6)) es.length).1 (fun s hs => (bsd_mem _ (txl ps1 (min ps1.length 6)) es.length).2 s hs)]))) ?_
    exact AllSure.nil
   intro w60 h61
   refine then_at rfl ?_
   refine zcf ?_
   refine wp_skip ?_
   refine block_normal ?_
   refine then_at rfl ?_
   refine wl_region ?_
   refine zwv (iN .i64 i) ?_
   refine zwu (run_add (k := .i64) (a := i) (b := 1) (by simp only [top]; omega)) ?_
   refine zwv (iN .i64 (i + 1)) ?_
   refine wl_nil ?_
   exact then_I (zex h61)
  ·rintro _ w62 ⟨u58, rfl, hA⟩
   refine wp_seq ?_
   refine zsr ?_
   refine zwv (iN .i64 es.length) ?_
   refine zwv (.slice (some ⟨kb18, 0, none⟩) es.length es.length) ?_
   refine zwv (iN .i64 es.length) ?_
   refine zwu (run_lss (k := .i64) (a := es.length) (b := es.length) false (decide_eq_false (by omega))) ?_
   refine znt ?_
   refine zcf ?_
   refine wp_exit ?_
   repeat first | refine then_exit ?_ | refine block_exit ?_ | refine block_exit_ne (by decide) ?_
   refine then_at rfl ?_
   refine zsr ?_
   refine zwc hA enter15 (works_any w62) ?_
   intro w63 h64
   refine zwv (.bool true) ?_
   refine znt ?_
   refine wp_ret ?_
   repeat first | refine then_ret ?_ | refine block_ret ?_
   exact bodyPost_ret (by kernel_rfl) rfl ⟨rfl, h64.old.old⟩
end Go.Proofs.Ytihfeoanognonaa
