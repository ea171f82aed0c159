/-
 What is made twice is there once: the mathematics.
-/
import Derived.Test.YtihfeoanognonaaB6
import Derived.Test.YtihfeoanognonaaT49
import Derived.Laws.Externs
import Derived.MapKept
namespace Go.Proofs.Ytihfeoanognonaa
open Go.RowKit
def latB (m : Nat) (s : ByteArray) : Bool := (numT m s).isNone && (decide (s.size = 8) && decide (s.extract 0 4 = hdS))
def Okt (m : Nat) (s : ByteArray) : Prop := (∃ x, ∀ m', m ≤ m' → numT m' s = some x) ∨ ∀ m', numT m' s = none
theorem okt_of {m : Nat} {s : ByteArray} (h : latB m s = false) : Okt m s := by
 unfold latB at h
 cases hn : numT m s with
 | some x =>
  refine .inl ⟨x, fun m' hm => ?_⟩
  unfold numT firstT at hn ⊢
  split at hn
  ·rename_i h8
   rw [if_pos h8]
   split at hn
   ·rename_i hc
    rw [if_pos ⟨hc.1, hc.2.1, by omega⟩]; exact hn
   ·cases hn
  ·cases hn
 | none =>
  rw [hn] at h
  refine .inr fun m' => ?_
  unfold numT firstT
  by_cases h8 : s.size = 8
  ·rw [if_pos h8]
   rw [if_neg]
   rintro ⟨_, h2, _⟩
   rw [decide_eq_true h8, decide_eq_true h2] at h
   cases h
  ·rw [if_neg h8]
theorem Okt.mono {m m' : Nat} {s : ByteArray} (h : Okt m s) (hm : m ≤ m') : Okt m' s := h.imp (fun ⟨x, hx⟩ => ⟨x, fun k hk => hx k (by omega)⟩) id
theorem dts_app (a b : List Ent) : ∀ i, dts (a ++ b) i = dts a i ++ dts b (i + a.length) := by
 induction a with
 | nil => intro i; simp [dts]
 | cons e a ih =>
  intro i
  have := ih (i + 1)
  rw [show i + 1 + a.length = i + (a.length + 1) by omega] at this
  cases e <;> simp only [List.cons_append, dts, List.length_cons] <;> rw [this]
theorem lkT_app {l l' : List (ByteArray × Nat)} {s : ByteArray} {n : Nat} (h : lkT l s = some n) : lkT (l ++ l') s = some n := by
 unfold lkT at h ⊢
 obtain ⟨y, hy, rfl⟩ := Option.map_eq_some_iff.1 h
 rw [List.find?_append, hy]; rfl
theorem part_again {es tl : List Ent} {s : ByteArray} (h : Okt es.length s) : partF ((partF es s).1 ++ tl) s = ((partF es s).1 ++ tl, (partF es s).2) := by
 have hle := partF_mono es s
 rcases h with ⟨x, hx⟩ | hx
 ·have h1 := hx es.length (Nat.le_refl _)
  have e : partF es s = (es, x) := by unfold partF; rw [h1]
  rw [e]
  unfold partF
  rw [hx _ (show es.length ≤ (es ++ tl).length by rw [List.length_append]; omega)]
 ·cases hl : lkT (dts es 0) s with
  | some n =>
   have e : partF es s = (es, n) := by unfold partF; rw [hx, hl]
   rw [e]
   unfold partF
   rw [hx]
   simp only
   rw [dts_app, lkT_app hl]
  | none =>
   have e : partF es s = (es ++ [.dt s], es.length) := by unfold partF; rw [hx, hl]
   rw [e]
   unfold partF
   rw [hx]
   simp only
   have h2 : lkT (dts (es ++ [.dt s]) 0) s = some es.length := by
    rw [dts_snoc]
    unfold lkT at hl ⊢
    rw [List.find?_append, Option.map_eq_none_iff.1 hl]
    simp [dts]
   rw [dts_app, lkT_app h2]
theorem pfE_pre (es : List Ent) (ss : List ByteArray) : ∀ k, ∃ tl, pfE es ss k = es ++ tl
 | 0 => ⟨[], by simp [pfE]⟩
 | k + 1 => by
  obtain ⟨tl, h⟩ := pfE_pre es ss k
  rw [pfE, h]
  unfold partF
  split
  ·exact ⟨tl, rfl⟩
  ·split
   ·exact ⟨tl, rfl⟩
   ·exact ⟨tl ++ [.dt (ss.getD k ByteArray.empty)], by simp⟩
theorem pfE_step (es : List Ent) (ss : List ByteArray) (k : Nat) : ∀ d, ∃ tl, pfE es ss (k + d) = pfE es ss k ++ tl
 | 0 => ⟨[], by simp⟩
 | d + 1 => by
  obtain ⟨tl, h⟩ := pfE_step es ss k d
  rw [← Nat.add_assoc, pfE, h]
  unfold partF
  split
  ·exact ⟨tl, rfl⟩
  ·split
   ·exact ⟨tl, rfl⟩
   ·exact ⟨tl ++ [.dt (ss.getD (k + d) ByteArray.empty)], by simp⟩
theorem parts_again {es tl : List Ent} {ss : List ByteArray} (h : ∀ j, j < ss.length → Okt es.length (ss.getD j ByteArray.empty)) : ∀ k, k ≤ ss.length → pfE (pfE es ss ss.length ++ tl) ss k = pfE es ss ss.length ++ tl ∧ pfN (pfE es ss ss.length ++ tl) ss k = pfN es ss k
 | 0, _ => ⟨rfl, rfl⟩
 | k + 1, hk => by
  obtain ⟨h1, h2⟩ := parts_again h k (by omega)
  have hp := pfE_pre es ss k
  obtain ⟨t1, ht1⟩ := hp
  have ho : Okt (pfE es ss k).length (ss.getD k ByteArray.empty) := (h k (by omega)).mono (by rw [ht1, List.length_append]; omega)
  obtain ⟨t2, ht2⟩ := pfE_step es ss (k + 1) (ss.length - (k + 1))
  rw [show k + 1 + (ss.length - (k + 1)) = ss.length by omega] at ht2
  have e : pfE es ss ss.length ++ tl = (partF (pfE es ss k) (ss.getD k ByteArray.empty)).1 ++ (t2 ++ tl) := by rw [ht2, List.append_assoc]; rfl
  have := part_again (tl := t2 ++ tl) ho
  rw [← e] at this
  refine ⟨by rw [pfE, h1, this], ?_⟩
  rw [pfN, pfN, h2, h1, this]
theorem join_pre {E tl : List Ent} {k : Nat} {ns : List Nat} (h : k = 4 → ns.getD 1 0 < E.length) : joinN (E ++ tl) k ns = joinN E k ns ∧ joinP (E ++ tl) k ns = joinP E k ns := by
 unfold joinN joinP
 by_cases h4 : k = 4
 ·rw [if_pos h4, if_pos h4, if_pos h4, if_pos h4]
  have e : secT (E ++ tl) (ns.getD 1 0) = secT E (ns.getD 1 0) := by unfold secT; rw [List.getElem?_append_left (h h4)]
  unfold dhN dhP
  rw [e]; exact ⟨rfl, rfl⟩
 ·rw [if_neg h4, if_neg h4, if_neg h4, if_neg h4]; exact ⟨rfl, rfl⟩
theorem JO.again {es es1 es2 : List Ent} {k x x2 : Nat} {label : ByteArray} {ss : List ByteArray} (h : JO es k label ss x es1) (h2 : JO es1 k label ss x2 es2) (ho : ∀ j, j < ss.length → Okt es.length (ss.getD j ByteArray.empty)) (h4 : k = 4 → ss.length = 2) : x2 = x ∧ es2 = es1 := by
 obtain ⟨tl, htl⟩ : ∃ tl, es1 = pfE es ss ss.length ++ tl := by
  rcases h with ⟨_, rfl⟩ | ⟨_, _, b, rfl⟩
  ·exact ⟨[], by simp⟩
  ·exact ⟨_, rfl⟩
 obtain ⟨e1, e2⟩ := parts_again (tl := tl) ho ss.length (Nat.le_refl _)
 rw [← htl] at e1 e2
 obtain ⟨j1, j2⟩ := join_pre (E := pfE es ss ss.length) (tl := tl) (k := k) (ns := pfN es ss ss.length) (fun e => ns_lt es ss (by rw [h4 e]; decide))
 have hl : lkJ es1 k label ss = some x := by
  unfold lkJ
  rw [e1, e2]
  rw [← htl] at j1 j2
  rw [j1, j2]
  rcases h with ⟨h, rfl⟩ | ⟨h, rfl, b, rfl⟩
  ·exact h
  ·unfold lkJ at h
   rw [mks_snoc]
   unfold lkR at h ⊢
   rw [List.find?_append, Option.map_eq_none_iff.1 h]
   simp [mks]
 rcases h2 with ⟨h3, rfl⟩ | ⟨h3, _⟩
 ·rw [hl] at h3
  exact ⟨(Option.some.inj h3).symm, e1⟩
 ·rw [hl] at h3; cases h3
end Go.Proofs.Ytihfeoanognonaa

namespace Go.Proofs.Ytihfeoanognonaa
set_option linter.unusedVariables false
set_option maxRecDepth 100000
set_option maxHeartbeats 2000000
open Go.RowKit
theorem run_clone68 {a : Act} {x : Operand} {w : World} {dst : Option Tmp} {ty T : TypeId} {ats : Array TypeId} {pos : String} {aft : Array Edge} {gd : Option (Nat × Bool)} {b : Nat} {es : Array MapEntry} {clock : Nat} (hx : a.eval x = .iface T (.map (some b))) (hb : w.heap[b]? = some (.map es clock)) :
  (execOp a.eval ⟨dst, .call { callee := .value (.func 68), args := #[x], argTypes := ats }, ty, pos, aft, gd⟩).run Try.prog w = .ok (.value (.iface T (.map (some w.heap.size)))) (w.alloc (.map es clock)) := by
 have e : Extern.MapsClone.clone #[.iface T (.map (some b))] = (getObj b >>= fun o => match o with
   | .map entries clock => (newObj (.map entries clock) >>= fun n => pure (.iface T (.map (some n))))
   | _ => stuck "maps.clone: a map expected") := rfl
 have hrun : (Extern.MapsClone.clone #[.iface T (.map (some b))]).run Try.prog w = .ok (.iface T (.map (some w.heap.size))) (w.alloc (.map es clock)) := by
  rw [e]
  simp [MapKept.run_getObj_map hb, Result.andThen, go_sem]
 rw [execOp_call_go, show (#[] ++ (#[x] : Array Operand).map a.eval ++ #[] : Array Value) = #[a.eval x] by simp, hx, run_callFunc_extern Try.func68 (by kernel_rfl) (by kernel_rfl) (by kernel_rfl) (e := Extern.MapsClone.clone) (by kernel_rfl), hrun]
 rfl
theorem run_asMap71 {ρ : Operand → Value} {x : Operand} {w : World} {dst : Option Tmp} {ty : TypeId} {pos : String} {aft : Array Edge} {gd : Option (Nat × Bool)} {v : Value} (hx : ρ x = .iface 71 v) : (execOp ρ ⟨dst, .typeAssert x 20 71 false, ty, pos, aft, gd⟩).run Try.prog w = .ok (.value v) w := by
 simp only [execOp, hx]
 simp [Instr.typeAssert, Try.underlying71, run_underlying, go_sem, Result.andThen]
theorem run_asMap72 {ρ : Operand → Value} {x : Operand} {w : World} {dst : Option Tmp} {ty : TypeId} {pos : String} {aft : Array Edge} {gd : Option (Nat × Bool)} {v : Value} (hx : ρ x = .iface 72 v) : (execOp ρ ⟨dst, .typeAssert x 20 72 false, ty, pos, aft, gd⟩).run Try.prog w = .ok (.value v) w := by
 simp only [execOp, hx]
 simp [Instr.typeAssert, Try.underlying72, run_underlying, go_sem, Result.andThen]
theorem Below.allocMap (w : World) (o : Obj) : Go.RowKit.Below w.heap.size w (w.alloc o) := Go.RowKit.Below.alloc (Go.RowKit.Below.refl _ w) (Nat.le_refl _) o
theorem clone50 {w : World} (b : Nat) (es : Array MapEntry) (clock : Nat) (hb : w.heap[b]? = some (.map es clock)) :
  Calls Try.prog 50 #[.map (some b)] w fun e w' => ∃ r, e = .returned (.map (some r)) ∧ Below w.heap.size w w' := by
 have H0 := HA.start w
 go_enter Try.func50, Try.ntmps50
 refine zsr ?_
 refine zwv (.map none) ?_
 refine znt ?_
 refine wp_seq ?_
 refine zsr ?_
 refine zwv (.map (some b)) ?_
 refine zwv (.bool false) ?_
 refine znt ?_
 refine zcf ?_
 refine wp_skip ?_
 refine then_at rfl ?_
 refine zsr ?_
 refine zwv (.map (some b)) ?_
 refine zwv (.iface 71 (.map (some b))) ?_
 refine wl_any (by kernel_rfl) (run_clone68 (T := 71) (b := b) (es := es) (clock := clock) (by kernel_rfl) ((H0.old.old.block b (lt_of_block hb)).trans hb)) ?_
 have h1 := HA.keep _ _ H0 (Below.allocMap w (.map es clock))
 refine zwu (v := .map (some w.heap.size)) (run_asMap71 (by kernel_rfl)) ?_
 refine zwv (.map (some w.heap.size)) ?_
 refine znt ?_
 refine wp_ret ?_
 repeat first | refine then_ret ?_ | refine block_ret ?_
 exact bodyPost_ret (v := .map (some w.heap.size)) (by kernel_rfl) rfl ⟨_, rfl, h1.old.old⟩
theorem clone51 {w : World} (b : Nat) (es : Array MapEntry) (clock : Nat) (hb : w.heap[b]? = some (.map es clock)) :
  Calls Try.prog 51 #[.map (some b)] w fun e w' => ∃ r, e = .returned (.map (some r)) ∧ Below w.heap.size w w' := by
 have H0 := HA.start w
 go_enter Try.func51, Try.ntmps51
 refine zsr ?_
 refine zwv (.map none) ?_
 refine znt ?_
 refine wp_seq ?_
 refine zsr ?_
 refine zwv (.map (some b)) ?_
 refine zwv (.bool false) ?_
 refine znt ?_
 refine zcf ?_
 refine wp_skip ?_
 refine then_at rfl ?_
 refine zsr ?_
 refine zwv (.map (some b)) ?_
 refine zwv (.iface 72 (.map (some b))) ?_
 refine wl_any (by kernel_rfl) (run_clone68 (T := 72) (b := b) (es := es) (clock := clock) (by kernel_rfl) ((H0.old.old.block b (lt_of_block hb)).trans hb)) ?_
 have h1 := HA.keep _ _ H0 (Below.allocMap w (.map es clock))
 refine zwu (v := .map (some w.heap.size)) (run_asMap72 (by kernel_rfl)) ?_
 refine zwv (.map (some w.heap.size)) ?_
 refine znt ?_
 refine wp_ret ?_
 repeat first | refine then_ret ?_ | refine block_ret ?_
 exact bodyPost_ret (v := .map (some w.heap.size)) (by kernel_rfl) rfl ⟨_, rfl, h1.old.old⟩
theorem run_app70 {ρ : Operand → Value} {x y : Operand} {w : World} {dst : Option Tmp} {ty : TypeId} {pos : String} {aft : Array Edge} {gd : Option (Nat × Bool)} {p o : Option Addr} {n c c' : Nat} (hx : ρ x = .slice p n c) (hy : ρ y = .slice o 0 c') (hn : n ≤ c) :
  (execOp ρ ⟨dst, .call { callee := .builtin .append, args := #[x, y], argTypes := #[70, 70] }, ty, pos, aft, gd⟩).run Try.prog w = .ok (.value (.slice p n c)) w := by
 unfold execOp
 simp only [resolve, invoke, builtin, Sem.run_bind, Sem.run_pure, Result.andThen_ok, List.map_toArray, List.map_cons, List.map_nil, hx, hy]
 cases p <;> cases o <;> simp [Builtin.append_, go_sem, Try.sizeOf69, hn]
theorem ev_one (e : Ent) : (ev e).oneCell' = true := by cases e <;> rfl
theorem clone49_0 {w : World} :
  Calls Try.prog 49 #[.slice none 0 0] w fun e w' => ∃ p c, e = .returned (.slice p 0 c) ∧ Below w.heap.size w w' := by
 have H0 := HA.start w
 go_enter Try.func49, Try.ntmps49
 refine zsr ?_
 refine zwv (.slice none 0 0) ?_
 refine znt ?_
 refine wp_seq ?_
 refine zsr ?_
 refine zwv (.slice none 0 0) ?_
 refine zwv (.bool true) ?_
 refine znt ?_
 refine zct ?_
 refine zsr ?_
 refine zwv (.slice none 0 0) ?_
 refine znt ?_
 refine wp_ret ?_
 repeat first | refine then_ret ?_ | refine block_ret ?_
 exact bodyPost_ret (v := .slice none 0 0) (by kernel_rfl) rfl ⟨none, 0, rfl, H0.old.old⟩
theorem clone49_e {w : World} (g cap : Nat) :
  Calls Try.prog 49 #[.slice (some ⟨g, 0, none⟩) 0 cap] w fun e w' => ∃ p c, e = .returned (.slice p 0 c) ∧ Below w.heap.size w w' := by
 have H0 := HA.start w
 go_enter Try.func49, Try.ntmps49
 refine zsr ?_
 refine zwv (.slice none 0 0) ?_
 refine znt ?_
 refine wp_seq ?_
 refine zsr ?_
 refine zwv (.slice (some ⟨g, 0, none⟩) 0 cap) ?_
 refine zwv (.bool false) ?_
 refine znt ?_
 refine zcf ?_
 refine wp_skip ?_
 refine then_at rfl ?_
 refine zsr ?_
 refine wl_mks (n := 0) (m := 0) (c := #[]) H0 69 ?_
 intro q1 w2 (h3 : HA (bs w) [(q1, 69, #[])] w2)
 refine zwv (.slice (some ⟨g, 0, none⟩) 0 cap) ?_
 refine zwu (v := .slice (some ⟨q1, 0, none⟩) 0 0) (run_app70 (o := some ⟨g, 0, none⟩) (c' := cap) (by kernel_rfl) (by kernel_rfl) (by omega)) ?_
 refine zwv (.slice (some ⟨q1, 0, none⟩) 0 0) ?_
 refine znt ?_
 refine wp_ret ?_
 repeat first | refine then_ret ?_ | refine block_ret ?_
 exact bodyPost_ret (v := .slice (some ⟨q1, 0, none⟩) 0 0) (by kernel_rfl) rfl ⟨_, _, rfl, h3.old.old⟩
theorem clone49_s {w : World} (g cap : Nat) (es : List Ent) (cur : Array Value) (hg : Blk w g 69 cur) (htk : cur.toList.take es.length = es.map ev) (hpos : 0 < es.length) (hm : es.length ≤ 60000) :
  Calls Try.prog 49 #[.slice (some ⟨g, 0, none⟩) es.length cap] w fun e w' => ∃ p c, e = .returned (.slice p es.length c) ∧ Below w.heap.size w w' := by
 have H0 := HA.start w
 go_enter Try.func49, Try.ntmps49
 refine zsr ?_
 refine zwv (.slice none 0 0) ?_
 refine znt ?_
 refine wp_seq ?_
 refine zsr ?_
 refine zwv (.slice (some ⟨g, 0, none⟩) es.length cap) ?_
 refine zwv (.bool false) ?_
 refine znt ?_
 refine zcf ?_
 refine wp_skip ?_
 refine then_at rfl ?_
 refine zsr ?_
 refine wl_mks (n := 0) (m := 0) (c := #[]) H0 69 ?_
 intro q1 w2 (h3 : HA (bs w) [(q1, 69, #[])] w2)
 refine zwv (.slice (some ⟨g, 0, none⟩) es.length cap) ?_
 have hR0 : Row 69 1 (.slice (some ⟨q1, 0, none⟩) 0 0) 0 [] [(q1, 69, #[])] := ⟨rfl, .inr ⟨_, _, _, rfl, rfl, Nat.le_refl _, by decide, rfl, rfl⟩⟩
 refine wl_appendR (p := g) (m := es.length) (c := cap) (news := es.map ev) (Lr := [(q1, 69, #[])]) (L := []) hR0 h3 _ 16 Try.underlying70 info69 rfl (by simp) (fun j u hu => ?_) (fun u hu => by obtain ⟨e, _, rfl⟩ := List.mem_map.1 hu; exact ev_one e) (by unfold maxLen; omega) (by omega) hpos ?_
 ·have hj : j < es.length := by have := (List.getElem?_eq_some_iff.1 hu).1; simpa using this
  rw [(hg.keep h3.old.old).cell j]
  rw [List.getElem?_map] at hu
  obtain ⟨e, he, rfl⟩ := Option.map_eq_some_iff.1 hu
  exact row_get htk he
 intro v2 w4 Lr2 hR2 h5
 obtain ⟨p2, c2, rfl⟩ := hR2.form
 refine zwv (.slice p2 (0 + es.length) c2) ?_
 refine znt ?_
 refine wp_ret ?_
 repeat first | refine then_ret ?_ | refine block_ret ?_
 exact bodyPost_ret (v := .slice p2 (0 + es.length) c2) (by kernel_rfl) rfl ⟨p2, c2, by rw [Nat.zero_add], h5.old.old⟩
theorem clone49 {w : World} {v : Value} {es : List Ent} (hm : es.length ≤ 60000) (h : (es = [] ∧ v = .slice none 0 0) ∨ ∃ g cap cur, v = .slice (some ⟨g, 0, none⟩) es.length cap ∧ Blk w g 69 cur ∧ cur.toList.take es.length = es.map ev) :
  Calls Try.prog 49 #[v] w fun e w' => ∃ p c, e = .returned (.slice p es.length c) ∧ Below w.heap.size w w' := by
 rcases h with ⟨rfl, rfl⟩ | ⟨g, cap, cur, rfl, hg, htk⟩
 ·exact clone49_0
 ·rcases Nat.eq_zero_or_pos es.length with h0 | hp
  ·rw [h0]; exact clone49_e g cap
  ·exact clone49_s g cap es cur hg htk hp hm
theorem Copy_any {w : World} {t : Tb} {es : List Ent} (h : TV w t es) (hm : es.length ≤ 60000) :
  Calls Try.prog 23 #[pt t.q] w fun e w' => ∃ (tc : Tb) (p : Option Addr) (c : Nat), e = .returned (pt tc.q) ∧ w.heap.size ≤ tc.q ∧ Blk w' tc.q 74 (tcell tc (nms es) (.slice p es.length c)) ∧ Below w.heap.size w w' := by
 have H0 := HA.start w
 obtain ⟨vr, hq, hrow⟩ := h.row
 have hmb := h.mb
 have hmm := h.mm
 go_enter Try.func23, Try.ntmps23
 refine zsr ?_
 refine zwv (.pointer none) ?_
 refine znt ?_
 refine wp_seq ?_
 refine zsr ?_
 refine zwv (.pointer (some ⟨t.q, 0, none⟩)) ?_
 refine zwc H0 enter36 (none_no (hq.keep H0.old.old)) ?_
 intro w1 h2
 refine znt ?_
 refine zcf ?_
 refine wp_skip ?_
 refine then_at rfl ?_
 refine wp_seq ?_
 refine wp_region_wk (HA (bs w) []) (fun A w' => ∃ (q16 : Nat) (r5 : Nat) (r6 : Nat) (c4 : Nat) (p4 : Option Addr), A = ⟨(pt t.q :: un :: pt q16 :: pt t.q :: .bool false :: pt t.q :: pt t.q :: pt t.q :: vr :: .slice p4 es.length c4 :: pt t.q :: pt t.q :: .pointer (some ⟨t.q, 1, none⟩) :: iN .i64 (nms es) :: pt t.q :: pt t.q :: .pointer (some ⟨t.q, 2, none⟩) :: .map (some t.mb) :: .map (some r5) :: pt t.q :: pt t.q :: .pointer (some ⟨t.q, 3, none⟩) :: .map (some t.mm) :: .map (some r6) :: .agg #[.slice p4 es.length c4, iN .i64 (nms es), .map (some r5), .map (some r6)] :: pt q16 :: List.replicate 0 un).toArray, []⟩ ∧ HA (bs w) [(q16, 74, #[.slice p4 es.length c4, iN .i64 (nms es), .map (some r5), .map (some r6)])] w') 22 (by kernel_rfl) (by kernel_rfl) (by kernel_rfl) (by kernel_rfl) (by kernel_rfl) (h2.drew) ?_ ?_
 ·have h3 := h2.drew
  refine wk_val (i := 0) (.pointer (some ⟨t.q, 0, none⟩)) rfl rfl (by kernel_rfl) (by kernel_rfl) (fun _ _ => (by kernel_rfl)) ?_
  refine wk_val (i := 1) (.pointer (some ⟨t.q, 0, none⟩)) rfl rfl (by kernel_rfl) (by kernel_rfl) (fun _ _ => (by kernel_rfl)) ?_
  refine wk_val (i := 2) (.pointer (some ⟨t.q, 0, none⟩)) rfl rfl (by kernel_rfl) (by kernel_rfl) (fun _ _ => (by kernel_rfl)) ?_
  refine wk_val (i := 3) (vr) rfl rfl (by kernel_rfl) (by kernel_rfl) (fun w' h' => run_load1 Try.isAgg70 (((hq.keep h'.old.old).cell 0).trans rfl)) ?_
  refine wk_val (i := 5) (.pointer (some ⟨t.q, 0, none⟩)) rfl rfl (by kernel_rfl) (by kernel_rfl) (fun _ _ => (by kernel_rfl)) ?_
  refine wk_val (i := 6) (.pointer (some ⟨t.q, 0, none⟩)) rfl rfl (by kernel_rfl) (by kernel_rfl) (fun _ _ => (by kernel_rfl)) ?_
  refine wk_val (i := 7) (.pointer (some ⟨t.q, 1, none⟩)) rfl rfl (by kernel_rfl) (by kernel_rfl) (fun _ _ => (by kernel_rfl)) ?_
  refine wk_val (i := 8) (iN .i64 (nms es)) rfl rfl (by kernel_rfl) (by kernel_rfl) (fun w' h' => run_load1 Try.isAgg3 (((hq.keep h'.old.old).cell 1).trans rfl)) ?_
  refine wk_val (i := 9) (.pointer (some ⟨t.q, 0, none⟩)) rfl rfl (by kernel_rfl) (by kernel_rfl) (fun _ _ => (by kernel_rfl)) ?_
  refine wk_val (i := 10) (.pointer (some ⟨t.q, 0, none⟩)) rfl rfl (by kernel_rfl) (by kernel_rfl) (fun _ _ => (by kernel_rfl)) ?_
  refine wk_val (i := 11) (.pointer (some ⟨t.q, 2, none⟩)) rfl rfl (by kernel_rfl) (by kernel_rfl) (fun _ _ => (by kernel_rfl)) ?_
  refine wk_val (i := 12) (.map (some t.mb)) rfl rfl (by kernel_rfl) (by kernel_rfl) (fun w' h' => run_load1 Try.isAgg71 (((hq.keep h'.old.old).cell 2).trans rfl)) ?_
  refine wk_val (i := 14) (.pointer (some ⟨t.q, 0, none⟩)) rfl rfl (by kernel_rfl) (by kernel_rfl) (fun _ _ => (by kernel_rfl)) ?_
  refine wk_val (i := 15) (.pointer (some ⟨t.q, 0, none⟩)) rfl rfl (by kernel_rfl) (by kernel_rfl) (fun _ _ => (by kernel_rfl)) ?_
  refine wk_val (i := 16) (.pointer (some ⟨t.q, 3, none⟩)) rfl rfl (by kernel_rfl) (by kernel_rfl) (fun _ _ => (by kernel_rfl)) ?_
  refine wk_val (i := 17) (.map (some t.mm)) rfl rfl (by kernel_rfl) (by kernel_rfl) (fun w' h' => run_load1 Try.isAgg72 (((hq.keep h'.old.old).cell 3).trans rfl)) ?_
  refine wk_one 4 (by kernel_rfl) ?_
  refine ef_callx rfl (by kernel_rfl) h3 enter49 #[vr] (by kernel_rfl) (fun w4 h5 => clone49 hm (hrow.imp id (fun ⟨g, cap, cur, e1, e2, e3⟩ => ⟨g, cap, cur, e1, e2.keep h5.old.old, e3⟩))) ?_
  rintro w4 h5 _ w6 ⟨p4, c4, rfl, hb4⟩
  have h7 := HA.keep _ _ h5 hb4
  refine ⟨_, rfl, (HA.sub h7 (List.Sublist.refl _)), ?_⟩
  refine wk_one 13 (by kernel_rfl) ?_
  refine ef_callx rfl (by kernel_rfl) h7 enter50 #[.map (some t.mb)] (by kernel_rfl) (fun w8 h9 => clone50 t.mb (eB es) (dts es 0).length ((h9.old.old.block t.mb (lt_of_block hmb)).trans hmb)) ?_
  rintro w8 h9 _ w10 ⟨r5, rfl, hb5⟩
  have h11 := HA.keep _ _ h9 hb5
  refine ⟨_, rfl, (HA.sub h11 (List.Sublist.refl _)), ?_⟩
  refine wk_one 18 (by kernel_rfl) ?_
  refine ef_callx rfl (by kernel_rfl) h11 enter51 #[.map (some t.mm)] (by kernel_rfl) (fun w12 h13 => clone51 t.mm (eM es) (mks es 0).length ((h13.old.old.block t.mm (lt_of_block hmm)).trans hmm)) ?_
  rintro w12 h13 _ w14 ⟨r6, rfl, hb6⟩
  have h15 := HA.keep _ _ h13 hb6
  refine ⟨_, rfl, (HA.sub h15 (List.Sublist.refl _)), ?_⟩
  refine wk_val (i := 19) (.agg #[.slice p4 es.length c4, iN .i64 (nms es), .map (some r5), .map (some r6)]) rfl rfl (by kernel_rfl) (by kernel_rfl) (fun _ _ => (by kernel_rfl)) ?_
  refine wk_one 20 (by kernel_rfl) ?_
  refine ef_make (c := #[.slice p4 es.length c4, iN .i64 (nms es), .map (some r5), .map (some r6)]) rfl (by kernel_rfl) h15 74 (fun _ => (by kernel_rfl)) (fun q w' h' => (HA.sub h' (List.Sublist.cons _ (List.Sublist.refl _)))) ?_
  intro q16 w18 (h17 : HA (bs w) [(q16, 74, #[.slice p4 es.length c4, iN .i64 (nms es), .map (some r5), .map (some r6)])] w18)
  refine wk_val (i := 21) (.pointer (some ⟨q16, 0, none⟩)) rfl rfl (by kernel_rfl) (by kernel_rfl) (fun _ _ => (by kernel_rfl)) ?_
  refine wk_end fun w19 hbx hsx => ?_
  have h20 := HA.keep _ _ h17 hbx
  exact ⟨q16, r5, r6, c4, p4, by kernel_rfl, h20⟩
 ·rintro _ w21 ⟨q16, r5, r6, c4, p4, rfl, h22⟩
  refine then_at rfl ?_
  refine wp_ret ?_
  repeat first | refine then_ret ?_ | refine block_ret ?_
  exact bodyPost_ret (v := pt q16) (by kernel_rfl) rfl ⟨⟨q16, r5, r6⟩, p4, c4, rfl, h22.own _ (List.mem_of_getElem? (i := 0) rfl), h22.get 0 rfl, h22.old.old⟩
theorem later_y {w : World} {t : Tb} {es : List Ent} (h : TV w t es) (hI : Iv es) {s : ByteArray} {x : Nat} {q : Ent} (hn : numT es.length s = some x) (he : es[x]? = some q) :
  Calls Try.prog 24 #[pt t.q, .string s] w fun e w' => e = .returned (.bool false) ∧ Below w.heap.size w w' := by
 have H0 := HA.start w
 go_enter Try.func24, Try.ntmps24
 refine zsr ?_
 refine zwv (.bool false) ?_
 refine znt ?_
 refine zsr ?_
 refine zwv (.pointer (some ⟨t.q, 0, none⟩)) ?_
 refine zwv (.string s) ?_
 refine wl_callx enter9 #[.pointer (some ⟨t.q, 0, none⟩), .string s] (Of_yes (h.keep H0.old.old) hI hn he) ?_
 rintro _ w1 ⟨po, pc, N, rfl, hril, hN, hbo⟩
 refine ⟨_, rfl, ?_⟩
 have h2 : HA (bs w) (N) w1 := HA.addL H0 hbo hN
 refine zwv (.tuple #[.agg #[iN .i64 ((trm q).k), iN .i64 ((trm q).n), .string ((trm q).s), .slice po (trm q).ps.length pc], .bool true]) ?_
 refine zwv (.agg #[iN .i64 ((trm q).k), iN .i64 ((trm q).n), .string ((trm q).s), .slice po (trm q).ps.length pc]) ?_
 refine zwv (.bool true) ?_
 refine wl_make (c := #[iN .i64 0, iN .i64 0, .string ({ data := #[] }), .slice none 0 0]) h2 31 ?_
 intro q3 w4 (h5 : HA (bs w) ((q3, 31, #[iN .i64 0, iN .i64 0, .string ({ data := #[] }), .slice none 0 0]) :: N) w4)
 refine wl_fill (c' := #[iN .i64 ((trm q).k), iN .i64 ((trm q).n), .string ((trm q).s), .slice po (trm q).ps.length pc]) h5 0 rfl rfl ?_
 intro w6 (h7 : HA (bs w) ((q3, 31, #[iN .i64 ((trm q).k), iN .i64 ((trm q).n), .string ((trm q).s), .slice po (trm q).ps.length pc]) :: N) w6)
 refine zwv (.bool true) ?_
 refine znt ?_
 refine zsr ?_
 refine zwv (.bool true) ?_
 refine zwv (.bool false) ?_
 refine zwv (.bool false) ?_
 refine wl_skip ?_
 refine wl_skip ?_
 refine wl_skip ?_
 refine zwv (.bool false) ?_
 refine zwv (.bool false) ?_
 refine wl_skip ?_
 refine wl_skip ?_
 refine wl_skip ?_
 refine zwv (.bool false) ?_
 refine zwv (.bool false) ?_
 refine znt ?_
 refine wp_ret ?_
 repeat first | refine then_ret ?_ | refine block_ret ?_
 exact bodyPost_ret (by kernel_rfl) rfl ⟨rfl, h7.old.old⟩
theorem later_8 {w : World} {t : Tb} {es : List Ent} (h : TV w t es) (hI : Iv es) {s : ByteArray} (hn : numT es.length s = none) (h8 : ¬ s.size = 8) :
  Calls Try.prog 24 #[pt t.q, .string s] w fun e w' => e = .returned (.bool false) ∧ Below w.heap.size w w' := by
 have H0 := HA.start w
 go_enter Try.func24, Try.ntmps24
 refine zsr ?_
 refine zwv (.bool false) ?_
 refine znt ?_
 refine zsr ?_
 refine zwv (.pointer (some ⟨t.q, 0, none⟩)) ?_
 refine zwv (.string s) ?_
 refine zwc H0 enter9 (Of_not (h.keep H0.old.old) hI.wf hn) ?_
 intro w1 h2
 refine zwv (.tuple #[.agg #[iN .i64 0, iN .i64 0, .string { data := #[] }, .slice none 0 0], .bool false]) ?_
 refine zwv (.agg #[iN .i64 0, iN .i64 0, .string { data := #[] }, .slice none 0 0]) ?_
 refine zwv (.bool false) ?_
 refine wl_make (c := #[iN .i64 0, iN .i64 0, .string ({ data := #[] }), .slice none 0 0]) h2 31 ?_
 intro q3 w4 (h5 : HA (bs w) [(q3, 31, #[iN .i64 0, iN .i64 0, .string ({ data := #[] }), .slice none 0 0])] w4)
 refine wl_fill (c' := #[iN .i64 0, iN .i64 0, .string { data := #[] }, .slice none 0 0]) h5 0 rfl rfl ?_
 intro w6 (h7 : HA (bs w) [(q3, 31, #[iN .i64 0, iN .i64 0, .string { data := #[] }, .slice none 0 0])] w6)
 refine zwv (.bool false) ?_
 refine znt ?_
 refine zsr ?_
 refine zwv (.bool false) ?_
 refine zwv (.bool true) ?_
 refine zwv (.bool true) ?_
 refine zwv (.string s) ?_
 refine zwu (run_len (s := s)) ?_
 refine zwu (run_eqi (k := .i64) (a := s.size) (b := 8) false (ht := (decide_eq_false h8))) ?_
 refine zwv (.bool false) ?_
 refine zwv (.bool false) ?_
 refine wl_skip ?_
 refine wl_skip ?_
 refine wl_skip ?_
 refine zwv (.bool false) ?_
 refine zwv (.bool false) ?_
 refine znt ?_
 refine wp_ret ?_
 repeat first | refine then_ret ?_ | refine block_ret ?_
 exact bodyPost_ret (by kernel_rfl) rfl ⟨rfl, h7.old.old⟩
theorem later_h {w : World} {t : Tb} {es : List Ent} (h : TV w t es) (hI : Iv es) {s : ByteArray} (hn : numT es.length s = none) (h8 : s.size = 8) (hh : ¬ s.extract 0 4 = hdS) :
  Calls Try.prog 24 #[pt t.q, .string s] w fun e w' => e = .returned (.bool false) ∧ Below w.heap.size w w' := by
 have H0 := HA.start w
 go_enter Try.func24, Try.ntmps24
 refine zsr ?_
 refine zwv (.bool false) ?_
 refine znt ?_
 refine zsr ?_
 refine zwv (.pointer (some ⟨t.q, 0, none⟩)) ?_
 refine zwv (.string s) ?_
 refine zwc H0 enter9 (Of_not (h.keep H0.old.old) hI.wf hn) ?_
 intro w1 h2
 refine zwv (.tuple #[.agg #[iN .i64 0, iN .i64 0, .string { data := #[] }, .slice none 0 0], .bool false]) ?_
 refine zwv (.agg #[iN .i64 0, iN .i64 0, .string { data := #[] }, .slice none 0 0]) ?_
 refine zwv (.bool false) ?_
 refine wl_make (c := #[iN .i64 0, iN .i64 0, .string ({ data := #[] }), .slice none 0 0]) h2 31 ?_
 intro q3 w4 (h5 : HA (bs w) [(q3, 31, #[iN .i64 0, iN .i64 0, .string ({ data := #[] }), .slice none 0 0])] w4)
 refine wl_fill (c' := #[iN .i64 0, iN .i64 0, .string { data := #[] }, .slice none 0 0]) h5 0 rfl rfl ?_
 intro w6 (h7 : HA (bs w) [(q3, 31, #[iN .i64 0, iN .i64 0, .string { data := #[] }, .slice none 0 0])] w6)
 refine zwv (.bool false) ?_
 refine znt ?_
 refine zsr ?_
 refine zwv (.bool false) ?_
 refine zwv (.bool true) ?_
 refine zwv (.bool true) ?_
 refine zwv (.string s) ?_
 refine zwu (run_len (s := s)) ?_
 refine zwu (run_eqi (k := .i64) (a := s.size) (b := 8) true (ht := (decide_eq_true h8))) ?_
 refine zwv (.bool true) ?_
 refine zwv (.bool true) ?_
 refine zwv (.string s) ?_
 refine zwu (v := .string (s.extract 0 4)) (run_cut_hi (s := s) (b := 4) (by omega)) ?_
 refine zwu (run_eqs (s := s.extract 0 4) (t := { data := #[240, 84, 82, 77] }) false (decide_eq_false hh)) ?_
 refine zwv (.bool false) ?_
 refine zwv (.bool false) ?_
 refine znt ?_
 refine wp_ret ?_
 repeat first | refine then_ret ?_ | refine block_ret ?_
 exact bodyPost_ret (by kernel_rfl) rfl ⟨rfl, h7.old.old⟩
theorem later_t {w : World} {t : Tb} {es : List Ent} (h : TV w t es) (hI : Iv es) {s : ByteArray} (hn : numT es.length s = none) (h8 : s.size = 8) (hh : s.extract 0 4 = hdS) :
  Calls Try.prog 24 #[pt t.q, .string s] w fun e w' => e = .returned (.bool true) ∧ Below w.heap.size w w' := by
 have H0 := HA.start w
 go_enter Try.func24, Try.ntmps24
 refine zsr ?_
 refine zwv (.bool false) ?_
 refine znt ?_
 refine zsr ?_
 refine zwv (.pointer (some ⟨t.q, 0, none⟩)) ?_
 refine zwv (.string s) ?_
 refine zwc H0 enter9 (Of_not (h.keep H0.old.old) hI.wf hn) ?_
 intro w1 h2
 refine zwv (.tuple #[.agg #[iN .i64 0, iN .i64 0, .string { data := #[] }, .slice none 0 0], .bool false]) ?_
 refine zwv (.agg #[iN .i64 0, iN .i64 0, .string { data := #[] }, .slice none 0 0]) ?_
 refine zwv (.bool false) ?_
 refine wl_make (c := #[iN .i64 0, iN .i64 0, .string ({ data := #[] }), .slice none 0 0]) h2 31 ?_
 intro q3 w4 (h5 : HA (bs w) [(q3, 31, #[iN .i64 0, iN .i64 0, .string ({ data := #[] }), .slice none 0 0])] w4)
 refine wl_fill (c' := #[iN .i64 0, iN .i64 0, .string { data := #[] }, .slice none 0 0]) h5 0 rfl rfl ?_
 intro w6 (h7 : HA (bs w) [(q3, 31, #[iN .i64 0, iN .i64 0, .string { data := #[] }, .slice none 0 0])] w6)
 refine zwv (.bool false) ?_
 refine znt ?_
 refine zsr ?_
 refine zwv (.bool false) ?_
 refine zwv (.bool true) ?_
 refine zwv (.bool true) ?_
 refine zwv (.string s) ?_
 refine zwu (run_len (s := s)) ?_
 refine zwu (run_eqi (k := .i64) (a := s.size) (b := 8) true (ht := (decide_eq_true h8))) ?_
 refine zwv (.bool true) ?_
 refine zwv (.bool true) ?_
 refine zwv (.string s) ?_
 refine zwu (v := .string (s.extract 0 4)) (run_cut_hi (s := s) (b := 4) (by omega)) ?_
 refine zwu (run_eqs (s := s.extract 0 4) (t := { data := #[240, 84, 82, 77] }) true (decide_eq_true hh)) ?_
 refine zwv (.bool true) ?_
 refine zwv (.bool true) ?_
 refine znt ?_
 refine wp_ret ?_
 repeat first | refine then_ret ?_ | refine block_ret ?_
 exact bodyPost_ret (by kernel_rfl) rfl ⟨rfl, h7.old.old⟩
theorem later_any {w : World} {t : Tb} {es : List Ent} (h : TV w t es) (hI : Iv es) (s : ByteArray) :
  Calls Try.prog 24 #[pt t.q, .string s] w fun e w' => e = .returned (.bool (latB es.length s)) ∧ Below w.heap.size w w' := by
 unfold latB
 cases hn : numT es.length s with
 | some x =>
  exact later_y h hI hn (List.getElem?_eq_getElem (numT_lt hn))
 | none =>
  by_cases h8 : s.size = 8
  ·by_cases hh : s.extract 0 4 = hdS
   ·rw [decide_eq_true h8, decide_eq_true hh]; exact later_t h hI hn h8 hh
   ·rw [decide_eq_true h8, decide_eq_false hh]; exact later_h h hI hn h8 hh
  ·rw [decide_eq_false h8]; exact later_8 h hI hn h8
end Go.Proofs.Ytihfeoanognonaa
