/-
  publicOf, layHalf, layMade.
-/
import Derived.Test.YtoogiblkommdfaaGreatGC
set_option linter.unusedVariables false
namespace Go.Proofs.YtoogiblkommdfaaGreat
open Go.RowKit

theorem gcall {ops : Array Oper} {Q : Exit → Act → World → Prop} {F : (Nat → Nat) → Act} {S : (Nat → Nat) → (Nat → Bool) → World → Prop} {i : Nat} {dst : Option Tmp} {ty : TypeId} {pos : String} {aft : Array Edge} {gd : Option (Nat × Bool)} {f : FuncId} {xs : Array Operand} {ats : Array TypeId} {v : (Nat → Nat) → Value} {args : (Nat → Nat) → Array Value}
    (hw : ∀ g, Region.wanted ⟨dst, .call { callee := .value (.func f), args := xs, argTypes := ats }, ty, pos, aft, gd⟩ (yielded ops (F g).tmps) = true) (hp : ∀ g, (F g).put dst (v g) = F g)
    (hr : ∀ args w, (callFunc f args).run Tryz.prog w = .ok (.enter f args) w) (ha : ∀ g, #[] ++ xs.map (F g).eval ++ #[] = args g)
    (hc : ∀ g d w, S g d w → (∀ e ∈ aft, Region.binds .any e = true → d e.on = true) → Calls Tryz.prog f (args g) w fun e w' => e = .returned (v g) ∧ S g (up d i true) w') : OpGhost Tryz.prog .any ops Q S F i ⟨dst, .call { callee := .value (.func f), args := xs, argTypes := ats }, ty, pos, aft, gd⟩ :=
  OpGhost.call (v := v) (args := args) hw hp (fun g w => by rw [execOp_call_go, ha g]; exact hr _ w) hc
structure SP (w0 : World) (x : Nat) (g : Nat → Nat) (d : Nat → Bool) (w : World) : Prop where
  ha : HA (bs w0) [] w
  b5 : d 5 = true → Blk w (g 5) 3 (intc [x])
  b6 : d 6 = true → d 5 = true ∧ g 6 = g 5
theorem SP.read {w0 : World} {x : Nat} {g : Nat → Nat} {d : Nat → Bool} {w : World} (h : SP w0 x g d w) {i : Nat} (h5 : i ≠ 5) (h6 : i ≠ 6) : SP w0 x g (up d i true) w :=
  ⟨h.ha, by rw [up_ne _ _ (Ne.symm h5)]; exact h.b5, by rw [up_ne _ _ (Ne.symm h5), up_ne _ _ (Ne.symm h6)]; exact h.b6⟩
set_option maxRecDepth 100000 in
set_option maxHeartbeats 2000000 in
theorem public_any {w : World} {t : Tb} {es : List Ent} (h : TV w t es) (x : Nat) (hx : x < 1000000) :
    Calls Tryz.prog 199 #[pt t.q, iN .i64 x] w fun e w' => e = .returned (onum (pubT es x)) ∧ Below w.heap.size w w' := by
  obtain ⟨v, hq, _⟩ := h.row
  have H0 := HA.start w
  go_enter Tryz.func199, Tryz.ntmps199
  refine wp_seq (wl_region ?_)
  refine zv (iN .i64 0) ?_
  refine zv (.bool false) ?_
  refine wl_nil (then_at rfl (wp_seq ?_))
  refine wp_region_ghost (fun g : Nat → Nat => (⟨(pt t.q :: iN .i64 x :: un :: un :: iN .i64 0 :: .bool false :: iN .i64 ((pubT es x).getD 0) :: .bool (pubT es x).isSome :: .tuple #[iN .i64 ((pubT es x).getD 0), .bool (pubT es x).isSome] :: pt t.q :: pt t.q :: .pointer (some ⟨t.q, 3, none⟩) :: .map (some t.mm) :: iN .i64 x :: .slice (some ⟨g 5, 0, none⟩) 1 1 :: .agg #[iN .i64 3, iN .i64 0, .string { data := #[] }, .slice (some ⟨g 6, 0, none⟩) 1 1] :: recV (recOf 3 0 { data := #[] } [x]) :: .tuple #[iN .i64 ((pubT es x).getD 0), .bool (pubT es x).isSome] :: iN .i64 ((pubT es x).getD 0) :: .bool (pubT es x).isSome :: List.replicate 2 un).toArray, []⟩ : Act)) (SP w x) [.pointer (some ⟨t.q, 0, none⟩), .pointer (some ⟨t.q, 0, none⟩), .pointer (some ⟨t.q, 3, none⟩), .map (some t.mm), iN .i64 x, .slice (some ⟨0, 0, none⟩) 1 1, .agg #[iN .i64 3, iN .i64 0, .string { data := #[] }, .slice (some ⟨0, 0, none⟩) 1 1], recV (recOf 3 0 { data := #[] } [x]), .tuple #[iN .i64 ((pubT es x).getD 0), .bool (pubT es x).isSome], .tuple #[iN .i64 ((pubT es x).getD 0), .bool (pubT es x).isSome], iN .i64 ((pubT es x).getD 0), .bool (pubT es x).isSome, iN .i64 ((pubT es x).getD 0), .bool (pubT es x).isSome] ky ky ky ky (fun _ _ _ _ h => h) (fun d hd => ⟨H0.drew, fun h5 => (by rw [hd 5 (by decide)] at h5; cases h5), fun h6 => (by rw [hd 6 (by decide)] at h6; cases h6)⟩) ?_ ?_
  · refine AllGhost.cons (OpGhost.take (v := fun _ => .pointer (some ⟨t.q, 0, none⟩)) (fun _ => by kernel_rfl) (fun _ => by kernel_rfl) (fun g d w' h' _ => ⟨ky, h'.read (by decide) (by decide)⟩)) ?_
    refine AllGhost.cons (OpGhost.take (v := fun _ => .pointer (some ⟨t.q, 0, none⟩)) (fun _ => by kernel_rfl) (fun _ => by kernel_rfl) (fun g d w' h' _ => ⟨ky, h'.read (by decide) (by decide)⟩)) ?_
    refine AllGhost.cons (OpGhost.take (v := fun _ => .pointer (some ⟨t.q, 3, none⟩)) (fun _ => by kernel_rfl) (fun _ => by kernel_rfl) (fun g d w' h' _ => ⟨ky, h'.read (by decide) (by decide)⟩)) ?_
    refine AllGhost.cons (OpGhost.take (v := fun _ => .map (some t.mm)) (fun _ => by kernel_rfl) (fun _ => by kernel_rfl) (fun g d w' h' _ => ⟨run_load1 (fun w => Tryz.isAgg143 w) ky (((hq.keep h'.ha.old.old).cell 3).trans rfl), h'.read (by decide) (by decide)⟩)) ?_
    refine AllGhost.cons (OpGhost.take (v := fun _ => iN .i64 x) (fun _ => by kernel_rfl) (fun _ => by kernel_rfl) (fun g d w' h' _ => ⟨ky, h'.read (by decide) (by decide)⟩)) ?_
    refine AllGhost.cons (OpGhost.act (v := fun _ w => .slice (some ⟨w.heap.size, 0, none⟩) 1 1) (n := fun _ w => w.heap.size) (W := fun _ w => w.alloc (.cells (intc [x]) 3)) (fun _ => by kernel_rfl) (fun _ _ => by kernel_rfl) (fun g d w' h' hd _ => ⟨by kernel_rfl, (h'.ha.make 3 (intc [x])).tl, fun _ => by rw [up_at]; exact Blk.new w' 3 (intc [x]), fun h6 => by rw [up_ne _ _ (by decide)] at h6; have := (h'.b6 h6).1; rw [hd] at this; cases this⟩)) ?_
    refine AllGhost.cons (OpGhost.act (v := fun g _ => .agg #[iN .i64 3, iN .i64 0, .string { data := #[] }, .slice (some ⟨g 5, 0, none⟩) 1 1]) (n := fun g _ => g 5) (W := fun _ w => w) (fun _ => by kernel_rfl) (fun _ _ => by kernel_rfl) (fun g d w' h' hd ha => ⟨by kernel_rfl, h'.ha, by rw [up_ne _ _ (by decide), up_ne _ _ (by decide)]; exact h'.b5, fun _ => ⟨by rw [up_ne _ _ (by decide)]; exact ahead_ok (l := [5]) ky ha 5 (by decide), by rw [up_at, up_ne _ _ (by decide)]⟩⟩)) ?_
    refine AllGhost.cons (gcall (v := fun _ => recV (recOf 3 0 { data := #[] } [x])) (args := fun g => #[.agg #[iN .i64 3, iN .i64 0, .string { data := #[] }, .slice (some ⟨g 6, 0, none⟩) 1 1]]) (fun _ => by kernel_rfl) (fun _ => by kernel_rfl) enter211 (fun _ => by kernel_rfl) (fun g d w' h' ha => (recipe_any 3 0 { data := #[] } [x] (g 6) (by have h6 := h'.b6 (ahead_ok (l := [6]) ky ha 6 (by decide)); rw [h6.2]; exact h'.b5 h6.1) (by simp) (fun i => getD_lt (m := 1000000) (by simpa using hx) (by decide) i)).mono (fun e w2 he => ⟨he.1, SP.read ⟨h'.ha.keep _ _ he.2, fun h5 => (h'.b5 h5).keep he.2, h'.b6⟩ (by decide) (by decide)⟩))) ?_
    refine AllGhost.cons (OpGhost.take (v := fun _ => .tuple #[iN .i64 ((pubT es x).getD 0), .bool (pubT es x).isSome]) (fun _ => by kernel_rfl) (fun _ => by kernel_rfl) (fun g d w' h' _ => ⟨run_lk72 (s := recOf 3 0 { data := #[] } [x]) ky ky (h.keep h'.ha.old.old).mm (pubT es x) rfl, h'.read (by decide) (by decide)⟩)) ?_
    refine AllGhost.cons (OpGhost.take (v := fun _ => .tuple #[iN .i64 ((pubT es x).getD 0), .bool (pubT es x).isSome]) (fun _ => by kernel_rfl) (fun _ => by kernel_rfl) (fun g d w' h' _ => ⟨ky, h'.read (by decide) (by decide)⟩)) ?_
    refine AllGhost.cons (OpGhost.take (v := fun _ => iN .i64 ((pubT es x).getD 0)) (fun _ => by kernel_rfl) (fun _ => by kernel_rfl) (fun g d w' h' _ => ⟨ky, h'.read (by decide) (by decide)⟩)) ?_
    refine AllGhost.cons (OpGhost.take (v := fun _ => .bool (pubT es x).isSome) (fun _ => by kernel_rfl) (fun _ => by kernel_rfl) (fun g d w' h' _ => ⟨ky, h'.read (by decide) (by decide)⟩)) ?_
    refine AllGhost.cons (OpGhost.take (v := fun _ => iN .i64 ((pubT es x).getD 0)) (fun _ => by kernel_rfl) (fun _ => by kernel_rfl) (fun g d w' h' _ => ⟨ky, h'.read (by decide) (by decide)⟩)) ?_
    refine AllGhost.cons (OpGhost.take (v := fun _ => .bool (pubT es x).isSome) (fun _ => by kernel_rfl) (fun _ => by kernel_rfl) (fun g d w' h' _ => ⟨ky, h'.read (by decide) (by decide)⟩)) ?_
    exact AllGhost.nil
  intro g w1 hg0
  have h2 := hg0.ha
  clear hg0
  refine then_at rfl (wp_seq (wl_region ?_))
  refine zv (iN .i64 ((pubT es x).getD 0)) ?_
  refine zv (.bool (pubT es x).isSome) ?_
  refine zv (iN .i64 ((pubT es x).getD 0)) ?_
  refine zv (.bool (pubT es x).isSome) ?_
  refine wl_nil (then_at rfl ?_)
  refine wp_ret ?_
  repeat first | refine then_ret ?_ | refine block_ret ?_
  exact bodyPost_ret (v := onum (pubT es x)) ky rfl ⟨rfl, h2.old.old⟩
set_option maxRecDepth 100000 in
set_option maxHeartbeats 2000000 in
theorem half_a {z : Base} {b : Wb} {m : Nat} {st : St} {L : BL} {w : World} (H : WH z b m st L w) (hok : Wok m st) (hm : m ≤ 100000) {t : Tb} {es : List Ent} (h : TV z.w t es) (hme : m = es.length) {x a o : Nat} (hx : x < m) (ha : a < m) (ho : o < m) (hs : siz st + 2 ≤ 1000000) {p : Nat} (hp : pubT es o = some p) (hpm : p < m) :
    Calls Tryz.prog 169 #[pt t.q, pt b.p, iN .i64 x, iN .i64 a, iN .i64 o] w fun e w' => e = .returned (.tuple #[]) ∧ WH z b m (halfS es st x a o) L w' := by
  go_enter Tryz.func169, Tryz.ntmps169
  refine wp_seq (wl_region ?_)
  refine zv (.pointer (some ⟨t.q, 0, none⟩)) ?_
  refine zv (iN .i64 o) ?_
  refine wl_callx ky enter199 #[.pointer (some ⟨t.q, 0, none⟩), iN .i64 o] ky (by have := public_any (h.keep H.ha.old.old) o (by omega); rw [hp] at this; exact this) ?_
  rintro _ w2 ⟨rfl, hb1⟩
  refine ⟨_, rfl, ?_⟩
  have hW3 : WH z b m st (L) w2 := WH.keep H hb1
  refine zv (.tuple #[iN .i64 p, .bool true]) ?_
  refine zv (iN .i64 p) ?_
  refine zv (.bool true) ?_
  refine zv (iN .i64 p) ?_
  refine zv (.bool true) ?_
  refine wl_nil (then_at rfl (wp_seq (wl_region ?_)))
  refine zv (.bool true) ?_
  refine wl_nil (then_at rfl ?_)
  refine wp_cond_true ky ?_
  refine wl_region ?_
  refine zv (.pointer (some ⟨b.p, 0, none⟩)) ?_
  refine zv (iN .i64 x) ?_
  refine zv (iN .i64 a) ?_
  refine zv (iN .i64 p) ?_
  refine wl_mksW (n := 2) (k := 2) (c := intc ([a, p])) hW3 3 ky ky ?_
  intro q4 w5 (hW6 : WH z b m st ((q4, 3, intc ([a, p])) :: L) w5)
  refine wl_callx ky enter119 #[.pointer (some ⟨b.p, 0, none⟩), iN .i64 x, .slice (some ⟨q4, 0, none⟩) 2 2] ky (rule_any hW6 hok hx hm ([a, p]) _ 2 (.inr ⟨q4, intc [a, p], rfl, .inl (by simp), fun j hj => intc_get _ j hj⟩) (fun j hj => getD_lt (m := m) (by intro y hy; simp only [List.mem_cons, List.not_mem_nil, or_false] at hy; omega) (by omega) j) (by simp only [List.length_cons, List.length_nil]; omega)) ?_
  rintro _ w8 ⟨rfl, hW7⟩
  refine ⟨_, rfl, ?_⟩
  have hok9 := ruleS_ok hok hx ([a, p])
  have hszhok9 := siz_rule st x ([a, p])
  refine wl_nil ?_
  exact bodyPost_end (v := .tuple #[]) ky rfl ⟨rfl, by rw [halfS, hp]; exact WH.sub hW7 (List.sublist_cons_self _ _)⟩
set_option maxRecDepth 100000 in
set_option maxHeartbeats 2000000 in
theorem half_b {z : Base} {b : Wb} {m : Nat} {st : St} {L : BL} {w : World} (H : WH z b m st L w) (hok : Wok m st) (hm : m ≤ 100000) {t : Tb} {es : List Ent} (h : TV z.w t es) (hme : m = es.length) {x a o : Nat} (hx : x < m) (ha : a < m) (ho : o < m) (hs : siz st + 2 ≤ 1000000) (hp : pubT es o = none) :
    Calls Tryz.prog 169 #[pt t.q, pt b.p, iN .i64 x, iN .i64 a, iN .i64 o] w fun e w' => e = .returned (.tuple #[]) ∧ WH z b m (halfS es st x a o) L w' := by
  go_enter Tryz.func169, Tryz.ntmps169
  refine wp_seq (wl_region ?_)
  refine zv (.pointer (some ⟨t.q, 0, none⟩)) ?_
  refine zv (iN .i64 o) ?_
  refine wl_callx ky enter199 #[.pointer (some ⟨t.q, 0, none⟩), iN .i64 o] ky (by have := public_any (h.keep H.ha.old.old) o (by omega); rw [hp] at this; exact this) ?_
  rintro _ w2 ⟨rfl, hb1⟩
  refine ⟨_, rfl, ?_⟩
  have hW3 : WH z b m st (L) w2 := WH.keep H hb1
  refine zv (.tuple #[iN .i64 0, .bool false]) ?_
  refine zv (iN .i64 0) ?_
  refine zv (.bool false) ?_
  refine zv (iN .i64 0) ?_
  refine zv (.bool false) ?_
  refine wl_nil (then_at rfl (wp_seq (wl_region ?_)))
  refine zv (.bool false) ?_
  refine wl_nil (then_at rfl ?_)
  refine wp_cond_false ky ?_
  refine wp_skip ?_
  exact bodyPost_end (v := .tuple #[]) ky rfl ⟨rfl, by rw [halfS, hp]; exact WH.sub hW3 (List.Sublist.refl _)⟩
theorem pubT_lt {es : List Ent} {x p : Nat} (h : pubT es x = some p) : p < es.length := by
  unfold pubT lkR at h
  obtain ⟨y, hy, rfl⟩ := Option.map_eq_some_iff.1 h
  have := mks_lt es 0 y (List.mem_of_find?_eq_some hy)
  omega
theorem half_any {z : Base} {b : Wb} {m : Nat} {st : St} {L : BL} {w : World} (H : WH z b m st L w) (hok : Wok m st) (hm : m ≤ 100000) {t : Tb} {es : List Ent} (h : TV z.w t es) (hme : m = es.length) {x a o : Nat} (hx : x < m) (ha : a < m) (ho : o < m) (hs : siz st + 2 ≤ 1000000) :
    Calls Tryz.prog 169 #[pt t.q, pt b.p, iN .i64 x, iN .i64 a, iN .i64 o] w fun e w' => e = .returned (.tuple #[]) ∧ WH z b m (halfS es st x a o) L w' := by
  cases hp : pubT es o with
  | some p => exact half_a H hok hm h hme hx ha ho hs hp (by have := pubT_lt hp; omega)
  | none => exact half_b H hok hm h hme hx ha ho hs hp
theorem half_ok {m : Nat} {st : St} (h : Wok m st) (es : List Ent) {x : Nat} (hx : x < m) (a o : Nat) : Wok m (halfS es st x a o) ∧ siz (halfS es st x a o) ≤ siz st + 3 := by
  unfold halfS
  split
  · exact ⟨ruleS_ok h hx _, siz_rule st x _⟩
  · exact ⟨h, by omega⟩
theorem WH.drew {z : Base} {b : Wb} {m : Nat} {st : St} {L : BL} {w : World} (h : WH z b m st L w) : WH z b m st L w.drew := by
  obtain ⟨rv, nv, avs, Lr, Ln, La, k1, k2, k3, H⟩ := h
  exact ⟨rv, nv, avs, Lr, Ln, La, k1, k2, k3, H.drew⟩
set_option maxRecDepth 100000 in
set_option maxHeartbeats 2000000 in
theorem made_dh0 {z : Base} {b : Wb} {m : Nat} {st : St} {L : BL} {w : World} (H : WH z b m st L w) (hok : Wok m st) (hm : m ≤ 100000) {t : Tb} {es : List Ent} (h : TV z.w t es) (hme : m = es.length) {x k n : Nat} {s : ByteArray} {ps : List Nat} {pb : Nat} (hx : x < m) (hpb : Blk z.w pb 3 (intc ps)) (hps : ∀ j, j < ps.length → ps.getD j 0 < m) (hpl : ps.length ≤ 100) (hs : siz st + 200 ≤ 1000000) (hk : k = 4) (hl : ps.length = 2) (hn0 : n = 0) :
    Calls Tryz.prog 120 #[pt t.q, pt b.p, iN .i64 x, mkv k n s pb ps.length] w fun e w' => e = .returned (.tuple #[]) ∧ WH z b m (madeS es st x k n ps) L w' := by
  go_enter Tryz.func120, Tryz.ntmps120
  refine wp_seq (wl_region ?_)
  refine wl_makeW (c := #[iN .i64 k, iN .i64 n, .string s, .slice (some ⟨pb, 0, none⟩) ps.length ps.length]) H 190 ky ky ?_
  intro q1 w2 (hW3 : WH z b m st ((q1, 190, #[iN .i64 k, iN .i64 n, .string s, .slice (some ⟨pb, 0, none⟩) ps.length ps.length]) :: L) w2)
  refine wl_nil (then_at rfl (wp_seq (wl_region ?_)))
  refine zv (.pointer (some ⟨b.p, 0, none⟩)) ?_
  refine zv (iN .i64 x) ?_
  refine zv (.pointer (some ⟨q1, 3, none⟩)) ?_
  refine zu (.slice (some ⟨pb, 0, none⟩) ps.length ps.length) (run_load1 (fun w => Tryz.isAgg84 w) ky (((hW3.ha.get 0 rfl).cell 3).trans rfl)) ?_
  refine wl_callx ky enter119 #[.pointer (some ⟨b.p, 0, none⟩), iN .i64 x, .slice (some ⟨pb, 0, none⟩) ps.length ps.length] ky (rule_any hW3 hok hx hm ps _ ps.length (.inr ⟨pb, intc ps, rfl, .inr hpb, fun j hj => intc_get ps j hj⟩) (fun j hj => hps j hj) (by omega)) ?_
  rintro _ w5 ⟨rfl, hW4⟩
  refine ⟨_, rfl, ?_⟩
  have hok6 := ruleS_ok hok hx ps
  have hszhok6 := siz_rule st x ps
  refine wl_nil (then_at rfl (wp_seq (wl_region ?_)))
  refine zv (.pointer (some ⟨q1, 0, none⟩)) ?_
  refine zu (iN .i64 k) (run_load1 (fun w => Tryz.isAgg3 w) ky (((hW4.ha.get 0 rfl).cell 0).trans rfl)) ?_
  refine wl_nil (then_at rfl (wp_block (wp_seq (wl_region ?_))))
  refine zu (.bool true) (run_eqi (k := .i64) (a := k) (b := 4) ky ky true (decide_eq_true (by omega))) ?_
  refine zv (.bool true) ?_
  refine wl_nil (then_at rfl ?_)
  refine wp_cond_true ky ?_
  refine wp_seq (wl_region ?_)
  refine zv (.pointer (some ⟨q1, 1, none⟩)) ?_
  refine zu (iN .i64 n) (run_load1 (fun w => Tryz.isAgg3 w) ky (((hW4.ha.get 0 rfl).cell 1).trans rfl)) ?_
  refine zu (.bool true) (run_eqi (k := .i64) (a := n) (b := 0) ky ky true (decide_eq_true hn0)) ?_
  refine wl_nil (then_at rfl ?_)
  refine wp_cond_true ky ?_
  refine wp_seq ?_
  refine wp_region_ghost (fun g : Nat → Nat => (⟨(pt t.q :: pt b.p :: iN .i64 x :: .agg #[iN .i64 k, iN .i64 n, .string s, .slice (some ⟨pb, 0, none⟩) ps.length ps.length] :: un :: un :: un :: pt q1 :: pt b.p :: iN .i64 x :: .pointer (some ⟨q1, 3, none⟩) :: .slice (some ⟨pb, 0, none⟩) ps.length ps.length :: .tuple #[] :: pt q1 :: iN .i64 k :: .bool true :: .bool true :: .pointer (some ⟨q1, 1, none⟩) :: iN .i64 n :: .bool true :: pt t.q :: pt b.p :: iN .i64 x :: .pointer (some ⟨q1, 3, none⟩) :: .slice (some ⟨pb, 0, none⟩) ps.length ps.length :: pt pb :: iN .i64 (ps.getD 0 0) :: .pointer (some ⟨q1, 3, none⟩) :: .slice (some ⟨pb, 0, none⟩) ps.length ps.length :: .pointer (some ⟨pb, 1, none⟩) :: iN .i64 (ps.getD 1 0) :: .tuple #[] :: List.replicate 36 un).toArray, []⟩ : Act)) (G1 (HA z [(q1, 190, #[iN .i64 k, iN .i64 n, .string s, .slice (some ⟨pb, 0, none⟩) ps.length ps.length])]) (fun w' => WH z b m (ruleS st x ps) ((q1, 190, #[iN .i64 k, iN .i64 n, .string s, .slice (some ⟨pb, 0, none⟩) ps.length ps.length]) :: L) w') (fun _ w' => WH z b m (halfS es (ruleS st x ps) x (ps.getD 0 0) (ps.getD 1 0)) ((q1, 190, #[iN .i64 k, iN .i64 n, .string s, .slice (some ⟨pb, 0, none⟩) ps.length ps.length]) :: L) w') 11) [.pointer (some ⟨t.q, 0, none⟩), .pointer (some ⟨b.p, 0, none⟩), iN .i64 x, .pointer (some ⟨q1, 3, none⟩), .slice (some ⟨pb, 0, none⟩) ps.length ps.length, .pointer (some ⟨pb, 0, none⟩), iN .i64 (ps.getD 0 0), .pointer (some ⟨q1, 3, none⟩), .slice (some ⟨pb, 0, none⟩) ps.length ps.length, .pointer (some ⟨pb, 1, none⟩), iN .i64 (ps.getD 1 0), .tuple #[]] ky ky ky ky (fun _ _ _ _ h => h) (fun d hd => G1.start (hW4.ha.sub (List.Sublist.cons_cons _ (List.nil_sublist _))).drew (WH.drew hW4) (hd 11 (by decide))) ?_ ?_
  · refine AllGhost.cons (g1_read (v := fun g => .pointer (some ⟨t.q, 0, none⟩)) (by decide) (fun _ => by kernel_rfl) (fun _ => by kernel_rfl) (fun g _ _ => ky)) ?_
    refine AllGhost.cons (g1_read (v := fun g => .pointer (some ⟨b.p, 0, none⟩)) (by decide) (fun _ => by kernel_rfl) (fun _ => by kernel_rfl) (fun g _ _ => ky)) ?_
    refine AllGhost.cons (g1_read (v := fun g => iN .i64 x) (by decide) (fun _ => by kernel_rfl) (fun _ => by kernel_rfl) (fun g _ _ => ky)) ?_
    refine AllGhost.cons (g1_read (v := fun g => .pointer (some ⟨q1, 3, none⟩)) (by decide) (fun _ => by kernel_rfl) (fun _ => by kernel_rfl) (fun g _ _ => ky)) ?_
    refine AllGhost.cons (g1_read (v := fun g => .slice (some ⟨pb, 0, none⟩) ps.length ps.length) (by decide) (fun _ => by kernel_rfl) (fun _ => by kernel_rfl) (fun g w' h' => run_load1 (fun w => Tryz.isAgg84 w) ky (((h'.get 0 rfl).cell 3).trans rfl))) ?_
    refine AllGhost.cons (g1_read (v := fun g => .pointer (some ⟨pb, 0, none⟩)) (by decide) (fun _ => by kernel_rfl) (fun _ => by kernel_rfl) (fun g _ _ => (run_addr_slice (q := pb) (n := ps.length) (m := ps.length) (a := 0) Tryz.underlying84 (fun w => Tryz.sizeOf3 w) ky ky (by omega)))) ?_
    refine AllGhost.cons (g1_read (v := fun g => iN .i64 (ps.getD 0 0)) (by decide) (fun _ => by kernel_rfl) (fun _ => by kernel_rfl) (fun g w' h' => run_load1 (fun w => Tryz.isAgg3 w) ky (((hpb.keep h'.old.old).cell 0).trans (intc_get ps 0 (by omega))))) ?_
    refine AllGhost.cons (g1_read (v := fun g => .pointer (some ⟨q1, 3, none⟩)) (by decide) (fun _ => by kernel_rfl) (fun _ => by kernel_rfl) (fun g _ _ => ky)) ?_
    refine AllGhost.cons (g1_read (v := fun g => .slice (some ⟨pb, 0, none⟩) ps.length ps.length) (by decide) (fun _ => by kernel_rfl) (fun _ => by kernel_rfl) (fun g w' h' => run_load1 (fun w => Tryz.isAgg84 w) ky (((h'.get 0 rfl).cell 3).trans rfl))) ?_
    refine AllGhost.cons (g1_read (v := fun g => .pointer (some ⟨pb, 1, none⟩)) (by decide) (fun _ => by kernel_rfl) (fun _ => by kernel_rfl) (fun g _ _ => (run_addr_slice (q := pb) (n := ps.length) (m := ps.length) (a := 1) Tryz.underlying84 (fun w => Tryz.sizeOf3 w) ky ky (by omega)))) ?_
    refine AllGhost.cons (g1_read (v := fun g => iN .i64 (ps.getD 1 0)) (by decide) (fun _ => by kernel_rfl) (fun _ => by kernel_rfl) (fun g w' h' => run_load1 (fun w => Tryz.isAgg3 w) ky (((hpb.keep h'.old.old).cell 1).trans (intc_get ps 1 (by omega))))) ?_
    refine AllGhost.cons (g1_call0 (v := fun _ => .tuple #[]) (args := #[.pointer (some ⟨t.q, 0, none⟩), .pointer (some ⟨b.p, 0, none⟩), iN .i64 x, iN .i64 (ps.getD 0 0), iN .i64 (ps.getD 1 0)]) (fun _ => by kernel_rfl) (fun _ _ => by kernel_rfl) enter169 (fun _ => by kernel_rfl) (fun w' _ h0 => (half_any h0 hok6 hm h hme hx (hps 0 (by omega)) (hps 1 (by omega)) (by omega)).mono (by rintro e w2 ⟨e1, e2⟩; exact ⟨0, e1, e2.ha.sub (List.Sublist.cons_cons _ (List.nil_sublist _)), e2⟩))) ?_
    exact AllGhost.nil
  intro g w8 gg9
  have h10 := gg9.held
  rw [if_pos rfl] at h10
  clear gg9
  generalize g 11 = n11 at h10 ⊢
  clear g
  have hW12 : WH z b m (halfS es (ruleS st x ps) x (ps.getD 0 0) (ps.getD 1 0)) ((q1, 190, #[iN .i64 k, iN .i64 n, .string s, .slice (some ⟨pb, 0, none⟩) ps.length ps.length]) :: L) w8 := h10
  have hok13 := (half_ok hok6 es hx (ps.getD 0 0) (ps.getD 1 0)).1
  have hszhok13 := (half_ok hok6 es hx (ps.getD 0 0) (ps.getD 1 0)).2
  refine then_at rfl ?_
  refine wp_region_ghost (fun g : Nat → Nat => (⟨(pt t.q :: pt b.p :: iN .i64 x :: .agg #[iN .i64 k, iN .i64 n, .string s, .slice (some ⟨pb, 0, none⟩) ps.length ps.length] :: un :: un :: un :: pt q1 :: pt b.p :: iN .i64 x :: .pointer (some ⟨q1, 3, none⟩) :: .slice (some ⟨pb, 0, none⟩) ps.length ps.length :: .tuple #[] :: pt q1 :: iN .i64 k :: .bool true :: .bool true :: .pointer (some ⟨q1, 1, none⟩) :: iN .i64 n :: .bool true :: pt t.q :: pt b.p :: iN .i64 x :: .pointer (some ⟨q1, 3, none⟩) :: .slice (some ⟨pb, 0, none⟩) ps.length ps.length :: pt pb :: iN .i64 (ps.getD 0 0) :: .pointer (some ⟨q1, 3, none⟩) :: .slice (some ⟨pb, 0, none⟩) ps.length ps.length :: .pointer (some ⟨pb, 1, none⟩) :: iN .i64 (ps.getD 1 0) :: .tuple #[] :: pt t.q :: pt b.p :: iN .i64 x :: .pointer (some ⟨q1, 3, none⟩) :: .slice (some ⟨pb, 0, none⟩) ps.length ps.length :: .pointer (some ⟨pb, 1, none⟩) :: iN .i64 (ps.getD 1 0) :: .pointer (some ⟨q1, 3, none⟩) :: .slice (some ⟨pb, 0, none⟩) ps.length ps.length :: pt pb :: iN .i64 (ps.getD 0 0) :: .tuple #[] :: List.replicate 24 un).toArray, []⟩ : Act)) (G1 (HA z [(q1, 190, #[iN .i64 k, iN .i64 n, .string s, .slice (some ⟨pb, 0, none⟩) ps.length ps.length])]) (fun w' => WH z b m (halfS es (ruleS st x ps) x (ps.getD 0 0) (ps.getD 1 0)) ((q1, 190, #[iN .i64 k, iN .i64 n, .string s, .slice (some ⟨pb, 0, none⟩) ps.length ps.length]) :: L) w') (fun _ w' => WH z b m (halfS es (halfS es (ruleS st x ps) x (ps.getD 0 0) (ps.getD 1 0)) x (ps.getD 1 0) (ps.getD 0 0)) ((q1, 190, #[iN .i64 k, iN .i64 n, .string s, .slice (some ⟨pb, 0, none⟩) ps.length ps.length]) :: L) w') 11) [.pointer (some ⟨t.q, 0, none⟩), .pointer (some ⟨b.p, 0, none⟩), iN .i64 x, .pointer (some ⟨q1, 3, none⟩), .slice (some ⟨pb, 0, none⟩) ps.length ps.length, .pointer (some ⟨pb, 1, none⟩), iN .i64 (ps.getD 1 0), .pointer (some ⟨q1, 3, none⟩), .slice (some ⟨pb, 0, none⟩) ps.length ps.length, .pointer (some ⟨pb, 0, none⟩), iN .i64 (ps.getD 0 0), .tuple #[]] ky ky ky ky (fun _ _ _ _ h => h) (fun d hd => G1.start (hW12.ha.sub (List.Sublist.cons_cons _ (List.nil_sublist _))).drew (WH.drew hW12) (hd 11 (by decide))) ?_ ?_
  · refine AllGhost.cons (g1_read (v := fun g => .pointer (some ⟨t.q, 0, none⟩)) (by decide) (fun _ => by kernel_rfl) (fun _ => by kernel_rfl) (fun g _ _ => ky)) ?_
    refine AllGhost.cons (g1_read (v := fun g => .pointer (some ⟨b.p, 0, none⟩)) (by decide) (fun _ => by kernel_rfl) (fun _ => by kernel_rfl) (fun g _ _ => ky)) ?_
    refine AllGhost.cons (g1_read (v := fun g => iN .i64 x) (by decide) (fun _ => by kernel_rfl) (fun _ => by kernel_rfl) (fun g _ _ => ky)) ?_
    refine AllGhost.cons (g1_read (v := fun g => .pointer (some ⟨q1, 3, none⟩)) (by decide) (fun _ => by kernel_rfl) (fun _ => by kernel_rfl) (fun g _ _ => ky)) ?_
    refine AllGhost.cons (g1_read (v := fun g => .slice (some ⟨pb, 0, none⟩) ps.length ps.length) (by decide) (fun _ => by kernel_rfl) (fun _ => by kernel_rfl) (fun g w' h' => run_load1 (fun w => Tryz.isAgg84 w) ky (((h'.get 0 rfl).cell 3).trans rfl))) ?_
    refine AllGhost.cons (g1_read (v := fun g => .pointer (some ⟨pb, 1, none⟩)) (by decide) (fun _ => by kernel_rfl) (fun _ => by kernel_rfl) (fun g _ _ => (run_addr_slice (q := pb) (n := ps.length) (m := ps.length) (a := 1) Tryz.underlying84 (fun w => Tryz.sizeOf3 w) ky ky (by omega)))) ?_
    refine AllGhost.cons (g1_read (v := fun g => iN .i64 (ps.getD 1 0)) (by decide) (fun _ => by kernel_rfl) (fun _ => by kernel_rfl) (fun g w' h' => run_load1 (fun w => Tryz.isAgg3 w) ky (((hpb.keep h'.old.old).cell 1).trans (intc_get ps 1 (by omega))))) ?_
    refine AllGhost.cons (g1_read (v := fun g => .pointer (some ⟨q1, 3, none⟩)) (by decide) (fun _ => by kernel_rfl) (fun _ => by kernel_rfl) (fun g _ _ => ky)) ?_
    refine AllGhost.cons (g1_read (v := fun g => .slice (some ⟨pb, 0, none⟩) ps.length ps.length) (by decide) (fun _ => by kernel_rfl) (fun _ => by kernel_rfl) (fun g w' h' => run_load1 (fun w => Tryz.isAgg84 w) ky (((h'.get 0 rfl).cell 3).trans rfl))) ?_
    refine AllGhost.cons (g1_read (v := fun g => .pointer (some ⟨pb, 0, none⟩)) (by decide) (fun _ => by kernel_rfl) (fun _ => by kernel_rfl) (fun g _ _ => (run_addr_slice (q := pb) (n := ps.length) (m := ps.length) (a := 0) Tryz.underlying84 (fun w => Tryz.sizeOf3 w) ky ky (by omega)))) ?_
    refine AllGhost.cons (g1_read (v := fun g => iN .i64 (ps.getD 0 0)) (by decide) (fun _ => by kernel_rfl) (fun _ => by kernel_rfl) (fun g w' h' => run_load1 (fun w => Tryz.isAgg3 w) ky (((hpb.keep h'.old.old).cell 0).trans (intc_get ps 0 (by omega))))) ?_
    refine AllGhost.cons (g1_call0 (v := fun _ => .tuple #[]) (args := #[.pointer (some ⟨t.q, 0, none⟩), .pointer (some ⟨b.p, 0, none⟩), iN .i64 x, iN .i64 (ps.getD 1 0), iN .i64 (ps.getD 0 0)]) (fun _ => by kernel_rfl) (fun _ _ => by kernel_rfl) enter169 (fun _ => by kernel_rfl) (fun w' _ h0 => (half_any h0 hok13 hm h hme hx (hps 1 (by omega)) (hps 0 (by omega)) (by omega)).mono (by rintro e w2 ⟨e1, e2⟩; exact ⟨0, e1, e2.ha.sub (List.Sublist.cons_cons _ (List.nil_sublist _)), e2⟩))) ?_
    exact AllGhost.nil
  intro g w15 gg16
  have h17 := gg16.held
  rw [if_pos rfl] at h17
  clear gg16
  generalize g 11 = n18 at h17 ⊢
  clear g
  have hW19 : WH z b m (halfS es (halfS es (ruleS st x ps) x (ps.getD 0 0) (ps.getD 1 0)) x (ps.getD 1 0) (ps.getD 0 0)) ((q1, 190, #[iN .i64 k, iN .i64 n, .string s, .slice (some ⟨pb, 0, none⟩) ps.length ps.length]) :: L) w15 := h17
  have hok20 := (half_ok hok13 es hx (ps.getD 1 0) (ps.getD 0 0)).1
  have hszhok20 := (half_ok hok13 es hx (ps.getD 1 0) (ps.getD 0 0)).2
  refine block_normal ?_
  exact bodyPost_end (v := .tuple #[]) ky rfl ⟨rfl, by rw [madeS, if_pos hk, if_pos hn0]; exact WH.sub hW19 (List.sublist_append_right [(q1, 190, #[iN .i64 k, iN .i64 n, .string s, .slice (some ⟨pb, 0, none⟩) ps.length ps.length])] L)⟩
set_option maxRecDepth 100000 in
set_option maxHeartbeats 2000000 in
theorem made_dh1 {z : Base} {b : Wb} {m : Nat} {st : St} {L : BL} {w : World} (H : WH z b m st L w) (hok : Wok m st) (hm : m ≤ 100000) {t : Tb} {es : List Ent} (h : TV z.w t es) (hme : m = es.length) {x k n : Nat} {s : ByteArray} {ps : List Nat} {pb : Nat} (hx : x < m) (hpb : Blk z.w pb 3 (intc ps)) (hps : ∀ j, j < ps.length → ps.getD j 0 < m) (hpl : ps.length ≤ 100) (hs : siz st + 200 ≤ 1000000) (hk : k = 4) (hl : ps.length = 2) (hn0 : ¬ n = 0) :
    Calls Tryz.prog 120 #[pt t.q, pt b.p, iN .i64 x, mkv k n s pb ps.length] w fun e w' => e = .returned (.tuple #[]) ∧ WH z b m (madeS es st x k n ps) L w' := by
  go_enter Tryz.func120, Tryz.ntmps120
  refine wp_seq (wl_region ?_)
  refine wl_makeW (c := #[iN .i64 k, iN .i64 n, .string s, .slice (some ⟨pb, 0, none⟩) ps.length ps.length]) H 190 ky ky ?_
  intro q1 w2 (hW3 : WH z b m st ((q1, 190, #[iN .i64 k, iN .i64 n, .string s, .slice (some ⟨pb, 0, none⟩) ps.length ps.length]) :: L) w2)
  refine wl_nil (then_at rfl (wp_seq (wl_region ?_)))
  refine zv (.pointer (some ⟨b.p, 0, none⟩)) ?_
  refine zv (iN .i64 x) ?_
  refine zv (.pointer (some ⟨q1, 3, none⟩)) ?_
  refine zu (.slice (some ⟨pb, 0, none⟩) ps.length ps.length) (run_load1 (fun w => Tryz.isAgg84 w) ky (((hW3.ha.get 0 rfl).cell 3).trans rfl)) ?_
  refine wl_callx ky enter119 #[.pointer (some ⟨b.p, 0, none⟩), iN .i64 x, .slice (some ⟨pb, 0, none⟩) ps.length ps.length] ky (rule_any hW3 hok hx hm ps _ ps.length (.inr ⟨pb, intc ps, rfl, .inr hpb, fun j hj => intc_get ps j hj⟩) (fun j hj => hps j hj) (by omega)) ?_
  rintro _ w5 ⟨rfl, hW4⟩
  refine ⟨_, rfl, ?_⟩
  have hok6 := ruleS_ok hok hx ps
  have hszhok6 := siz_rule st x ps
  refine wl_nil (then_at rfl (wp_seq (wl_region ?_)))
  refine zv (.pointer (some ⟨q1, 0, none⟩)) ?_
  refine zu (iN .i64 k) (run_load1 (fun w => Tryz.isAgg3 w) ky (((hW4.ha.get 0 rfl).cell 0).trans rfl)) ?_
  refine wl_nil (then_at rfl (wp_block (wp_seq (wl_region ?_))))
  refine zu (.bool true) (run_eqi (k := .i64) (a := k) (b := 4) ky ky true (decide_eq_true (by omega))) ?_
  refine zv (.bool true) ?_
  refine wl_nil (then_at rfl ?_)
  refine wp_cond_true ky ?_
  refine wp_seq (wl_region ?_)
  refine zv (.pointer (some ⟨q1, 1, none⟩)) ?_
  refine zu (iN .i64 n) (run_load1 (fun w => Tryz.isAgg3 w) ky (((hW4.ha.get 0 rfl).cell 1).trans rfl)) ?_
  refine zu (.bool false) (run_eqi (k := .i64) (a := n) (b := 0) ky ky false (decide_eq_false hn0)) ?_
  refine wl_nil (then_at rfl ?_)
  refine wp_cond_false ky ?_
  refine wp_skip (block_normal ?_)
  exact bodyPost_end (v := .tuple #[]) ky rfl ⟨rfl, by rw [madeS, if_pos hk, if_neg hn0]; exact WH.sub hW4 (List.sublist_append_right [(q1, 190, #[iN .i64 k, iN .i64 n, .string s, .slice (some ⟨pb, 0, none⟩) ps.length ps.length])] L)⟩
set_option maxRecDepth 100000 in
set_option maxHeartbeats 2000000 in
theorem made_enc {z : Base} {b : Wb} {m : Nat} {st : St} {L : BL} {w : World} (H : WH z b m st L w) (hok : Wok m st) (hm : m ≤ 100000) {t : Tb} {es : List Ent} (h : TV z.w t es) (hme : m = es.length) {x k n : Nat} {s : ByteArray} {ps : List Nat} {pb : Nat} (hx : x < m) (hpb : Blk z.w pb 3 (intc ps)) (hps : ∀ j, j < ps.length → ps.getD j 0 < m) (hpl : ps.length ≤ 100) (hs : siz st + 200 ≤ 1000000) (hk : k = 6) (hl : ps.length = 4) :
    Calls Tryz.prog 120 #[pt t.q, pt b.p, iN .i64 x, mkv k n s pb ps.length] w fun e w' => e = .returned (.tuple #[]) ∧ WH z b m (madeS es st x k n ps) L w' := by
  go_enter Tryz.func120, Tryz.ntmps120
  refine wp_seq (wl_region ?_)
  refine wl_makeW (c := #[iN .i64 k, iN .i64 n, .string s, .slice (some ⟨pb, 0, none⟩) ps.length ps.length]) H 190 ky ky ?_
  intro q1 w2 (hW3 : WH z b m st ((q1, 190, #[iN .i64 k, iN .i64 n, .string s, .slice (some ⟨pb, 0, none⟩) ps.length ps.length]) :: L) w2)
  refine wl_nil (then_at rfl (wp_seq (wl_region ?_)))
  refine zv (.pointer (some ⟨b.p, 0, none⟩)) ?_
  refine zv (iN .i64 x) ?_
  refine zv (.pointer (some ⟨q1, 3, none⟩)) ?_
  refine zu (.slice (some ⟨pb, 0, none⟩) ps.length ps.length) (run_load1 (fun w => Tryz.isAgg84 w) ky (((hW3.ha.get 0 rfl).cell 3).trans rfl)) ?_
  refine wl_callx ky enter119 #[.pointer (some ⟨b.p, 0, none⟩), iN .i64 x, .slice (some ⟨pb, 0, none⟩) ps.length ps.length] ky (rule_any hW3 hok hx hm ps _ ps.length (.inr ⟨pb, intc ps, rfl, .inr hpb, fun j hj => intc_get ps j hj⟩) (fun j hj => hps j hj) (by omega)) ?_
  rintro _ w5 ⟨rfl, hW4⟩
  refine ⟨_, rfl, ?_⟩
  have hok6 := ruleS_ok hok hx ps
  have hszhok6 := siz_rule st x ps
  refine wl_nil (then_at rfl (wp_seq (wl_region ?_)))
  refine zv (.pointer (some ⟨q1, 0, none⟩)) ?_
  refine zu (iN .i64 k) (run_load1 (fun w => Tryz.isAgg3 w) ky (((hW4.ha.get 0 rfl).cell 0).trans rfl)) ?_
  refine wl_nil (then_at rfl (wp_block (wp_seq (wl_region ?_))))
  refine zu (.bool false) (run_eqi (k := .i64) (a := k) (b := 4) ky ky false (decide_eq_false (by omega))) ?_
  refine zv (.bool false) ?_
  refine wl_nil (then_at rfl ?_)
  refine wp_cond_false ky ?_
  refine wp_seq (wl_region ?_)
  refine zu (.bool true) (run_eqi (k := .i64) (a := k) (b := 6) ky ky true (decide_eq_true (by omega))) ?_
  refine zv (.bool true) ?_
  refine wl_nil (then_at rfl ?_)
  refine wp_cond_true ky ?_
  refine wp_region_ghost (fun g : Nat → Nat => (⟨(pt t.q :: pt b.p :: iN .i64 x :: .agg #[iN .i64 k, iN .i64 n, .string s, .slice (some ⟨pb, 0, none⟩) ps.length ps.length] :: un :: un :: un :: pt q1 :: pt b.p :: iN .i64 x :: .pointer (some ⟨q1, 3, none⟩) :: .slice (some ⟨pb, 0, none⟩) ps.length ps.length :: .tuple #[] :: pt q1 :: iN .i64 k :: .bool false :: .bool false :: un :: un :: un :: un :: un :: un :: un :: un :: un :: un :: un :: un :: un :: un :: un :: un :: un :: un :: un :: un :: un :: un :: un :: un :: un :: un :: un :: .bool true :: .bool true :: pt b.p :: .pointer (some ⟨q1, 3, none⟩) :: .slice (some ⟨pb, 0, none⟩) ps.length ps.length :: .pointer (some ⟨pb, 3, none⟩) :: iN .i64 (ps.getD 3 0) :: iN .i64 x :: .pointer (some ⟨q1, 3, none⟩) :: .slice (some ⟨pb, 0, none⟩) ps.length ps.length :: pt pb :: iN .i64 (ps.getD 0 0) :: .slice (some ⟨g 10, 0, none⟩) 2 2 :: List.replicate 11 un).toArray, []⟩ : Act)) (G2 (HA z [(q1, 190, #[iN .i64 k, iN .i64 n, .string s, .slice (some ⟨pb, 0, none⟩) ps.length ps.length])]) (fun w' => WH z b m (ruleS st x ps) ((q1, 190, #[iN .i64 k, iN .i64 n, .string s, .slice (some ⟨pb, 0, none⟩) ps.length ps.length]) :: L) w') (fun nz w' => WH z b m (ruleS st x ps) ((nz, 3, intc [x, ps.getD 0 0]) :: ((q1, 190, #[iN .i64 k, iN .i64 n, .string s, .slice (some ⟨pb, 0, none⟩) ps.length ps.length]) :: L)) w') (fun nz w' => WH z b m (ruleS (ruleS st x ps) (ps.getD 3 0) [x, ps.getD 0 0]) ((nz, 3, intc [x, ps.getD 0 0]) :: ((q1, 190, #[iN .i64 k, iN .i64 n, .string s, .slice (some ⟨pb, 0, none⟩) ps.length ps.length]) :: L)) w') (fun i => ([[], [], [], [], [], [], [], [], [], [], [], [10]] : List (List Nat)).getD i []) 10 11) [.pointer (some ⟨b.p, 0, none⟩), .pointer (some ⟨q1, 3, none⟩), .slice (some ⟨pb, 0, none⟩) ps.length ps.length, .pointer (some ⟨pb, 3, none⟩), iN .i64 (ps.getD 3 0), iN .i64 x, .pointer (some ⟨q1, 3, none⟩), .slice (some ⟨pb, 0, none⟩) ps.length ps.length, .pointer (some ⟨pb, 0, none⟩), iN .i64 (ps.getD 0 0), .slice (some ⟨0, 0, none⟩) 2 2, undef] ky ky ky ky (fun _ _ _ _ h => h) (fun d hd => G2.start (hW4.ha.sub (List.Sublist.cons_cons _ (List.nil_sublist _))).drew (WH.drew hW4) (hd 10 (by decide)) (hd 11 (by decide)) (Cl.start (n := 12) hd (by decide))) ?_ ?_
  · refine AllGhost.cons (g2_read (v := fun g => .pointer (some ⟨b.p, 0, none⟩)) (by decide) (by decide) ky (fun _ => by kernel_rfl) (fun _ => by kernel_rfl) (fun g _ _ => ky)) ?_
    refine AllGhost.cons (g2_read (v := fun g => .pointer (some ⟨q1, 3, none⟩)) (by decide) (by decide) ky (fun _ => by kernel_rfl) (fun _ => by kernel_rfl) (fun g _ _ => ky)) ?_
    refine AllGhost.cons (g2_read (v := fun g => .slice (some ⟨pb, 0, none⟩) ps.length ps.length) (by decide) (by decide) ky (fun _ => by kernel_rfl) (fun _ => by kernel_rfl) (fun g w' h' => run_load1 (fun w => Tryz.isAgg84 w) ky (((h'.get 0 rfl).cell 3).trans rfl))) ?_
    refine AllGhost.cons (g2_read (v := fun g => .pointer (some ⟨pb, 3, none⟩)) (by decide) (by decide) ky (fun _ => by kernel_rfl) (fun _ => by kernel_rfl) (fun g _ _ => (run_addr_slice (q := pb) (n := ps.length) (m := ps.length) (a := 3) Tryz.underlying84 (fun w => Tryz.sizeOf3 w) ky ky (by omega)))) ?_
    refine AllGhost.cons (g2_read (v := fun g => iN .i64 (ps.getD 3 0)) (by decide) (by decide) ky (fun _ => by kernel_rfl) (fun _ => by kernel_rfl) (fun g w' h' => run_load1 (fun w => Tryz.isAgg3 w) ky (((hpb.keep h'.old.old).cell 3).trans (intc_get ps 3 (by omega))))) ?_
    refine AllGhost.cons (g2_read (v := fun g => iN .i64 x) (by decide) (by decide) ky (fun _ => by kernel_rfl) (fun _ => by kernel_rfl) (fun g _ _ => ky)) ?_
    refine AllGhost.cons (g2_read (v := fun g => .pointer (some ⟨q1, 3, none⟩)) (by decide) (by decide) ky (fun _ => by kernel_rfl) (fun _ => by kernel_rfl) (fun g _ _ => ky)) ?_
    refine AllGhost.cons (g2_read (v := fun g => .slice (some ⟨pb, 0, none⟩) ps.length ps.length) (by decide) (by decide) ky (fun _ => by kernel_rfl) (fun _ => by kernel_rfl) (fun g w' h' => run_load1 (fun w => Tryz.isAgg84 w) ky (((h'.get 0 rfl).cell 3).trans rfl))) ?_
    refine AllGhost.cons (g2_read (v := fun g => .pointer (some ⟨pb, 0, none⟩)) (by decide) (by decide) ky (fun _ => by kernel_rfl) (fun _ => by kernel_rfl) (fun g _ _ => (run_addr_slice (q := pb) (n := ps.length) (m := ps.length) (a := 0) Tryz.underlying84 (fun w => Tryz.sizeOf3 w) ky ky (by omega)))) ?_
    refine AllGhost.cons (g2_read (v := fun g => iN .i64 (ps.getD 0 0)) (by decide) (by decide) ky (fun _ => by kernel_rfl) (fun _ => by kernel_rfl) (fun g w' h' => run_load1 (fun w => Tryz.isAgg3 w) ky (((hpb.keep h'.old.old).cell 0).trans (intc_get ps 0 (by omega))))) ?_
    refine AllGhost.cons (g2_act0 (v := fun n => .slice (some ⟨n, 0, none⟩) 2 2) (by decide) (fun d hc hm => hm 10 (by decide)) ky (fun _ => by kernel_rfl) (fun _ _ => by kernel_rfl) (fun g w' hr h' => ⟨w'.heap.size, _, (by kernel_rfl : (execOp _ _).run Tryz.prog w' = .ok (.value (.slice (some ⟨w'.heap.size, 0, none⟩) 2 2)) (w'.alloc (.cells (intc [x, ps.getD 0 0]) 3))), (WH.make h' 3 (intc [x, ps.getD 0 0])).ha.sub (List.Sublist.cons _ (List.Sublist.cons_cons _ (List.nil_sublist _))), WH.make h' 3 (intc [x, ps.getD 0 0])⟩)) ?_
    refine AllGhost.cons (g2_call1 (v := .tuple #[]) (args := fun g => #[.pointer (some ⟨b.p, 0, none⟩), iN .i64 (ps.getD 3 0), .slice (some ⟨g 10, 0, none⟩) 2 2]) (fun d hc hm => hm 10 (by decide)) ky (fun _ => by kernel_rfl) (fun _ => by kernel_rfl) enter119 (fun _ => by kernel_rfl) (fun g w' hr h' => (rule_any h' hok6 (hps 3 (by omega)) hm [x, ps.getD 0 0] _ 2 (.inr ⟨g 10, intc [x, ps.getD 0 0], rfl, .inl (List.mem_cons_self ..), fun j hj => intc_get _ j hj⟩) (fun j hj => getD_lt (m := m) (by intro y hy; have := hps 0 (by omega); simp only [List.mem_cons, List.not_mem_nil, or_false] at hy; omega) (by omega) j) (by simp only [List.length_cons, List.length_nil]; omega)).mono (by rintro e w2 ⟨e1, e2⟩; exact ⟨e1, e2.ha.sub (List.Sublist.cons _ (List.Sublist.cons_cons _ (List.nil_sublist _))), e2⟩))) ?_
    exact AllGhost.nil
  intro g w7 gg8
  have h9 := gg8.held
  rw [if_pos rfl] at h9
  clear gg8
  generalize g 10 = n10 at h9 ⊢
  clear g
  have hW11 : WH z b m (ruleS (ruleS st x ps) (ps.getD 3 0) [x, ps.getD 0 0]) ((n10, 3, intc [x, ps.getD 0 0]) :: (q1, 190, #[iN .i64 k, iN .i64 n, .string s, .slice (some ⟨pb, 0, none⟩) ps.length ps.length]) :: L) w7 := h9
  refine block_normal ?_
  exact bodyPost_end (v := .tuple #[]) ky rfl ⟨rfl, by rw [madeS, if_neg (by omega), if_pos hk]; exact WH.sub hW11 (List.sublist_append_right [(n10, 3, intc [x, ps.getD 0 0]), (q1, 190, #[iN .i64 k, iN .i64 n, .string s, .slice (some ⟨pb, 0, none⟩) ps.length ps.length])] L)⟩
set_option maxRecDepth 100000 in
set_option maxHeartbeats 2000000 in
theorem made_sig {z : Base} {b : Wb} {m : Nat} {st : St} {L : BL} {w : World} (H : WH z b m st L w) (hok : Wok m st) (hm : m ≤ 100000) {t : Tb} {es : List Ent} (h : TV z.w t es) (hme : m = es.length) {x k n : Nat} {s : ByteArray} {ps : List Nat} {pb : Nat} (hx : x < m) (hpb : Blk z.w pb 3 (intc ps)) (hps : ∀ j, j < ps.length → ps.getD j 0 < m) (hpl : ps.length ≤ 100) (hs : siz st + 200 ≤ 1000000) (hk : k = 7) (hl : ps.length = 2) :
    Calls Tryz.prog 120 #[pt t.q, pt b.p, iN .i64 x, mkv k n s pb ps.length] w fun e w' => e = .returned (.tuple #[]) ∧ WH z b m (madeS es st x k n ps) L w' := by
  go_enter Tryz.func120, Tryz.ntmps120
  refine wp_seq (wl_region ?_)
  refine wl_makeW (c := #[iN .i64 k, iN .i64 n, .string s, .slice (some ⟨pb, 0, none⟩) ps.length ps.length]) H 190 ky ky ?_
  intro q1 w2 (hW3 : WH z b m st ((q1, 190, #[iN .i64 k, iN .i64 n, .string s, .slice (some ⟨pb, 0, none⟩) ps.length ps.length]) :: L) w2)
  refine wl_nil (then_at rfl (wp_seq (wl_region ?_)))
  refine zv (.pointer (some ⟨b.p, 0, none⟩)) ?_
  refine zv (iN .i64 x) ?_
  refine zv (.pointer (some ⟨q1, 3, none⟩)) ?_
  refine zu (.slice (some ⟨pb, 0, none⟩) ps.length ps.length) (run_load1 (fun w => Tryz.isAgg84 w) ky (((hW3.ha.get 0 rfl).cell 3).trans rfl)) ?_
  refine wl_callx ky enter119 #[.pointer (some ⟨b.p, 0, none⟩), iN .i64 x, .slice (some ⟨pb, 0, none⟩) ps.length ps.length] ky (rule_any hW3 hok hx hm ps _ ps.length (.inr ⟨pb, intc ps, rfl, .inr hpb, fun j hj => intc_get ps j hj⟩) (fun j hj => hps j hj) (by omega)) ?_
  rintro _ w5 ⟨rfl, hW4⟩
  refine ⟨_, rfl, ?_⟩
  have hok6 := ruleS_ok hok hx ps
  have hszhok6 := siz_rule st x ps
  refine wl_nil (then_at rfl (wp_seq (wl_region ?_)))
  refine zv (.pointer (some ⟨q1, 0, none⟩)) ?_
  refine zu (iN .i64 k) (run_load1 (fun w => Tryz.isAgg3 w) ky (((hW4.ha.get 0 rfl).cell 0).trans rfl)) ?_
  refine wl_nil (then_at rfl (wp_block (wp_seq (wl_region ?_))))
  refine zu (.bool false) (run_eqi (k := .i64) (a := k) (b := 4) ky ky false (decide_eq_false (by omega))) ?_
  refine zv (.bool false) ?_
  refine wl_nil (then_at rfl ?_)
  refine wp_cond_false ky ?_
  refine wp_seq (wl_region ?_)
  refine zu (.bool false) (run_eqi (k := .i64) (a := k) (b := 6) ky ky false (decide_eq_false (by omega))) ?_
  refine zv (.bool false) ?_
  refine wl_nil (then_at rfl ?_)
  refine wp_cond_false ky ?_
  refine wp_seq (wl_region ?_)
  refine zu (.bool true) (run_eqi (k := .i64) (a := k) (b := 7) ky ky true (decide_eq_true (by omega))) ?_
  refine zv (.bool true) ?_
  refine wl_nil (then_at rfl ?_)
  refine wp_cond_true ky ?_
  refine wl_region ?_
  refine zv (.pointer (some ⟨b.p, 0, none⟩)) ?_
  refine zv (.pointer (some ⟨q1, 3, none⟩)) ?_
  refine zu (.slice (some ⟨pb, 0, none⟩) ps.length ps.length) (run_load1 (fun w => Tryz.isAgg84 w) ky (((hW4.ha.get 0 rfl).cell 3).trans rfl)) ?_
  refine zu (.pointer (some ⟨pb, 1, none⟩)) (run_addr_slice (q := pb) (n := ps.length) (m := ps.length) (a := 1) Tryz.underlying84 (fun w => Tryz.sizeOf3 w) ky ky (by omega)) ?_
  refine zu (iN .i64 (ps.getD 1 0)) (run_load1 (fun w => Tryz.isAgg3 w) ky (((hpb.keep hW4.ha.old.old).cell 1).trans (intc_get ps 1 (by omega)))) ?_
  refine zv (iN .i64 x) ?_
  refine wl_mksW (n := 1) (k := 1) (c := intc [x]) hW4 3 ky ky ?_
  intro q7 w8 (hW9 : WH z b m (ruleS st x ps) ((q7, 3, intc [x]) :: (q1, 190, #[iN .i64 k, iN .i64 n, .string s, .slice (some ⟨pb, 0, none⟩) ps.length ps.length]) :: L) w8)
  refine wl_callx ky enter119 #[.pointer (some ⟨b.p, 0, none⟩), iN .i64 (ps.getD 1 0), .slice (some ⟨q7, 0, none⟩) 1 1] ky (rule_any hW9 hok6 (hps 1 (by omega)) hm [x] _ 1 (.inr ⟨q7, intc [x], rfl, .inl (by simp), fun j hj => intc_get _ j hj⟩) (fun j hj => getD_lt (m := m) (by intro y hy; simp only [List.mem_cons, List.not_mem_nil, or_false] at hy; omega) (by omega) j) (by simp only [List.length_cons, List.length_nil]; omega)) ?_
  rintro _ w11 ⟨rfl, hW10⟩
  refine ⟨_, rfl, ?_⟩
  have hok12 := ruleS_ok hok6 (hps 1 (by omega)) [x]
  have hszhok12 := siz_rule (ruleS st x ps) (ps.getD 1 0) [x]
  refine wl_nil (block_normal ?_)
  exact bodyPost_end (v := .tuple #[]) ky rfl ⟨rfl, by rw [madeS, if_neg (by omega), if_neg (by omega), if_pos hk]; exact WH.sub hW10 (List.sublist_append_right [(q7, 3, intc [x]), (q1, 190, #[iN .i64 k, iN .i64 n, .string s, .slice (some ⟨pb, 0, none⟩) ps.length ps.length])] L)⟩
set_option maxRecDepth 100000 in
set_option maxHeartbeats 2000000 in
theorem made_oth {z : Base} {b : Wb} {m : Nat} {st : St} {L : BL} {w : World} (H : WH z b m st L w) (hok : Wok m st) (hm : m ≤ 100000) {t : Tb} {es : List Ent} (h : TV z.w t es) (hme : m = es.length) {x k n : Nat} {s : ByteArray} {ps : List Nat} {pb : Nat} (hx : x < m) (hpb : Blk z.w pb 3 (intc ps)) (hps : ∀ j, j < ps.length → ps.getD j 0 < m) (hpl : ps.length ≤ 100) (hs : siz st + 200 ≤ 1000000) (hk : k ≠ 4 ∧ k ≠ 6 ∧ k ≠ 7) :
    Calls Tryz.prog 120 #[pt t.q, pt b.p, iN .i64 x, mkv k n s pb ps.length] w fun e w' => e = .returned (.tuple #[]) ∧ WH z b m (madeS es st x k n ps) L w' := by
  go_enter Tryz.func120, Tryz.ntmps120
  refine wp_seq (wl_region ?_)
  refine wl_makeW (c := #[iN .i64 k, iN .i64 n, .string s, .slice (some ⟨pb, 0, none⟩) ps.length ps.length]) H 190 ky ky ?_
  intro q1 w2 (hW3 : WH z b m st ((q1, 190, #[iN .i64 k, iN .i64 n, .string s, .slice (some ⟨pb, 0, none⟩) ps.length ps.length]) :: L) w2)
  refine wl_nil (then_at rfl (wp_seq (wl_region ?_)))
  refine zv (.pointer (some ⟨b.p, 0, none⟩)) ?_
  refine zv (iN .i64 x) ?_
  refine zv (.pointer (some ⟨q1, 3, none⟩)) ?_
  refine zu (.slice (some ⟨pb, 0, none⟩) ps.length ps.length) (run_load1 (fun w => Tryz.isAgg84 w) ky (((hW3.ha.get 0 rfl).cell 3).trans rfl)) ?_
  refine wl_callx ky enter119 #[.pointer (some ⟨b.p, 0, none⟩), iN .i64 x, .slice (some ⟨pb, 0, none⟩) ps.length ps.length] ky (rule_any hW3 hok hx hm ps _ ps.length (.inr ⟨pb, intc ps, rfl, .inr hpb, fun j hj => intc_get ps j hj⟩) (fun j hj => hps j hj) (by omega)) ?_
  rintro _ w5 ⟨rfl, hW4⟩
  refine ⟨_, rfl, ?_⟩
  have hok6 := ruleS_ok hok hx ps
  have hszhok6 := siz_rule st x ps
  refine wl_nil (then_at rfl (wp_seq (wl_region ?_)))
  refine zv (.pointer (some ⟨q1, 0, none⟩)) ?_
  refine zu (iN .i64 k) (run_load1 (fun w => Tryz.isAgg3 w) ky (((hW4.ha.get 0 rfl).cell 0).trans rfl)) ?_
  refine wl_nil (then_at rfl (wp_block (wp_seq (wl_region ?_))))
  refine zu (.bool false) (run_eqi (k := .i64) (a := k) (b := 4) ky ky false (decide_eq_false (by omega))) ?_
  refine zv (.bool false) ?_
  refine wl_nil (then_at rfl ?_)
  refine wp_cond_false ky ?_
  refine wp_seq (wl_region ?_)
  refine zu (.bool false) (run_eqi (k := .i64) (a := k) (b := 6) ky ky false (decide_eq_false (by omega))) ?_
  refine zv (.bool false) ?_
  refine wl_nil (then_at rfl ?_)
  refine wp_cond_false ky ?_
  refine wp_seq (wl_region ?_)
  refine zu (.bool false) (run_eqi (k := .i64) (a := k) (b := 7) ky ky false (decide_eq_false (by omega))) ?_
  refine zv (.bool false) ?_
  refine wl_nil (then_at rfl ?_)
  refine wp_cond_false ky ?_
  refine wp_skip (block_normal ?_)
  exact bodyPost_end (v := .tuple #[]) ky rfl ⟨rfl, by rw [madeS, if_neg (by omega), if_neg (by omega), if_neg (by omega)]; exact WH.sub hW4 (List.sublist_append_right [(q1, 190, #[iN .i64 k, iN .i64 n, .string s, .slice (some ⟨pb, 0, none⟩) ps.length ps.length])] L)⟩
end Go.Proofs.YtoogiblkommdfaaGreat

namespace Go.Proofs.YtoogiblkommdfaaGreat
open Go.RowKit

theorem Within_any {w : World} {t : Tb} {es : List Ent} (h : TV w t es) (hm : es.length ≤ 65536) {m0 : Int} (hv : w.cell? ⟨0, 0, none⟩ = some (.int .i64 m0)) (s : ByteArray) (hs : s.size ≤ 1000000) :
    Calls Tryz.prog 36 #[pt t.q, .string s] w fun e w' => ∃ o c, e = .returned (.slice o (wth es.length s).length c) ∧ RI w.heap.size w' o (wth es.length s) ∧ Below w.heap.size w w' := by
  obtain ⟨v, hq, h2⟩ := h.row
  obtain ⟨p, c, rfl⟩ : ∃ p c, v = .slice p es.length c := by
    rcases h2 with ⟨rfl, h2⟩ | ⟨g, cap, cur, h2, _⟩
    · exact ⟨_, _, h2⟩
    · exact ⟨_, _, h2⟩
  exact Within_blk hq hm hv s hs
theorem WH.ri {z : Base} {b : Wb} {m : Nat} {st : St} {L : BL} {w w' : World} {o : Option Addr} {ps : List Nat} (h : WH z b m st L w) (hb : Below w.heap.size w w') (hr : RI w.heap.size w' o ps) : ∃ L1, WH z b m st (L1 ++ L) w' ∧ Rd3 z (L1 ++ L) o ps := by
  rcases hr with hr | ⟨q, c, h1, h2, h3, h4⟩
  · exact ⟨[], h.keep hb, .inl hr⟩
  · exact ⟨[(q, 3, c)], h.add hb h2 h3, .inr ⟨q, c, h1, .inl (by simp), h4⟩⟩
def dtS (st : St) (x : Nat) (wi : List Nat) (i : Nat) : St := (wi.take i).foldl (fun st y => ruleS st y [x]) (ruleS st x wi)
theorem dtS_ok {m : Nat} {st : St} (h : Wok m st) {x : Nat} (hx : x < m) (wi : List Nat) (hwi : ∀ y ∈ wi, y < m) : ∀ i, i ≤ wi.length → Wok m (dtS st x wi i) ∧ siz (dtS st x wi i) ≤ siz st + wi.length + 1 + 2 * i
  | 0, _ => ⟨ruleS_ok h hx wi, siz_rule st x wi⟩
  | i + 1, hi => by
    obtain ⟨h1, h2⟩ := dtS_ok h hx wi hwi i (by omega)
    have e : dtS st x wi (i + 1) = ruleS (dtS st x wi i) (wi.getD i 0) [x] := foldl_take_succ wi i (by omega)
    rw [e]
    have hy : wi.getD i 0 < m := hwi _ (by rw [List.getD_eq_getElem?_getD, List.getElem?_eq_getElem (by omega)]; exact List.getElem_mem _)
    have := siz_rule (dtS st x wi i) (wi.getD i 0) [x]
    simp only [List.length_cons, List.length_nil] at this
    exact ⟨ruleS_ok h1 hy _, by omega⟩
theorem wth_lt (m : Nat) (s : ByteArray) : ∀ y ∈ wth m s, y < m := fun y hy => by
  unfold wth at hy
  exact List.mem_range.1 (List.mem_filter.1 hy).1
theorem wth_len (m : Nat) (s : ByteArray) : (wth m s).length ≤ m := by
  unfold wth
  exact Nat.le_trans (List.length_filter_le _ _) (by simp)
set_option maxRecDepth 100000 in
set_option maxHeartbeats 2000000 in
theorem lay_nm {z : Base} {b : Wb} {m : Nat} {st : St} {L : BL} {w : World} (H : WH z b m st L w) (hok : Wok m st) (hm4 : m ≤ 400) {t : Tb} {es : List Ent} (h : TV z.w t es) (hme : m = es.length) (hwf : Wf es) (hwg : Wg es) {m0 : Int} (hv : z.w.cell? ⟨0, 0, none⟩ = some (.int .i64 m0)) {x : Nat} (hx : x < m) (hs : siz st + 1500 ≤ 1000000) {y : Nat} :
    Calls Tryz.prog 81 #[pt t.q, pt b.p, iN .i64 x, .iface 185 (.agg #[iN .i64 y])] w fun e w' => e = .returned (.tuple #[]) ∧ WH z b m (st) L w' := by
  have hm : m ≤ 100000 := by omega
  go_enter Tryz.func81, Tryz.ntmps81
  refine wp_seq (wl_region ?_)
  refine zv (.iface 185 (.agg #[iN .i64 y])) ?_
  refine wl_nil (then_at rfl (wp_block (wp_seq (wl_region ?_))))
  refine zv (.tuple #[.agg #[iN .i64 y], .bool true]) ?_
  refine zv (.bool true) ?_
  refine zv (.agg #[iN .i64 y]) ?_
  refine wl_nil (then_at rfl ?_)
  refine wp_cond_true ky ?_
  refine wl_region ?_
  refine wl_makeW (c := #[iN .i64 0]) H 185 ky ky ?_
  intro q1 w2 (hW3 : WH z b m st ((q1, 185, #[iN .i64 0]) :: L) w2)
  refine wl_fillW (c' := #[iN .i64 y]) hW3 ky ky ky rfl ky ky ?_
  intro w4 (hW5 : WH z b m st ((q1, 185, #[iN .i64 y]) :: L) w4)
  refine wl_nil (block_normal ?_)
  exact bodyPost_end (v := .tuple #[]) ky rfl ⟨rfl, WH.sub hW5 (List.sublist_append_right [(q1, 185, #[iN .i64 y])] L)⟩
set_option maxRecDepth 100000 in
set_option maxHeartbeats 2000000 in
theorem lay_dt {z : Base} {b : Wb} {m : Nat} {st : St} {L : BL} {w : World} (H : WH z b m st L w) (hok : Wok m st) (hm4 : m ≤ 400) {t : Tb} {es : List Ent} (h : TV z.w t es) (hme : m = es.length) (hwf : Wf es) (hwg : Wg es) {m0 : Int} (hv : z.w.cell? ⟨0, 0, none⟩ = some (.int .i64 m0)) {x : Nat} (hx : x < m) (hs : siz st + 1500 ≤ 1000000) {s : ByteArray} (hsz : s.size ≤ 1000000) :
    Calls Tryz.prog 81 #[pt t.q, pt b.p, iN .i64 x, .iface 187 (.agg #[.string s])] w fun e w' => e = .returned (.tuple #[]) ∧ WH z b m (layS es st x (.dt s)) L w' := by
  have hm : m ≤ 100000 := by omega
  go_enter Tryz.func81, Tryz.ntmps81
  refine wp_seq (wl_region ?_)
  refine zv (.iface 187 (.agg #[.string s])) ?_
  refine wl_nil (then_at rfl (wp_block (wp_seq (wl_region ?_))))
  refine zv (.tuple #[.agg #[iN .i64 0], .bool false]) ?_
  refine zv (.bool false) ?_
  refine zv (.agg #[iN .i64 0]) ?_
  refine wl_nil (then_at rfl ?_)
  refine wp_cond_false ky ?_
  refine wp_seq (wl_region ?_)
  refine zv (.tuple #[.agg #[.string s], .bool true]) ?_
  refine zv (.bool true) ?_
  refine zv (.agg #[.string s]) ?_
  refine wl_nil (then_at rfl ?_)
  refine wp_cond_true ky ?_
  refine wp_seq (wl_region ?_)
  refine wl_makeW (c := #[.string ({ data := #[] })]) H 187 ky ky ?_
  intro q1 w2 (hW3 : WH z b m st ((q1, 187, #[.string ({ data := #[] })]) :: L) w2)
  refine wl_fillW (c' := #[.string s]) hW3 ky ky ky rfl ky ky ?_
  intro w4 (hW5 : WH z b m st ((q1, 187, #[.string s]) :: L) w4)
  refine wl_nil (then_at rfl (wp_seq (wl_region ?_)))
  refine zv (.pointer (some ⟨t.q, 0, none⟩)) ?_
  refine zv (.pointer (some ⟨q1, 0, none⟩)) ?_
  refine zu (.string s) (run_load1 (fun w => Tryz.isAgg9 w) ky (((hW5.ha.get 0 rfl).cell 0).trans rfl)) ?_
  refine wl_callx ky enter36 #[.pointer (some ⟨t.q, 0, none⟩), .string s] ky (Within_any (h.keep hW5.ha.old.old) (by omega) (cell_below hW5.ha.old.old hv) s hsz) ?_
  rintro _ w6 ⟨ow, cw, rfl, hri, hbw⟩
  refine ⟨_, rfl, ?_⟩
  obtain ⟨L1, hW1, hRd⟩ := WH.ri hW5 hbw hri
  refine zv (.slice ow (wth es.length s).length cw) ?_
  refine wl_nil (then_at rfl (wp_seq (wl_region ?_)))
  refine zv (.pointer (some ⟨b.p, 0, none⟩)) ?_
  refine zv (iN .i64 x) ?_
  refine zv (.slice ow (wth es.length s).length cw) ?_
  refine wl_callx ky enter119 #[.pointer (some ⟨b.p, 0, none⟩), iN .i64 x, .slice ow (wth es.length s).length cw] ky (rule_any hW1 hok hx hm ((wth es.length s)) _ cw hRd (fun j hj => by rw [hme]; exact wth_lt es.length s _ (by rw [List.getD_eq_getElem?_getD, List.getElem?_eq_getElem hj]; exact List.getElem_mem _)) (by have := wth_len es.length s; omega)) ?_
  rintro _ w8 ⟨rfl, hW7⟩
  refine ⟨_, rfl, ?_⟩
  have hok9 := ruleS_ok hok hx ((wth es.length s))
  have hszhok9 := siz_rule st x ((wth es.length s))
  refine wl_nil (then_at rfl (wp_seq (wl_region ?_)))
  refine zv (.slice ow (wth es.length s).length cw) ?_
  refine zv (iN .i64 ((wth es.length s).length)) ?_
  refine zv (iN .i64 0) ?_
  refine wl_nil (then_at rfl ?_)
  have hwl := wth_len es.length s
  refine wp_block ?_
  refine wp_count (fun i A w' => ∃ u10 : Nat → Value, A = ⟨(pt t.q :: pt b.p :: iN .i64 x :: .iface 187 (.agg #[.string s]) :: un :: un :: un :: un :: un :: pt q1 :: .slice ow (wth es.length s).length cw :: un :: u10 12 :: un :: .iface 187 (.agg #[.string s]) :: .tuple #[.agg #[iN .i64 0], .bool false] :: .bool false :: .agg #[iN .i64 0] :: .tuple #[.agg #[.string s], .bool true] :: .bool true :: .agg #[.string s] :: pt t.q :: pt q1 :: .string s :: .slice ow (wth es.length s).length cw :: pt b.p :: iN .i64 x :: .slice ow (wth es.length s).length cw :: .tuple #[] :: .slice ow (wth es.length s).length cw :: iN .i64 ((wth es.length s).length) :: iN .i64 i :: u10 32 :: u10 33 :: u10 34 :: u10 35 :: u10 36 :: u10 37 :: u10 38 :: u10 39 :: u10 40 :: List.replicate 8 un).toArray, []⟩ ∧ WH z b m (dtS st x (wth es.length s) i) ((L1 ++ ((q1, 187, #[.string s]) :: L))) w') ((wth es.length s).length) ?_ ?_ ?_
  · exact ⟨fun ii => (([(12, undef), (32, undef), (33, undef), (34, undef), (35, undef), (36, undef), (37, undef), (38, undef), (39, undef), (40, undef)] : List (Nat × Value)).find? (·.1 == ii)).elim undef (·.2), by kernel_rfl, hW7⟩
  · rintro i hk _ w11 ⟨u10, rfl, hX⟩
    obtain ⟨qw, c0, rfl, hmw, hcw⟩ := hRd.resolve_left (by intro e; rw [e] at hk; simp at hk)
    obtain ⟨hoki, hszi⟩ := dtS_ok hok hx (wth es.length s) (by rw [hme]; exact wth_lt _ _) i (by omega)
    have hyl : (wth es.length s).getD i 0 < m := by rw [hme]; exact wth_lt es.length s _ (by rw [List.getD_eq_getElem?_getD, List.getElem?_eq_getElem hk]; exact List.getElem_mem _)
    have hwl := wth_len es.length s
    refine wp_seq (wl_region ?_)
    refine zu (.bool true) (run_lss (k := .i64) (a := i) (b := (wth es.length s).length) ky ky true (decide_eq_true (by omega))) ?_
    refine wl_nil (then_at rfl (wp_seq ?_))
    refine wp_cond_true ky ?_
    refine wp_skip (then_at rfl (wp_seq (wp_block (wp_seq (wl_region ?_)))))
    refine zu (.pointer (some ⟨qw, i, none⟩)) (run_addr_slice (q := qw) (n := (wth es.length s).length) (m := cw) (a := i) Tryz.underlying84 (fun w => Tryz.sizeOf3 w) ky ky (by omega)) ?_
    refine zu (iN .i64 ((wth es.length s).getD i 0)) (run_load1 (fun w => Tryz.isAgg3 w) ky (((Rd3.cell hmw hX.ha (fun y hy => hy)).cell i).trans (hcw i hk))) ?_
    refine zv (iN .i64 ((wth es.length s).getD i 0)) ?_
    refine wl_nil (then_at rfl (wl_region ?_))
    refine zv (.pointer (some ⟨b.p, 0, none⟩)) ?_
    refine zv (iN .i64 ((wth es.length s).getD i 0)) ?_
    refine zv (iN .i64 x) ?_
    refine wl_mksW (n := 1) (k := 1) (c := intc [x]) hX 3 ky ky ?_
    intro q12 w13 (hW14 : WH z b m (dtS st x (wth es.length s) i) ((q12, 3, intc [x]) :: (L1 ++ ((q1, 187, #[.string s]) :: L))) w13)
    refine wl_callx ky enter119 #[.pointer (some ⟨b.p, 0, none⟩), iN .i64 ((wth es.length s).getD i 0), .slice (some ⟨q12, 0, none⟩) 1 1] ky (rule_any hW14 hoki hyl hm [x] _ 1 (.inr ⟨q12, intc [x], rfl, .inl (by simp), fun j hj => intc_get _ j hj⟩) (fun j hj => getD_lt (m := m) (by intro y hy; simp only [List.mem_cons, List.not_mem_nil, or_false] at hy; omega) (by omega) j) (by simp only [List.length_cons, List.length_nil]; omega)) ?_
    rintro _ w16 ⟨rfl, hW15⟩
    refine ⟨_, rfl, ?_⟩
    have hok17 := ruleS_ok hoki hyl [x]
    have hszhok17 := siz_rule (dtS st x (wth es.length s) i) ((wth es.length s).getD i 0) [x]
    refine wl_nil (block_normal (then_at rfl (wl_region ?_)))
    refine zu (iN .i64 (i + 1)) (run_add (k := .i64) (a := i) (b := 1) ky ky (by simp only [top]; omega)) ?_
    refine zv (iN .i64 (i + 1)) ?_
    refine wl_nil ?_
    exact then_I ⟨fun ii => (([(12, iN .i64 ((wth es.length s).getD i 0)), (32, .bool true), (33, .pointer (some ⟨qw, i, none⟩)), (34, iN .i64 ((wth es.length s).getD i 0)), (35, .pointer (some ⟨b.p, 0, none⟩)), (36, iN .i64 ((wth es.length s).getD i 0)), (37, iN .i64 x), (38, .slice (some ⟨q12, 0, none⟩) 1 1), (39, .tuple #[]), (40, iN .i64 (i + 1))] : List (Nat × Value)).find? (·.1 == ii)).elim undef (·.2), by kernel_rfl, (by have e := foldl_take_succ (f := fun st y => ruleS st y [x]) (a := ruleS st x (wth es.length s)) (wth es.length s) i hk; unfold dtS; rw [e]; exact WH.sub hW15 (List.sublist_cons_self _ _))⟩
  · rintro _ w18 ⟨u10, rfl, hX⟩
    refine wp_seq (wl_region ?_)
    refine zu (.bool false) (run_lss (k := .i64) (a := (wth es.length s).length) (b := (wth es.length s).length) ky ky false (decide_eq_false (by omega))) ?_
    refine wl_nil (then_at rfl (wp_seq ?_))
    refine wp_cond_false ky ?_
    refine wp_exit ?_
    repeat first | refine then_exit ?_ | refine block_exit ?_ | refine block_exit_ne (by decide) ?_
    refine block_normal ?_
    exact bodyPost_end (v := .tuple #[]) ky rfl ⟨rfl, by unfold layS; have := hX; unfold dtS at this; rw [List.take_length] at this; exact WH.sub this (List.Sublist.trans (List.sublist_cons_self _ _) (List.sublist_append_right L1 _))⟩
theorem made_any {z : Base} {b : Wb} {m : Nat} {st : St} {L : BL} {w : World} (H : WH z b m st L w) (hok : Wok m st) (hm : m ≤ 100000) {t : Tb} {es : List Ent} (h : TV z.w t es) (hme : m = es.length) (hwf : Wf es) (hwg : Wg es) {x i k n : Nat} {s : ByteArray} {ps : List Nat} {pb : Nat} (hx : x < m) (hpb : Blk z.w pb 3 (intc ps)) (he : es[i]? = some (.mk k n s ps pb)) (hs : siz st + 1500 ≤ 1000000) :
    Calls Tryz.prog 120 #[pt t.q, pt b.p, iN .i64 x, mkv k n s pb ps.length] w fun e w' => e = .returned (.tuple #[]) ∧ WH z b m (madeS es st x k n ps) L w' := by
  have hps : ∀ j, j < ps.length → ps.getD j 0 < m := fun j hj => by
    rw [hme]
    refine hwg.lt i k n s ps pb he _ ?_
    rw [List.getD_eq_getElem?_getD, List.getElem?_eq_getElem hj]
    exact List.getElem_mem _
  have hpl := hwf.len i k n s ps pb he
  by_cases h4 : k = 4
  · have hl := hwg.two i n s ps pb (h4 ▸ he)
    by_cases hn : n = 0
    · exact made_dh0 H hok hm h hme hx hpb hps hpl (by omega) h4 hl hn
    · exact made_dh1 H hok hm h hme hx hpb hps hpl (by omega) h4 hl hn
  by_cases h6 : k = 6
  · exact made_enc H hok hm h hme hx hpb hps hpl (by omega) h6 (hwg.four i n s ps pb (h6 ▸ he))
  by_cases h7 : k = 7
  · exact made_sig H hok hm h hme hx hpb hps hpl (by omega) h7 (hwg.sig i n s ps pb (h7 ▸ he))
  exact made_oth H hok hm h hme hx hpb hps hpl (by omega) ⟨h4, h6, h7⟩
set_option maxRecDepth 100000 in
set_option maxHeartbeats 2000000 in
theorem lay_mk {z : Base} {b : Wb} {m : Nat} {st : St} {L : BL} {w : World} (H : WH z b m st L w) (hok : Wok m st) (hm4 : m ≤ 400) {t : Tb} {es : List Ent} (h : TV z.w t es) (hme : m = es.length) (hwf : Wf es) (hwg : Wg es) {m0 : Int} (hv : z.w.cell? ⟨0, 0, none⟩ = some (.int .i64 m0)) {x : Nat} (hx : x < m) (hs : siz st + 1500 ≤ 1000000) {i k n pb : Nat} {s : ByteArray} {ps : List Nat} (hpb : Blk z.w pb 3 (intc ps)) (he : es[i]? = some (.mk k n s ps pb)) :
    Calls Tryz.prog 81 #[pt t.q, pt b.p, iN .i64 x, .iface 190 (.agg #[iN .i64 k, iN .i64 n, .string s, .slice (some ⟨pb, 0, none⟩) ps.length ps.length])] w fun e w' => e = .returned (.tuple #[]) ∧ WH z b m (layS es st x (.mk k n s ps pb)) L w' := by
  have hm : m ≤ 100000 := by omega
  go_enter Tryz.func81, Tryz.ntmps81
  refine wp_seq (wl_region ?_)
  refine zv (.iface 190 (.agg #[iN .i64 k, iN .i64 n, .string s, .slice (some ⟨pb, 0, none⟩) ps.length ps.length])) ?_
  refine wl_nil (then_at rfl (wp_block (wp_seq (wl_region ?_))))
  refine zv (.tuple #[.agg #[iN .i64 0], .bool false]) ?_
  refine zv (.bool false) ?_
  refine zv (.agg #[iN .i64 0]) ?_
  refine wl_nil (then_at rfl ?_)
  refine wp_cond_false ky ?_
  refine wp_seq (wl_region ?_)
  refine zv (.tuple #[.agg #[.string ({ data := #[] })], .bool false]) ?_
  refine zv (.bool false) ?_
  refine zv (.agg #[.string ({ data := #[] })]) ?_
  refine wl_nil (then_at rfl ?_)
  refine wp_cond_false ky ?_
  refine wp_seq (wl_region ?_)
  refine zv (.tuple #[.agg #[iN .i64 k, iN .i64 n, .string s, .slice (some ⟨pb, 0, none⟩) ps.length ps.length], .bool true]) ?_
  refine zv (.bool true) ?_
  refine zv (.agg #[iN .i64 k, iN .i64 n, .string s, .slice (some ⟨pb, 0, none⟩) ps.length ps.length]) ?_
  refine wl_nil (then_at rfl ?_)
  refine wp_cond_true ky ?_
  refine wp_seq (wl_region ?_)
  refine wl_makeW (c := #[iN .i64 0, iN .i64 0, .string ({ data := #[] }), .slice none 0 0]) H 190 ky ky ?_
  intro q1 w2 (hW3 : WH z b m st ((q1, 190, #[iN .i64 0, iN .i64 0, .string ({ data := #[] }), .slice none 0 0]) :: L) w2)
  refine wl_fillW (c' := #[iN .i64 k, iN .i64 n, .string s, .slice (some ⟨pb, 0, none⟩) ps.length ps.length]) hW3 ky ky ky rfl ky ky ?_
  intro w4 (hW5 : WH z b m st ((q1, 190, #[iN .i64 k, iN .i64 n, .string s, .slice (some ⟨pb, 0, none⟩) ps.length ps.length]) :: L) w4)
  refine wl_nil (then_at rfl (wl_region ?_))
  refine zv (.pointer (some ⟨t.q, 0, none⟩)) ?_
  refine zv (.pointer (some ⟨b.p, 0, none⟩)) ?_
  refine zv (iN .i64 x) ?_
  refine wl_load hW5.ha 0 rfl ky ky Tryz.underlying190 rfl ky ?_
  refine wl_callx ky enter120 #[.pointer (some ⟨t.q, 0, none⟩), .pointer (some ⟨b.p, 0, none⟩), iN .i64 x, .agg (#[iN .i64 k, iN .i64 n, .string s, .slice (some ⟨pb, 0, none⟩) ps.length ps.length])] ky (made_any hW5 hok hm h hme hwf hwg hx hpb he hs) ?_
  rintro _ w6 ⟨rfl, hM⟩
  refine ⟨_, rfl, ?_⟩
  refine wl_nil (block_normal ?_)
  exact bodyPost_end (v := .tuple #[]) ky rfl ⟨rfl, WH.sub hM (List.sublist_append_right [(q1, 190, #[iN .i64 k, iN .i64 n, .string s, .slice (some ⟨pb, 0, none⟩) ps.length ps.length])] L)⟩
theorem lay_any {z : Base} {b : Wb} {m : Nat} {st : St} {L : BL} {w : World} (H : WH z b m st L w) (hok : Wok m st) (hm4 : m ≤ 400) {t : Tb} {es : List Ent} (h : TV z.w t es) (hme : m = es.length) (hwf : Wf es) (hwg : Wg es) {m0 : Int} (hv : z.w.cell? ⟨0, 0, none⟩ = some (.int .i64 m0)) {x : Nat} (hx : x < m) (hs : siz st + 1500 ≤ 1000000) {e : Ent} (he : es[x]? = some e) (hd : ∀ s, e = .dt s → s.size ≤ 1000000) :
    Calls Tryz.prog 81 #[pt t.q, pt b.p, iN .i64 x, ev e] w fun r w' => r = .returned (.tuple #[]) ∧ WH z b m (layS es st x e) L w' := by
  cases e with
  | nm y => exact lay_nm H hok hm4 h hme hwf hwg hv hx hs
  | dt s => exact lay_dt H hok hm4 h hme hwf hwg hv hx hs (hd s rfl)
  | mk k n s ps pb => exact lay_mk H hok hm4 h hme hwf hwg hv hx hs (h.pbs _ (pb_mem he)) he
theorem rule_sz {m : Nat} {st : St} (h : Wok m st) {x : Nat} (hx : x < m) (l : List Nat) : Wok m (ruleS st x l) ∧ siz (ruleS st x l) ≤ siz st + l.length + 1 := ⟨ruleS_ok h hx l, siz_rule st x l⟩
theorem lay_ok {m : Nat} {st : St} (hok : Wok m st) {es : List Ent} (hme : m = es.length) (hwf : Wf es) (hwg : Wg es) {x : Nat} (hx : x < m) {e : Ent} (he : es[x]? = some e) : Wok m (layS es st x e) ∧ siz (layS es st x e) ≤ siz st + 3 * m + 200 := by
  cases e with
  | nm y => exact ⟨hok, by show siz st ≤ _; omega⟩
  | dt s =>
    have h1 := dtS_ok hok hx (wth es.length s) (by rw [hme]; exact wth_lt _ _) _ (Nat.le_refl _)
    have h2 := wth_len es.length s
    unfold dtS at h1
    rw [List.take_length] at h1
    exact ⟨h1.1, by have := h1.2; show siz ((wth es.length s).foldl (fun st y => ruleS st y [x]) (ruleS st x (wth es.length s))) ≤ _; omega⟩
  | mk k n s ps pb =>
    have hps : ∀ j, j < ps.length → ps.getD j 0 < m := fun j hj => by
      rw [hme]
      refine hwg.lt x k n s ps pb he _ ?_
      rw [List.getD_eq_getElem?_getD, List.getElem?_eq_getElem hj]
      exact List.getElem_mem _
    have hpl := hwf.len x k n s ps pb he
    obtain ⟨r1, r2⟩ := rule_sz hok hx ps
    show Wok m (madeS es st x k n ps) ∧ siz (madeS es st x k n ps) ≤ _
    unfold madeS
    split
    · split
      · obtain ⟨a1, a2⟩ := half_ok r1 es hx (ps.getD 0 0) (ps.getD 1 0)
        obtain ⟨b1, b2⟩ := half_ok a1 es hx (ps.getD 1 0) (ps.getD 0 0)
        exact ⟨b1, by omega⟩
      · exact ⟨r1, by omega⟩
    · split
      · rename_i h6
        have hl := hwg.four x n s ps pb (h6 ▸ he)
        obtain ⟨a1, a2⟩ := rule_sz r1 (hps 3 (by omega)) [x, ps.getD 0 0]
        exact ⟨a1, by simp only [List.length_cons, List.length_nil] at a2; omega⟩
      · split
        · rename_i h7
          have hl := hwg.sig x n s ps pb (h7 ▸ he)
          obtain ⟨a1, a2⟩ := rule_sz r1 (hps 1 (by omega)) [x]
          exact ⟨a1, by simp only [List.length_cons, List.length_nil] at a2; omega⟩
        · exact ⟨r1, by omega⟩
end Go.Proofs.YtoogiblkommdfaaGreat

namespace Go.Proofs.YtoogiblkommdfaaGreat
open Go.RowKit

theorem info29z : (Tryz.prog.info? 84).map (fun i => (i.zero, i.size, i.bytes)) = some (some (.slice none 0 0), 1, 24) := by kernel_rfl
theorem info4z : (Tryz.prog.info? 4).map (fun i => (i.zero, i.size, i.bytes)) = some (some (.bool false), 1, 1) := by kernel_rfl
theorem made_rep (v : Value) (c : Nat) : madeCells #[v] c = (List.replicate c v).toArray := by
  apply Array.ext
  · simp [size_madeCells]
  · intro i h1 h2
    simp [madeCells, Nat.mod_one]
section
variable {ρ : Operand → Value} {x y : Operand} {w : World} {dst : Option Tmp} {ty : TypeId} {pos : String} {aft : Array Edge} {gd : Option (Nat × Bool)}
theorem run_mk91 {c : Nat} (hx : ρ x = iN .i64 c) (hc : c ≤ 100000) : (execOp ρ ⟨dst, .makeSlice 140 x x, ty, pos, aft, gd⟩).run Tryz.prog w = .ok (.value (.slice (some ⟨w.heap.size, 0, none⟩) c c)) (w.alloc (.cells (List.replicate c (.slice none 0 0)).toArray 84)) := by
  obtain ⟨i, hi, h⟩ := Option.map_eq_some_iff.1 info29z
  simp only [Prod.mk.injEq] at h
  have e := run_makeSlice (P := Tryz.prog) w 140 84 i (.slice none 0 0) Tryz.underlying140 hi h.1 .i64 .i64 (c : Int) (c : Int) (by omega) (by omega) (by rw [h.2.1]; omega) (by rw [h.2.2]; omega) (by omega)
  rw [h.2.1] at e
  simp only [Int.toNat_natCast, Nat.mul_one] at e
  simp only [execOp, hx, iN, Sem.run_bind, e, Result.andThen_ok, Sem.run_pure]
  rw [show (Value.slice none 0 0).cells = #[Value.slice none 0 0] from rfl, made_rep]
theorem run_mk46 {c : Nat} (hx : ρ x = iN .i64 c) (hc : c ≤ 100000) : (execOp ρ ⟨dst, .makeSlice 87 x x, ty, pos, aft, gd⟩).run Tryz.prog w = .ok (.value (.slice (some ⟨w.heap.size, 0, none⟩) c c)) (w.alloc (.cells (boc (List.replicate c false)) 4)) := by
  obtain ⟨i, hi, h⟩ := Option.map_eq_some_iff.1 info4z
  simp only [Prod.mk.injEq] at h
  have e := run_makeSlice (P := Tryz.prog) w 87 4 i (.bool false) Tryz.underlying87 hi h.1 .i64 .i64 (c : Int) (c : Int) (by omega) (by omega) (by rw [h.2.1]; omega) (by rw [h.2.2]; omega) (by omega)
  rw [h.2.1] at e
  simp only [Int.toNat_natCast, Nat.mul_one] at e
  simp only [execOp, hx, iN, Sem.run_bind, e, Result.andThen_ok, Sem.run_pure]
  rw [show (Value.bool false).cells = #[Value.bool false] from rfl, made_rep, boc, List.map_replicate]
end
theorem Blk.type {w : World} {q : Nat} {t t' : TypeId} {c c' : Array Value} (h : Blk w q t c) (h' : Blk w q t' c') : t = t' := by
  obtain ⟨f, hf, _⟩ := h
  obtain ⟨f', hf', _⟩ := h'
  rw [hf] at hf'
  cases hf'
  rfl
def c29 (m : Nat) : Array Value := (List.replicate m (.slice none 0 0)).toArray
def c4 (m : Nat) : Array Value := boc (List.replicate m false)
def c94 (m a k : Nat) : Array Value := #[.slice none 0 0, .slice (some ⟨a, 0, none⟩) m m, .slice (some ⟨k, 0, none⟩) m m, .slice none 0 0]
/-- the three blocks of a web -/
structure SK (w0 : World) (m : Nat) (g : Nat → Nat) (d : Nat → Bool) (w : World) : Prop where
  ha : HA (bs w0) [] w
  k5 : d 5 = true → w0.heap.size ≤ g 5 ∧ Blk w (g 5) 84 (c29 m)
  k11 : d 11 = true → w0.heap.size ≤ g 11 ∧ Blk w (g 11) 4 (c4 m)
  k12 : d 12 = true → d 5 = true ∧ d 11 = true ∧ unp (g 12) = (g 5, g 11)
  k13 : d 13 = true → d 12 = true ∧ w0.heap.size ≤ g 13 ∧ Blk w (g 13) 148 (c94 m (unp (g 12)).1 (unp (g 12)).2)
  k14 : d 14 = true → d 13 = true ∧ g 14 = g 13
theorem SK.read {w0 : World} {m : Nat} {g : Nat → Nat} {d : Nat → Bool} {w : World} (h : SK w0 m g d w) {i : Nat} (h5 : i ≠ 5) (h11 : i ≠ 11) (h12 : i ≠ 12) (h13 : i ≠ 13) (h14 : i ≠ 14) : SK w0 m g (up d i true) w := by
  refine ⟨h.ha, ?_, ?_, ?_, ?_, ?_⟩ <;> simp only [up_ne d true (Ne.symm h5), up_ne d true (Ne.symm h11), up_ne d true (Ne.symm h12), up_ne d true (Ne.symm h13), up_ne d true (Ne.symm h14)]
  · exact h.k5
  · exact h.k11
  · exact h.k12
  · exact h.k13
  · exact h.k14
theorem SK.at5 {w0 : World} {m : Nat} {g : Nat → Nat} {d : Nat → Bool} {w : World} (h : SK w0 m g d w) (hd : d 5 = false) : SK w0 m (up g 5 w.heap.size) (up d 5 true) (w.alloc (.cells (c29 m) 84)) := by
  have n12 : d 12 = false := by cases hh : d 12 with | false => rfl | true => have := (h.k12 hh).1; rw [hd] at this; cases this
  have n13 : d 13 = false := by cases hh : d 13 with | false => rfl | true => have := (h.k13 hh).1; rw [n12] at this; cases this
  have n14 : d 14 = false := by cases hh : d 14 with | false => rfl | true => have := (h.k14 hh).1; rw [n13] at this; cases this
  refine ⟨(h.ha.make 84 (c29 m)).tl, fun _ => by rw [up_at]; exact ⟨h.ha.size, Blk.new w 84 (c29 m)⟩, fun e => ?_, fun e => ?_, fun e => ?_, fun e => ?_⟩
  · rw [up_ne _ _ (by decide)] at e ⊢
    exact ⟨(h.k11 e).1, (h.k11 e).2.alloc _⟩
  · rw [up_ne _ _ (by decide), n12] at e; cases e
  · rw [up_ne _ _ (by decide), n13] at e; cases e
  · rw [up_ne _ _ (by decide), n14] at e; cases e
theorem SK.at11 {w0 : World} {m : Nat} {g : Nat → Nat} {d : Nat → Bool} {w : World} (h : SK w0 m g d w) (hd : d 11 = false) : SK w0 m (up g 11 w.heap.size) (up d 11 true) (w.alloc (.cells (c4 m) 4)) := by
  have n12 : d 12 = false := by cases hh : d 12 with | false => rfl | true => have := (h.k12 hh).2.1; rw [hd] at this; cases this
  have n13 : d 13 = false := by cases hh : d 13 with | false => rfl | true => have := (h.k13 hh).1; rw [n12] at this; cases this
  have n14 : d 14 = false := by cases hh : d 14 with | false => rfl | true => have := (h.k14 hh).1; rw [n13] at this; cases this
  refine ⟨(h.ha.make 4 (c4 m)).tl, fun e => ?_, fun _ => by rw [up_at]; exact ⟨h.ha.size, Blk.new w 4 (c4 m)⟩, fun e => ?_, fun e => ?_, fun e => ?_⟩
  · rw [up_ne _ _ (by decide)] at e ⊢
    exact ⟨(h.k5 e).1, (h.k5 e).2.alloc _⟩
  · rw [up_ne _ _ (by decide), n12] at e; cases e
  · rw [up_ne _ _ (by decide), n13] at e; cases e
  · rw [up_ne _ _ (by decide), n14] at e; cases e
theorem SK.at12 {w0 : World} {m : Nat} {g : Nat → Nat} {d : Nat → Bool} {w : World} (h : SK w0 m g d w) (hd : d 12 = false) (h5 : d 5 = true) (h11 : d 11 = true) {n : Nat} (hn : unp n = (g 5, g 11)) : SK w0 m (up g 12 n) (up d 12 true) w := by
  have n13 : d 13 = false := by cases hh : d 13 with | false => rfl | true => have := (h.k13 hh).1; rw [hd] at this; cases this
  have n14 : d 14 = false := by cases hh : d 14 with | false => rfl | true => have := (h.k14 hh).1; rw [n13] at this; cases this
  refine ⟨h.ha, fun e => ?_, fun e => ?_, fun _ => ?_, fun e => ?_, fun e => ?_⟩
  · rw [up_ne _ _ (by decide)] at e ⊢; exact h.k5 e
  · rw [up_ne _ _ (by decide)] at e ⊢; exact h.k11 e
  · rw [up_ne _ _ (by decide), up_ne _ _ (by decide), up_at, up_ne _ _ (by decide), up_ne _ _ (by decide)]; exact ⟨h5, h11, hn⟩
  · rw [up_ne _ _ (by decide), n13] at e; cases e
  · rw [up_ne _ _ (by decide), n14] at e; cases e
theorem SK.at13 {w0 : World} {m : Nat} {g : Nat → Nat} {d : Nat → Bool} {w : World} (h : SK w0 m g d w) (hd : d 13 = false) (h12 : d 12 = true) : SK w0 m (up g 13 w.heap.size) (up d 13 true) (w.alloc (.cells (c94 m (unp (g 12)).1 (unp (g 12)).2) 148)) := by
  have n14 : d 14 = false := by cases hh : d 14 with | false => rfl | true => have := (h.k14 hh).1; rw [hd] at this; cases this
  refine ⟨(h.ha.make 148 _).tl, fun e => ?_, fun e => ?_, fun e => ?_, fun _ => ?_, fun e => ?_⟩
  · rw [up_ne _ _ (by decide)] at e ⊢; exact ⟨(h.k5 e).1, (h.k5 e).2.alloc _⟩
  · rw [up_ne _ _ (by decide)] at e ⊢; exact ⟨(h.k11 e).1, (h.k11 e).2.alloc _⟩
  · simp only [up_ne d true (show (12 : Nat) ≠ 13 by decide), up_ne d true (show (5 : Nat) ≠ 13 by decide), up_ne d true (show (11 : Nat) ≠ 13 by decide), up_ne g w.heap.size (show (12 : Nat) ≠ 13 by decide), up_ne g w.heap.size (show (5 : Nat) ≠ 13 by decide), up_ne g w.heap.size (show (11 : Nat) ≠ 13 by decide)] at e ⊢
    exact h.k12 e
  · rw [up_ne _ _ (by decide), up_at, up_ne _ _ (by decide)]; exact ⟨h12, h.ha.size, Blk.new w 148 _⟩
  · rw [up_ne _ _ (by decide), n14] at e; cases e
theorem SK.at14 {w0 : World} {m : Nat} {g : Nat → Nat} {d : Nat → Bool} {w : World} (h : SK w0 m g d w) (h13 : d 13 = true) : SK w0 m (up g 14 (g 13)) (up d 14 true) w := by
  refine ⟨h.ha, ?_, ?_, ?_, ?_, fun _ => ?_⟩
  · rw [up_ne d true (show (5 : Nat) ≠ 14 by decide), up_ne g (g 13) (show (5 : Nat) ≠ 14 by decide)]; exact h.k5
  · rw [up_ne d true (show (11 : Nat) ≠ 14 by decide), up_ne g (g 13) (show (11 : Nat) ≠ 14 by decide)]; exact h.k11
  · simp only [up_ne d true (show (12 : Nat) ≠ 14 by decide), up_ne d true (show (5 : Nat) ≠ 14 by decide), up_ne d true (show (11 : Nat) ≠ 14 by decide), up_ne g (g 13) (show (12 : Nat) ≠ 14 by decide), up_ne g (g 13) (show (5 : Nat) ≠ 14 by decide), up_ne g (g 13) (show (11 : Nat) ≠ 14 by decide)]
    exact h.k12
  · simp only [up_ne d true (show (13 : Nat) ≠ 14 by decide), up_ne d true (show (12 : Nat) ≠ 14 by decide), up_ne g (g 13) (show (13 : Nat) ≠ 14 by decide), up_ne g (g 13) (show (12 : Nat) ≠ 14 by decide)]
    exact h.k13
  · rw [up_ne _ _ (by decide), up_at, up_ne _ _ (by decide)]; exact ⟨h13, rfl⟩
theorem getD_memN {l : List Nat} {i : Nat} (h : i < l.length) : l.getD i 0 ∈ l := by
  rw [List.getD_eq_getElem?_getD, List.getElem?_eq_getElem h]
  exact List.getElem_mem _
def st00 (m : Nat) : St := ⟨[], List.replicate m [], List.replicate m false, []⟩
theorem SK.done {w0 : World} {m : Nat} {g : Nat → Nat} {w : World} (h : SK w0 m g (fun _ => true) w) : WH (bs w0) ⟨g 14, g 5, g 11⟩ m (st00 m) [] w := by
  obtain ⟨a1, a2⟩ := h.k5 rfl
  obtain ⟨b1, b2⟩ := h.k11 rfl
  obtain ⟨_, _, c1⟩ := h.k12 rfl
  obtain ⟨_, d1, d2⟩ := h.k13 rfl
  obtain ⟨_, e1⟩ := h.k14 rfl
  rw [c1] at d2
  refine ⟨.slice none 0 0, .slice none 0 0, List.replicate m (.slice none 0 0), [], [], [], Row.nil 193 2, Row.nil 3 1, NRows.nils m, ?_⟩
  show HA (bs w0) ((g 14, 148, c94 m (g 5) (g 11)) :: (g 5, 84, c29 m) :: (g 11, 4, c4 m) :: []) w
  rw [e1]
  refine ((h.ha.consNew b2 b1 (by simp)).consNew a2 a1 ?_).consNew d2 d1 ?_
  · intro x hx e
    rw [List.mem_singleton] at hx
    subst hx
    have e' : g 11 = g 5 := e
    have := a2.type (e' ▸ b2)
    cases this
  · intro x hx e
    rcases List.mem_cons.1 hx with rfl | hx
    · have e' : g 5 = g 13 := e
      have := d2.type (e' ▸ a2)
      cases this
    · rw [List.mem_singleton] at hx
      subst hx
      have e' : g 11 = g 13 := e
      have := d2.type (e' ▸ b2)
      cases this
theorem lef_rep : ∀ m, lef (List.replicate m false) = m
  | 0 => rfl
  | m + 1 => by rw [List.replicate_succ, lef, lef_rep m]
theorem st00_ok (m : Nat) : Wok m (st00 m) := ⟨by simp [st00], by simp [st00], by simp [st00], by simp [st00], by simp [st00], by simp [st00, lef_rep]⟩
theorem st00_siz (m : Nat) : siz (st00 m) = 0 := by simp [siz, st00, tot]
/-- the rules of the first terms -/
def layK (es : List Ent) : Nat → St
  | 0 => st00 es.length
  | i + 1 => match es[i]? with | some e => layS es (layK es i) i e | none => layK es i
theorem layK_ok {es : List Ent} (hwf : Wf es) (hwg : Wg es) : ∀ i, i ≤ es.length → Wok es.length (layK es i) ∧ siz (layK es i) ≤ i * (3 * es.length + 200)
  | 0, _ => ⟨st00_ok _, by show siz (st00 es.length) ≤ _; rw [st00_siz]; omega⟩
  | i + 1, hi => by
    obtain ⟨h1, h2⟩ := layK_ok hwf hwg i (by omega)
    have he : es[i]? = some (es[i]'(by omega)) := List.getElem?_eq_getElem (by omega)
    have e : layK es (i + 1) = layS es (layK es i) i (es[i]'(by omega)) := by rw [layK, he]
    rw [e]
    obtain ⟨a1, a2⟩ := lay_ok h1 rfl hwf hwg (x := i) (by omega) he
    refine ⟨a1, ?_⟩
    rw [Nat.add_mul, Nat.one_mul]
    omega
/-- what texts tell -/
def seenK (es : List Ent) (st : St) (ss : List ByteArray) (i : Nat) : St := (ss.take i).foldl (fun st s => (wth es.length s).foldl learnS st) st
def knownF (es : List Ent) (ss : List ByteArray) : List Bool := (spreadS (seenK es (layK es es.length) ss ss.length)).known
theorem learns_ok {m : Nat} (l : List Nat) (hl : ∀ y ∈ l, y < m) : ∀ (i : Nat) (st : St), Wok m st → Wok m ((l.take i).foldl learnS st) := by
  intro i st h
  have key : ∀ (l : List Nat) (st : St), (∀ y ∈ l, y < m) → Wok m st → Wok m (l.foldl learnS st) := by
    intro l
    induction l with
    | nil => exact fun st _ h => h
    | cons y l ih => exact fun st hl h => ih _ (fun z hz => hl z (List.mem_cons_of_mem _ hz)) (learnS_ok h (hl y (List.mem_cons_self ..)))
  exact key _ _ (fun y hy => hl y (List.mem_of_mem_take hy)) h
theorem seenK_ok {es : List Ent} {st : St} (h : Wok es.length st) (ss : List ByteArray) (i : Nat) : Wok es.length (seenK es st ss i) := by
  unfold seenK
  generalize ss.take i = l
  induction l generalizing st with
  | nil => exact h
  | cons s l ih =>
    refine ih ?_
    have := learns_ok (wth es.length s) (wth_lt _ _) (wth es.length s).length st h
    rwa [List.take_length] at this
theorem seenK_step (es : List Ent) (st : St) (ss : List ByteArray) (i : Nat) (h : i < ss.length) : seenK es st ss (i + 1) = (wth es.length (ss.getD i ByteArray.empty)).foldl learnS (seenK es st ss i) := by
  unfold seenK
  rw [List.take_succ_eq_append_getElem h, List.foldl_append, List.getD_eq_getElem?_getD, List.getElem?_eq_getElem h]
  rfl
theorem OpGhost.pairs {ops : Array Oper} {Q : Exit → Act → World → Prop} {F : (Nat → Nat) → Act} {S : (Nat → Nat) → (Nat → Bool) → World → Prop} {i : Nat} {o : Oper} (hw : ∀ g, Region.wanted o (yielded ops (F g).tmps) = true) (v : (Nat → Nat) → Value) (v' : Nat → Value) (hr : ∀ g w, (execOp (F g).eval o).run Tryz.prog w = .ok (.value (v g)) w) (hp : ∀ g n, (F g).put o.dst (v' n) = F (up g i n))
    (hv : ∀ g n, unp n = (g 5, g 11) → v' n = v g)
    (h : ∀ g d w, S g d w → d i = false → (∀ e ∈ o.after, Region.binds .any e = true → d e.on = true) → ∀ n, unp n = (g 5, g 11) → S (up g i n) (up d i true) w) : OpGhost Tryz.prog .any ops Q S F i o := fun g d w hS hi hd => by
  rw [if_pos (hw g)]
  unfold Oper.wp
  rw [hr g w]
  obtain ⟨n, hn⟩ := unp_all (g 5 + g 11) (g 5) (g 11) rfl
  exact ⟨n, by rw [← hv g n hn]; exact hp g n, h g d w hS hi hd n hn⟩
set_option maxRecDepth 100000 in
set_option maxHeartbeats 2000000 in
theorem Known_any {w : World} {t : Tb} {es : List Ent} (h : TV w t es) (hwf : Wf es) (hwg : Wg es) (hm : es.length ≤ 400) (hd : ∀ (i : Nat) (s : ByteArray), es[i]? = some (Ent.dt s) → s.size ≤ 1000000) {m0 : Int} (hv : w.cell? ⟨0, 0, none⟩ = some (.int .i64 m0)) (ss : List ByteArray) (o : Option Addr) (cs : Nat) (hp : ss = [] ∨ ∃ pq cq, o = some ⟨pq, 0, none⟩ ∧ PreS cq ss ∧ Blk w pq 9 cq) (hss : ∀ i, (ss.getD i ByteArray.empty).size ≤ 1000000) (hsl : ss.length ≤ 1000000) :
    Calls Tryz.prog 37 #[pt t.q, .slice o ss.length cs] w fun e w' => ∃ kb, e = .returned (.slice (some ⟨kb, 0, none⟩) es.length es.length) ∧ w.heap.size ≤ kb ∧ Blk w' kb 4 (boc (knownF es ss)) ∧ Below w.heap.size w w' := by
  obtain ⟨v, hq, hrow⟩ := h.row
  obtain ⟨p, c, rfl⟩ : ∃ p c, v = .slice p es.length c := by
    rcases hrow with ⟨e1, h2⟩ | ⟨g, cap, cur, h2, _⟩
    · exact ⟨none, 0, by rw [h2, e1]; rfl⟩
    · exact ⟨_, _, h2⟩
  have H0 := HA.start w
  go_enter Tryz.func37, Tryz.ntmps37
  refine wp_seq (wl_region ?_)
  refine zv (.slice none 0 0) ?_
  refine wl_nil (then_at rfl (wp_seq (wp_seq (wl_region ?_))))
  refine zv (.pointer (some ⟨t.q, 0, none⟩)) ?_
  refine wl_call (v := .bool false) H0 ky enter80 #[.pointer (some ⟨t.q, 0, none⟩)] ky (none_no (hq.keep H0.old.old)) ?_
  intro w1 h2
  refine wl_nil (then_at rfl ?_)
  refine wp_cond_false ky ?_
  refine wp_skip (then_at rfl (wp_seq ?_))
  refine wp_region_ghost (fun g : Nat → Nat => (⟨(pt t.q :: .slice o ss.length cs :: un :: un :: .slice none 0 0 :: pt (g 14) :: un :: un :: un :: un :: un :: un :: pt t.q :: .bool false :: pt t.q :: pt t.q :: pt t.q :: .slice p es.length c :: iN .i64 es.length :: .slice (some ⟨g 5, 0, none⟩) es.length es.length :: pt t.q :: pt t.q :: pt t.q :: .slice p es.length c :: iN .i64 es.length :: .slice (some ⟨g 11, 0, none⟩) es.length es.length :: .agg #[.slice none 0 0, .slice (some ⟨(unp (g 12)).1, 0, none⟩) es.length es.length, .slice (some ⟨(unp (g 12)).2, 0, none⟩) es.length es.length, .slice none 0 0] :: pt (g 13) :: List.replicate 41 un).toArray, []⟩ : Act)) (SK w es.length) [.pointer (some ⟨t.q, 0, none⟩), .pointer (some ⟨t.q, 0, none⟩), .pointer (some ⟨t.q, 0, none⟩), .slice p es.length c, iN .i64 es.length, .slice (some ⟨0, 0, none⟩) es.length es.length, .pointer (some ⟨t.q, 0, none⟩), .pointer (some ⟨t.q, 0, none⟩), .pointer (some ⟨t.q, 0, none⟩), .slice p es.length c, iN .i64 es.length, .slice (some ⟨0, 0, none⟩) es.length es.length, .agg #[.slice none 0 0, .slice (some ⟨(unp 0).1, 0, none⟩) es.length es.length, .slice (some ⟨(unp 0).2, 0, none⟩) es.length es.length, .slice none 0 0], .pointer (some ⟨0, 0, none⟩), .pointer (some ⟨0, 0, none⟩)] ky ky ky ky (fun _ _ _ _ h => h) (fun d hd => ⟨h2.drew, fun hz => (by rw [hd 5 (by decide)] at hz; cases hz), fun hz => (by rw [hd 11 (by decide)] at hz; cases hz), fun hz => (by rw [hd 12 (by decide)] at hz; cases hz), fun hz => (by rw [hd 13 (by decide)] at hz; cases hz), fun hz => (by rw [hd 14 (by decide)] at hz; cases hz)⟩) ?_ ?_
  · refine AllGhost.cons (OpGhost.take (v := fun _ => .pointer (some ⟨t.q, 0, none⟩)) (fun _ => by kernel_rfl) (fun _ => by kernel_rfl) (fun g d w' h' _ => ⟨ky, h'.read (by decide) (by decide) (by decide) (by decide) (by decide)⟩)) ?_
    refine AllGhost.cons (OpGhost.take (v := fun _ => .pointer (some ⟨t.q, 0, none⟩)) (fun _ => by kernel_rfl) (fun _ => by kernel_rfl) (fun g d w' h' _ => ⟨ky, h'.read (by decide) (by decide) (by decide) (by decide) (by decide)⟩)) ?_
    refine AllGhost.cons (OpGhost.take (v := fun _ => .pointer (some ⟨t.q, 0, none⟩)) (fun _ => by kernel_rfl) (fun _ => by kernel_rfl) (fun g d w' h' _ => ⟨ky, h'.read (by decide) (by decide) (by decide) (by decide) (by decide)⟩)) ?_
    refine AllGhost.cons (OpGhost.take (v := fun _ => .slice p es.length c) (fun _ => by kernel_rfl) (fun _ => by kernel_rfl) (fun g d w' h' _ => ⟨run_load1 (fun w => Tryz.isAgg141 w) ky (((hq.keep h'.ha.old.old).cell 0).trans rfl), h'.read (by decide) (by decide) (by decide) (by decide) (by decide)⟩)) ?_
    refine AllGhost.cons (OpGhost.take (v := fun _ => iN .i64 es.length) (fun _ => by kernel_rfl) (fun _ => by kernel_rfl) (fun g d w' h' _ => ⟨ky, h'.read (by decide) (by decide) (by decide) (by decide) (by decide)⟩)) ?_
    refine AllGhost.cons (OpGhost.act (v := fun _ w => .slice (some ⟨w.heap.size, 0, none⟩) es.length es.length) (n := fun _ w => w.heap.size) (W := fun _ w => w.alloc (.cells (c29 es.length) 84)) (fun _ => by kernel_rfl) (fun _ _ => by kernel_rfl) (fun g d w' h' hd _ => ⟨run_mk91 ky (by omega), h'.at5 hd⟩)) ?_
    refine AllGhost.cons (OpGhost.take (v := fun _ => .pointer (some ⟨t.q, 0, none⟩)) (fun _ => by kernel_rfl) (fun _ => by kernel_rfl) (fun g d w' h' _ => ⟨ky, h'.read (by decide) (by decide) (by decide) (by decide) (by decide)⟩)) ?_
    refine AllGhost.cons (OpGhost.take (v := fun _ => .pointer (some ⟨t.q, 0, none⟩)) (fun _ => by kernel_rfl) (fun _ => by kernel_rfl) (fun g d w' h' _ => ⟨ky, h'.read (by decide) (by decide) (by decide) (by decide) (by decide)⟩)) ?_
    refine AllGhost.cons (OpGhost.take (v := fun _ => .pointer (some ⟨t.q, 0, none⟩)) (fun _ => by kernel_rfl) (fun _ => by kernel_rfl) (fun g d w' h' _ => ⟨ky, h'.read (by decide) (by decide) (by decide) (by decide) (by decide)⟩)) ?_
    refine AllGhost.cons (OpGhost.take (v := fun _ => .slice p es.length c) (fun _ => by kernel_rfl) (fun _ => by kernel_rfl) (fun g d w' h' _ => ⟨run_load1 (fun w => Tryz.isAgg141 w) ky (((hq.keep h'.ha.old.old).cell 0).trans rfl), h'.read (by decide) (by decide) (by decide) (by decide) (by decide)⟩)) ?_
    refine AllGhost.cons (OpGhost.take (v := fun _ => iN .i64 es.length) (fun _ => by kernel_rfl) (fun _ => by kernel_rfl) (fun g d w' h' _ => ⟨ky, h'.read (by decide) (by decide) (by decide) (by decide) (by decide)⟩)) ?_
    refine AllGhost.cons (OpGhost.act (v := fun _ w => .slice (some ⟨w.heap.size, 0, none⟩) es.length es.length) (n := fun _ w => w.heap.size) (W := fun _ w => w.alloc (.cells (c4 es.length) 4)) (fun _ => by kernel_rfl) (fun _ _ => by kernel_rfl) (fun g d w' h' hd _ => ⟨run_mk46 ky (by omega), h'.at11 hd⟩)) ?_
    refine AllGhost.cons (OpGhost.pairs (fun _ => by kernel_rfl) (fun g => .agg #[.slice none 0 0, .slice (some ⟨g 5, 0, none⟩) es.length es.length, .slice (some ⟨g 11, 0, none⟩) es.length es.length, .slice none 0 0]) (fun n => .agg #[.slice none 0 0, .slice (some ⟨(unp n).1, 0, none⟩) es.length es.length, .slice (some ⟨(unp n).2, 0, none⟩) es.length es.length, .slice none 0 0]) (fun _ _ => by kernel_rfl) (fun _ _ => by kernel_rfl) (fun _ _ h => by simp only [h]) (fun g d w' h' hd ha n hn => h'.at12 hd (ahead_ok (l := [5, 11]) ky ha 5 (by decide)) (ahead_ok (l := [5, 11]) ky ha 11 (by decide)) hn)) ?_
    refine AllGhost.cons (OpGhost.act (v := fun _ w => .pointer (some ⟨w.heap.size, 0, none⟩)) (n := fun _ w => w.heap.size) (W := fun g w => w.alloc (.cells (c94 es.length (unp (g 12)).1 (unp (g 12)).2) 148)) (fun _ => by kernel_rfl) (fun _ _ => by kernel_rfl) (fun g d w' h' hd ha => ⟨by kernel_rfl, h'.at13 hd (ahead_ok (l := [12]) ky ha 12 (by decide))⟩)) ?_
    refine AllGhost.cons (OpGhost.act (v := fun g _ => .pointer (some ⟨g 13, 0, none⟩)) (n := fun g _ => g 13) (W := fun _ w => w) (fun _ => by kernel_rfl) (fun _ _ => by kernel_rfl) (fun g d w' h' hd ha => ⟨by kernel_rfl, h'.at14 (ahead_ok (l := [13]) ky ha 13 (by decide))⟩)) ?_
    exact AllGhost.nil
  intro g w3 hg0
  have hW0 := hg0.done
  clear hg0
  obtain ⟨b, hbq⟩ : ∃ b : Wb, b = ⟨g 14, g 5, g 11⟩ := ⟨_, rfl⟩
  rw [← hbq] at hW0
  have e5 : g 14 = b.p := by rw [hbq]
  refine then_at rfl (wp_seq (wp_seq ?_))
  rw [e5]
  refine wl_region ?_
  refine zv (.pointer (some ⟨t.q, 0, none⟩)) ?_
  refine zv (.pointer (some ⟨t.q, 0, none⟩)) ?_
  refine zv (.pointer (some ⟨t.q, 0, none⟩)) ?_
  refine zu (.slice p es.length c) (run_load1 (fun w => Tryz.isAgg141 w) ky (((hq.keep hW0.ha.old.old).cell 0).trans rfl)) ?_
  refine zv (iN .i64 es.length) ?_
  refine zv (iN .i64 0) ?_
  refine wl_nil (then_at rfl (wp_block ?_))
  refine wp_count (fun i A w' => ∃ u4 : Nat → Value, A = ⟨(pt t.q :: .slice o ss.length cs :: un :: un :: .slice none 0 0 :: pt b.p :: u4 6 :: u4 7 :: un :: un :: un :: un :: pt t.q :: .bool false :: pt t.q :: pt t.q :: pt t.q :: .slice p es.length c :: iN .i64 es.length :: .slice (some ⟨g 5, 0, none⟩) es.length es.length :: pt t.q :: pt t.q :: pt t.q :: .slice p es.length c :: iN .i64 es.length :: .slice (some ⟨g 11, 0, none⟩) es.length es.length :: .agg #[.slice none 0 0, .slice (some ⟨(unp (g 12)).1, 0, none⟩) es.length es.length, .slice (some ⟨(unp (g 12)).2, 0, none⟩) es.length es.length, .slice none 0 0] :: pt (g 13) :: pt t.q :: pt t.q :: pt t.q :: .slice p es.length c :: iN .i64 es.length :: iN .i64 i :: u4 34 :: u4 35 :: u4 36 :: u4 37 :: u4 38 :: u4 39 :: u4 40 :: u4 41 :: u4 42 :: u4 43 :: List.replicate 25 un).toArray, []⟩ ∧ WH (bs w) b es.length (layK es i) [] w') es.length ?_ ?_ ?_
  · exact ⟨fun ii => (([(6, undef), (7, undef), (34, undef), (35, undef), (36, undef), (37, undef), (38, undef), (39, undef), (40, undef), (41, undef), (42, undef), (43, undef)] : List (Nat × Value)).find? (·.1 == ii)).elim undef (·.2), by kernel_rfl, hW0⟩
  · rintro i hk _ w5 ⟨u4, rfl, hW⟩
    obtain ⟨gt, capt, curt, hvt, hgt, hct⟩ : ∃ g cap cur, Value.slice p es.length c = .slice (some ⟨g, 0, none⟩) es.length cap ∧ Blk w g 150 cur ∧ cur.toList.take es.length = es.map ev := hrow.resolve_left (by intro e; rw [e.1] at hk; simp at hk)
    cases hvt
    have hei : es[i]? = some (es[i]'hk) := List.getElem?_eq_getElem hk
    obtain ⟨en, hen⟩ : ∃ e, e = es[i]'hk := ⟨_, rfl⟩
    rw [← hen] at hei
    obtain ⟨hoki, hszi⟩ := layK_ok hwf hwg i (by omega)
    have hmul : i * (3 * es.length + 200) ≤ 400 * 1400 := Nat.mul_le_mul (by omega) (by omega)
    refine wp_seq (wl_region ?_)
    refine zu (.bool true) (run_lss (k := .i64) (a := i) (b := es.length) ky ky true (decide_eq_true (by omega))) ?_
    refine wl_nil (then_at rfl (wp_seq ?_))
    refine wp_cond_true ky ?_
    refine wp_skip (then_at rfl (wp_seq (wp_block (wp_seq (wl_region ?_)))))
    refine zv (iN .i64 i) ?_
    refine zu (.pointer (some ⟨gt, i, none⟩)) (run_addr_slice (q := gt) (n := es.length) (m := c) (a := i) Tryz.underlying141 (fun w => Tryz.sizeOf150 w) ky ky (by omega)) ?_
    refine zu (ev en) (run_load1 (fun w => Tryz.isAgg150 w) ky (((hgt.keep hW.ha.old.old).cell i).trans (row_get hct hei))) ?_
    refine zv (iN .i64 i) ?_
    refine zv (ev en) ?_
    refine wl_nil (then_at rfl (wl_region ?_))
    refine zv (.pointer (some ⟨t.q, 0, none⟩)) ?_
    refine zv (.pointer (some ⟨b.p, 0, none⟩)) ?_
    refine zv (iN .i64 i) ?_
    refine zv (ev en) ?_
    refine wl_callx ky enter81 #[.pointer (some ⟨t.q, 0, none⟩), .pointer (some ⟨b.p, 0, none⟩), iN .i64 i, ev en] ky (lay_any (z := bs w) (t := t) (es := es) (b := b) hW hoki (by omega) h rfl hwf hwg hv hk (by omega) hei (fun s hs => hd i s (by rw [← hs]; exact hei))) ?_
    rintro _ w6 ⟨rfl, hW2⟩
    refine ⟨_, rfl, ?_⟩
    refine wl_nil (block_normal (then_at rfl (wl_region ?_)))
    refine zu (iN .i64 (i + 1)) (run_add (k := .i64) (a := i) (b := 1) ky ky (by simp only [top]; omega)) ?_
    refine zv (iN .i64 (i + 1)) ?_
    refine wl_nil ?_
    exact then_I ⟨fun ii => (([(6, iN .i64 i), (7, ev en), (34, .bool true), (35, iN .i64 i), (36, .pointer (some ⟨gt, i, none⟩)), (37, ev en), (38, .pointer (some ⟨t.q, 0, none⟩)), (39, .pointer (some ⟨b.p, 0, none⟩)), (40, iN .i64 i), (41, ev en), (42, .tuple #[]), (43, iN .i64 (i + 1))] : List (Nat × Value)).find? (·.1 == ii)).elim undef (·.2), by kernel_rfl, (by rw [layK, hei]; exact hW2)⟩
  · rintro _ w7 ⟨u4, rfl, hW⟩
    refine wp_seq (wl_region ?_)
    refine zu (.bool false) (run_lss (k := .i64) (a := es.length) (b := es.length) ky ky false (decide_eq_false (by omega))) ?_
    refine wl_nil (then_at rfl (wp_seq ?_))
    refine wp_cond_false ky ?_
    refine wp_exit ?_
    repeat first | refine then_exit ?_ | refine block_exit ?_ | refine block_exit_ne (by decide) ?_
    refine then_at rfl (wp_seq (wp_seq (wl_region ?_)))
    refine zv (.slice o ss.length cs) ?_
    refine zv (iN .i64 ss.length) ?_
    refine zv (iN .i64 0) ?_
    refine wl_nil (then_at rfl (wp_block ?_))
    refine wp_count (fun j A w' => ∃ u8 : Nat → Value, A = ⟨(pt t.q :: .slice o ss.length cs :: un :: un :: .slice none 0 0 :: pt b.p :: u4 6 :: u4 7 :: un :: u8 9 :: un :: u8 11 :: pt t.q :: .bool false :: pt t.q :: pt t.q :: pt t.q :: .slice p es.length c :: iN .i64 es.length :: .slice (some ⟨g 5, 0, none⟩) es.length es.length :: pt t.q :: pt t.q :: pt t.q :: .slice p es.length c :: iN .i64 es.length :: .slice (some ⟨g 11, 0, none⟩) es.length es.length :: .agg #[.slice none 0 0, .slice (some ⟨(unp (g 12)).1, 0, none⟩) es.length es.length, .slice (some ⟨(unp (g 12)).2, 0, none⟩) es.length es.length, .slice none 0 0] :: pt (g 13) :: pt t.q :: pt t.q :: pt t.q :: .slice p es.length c :: iN .i64 es.length :: iN .i64 es.length :: .bool false :: u4 35 :: u4 36 :: u4 37 :: u4 38 :: u4 39 :: u4 40 :: u4 41 :: u4 42 :: u4 43 :: .slice o ss.length cs :: iN .i64 ss.length :: iN .i64 j :: u8 47 :: u8 48 :: u8 49 :: u8 50 :: u8 51 :: u8 52 :: u8 53 :: u8 54 :: u8 55 :: u8 56 :: u8 57 :: u8 58 :: u8 59 :: u8 60 :: u8 61 :: u8 62 :: List.replicate 6 un).toArray, []⟩ ∧ WH (bs w) b es.length (seenK es (layK es es.length) ss j) [] w') ss.length ?_ ?_ ?_
    · exact ⟨fun ii => (([(9, undef), (11, undef), (47, undef), (48, undef), (49, undef), (50, undef), (51, undef), (52, undef), (53, undef), (54, undef), (55, undef), (56, undef), (57, undef), (58, undef), (59, undef), (60, undef), (61, undef), (62, undef)] : List (Nat × Value)).find? (·.1 == ii)).elim undef (·.2), by kernel_rfl, (by exact hW)⟩
    · rintro j hj _ w9 ⟨u8, rfl, hV⟩
      obtain ⟨pq, cq, rfl, hps, hmq⟩ := hp.resolve_left (by intro e; rw [e] at hj; simp at hj)
      have hokj := seenK_ok (layK_ok hwf hwg es.length (Nat.le_refl _)).1 ss j
      refine wp_seq (wl_region ?_)
      refine zu (.bool true) (run_lss (k := .i64) (a := j) (b := ss.length) ky ky true (decide_eq_true (by omega))) ?_
      refine wl_nil (then_at rfl (wp_seq ?_))
      refine wp_cond_true ky ?_
      refine wp_skip (then_at rfl (wp_seq (wp_block (wp_seq (wl_region ?_)))))
      refine zu (.pointer (some ⟨pq, j, none⟩)) (run_addr_slice (q := pq) (n := ss.length) (m := cs) (a := j) Tryz.underlying86 (fun w => Tryz.sizeOf9 w) ky ky (by omega)) ?_
      refine zu (.string (ss.getD j ByteArray.empty)) (run_load1 (fun w => Tryz.isAgg9 w) ky (((hmq.keep hV.ha.old.old).cell j).trans (hps j hj))) ?_
      refine zv (.string (ss.getD j ByteArray.empty)) ?_
      refine wl_nil (then_at rfl (wp_seq (wl_region ?_)))
      refine zv (.pointer (some ⟨t.q, 0, none⟩)) ?_
      refine zv (.string (ss.getD j ByteArray.empty)) ?_
      refine wl_callx ky enter36 #[.pointer (some ⟨t.q, 0, none⟩), .string (ss.getD j ByteArray.empty)] ky (Within_any (h.keep hV.ha.old.old) (by omega) (cell_below hV.ha.old.old hv) (ss.getD j ByteArray.empty) (hss j)) ?_
      rintro _ w10 ⟨ow, cw, rfl, hri, hbw⟩
      refine ⟨_, rfl, ?_⟩
      obtain ⟨L1, hW1, hRd⟩ := WH.ri hV hbw hri
      refine zv (iN .i64 ((wth es.length (ss.getD j ByteArray.empty)).length)) ?_
      refine zv (iN .i64 0) ?_
      refine wl_nil (then_at rfl (wp_block ?_))
      refine wp_count (fun i A w' => ∃ u11 : Nat → Value, A = ⟨(pt t.q :: .slice (some ⟨pq, 0, none⟩) ss.length cs :: un :: un :: .slice none 0 0 :: pt b.p :: u4 6 :: u4 7 :: un :: .string (ss.getD j ByteArray.empty) :: un :: u11 11 :: pt t.q :: .bool false :: pt t.q :: pt t.q :: pt t.q :: .slice p es.length c :: iN .i64 es.length :: .slice (some ⟨g 5, 0, none⟩) es.length es.length :: pt t.q :: pt t.q :: pt t.q :: .slice p es.length c :: iN .i64 es.length :: .slice (some ⟨g 11, 0, none⟩) es.length es.length :: .agg #[.slice none 0 0, .slice (some ⟨(unp (g 12)).1, 0, none⟩) es.length es.length, .slice (some ⟨(unp (g 12)).2, 0, none⟩) es.length es.length, .slice none 0 0] :: pt (g 13) :: pt t.q :: pt t.q :: pt t.q :: .slice p es.length c :: iN .i64 es.length :: iN .i64 es.length :: .bool false :: u4 35 :: u4 36 :: u4 37 :: u4 38 :: u4 39 :: u4 40 :: u4 41 :: u4 42 :: u4 43 :: .slice (some ⟨pq, 0, none⟩) ss.length cs :: iN .i64 ss.length :: iN .i64 j :: .bool true :: .pointer (some ⟨pq, j, none⟩) :: .string (ss.getD j ByteArray.empty) :: pt t.q :: .string (ss.getD j ByteArray.empty) :: .slice ow (wth es.length (ss.getD j ByteArray.empty)).length cw :: iN .i64 ((wth es.length (ss.getD j ByteArray.empty)).length) :: iN .i64 i :: u11 55 :: u11 56 :: u11 57 :: u11 58 :: u11 59 :: u11 60 :: u11 61 :: u8 62 :: List.replicate 6 un).toArray, []⟩ ∧ WH (bs w) b es.length (((wth es.length (ss.getD j ByteArray.empty)).take i).foldl learnS (seenK es (layK es es.length) ss j)) (L1 ++ []) w') ((wth es.length (ss.getD j ByteArray.empty)).length) ?_ ?_ ?_
      · exact ⟨fun ii => (([(11, u8 11), (55, u8 55), (56, u8 56), (57, u8 57), (58, u8 58), (59, u8 59), (60, u8 60), (61, u8 61)] : List (Nat × Value)).find? (·.1 == ii)).elim undef (·.2), by kernel_rfl, (by exact hW1)⟩
      · rintro i hk _ w12 ⟨u11, rfl, hX⟩
        obtain ⟨qw, c0, rfl, hmw, hcw⟩ := hRd.resolve_left (by intro e; rw [e] at hk; simp at hk)
        have hoki := learns_ok (wth es.length (ss.getD j ByteArray.empty)) (wth_lt _ _) i _ hokj
        have hyl : (wth es.length (ss.getD j ByteArray.empty)).getD i 0 < es.length := wth_lt es.length (ss.getD j ByteArray.empty) _ (getD_memN hk)
        have hnl := hoki.nl
        have hwl := wth_len es.length (ss.getD j ByteArray.empty)
        refine wp_seq (wl_region ?_)
        refine zu (.bool true) (run_lss (k := .i64) (a := i) (b := (wth es.length (ss.getD j ByteArray.empty)).length) ky ky true (decide_eq_true (by omega))) ?_
        refine wl_nil (then_at rfl (wp_seq ?_))
        refine wp_cond_true ky ?_
        refine wp_skip (then_at rfl (wp_seq (wp_block (wp_seq (wl_region ?_)))))
        refine zu (.pointer (some ⟨qw, i, none⟩)) (run_addr_slice (q := qw) (n := (wth es.length (ss.getD j ByteArray.empty)).length) (m := cw) (a := i) Tryz.underlying84 (fun w => Tryz.sizeOf3 w) ky ky (by omega)) ?_
        refine zu (iN .i64 ((wth es.length (ss.getD j ByteArray.empty)).getD i 0)) (run_load1 (fun w => Tryz.isAgg3 w) ky (((Rd3.cell hmw hX.ha (fun y hy => hy)).cell i).trans (hcw i hk))) ?_
        refine zv (iN .i64 ((wth es.length (ss.getD j ByteArray.empty)).getD i 0)) ?_
        refine wl_nil (then_at rfl (wl_region ?_))
        refine zv (.pointer (some ⟨b.p, 0, none⟩)) ?_
        refine zv (iN .i64 ((wth es.length (ss.getD j ByteArray.empty)).getD i 0)) ?_
        refine wl_callx ky enter82 #[.pointer (some ⟨b.p, 0, none⟩), iN .i64 ((wth es.length (ss.getD j ByteArray.empty)).getD i 0)] ky (learn_any hX hoki hyl (by omega)) ?_
        rintro _ w13 ⟨rfl, hL2⟩
        refine ⟨_, rfl, ?_⟩
        refine wl_nil (block_normal (then_at rfl (wl_region ?_)))
        refine zu (iN .i64 (i + 1)) (run_add (k := .i64) (a := i) (b := 1) ky ky (by simp only [top]; omega)) ?_
        refine zv (iN .i64 (i + 1)) ?_
        refine wl_nil ?_
        exact then_I ⟨fun ii => (([(11, iN .i64 ((wth es.length (ss.getD j ByteArray.empty)).getD i 0)), (55, .bool true), (56, .pointer (some ⟨qw, i, none⟩)), (57, iN .i64 ((wth es.length (ss.getD j ByteArray.empty)).getD i 0)), (58, .pointer (some ⟨b.p, 0, none⟩)), (59, iN .i64 ((wth es.length (ss.getD j ByteArray.empty)).getD i 0)), (60, .tuple #[]), (61, iN .i64 (i + 1))] : List (Nat × Value)).find? (·.1 == ii)).elim undef (·.2), by kernel_rfl, (by rw [foldl_take_succ (wth es.length (ss.getD j ByteArray.empty)) i hk]; exact hL2)⟩
      · rintro _ w14 ⟨u11, rfl, hX⟩
        refine wp_seq (wl_region ?_)
        refine zu (.bool false) (run_lss (k := .i64) (a := (wth es.length (ss.getD j ByteArray.empty)).length) (b := (wth es.length (ss.getD j ByteArray.empty)).length) ky ky false (decide_eq_false (by omega))) ?_
        refine wl_nil (then_at rfl (wp_seq ?_))
        refine wp_cond_false ky ?_
        refine wp_exit ?_
        repeat first | refine then_exit ?_ | refine block_exit ?_ | refine block_exit_ne (by decide) ?_
        refine block_normal (then_at rfl (wl_region ?_))
        refine zu (iN .i64 (j + 1)) (run_add (k := .i64) (a := j) (b := 1) ky ky (by simp only [top]; omega)) ?_
        refine zv (iN .i64 (j + 1)) ?_
        refine wl_nil ?_
        exact then_I ⟨fun ii => (([(9, .string (ss.getD j ByteArray.empty)), (11, u11 11), (47, .bool true), (48, .pointer (some ⟨pq, j, none⟩)), (49, .string (ss.getD j ByteArray.empty)), (50, .pointer (some ⟨t.q, 0, none⟩)), (51, .string (ss.getD j ByteArray.empty)), (52, .slice ow (wth es.length (ss.getD j ByteArray.empty)).length cw), (53, iN .i64 ((wth es.length (ss.getD j ByteArray.empty)).length)), (54, iN .i64 ((wth es.length (ss.getD j ByteArray.empty)).length)), (55, .bool false), (56, u11 56), (57, u11 57), (58, u11 58), (59, u11 59), (60, u11 60), (61, u11 61), (62, iN .i64 (j + 1))] : List (Nat × Value)).find? (·.1 == ii)).elim undef (·.2), by kernel_rfl, (by rw [seenK_step es _ ss j hj]; have hq2 := hX; rw [List.take_length] at hq2; exact WH.sub hq2 (List.sublist_append_right L1 _))⟩
    · rintro _ w15 ⟨u8, rfl, hV⟩
      refine wp_seq (wl_region ?_)
      refine zu (.bool false) (run_lss (k := .i64) (a := ss.length) (b := ss.length) ky ky false (decide_eq_false (by omega))) ?_
      refine wl_nil (then_at rfl (wp_seq ?_))
      refine wp_cond_false ky ?_
      refine wp_exit ?_
      repeat first | refine then_exit ?_ | refine block_exit ?_ | refine block_exit_ne (by decide) ?_
      refine then_at rfl (wp_seq (wl_region ?_))
      refine zv (.pointer (some ⟨b.p, 0, none⟩)) ?_
      refine wl_callx ky enter83 #[.pointer (some ⟨b.p, 0, none⟩)] ky (spread_any hV (seenK_ok (layK_ok hwf hwg es.length (Nat.le_refl _)).1 ss ss.length) (by omega)) ?_
      rintro _ w16 ⟨rfl, hS⟩
      refine ⟨_, rfl, ?_⟩
      refine wl_nil ?_
      refine then_at (F := ⟨(pt t.q :: .slice o ss.length cs :: un :: un :: .slice none 0 0 :: pt b.p :: u4 6 :: u4 7 :: un :: u8 9 :: un :: u8 11 :: pt t.q :: .bool false :: pt t.q :: pt t.q :: pt t.q :: .slice p es.length c :: iN .i64 es.length :: .slice (some ⟨g 5, 0, none⟩) es.length es.length :: pt t.q :: pt t.q :: pt t.q :: .slice p es.length c :: iN .i64 es.length :: .slice (some ⟨g 11, 0, none⟩) es.length es.length :: .agg #[.slice none 0 0, .slice (some ⟨(unp (g 12)).1, 0, none⟩) es.length es.length, .slice (some ⟨(unp (g 12)).2, 0, none⟩) es.length es.length, .slice none 0 0] :: pt (g 13) :: pt t.q :: pt t.q :: pt t.q :: .slice p es.length c :: iN .i64 es.length :: iN .i64 es.length :: .bool false :: u4 35 :: u4 36 :: u4 37 :: u4 38 :: u4 39 :: u4 40 :: u4 41 :: u4 42 :: u4 43 :: .slice o ss.length cs :: iN .i64 ss.length :: iN .i64 ss.length :: .bool false :: u8 48 :: u8 49 :: u8 50 :: u8 51 :: u8 52 :: u8 53 :: u8 54 :: u8 55 :: u8 56 :: u8 57 :: u8 58 :: u8 59 :: u8 60 :: u8 61 :: u8 62 :: pt b.p :: .tuple #[] :: List.replicate 4 un).toArray, []⟩) ky ?_
      refine wp_seq ?_
      obtain ⟨rv, nv, avs, Lr, Ln, La, _, _, _, HF⟩ := hS
      refine wl_region ?_
      refine zv (.pointer (some ⟨b.p, 0, none⟩)) ?_
      refine zv (.pointer (some ⟨b.p, 0, none⟩)) ?_
      refine zv (.pointer (some ⟨b.p, 2, none⟩)) ?_
      refine zu (.slice (some ⟨b.kb, 0, none⟩) es.length es.length) (run_load1 (fun w => Tryz.isAgg87 w) ky (((HF.get 0 rfl).cell 2).trans rfl)) ?_
      refine zv (.slice (some ⟨b.kb, 0, none⟩) es.length es.length) ?_
      refine wl_nil (then_at rfl ?_)
      refine wp_ret ?_
      repeat first | refine then_ret ?_ | refine block_ret ?_
      exact bodyPost_ret (v := .slice (some ⟨b.kb, 0, none⟩) es.length es.length) ky rfl ⟨b.kb, rfl, HF.own _ (List.mem_of_getElem? (i := 2) rfl), HF.get 2 rfl, HF.old.old⟩
end Go.Proofs.YtoogiblkommdfaaGreat

namespace Go.Proofs.YtoogiblkommdfaaGreat
open Go.RowKit

inductive Itm where
  | n
  | d (w : List Nat)
  | m (k n : Nat) (ps : List Nat)
def itm (l : Nat) : Ent → Itm
  | .nm _ => .n
  | .dt s => .d (wth l s)
  | .mk k n _ ps _ => .m k n ps
def halfI (pub : Nat → Option Nat) (st : St) (x a o : Nat) : St := match pub o with | some p => ruleS st x [a, p] | none => st
def layI (pub : Nat → Option Nat) (st : St) (x : Nat) : Itm → St
  | .n => st
  | .d wi => wi.foldl (fun st y => ruleS st y [x]) (ruleS st x wi)
  | .m k n ps =>
    if k = 4 then (if n = 0 then halfI pub (halfI pub (ruleS st x ps) x (ps.getD 0 0) (ps.getD 1 0)) x (ps.getD 1 0) (ps.getD 0 0) else ruleS st x ps)
    else if k = 6 then ruleS (ruleS st x ps) (ps.getD 3 0) [x, ps.getD 0 0]
    else if k = 7 then ruleS (ruleS st x ps) (ps.getD 1 0) [x] else ruleS st x ps
theorem layS_I (es : List Ent) (st : St) (x : Nat) (e : Ent) : layS es st x e = layI (pubT es) st x (itm es.length e) := by
  cases e <;> rfl
def layA (pub : Nat → Option Nat) : List Itm → Nat → St → St
  | [], _, st => st
  | i :: l, x, st => layA pub l (x + 1) (layI pub st x i)
theorem layA_snoc (pub : Nat → Option Nat) (e : Itm) : ∀ (l : List Itm) (x : Nat) (st : St), layA pub (l ++ [e]) x st = layI pub (layA pub l x st) (x + l.length) e
  | [], x, st => rfl
  | i :: l, x, st => by
    rw [List.cons_append, layA, layA, layA_snoc pub e l, List.length_cons, show x + 1 + l.length = x + (l.length + 1) by omega]
theorem layK_A (es : List Ent) : ∀ i, i ≤ es.length → layK es i = layA (pubT es) ((es.take i).map (itm es.length)) 0 (st00 es.length)
  | 0, _ => rfl
  | i + 1, hi => by
    have he : es[i]? = some (es[i]'(by omega)) := List.getElem?_eq_getElem (by omega)
    rw [layK, he]
    simp only
    rw [layS_I, layK_A es i (by omega), List.take_succ_eq_append_getElem (by omega), List.map_append, List.map_cons, List.map_nil, layA_snoc, List.length_map, List.length_take, Nat.min_eq_left (by omega), Nat.zero_add]
def knownI (pub : Nat → Option Nat) (m : Nat) (l : List Itm) (seen : List (List Nat)) : List Bool := (spreadS (seen.foldl (fun st l => l.foldl learnS st) (layA pub l 0 (st00 m)))).known
theorem knownF_I (es : List Ent) (ss : List ByteArray) : knownF es ss = knownI (pubT es) es.length (es.map (itm es.length)) (ss.map (wth es.length)) := by
  unfold knownF knownI seenK
  rw [layK_A es es.length (Nat.le_refl _), List.take_length, List.take_length, List.foldl_map]
theorem knownL {es : List Ent} {ss : List ByteArray} {m : Nat} (hm : es.length = m) {l : List Itm} {q : List (List Nat)} {r : List Bool} (h1 : es.map (itm m) = l) (h2 : ss.map (wth m) = q) (h3 : knownI (pubT es) m l q = r) : knownF es ss = r := by
  subst hm h1 h2 h3
  exact knownF_I es ss
end Go.Proofs.YtoogiblkommdfaaGreat

namespace Go.Proofs.YtoogiblkommdfaaGreat
open Go.RowKit

end Go.Proofs.YtoogiblkommdfaaGreat
