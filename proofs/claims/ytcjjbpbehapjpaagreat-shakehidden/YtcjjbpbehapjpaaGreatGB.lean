/-
  publicOf, layHalf, layMade.
-/
import Derived.Test.YtcjjbpbehapjpaaGreatTU
set_option linter.unusedVariables false
namespace Go.Proofs.YtcjjbpbehapjpaaGreat
open Go.RowKit

theorem gcall {ops : Array Oper} {Q : Exit → Act → World → Prop} {F : (Nat → Nat) → Act} {S : (Nat → Nat) → (Nat → Bool) → World → Prop} {i : Nat} {dst : Option Tmp} {ty : TypeId} {pos : String} {aft : Array Edge} {gd : Option (Nat × Bool)} {f : FuncId} {xs : Array Operand} {ats : Array TypeId} {v : (Nat → Nat) → Value} {args : (Nat → Nat) → Array Value}
    (hw : ∀ g, Region.wanted ⟨dst, .call { callee := .value (.func f), args := xs, argTypes := ats }, ty, pos, aft, gd⟩ (yielded ops (F g).tmps) = true) (hp : ∀ g, (F g).put dst (v g) = F g)
    (hr : ∀ args w, (callFunc f args).run Tryz.prog w = .ok (.enter f args) w) (ha : ∀ g, #[] ++ xs.map (F g).eval ++ #[] = args g)
    (hc : ∀ g d w, S g d w → (∀ e ∈ aft, Region.binds .any e = true → d e.on = true) → Calls Tryz.prog f (args g) w fun e w' => e = .returned (v g) ∧ S g (up d i true) w') : OpGhost Tryz.prog .any ops Q S F i ⟨dst, .call { callee := .value (.func f), args := xs, argTypes := ats }, ty, pos, aft, gd⟩ :=
  OpGhost.call (v := v) (args := args) hw hp (fun g w => by rw [execOp_call_go, ha g]; exact hr _ w) hc
structure SP (w0 : World) (x : Nat) (g : Nat → Nat) (d : Nat → Bool) (w : World) : Prop where
  ha : HA (bs w0) [] w
  b5 : d 5 = true → Blk w (g 5) 3 (intc [x])
  b6 : d 6 = true → d 5 = true ∧ g 6 = g 5
theorem SP.read {w0 : World} {x : Nat} {g : Nat → Nat} {d : Nat → Bool} {w : World} (h : SP w0 x g d w) {i : Nat} (h5 : i ≠ 5) (h6 : i ≠ 6) : SP w0 x g (up d i true) w :=
  ⟨h.ha, by rw [up_ne _ _ (Ne.symm h5)]; exact h.b5, by rw [up_ne _ _ (Ne.symm h5), up_ne _ _ (Ne.symm h6)]; exact h.b6⟩
set_option maxRecDepth 100000 in
set_option maxHeartbeats 2000000 in
theorem public_any {w : World} {t : Tb} {es : List Ent} (h : TV w t es) (x : Nat) (hx : x < 1000000) :
    Calls Tryz.prog 188 #[pt t.q, iN .i64 x] w fun e w' => e = .returned (onum (pubT es x)) ∧ Below w.heap.size w w' := by
  obtain ⟨v, hq, _⟩ := h.row
  have H0 := HA.start w
  go_enter Tryz.func188, Tryz.ntmps188
  refine wp_seq (wl_region ?_)
  refine zv (iN .i64 0) ?_
  refine zv (.bool false) ?_
  refine wl_nil (then_at rfl (wp_seq ?_))
  refine wp_region_ghost (fun g : Nat → Nat => (⟨(pt t.q :: iN .i64 x :: un :: un :: iN .i64 0 :: .bool false :: iN .i64 ((pubT es x).getD 0) :: .bool (pubT es x).isSome :: .tuple #[iN .i64 ((pubT es x).getD 0), .bool (pubT es x).isSome] :: pt t.q :: pt t.q :: .pointer (some ⟨t.q, 3, none⟩) :: .map (some t.mm) :: iN .i64 x :: .slice (some ⟨g 5, 0, none⟩) 1 1 :: .agg #[iN .i64 3, iN .i64 0, .string { data := #[] }, .slice (some ⟨g 6, 0, none⟩) 1 1] :: recV (recOf 3 0 { data := #[] } [x]) :: .tuple #[iN .i64 ((pubT es x).getD 0), .bool (pubT es x).isSome] :: iN .i64 ((pubT es x).getD 0) :: .bool (pubT es x).isSome :: List.replicate 2 un).toArray, []⟩ : Act)) (SP w x) [.pointer (some ⟨t.q, 0, none⟩), .pointer (some ⟨t.q, 0, none⟩), .pointer (some ⟨t.q, 3, none⟩), .map (some t.mm), iN .i64 x, .slice (some ⟨0, 0, none⟩) 1 1, .agg #[iN .i64 3, iN .i64 0, .string { data := #[] }, .slice (some ⟨0, 0, none⟩) 1 1], recV (recOf 3 0 { data := #[] } [x]), .tuple #[iN .i64 ((pubT es x).getD 0), .bool (pubT es x).isSome], .tuple #[iN .i64 ((pubT es x).getD 0), .bool (pubT es x).isSome], iN .i64 ((pubT es x).getD 0), .bool (pubT es x).isSome, iN .i64 ((pubT es x).getD 0), .bool (pubT es x).isSome] ky ky ky ky (fun _ _ _ _ h => h) (fun d hd => ⟨H0.drew, fun h5 => (by rw [hd 5 (by decide)] at h5; cases h5), fun h6 => (by rw [hd 6 (by decide)] at h6; cases h6)⟩) ?_ ?_
  · refine AllGhost.cons (OpGhost.take (v := fun _ => .pointer (some ⟨t.q, 0, none⟩)) (fun _ => by kernel_rfl) (fun _ => by kernel_rfl) (fun g d w' h' _ => ⟨ky, h'.read (by decide) (by decide)⟩)) ?_
    refine AllGhost.cons (OpGhost.take (v := fun _ => .pointer (some ⟨t.q, 0, none⟩)) (fun _ => by kernel_rfl) (fun _ => by kernel_rfl) (fun g d w' h' _ => ⟨ky, h'.read (by decide) (by decide)⟩)) ?_
    refine AllGhost.cons (OpGhost.take (v := fun _ => .pointer (some ⟨t.q, 3, none⟩)) (fun _ => by kernel_rfl) (fun _ => by kernel_rfl) (fun g d w' h' _ => ⟨ky, h'.read (by decide) (by decide)⟩)) ?_
    refine AllGhost.cons (OpGhost.take (v := fun _ => .map (some t.mm)) (fun _ => by kernel_rfl) (fun _ => by kernel_rfl) (fun g d w' h' _ => ⟨run_load1 (fun w => Tryz.isAgg152 w) ky (((hq.keep h'.ha.old.old).cell 3).trans rfl), h'.read (by decide) (by decide)⟩)) ?_
    refine AllGhost.cons (OpGhost.take (v := fun _ => iN .i64 x) (fun _ => by kernel_rfl) (fun _ => by kernel_rfl) (fun g d w' h' _ => ⟨ky, h'.read (by decide) (by decide)⟩)) ?_
    refine AllGhost.cons (OpGhost.act (v := fun _ w => .slice (some ⟨w.heap.size, 0, none⟩) 1 1) (n := fun _ w => w.heap.size) (W := fun _ w => w.alloc (.cells (intc [x]) 3)) (fun _ => by kernel_rfl) (fun _ _ => by kernel_rfl) (fun g d w' h' hd _ => ⟨by kernel_rfl, (h'.ha.make 3 (intc [x])).tl, fun _ => by rw [up_at]; exact Blk.new w' 3 (intc [x]), fun h6 => by rw [up_ne _ _ (by decide)] at h6; have := (h'.b6 h6).1; rw [hd] at this; cases this⟩)) ?_
    refine AllGhost.cons (OpGhost.act (v := fun g _ => .agg #[iN .i64 3, iN .i64 0, .string { data := #[] }, .slice (some ⟨g 5, 0, none⟩) 1 1]) (n := fun g _ => g 5) (W := fun _ w => w) (fun _ => by kernel_rfl) (fun _ _ => by kernel_rfl) (fun g d w' h' hd ha => ⟨by kernel_rfl, h'.ha, by rw [up_ne _ _ (by decide), up_ne _ _ (by decide)]; exact h'.b5, fun _ => ⟨by rw [up_ne _ _ (by decide)]; exact ahead_ok (l := [5]) ky ha 5 (by decide), by rw [up_at, up_ne _ _ (by decide)]⟩⟩)) ?_
    refine AllGhost.cons (gcall (v := fun _ => recV (recOf 3 0 { data := #[] } [x])) (args := fun g => #[.agg #[iN .i64 3, iN .i64 0, .string { data := #[] }, .slice (some ⟨g 6, 0, none⟩) 1 1]]) (fun _ => by kernel_rfl) (fun _ => by kernel_rfl) enter198 (fun _ => by kernel_rfl) (fun g d w' h' ha => (recipe_any 3 0 { data := #[] } [x] (g 6) (by have h6 := h'.b6 (ahead_ok (l := [6]) ky ha 6 (by decide)); rw [h6.2]; exact h'.b5 h6.1) (by simp) (fun i => getD_lt (m := 1000000) (by simpa using hx) (by decide) i)).mono (fun e w2 he => ⟨he.1, SP.read ⟨h'.ha.keep _ _ he.2, fun h5 => (h'.b5 h5).keep he.2, h'.b6⟩ (by decide) (by decide)⟩))) ?_
    refine AllGhost.cons (OpGhost.take (v := fun _ => .tuple #[iN .i64 ((pubT es x).getD 0), .bool (pubT es x).isSome]) (fun _ => by kernel_rfl) (fun _ => by kernel_rfl) (fun g d w' h' _ => ⟨run_lk72 (s := recOf 3 0 { data := #[] } [x]) ky ky (h.keep h'.ha.old.old).mm (pubT es x) rfl, h'.read (by decide) (by decide)⟩)) ?_
    refine AllGhost.cons (OpGhost.take (v := fun _ => .tuple #[iN .i64 ((pubT es x).getD 0), .bool (pubT es x).isSome]) (fun _ => by kernel_rfl) (fun _ => by kernel_rfl) (fun g d w' h' _ => ⟨ky, h'.read (by decide) (by decide)⟩)) ?_
    refine AllGhost.cons (OpGhost.take (v := fun _ => iN .i64 ((pubT es x).getD 0)) (fun _ => by kernel_rfl) (fun _ => by kernel_rfl) (fun g d w' h' _ => ⟨ky, h'.read (by decide) (by decide)⟩)) ?_
    refine AllGhost.cons (OpGhost.take (v := fun _ => .bool (pubT es x).isSome) (fun _ => by kernel_rfl) (fun _ => by kernel_rfl) (fun g d w' h' _ => ⟨ky, h'.read (by decide) (by decide)⟩)) ?_
    refine AllGhost.cons (OpGhost.take (v := fun _ => iN .i64 ((pubT es x).getD 0)) (fun _ => by kernel_rfl) (fun _ => by kernel_rfl) (fun g d w' h' _ => ⟨ky, h'.read (by decide) (by decide)⟩)) ?_
    refine AllGhost.cons (OpGhost.take (v := fun _ => .bool (pubT es x).isSome) (fun _ => by kernel_rfl) (fun _ => by kernel_rfl) (fun g d w' h' _ => ⟨ky, h'.read (by decide) (by decide)⟩)) ?_
    exact AllGhost.nil
  intro g w1 hg0
  have h2 := hg0.ha
  clear hg0
  refine then_at rfl (wp_seq (wl_region ?_))
  refine zv (iN .i64 ((pubT es x).getD 0)) ?_
  refine zv (.bool (pubT es x).isSome) ?_
  refine zv (iN .i64 ((pubT es x).getD 0)) ?_
  refine zv (.bool (pubT es x).isSome) ?_
  refine wl_nil (then_at rfl ?_)
  refine wp_ret ?_
  repeat first | refine then_ret ?_ | refine block_ret ?_
  exact bodyPost_ret (v := onum (pubT es x)) ky rfl ⟨rfl, h2.old.old⟩
set_option maxRecDepth 100000 in
set_option maxHeartbeats 2000000 in
theorem half_a {z : Base} {b : Wb} {m : Nat} {st : St} {L : BL} {w : World} (H : WH z b m st L w) (hok : Wok m st) (hm : m ≤ 100000) {t : Tb} {es : List Ent} (h : TV z.w t es) (hme : m = es.length) {x a o : Nat} (hx : x < m) (ha : a < m) (ho : o < m) (hs : siz st + 2 ≤ 1000000) {p : Nat} (hp : pubT es o = some p) (hpm : p < m) :
    Calls Tryz.prog 154 #[pt t.q, pt b.p, iN .i64 x, iN .i64 a, iN .i64 o] w fun e w' => e = .returned (.tuple #[]) ∧ WH z b m (halfS es st x a o) L w' := by
  go_enter Tryz.func154, Tryz.ntmps154
  refine wp_seq (wl_region ?_)
  refine zv (.pointer (some ⟨t.q, 0, none⟩)) ?_
  refine zv (iN .i64 o) ?_
  refine wl_callx ky enter188 #[.pointer (some ⟨t.q, 0, none⟩), iN .i64 o] ky (by have := public_any (h.keep H.ha.old.old) o (by omega); rw [hp] at this; exact this) ?_
  rintro _ w2 ⟨rfl, hb1⟩
  refine ⟨_, rfl, ?_⟩
  have hW3 : WH z b m st (L) w2 := WH.keep H hb1
  refine zv (.tuple #[iN .i64 p, .bool true]) ?_
  refine zv (iN .i64 p) ?_
  refine zv (.bool true) ?_
  refine zv (iN .i64 p) ?_
  refine zv (.bool true) ?_
  refine wl_nil (then_at rfl (wp_seq (wl_region ?_)))
  refine zv (.bool true) ?_
  refine wl_nil (then_at rfl ?_)
  refine wp_cond_true ky ?_
  refine wl_region ?_
  refine zv (.pointer (some ⟨b.p, 0, none⟩)) ?_
  refine zv (iN .i64 x) ?_
  refine zv (iN .i64 a) ?_
  refine zv (iN .i64 p) ?_
  refine wl_mksW (n := 2) (k := 2) (c := intc ([a, p])) hW3 3 ky ky ?_
  intro q4 w5 (hW6 : WH z b m st ((q4, 3, intc ([a, p])) :: L) w5)
  refine wl_callx ky enter124 #[.pointer (some ⟨b.p, 0, none⟩), iN .i64 x, .slice (some ⟨q4, 0, none⟩) 2 2] ky (rule_any hW6 hok hx hm ([a, p]) _ 2 (.inr ⟨q4, intc [a, p], rfl, .inl (by simp), fun j hj => intc_get _ j hj⟩) (fun j hj => getD_lt (m := m) (by intro y hy; simp only [List.mem_cons, List.not_mem_nil, or_false] at hy; omega) (by omega) j) (by simp only [List.length_cons, List.length_nil]; omega)) ?_
  rintro _ w8 ⟨rfl, hW7⟩
  refine ⟨_, rfl, ?_⟩
  have hok9 := ruleS_ok hok hx ([a, p])
  have hszhok9 := siz_rule st x ([a, p])
  refine wl_nil ?_
  exact bodyPost_end (v := .tuple #[]) ky rfl ⟨rfl, by rw [halfS, hp]; exact WH.sub hW7 (List.sublist_cons_self _ _)⟩
set_option maxRecDepth 100000 in
set_option maxHeartbeats 2000000 in
theorem half_b {z : Base} {b : Wb} {m : Nat} {st : St} {L : BL} {w : World} (H : WH z b m st L w) (hok : Wok m st) (hm : m ≤ 100000) {t : Tb} {es : List Ent} (h : TV z.w t es) (hme : m = es.length) {x a o : Nat} (hx : x < m) (ha : a < m) (ho : o < m) (hs : siz st + 2 ≤ 1000000) (hp : pubT es o = none) :
    Calls Tryz.prog 154 #[pt t.q, pt b.p, iN .i64 x, iN .i64 a, iN .i64 o] w fun e w' => e = .returned (.tuple #[]) ∧ WH z b m (halfS es st x a o) L w' := by
  go_enter Tryz.func154, Tryz.ntmps154
  refine wp_seq (wl_region ?_)
  refine zv (.pointer (some ⟨t.q, 0, none⟩)) ?_
  refine zv (iN .i64 o) ?_
  refine wl_callx ky enter188 #[.pointer (some ⟨t.q, 0, none⟩), iN .i64 o] ky (by have := public_any (h.keep H.ha.old.old) o (by omega); rw [hp] at this; exact this) ?_
  rintro _ w2 ⟨rfl, hb1⟩
  refine ⟨_, rfl, ?_⟩
  have hW3 : WH z b m st (L) w2 := WH.keep H hb1
  refine zv (.tuple #[iN .i64 0, .bool false]) ?_
  refine zv (iN .i64 0) ?_
  refine zv (.bool false) ?_
  refine zv (iN .i64 0) ?_
  refine zv (.bool false) ?_
  refine wl_nil (then_at rfl (wp_seq (wl_region ?_)))
  refine zv (.bool false) ?_
  refine wl_nil (then_at rfl ?_)
  refine wp_cond_false ky ?_
  refine wp_skip ?_
  exact bodyPost_end (v := .tuple #[]) ky rfl ⟨rfl, by rw [halfS, hp]; exact WH.sub hW3 (List.Sublist.refl _)⟩
theorem pubT_lt {es : List Ent} {x p : Nat} (h : pubT es x = some p) : p < es.length := by
  unfold pubT lkR at h
  obtain ⟨y, hy, rfl⟩ := Option.map_eq_some_iff.1 h
  have := mks_lt es 0 y (List.mem_of_find?_eq_some hy)
  omega
theorem half_any {z : Base} {b : Wb} {m : Nat} {st : St} {L : BL} {w : World} (H : WH z b m st L w) (hok : Wok m st) (hm : m ≤ 100000) {t : Tb} {es : List Ent} (h : TV z.w t es) (hme : m = es.length) {x a o : Nat} (hx : x < m) (ha : a < m) (ho : o < m) (hs : siz st + 2 ≤ 1000000) :
    Calls Tryz.prog 154 #[pt t.q, pt b.p, iN .i64 x, iN .i64 a, iN .i64 o] w fun e w' => e = .returned (.tuple #[]) ∧ WH z b m (halfS es st x a o) L w' := by
  cases hp : pubT es o with
  | some p => exact half_a H hok hm h hme hx ha ho hs hp (by have := pubT_lt hp; omega)
  | none => exact half_b H hok hm h hme hx ha ho hs hp
theorem half_ok {m : Nat} {st : St} (h : Wok m st) (es : List Ent) {x : Nat} (hx : x < m) (a o : Nat) : Wok m (halfS es st x a o) ∧ siz (halfS es st x a o) ≤ siz st + 3 := by
  unfold halfS
  split
  · exact ⟨ruleS_ok h hx _, siz_rule st x _⟩
  · exact ⟨h, by omega⟩
theorem WH.drew {z : Base} {b : Wb} {m : Nat} {st : St} {L : BL} {w : World} (h : WH z b m st L w) : WH z b m st L w.drew := by
  obtain ⟨rv, nv, avs, Lr, Ln, La, k1, k2, k3, H⟩ := h
  exact ⟨rv, nv, avs, Lr, Ln, La, k1, k2, k3, H.drew⟩
set_option maxRecDepth 100000 in
set_option maxHeartbeats 2000000 in
theorem made_dh0 {z : Base} {b : Wb} {m : Nat} {st : St} {L : BL} {w : World} (H : WH z b m st L w) (hok : Wok m st) (hm : m ≤ 100000) {t : Tb} {es : List Ent} (h : TV z.w t es) (hme : m = es.length) {x k n : Nat} {s : ByteArray} {ps : List Nat} {pb : Nat} (hx : x < m) (hpb : Blk z.w pb 3 (intc ps)) (hps : ∀ j, j < ps.length → ps.getD j 0 < m) (hpl : ps.length ≤ 100) (hs : siz st + 200 ≤ 1000000) (hk : k = 4) (hl : ps.length = 2) (hn0 : n = 0) :
    Calls Tryz.prog 125 #[pt t.q, pt b.p, iN .i64 x, mkv k n s pb ps.length] w fun e w' => e = .returned (.tuple #[]) ∧ WH z b m (madeS es st x k n ps) L w' := by
  go_enter Tryz.func125, Tryz.ntmps125
  refine wp_seq (wl_region ?_)
  refine wl_makeW (c := #[iN .i64 k, iN .i64 n, .string s, .slice (some ⟨pb, 0, none⟩) ps.length ps.length]) H 207 ky ky ?_
  intro q1 w2 (hW3 : WH z b m st ((q1, 207, #[iN .i64 k, iN .i64 n, .string s, .slice (some ⟨pb, 0, none⟩) ps.length ps.length]) :: L) w2)
  refine wl_nil (then_at rfl (wp_seq (wl_region ?_)))
  refine zv (.pointer (some ⟨b.p, 0, none⟩)) ?_
  refine zv (iN .i64 x) ?_
  refine zv (.pointer (some ⟨q1, 3, none⟩)) ?_
  refine zu (.slice (some ⟨pb, 0, none⟩) ps.length ps.length) (run_load1 (fun w => Tryz.isAgg81 w) ky (((hW3.ha.get 0 rfl).cell 3).trans rfl)) ?_
  refine wl_callx ky enter124 #[.pointer (some ⟨b.p, 0, none⟩), iN .i64 x, .slice (some ⟨pb, 0, none⟩) ps.length ps.length] ky (rule_any hW3 hok hx hm ps _ ps.length (.inr ⟨pb, intc ps, rfl, .inr hpb, fun j hj => intc_get ps j hj⟩) (fun j hj => hps j hj) (by omega)) ?_
  rintro _ w5 ⟨rfl, hW4⟩
  refine ⟨_, rfl, ?_⟩
  have hok6 := ruleS_ok hok hx ps
  have hszhok6 := siz_rule st x ps
  refine wl_nil (then_at rfl (wp_seq (wl_region ?_)))
  refine zv (.pointer (some ⟨q1, 0, none⟩)) ?_
  refine zu (iN .i64 k) (run_load1 (fun w => Tryz.isAgg3 w) ky (((hW4.ha.get 0 rfl).cell 0).trans rfl)) ?_
  refine wl_nil (then_at rfl (wp_block (wp_seq (wl_region ?_))))
  refine zu (.bool true) (run_eqi (k := .i64) (a := k) (b := 4) ky ky true (decide_eq_true (by omega))) ?_
  refine zv (.bool true) ?_
  refine wl_nil (then_at rfl ?_)
  refine wp_cond_true ky ?_
  refine wp_seq (wl_region ?_)
  refine zv (.pointer (some ⟨q1, 1, none⟩)) ?_
  refine zu (iN .i64 n) (run_load1 (fun w => Tryz.isAgg3 w) ky (((hW4.ha.get 0 rfl).cell 1).trans rfl)) ?_
  refine zu (.bool true) (run_eqi (k := .i64) (a := n) (b := 0) ky ky true (decide_eq_true hn0)) ?_
  refine wl_nil (then_at rfl ?_)
  refine wp_cond_true ky ?_
  refine wp_seq ?_
  refine wp_region_ghost (fun g : Nat → Nat => (⟨(pt t.q :: pt b.p :: iN .i64 x :: .agg #[iN .i64 k, iN .i64 n, .string s, .slice (some ⟨pb, 0, none⟩) ps.length ps.length] :: un :: un :: un :: pt q1 :: pt b.p :: iN .i64 x :: .pointer (some ⟨q1, 3, none⟩) :: .slice (some ⟨pb, 0, none⟩) ps.length ps.length :: .tuple #[] :: pt q1 :: iN .i64 k :: .bool true :: .bool true :: .pointer (some ⟨q1, 1, none⟩) :: iN .i64 n :: .bool true :: pt t.q :: pt b.p :: iN .i64 x :: .pointer (some ⟨q1, 3, none⟩) :: .slice (some ⟨pb, 0, none⟩) ps.length ps.length :: pt pb :: iN .i64 (ps.getD 0 0) :: .pointer (some ⟨q1, 3, none⟩) :: .slice (some ⟨pb, 0, none⟩) ps.length ps.length :: .pointer (some ⟨pb, 1, none⟩) :: iN .i64 (ps.getD 1 0) :: .tuple #[] :: List.replicate 36 un).toArray, []⟩ : Act)) (G1 (HA z [(q1, 207, #[iN .i64 k, iN .i64 n, .string s, .slice (some ⟨pb, 0, none⟩) ps.length ps.length])]) (fun w' => WH z b m (ruleS st x ps) ((q1, 207, #[iN .i64 k, iN .i64 n, .string s, .slice (some ⟨pb, 0, none⟩) ps.length ps.length]) :: L) w') (fun _ w' => WH z b m (halfS es (ruleS st x ps) x (ps.getD 0 0) (ps.getD 1 0)) ((q1, 207, #[iN .i64 k, iN .i64 n, .string s, .slice (some ⟨pb, 0, none⟩) ps.length ps.length]) :: L) w') 11) [.pointer (some ⟨t.q, 0, none⟩), .pointer (some ⟨b.p, 0, none⟩), iN .i64 x, .pointer (some ⟨q1, 3, none⟩), .slice (some ⟨pb, 0, none⟩) ps.length ps.length, .pointer (some ⟨pb, 0, none⟩), iN .i64 (ps.getD 0 0), .pointer (some ⟨q1, 3, none⟩), .slice (some ⟨pb, 0, none⟩) ps.length ps.length, .pointer (some ⟨pb, 1, none⟩), iN .i64 (ps.getD 1 0), .tuple #[]] ky ky ky ky (fun _ _ _ _ h => h) (fun d hd => G1.start (hW4.ha.sub (List.Sublist.cons_cons _ (List.nil_sublist _))).drew (WH.drew hW4) (hd 11 (by decide))) ?_ ?_
  · refine AllGhost.cons (g1_read (v := fun g => .pointer (some ⟨t.q, 0, none⟩)) (by decide) (fun _ => by kernel_rfl) (fun _ => by kernel_rfl) (fun g _ _ => ky)) ?_
    refine AllGhost.cons (g1_read (v := fun g => .pointer (some ⟨b.p, 0, none⟩)) (by decide) (fun _ => by kernel_rfl) (fun _ => by kernel_rfl) (fun g _ _ => ky)) ?_
    refine AllGhost.cons (g1_read (v := fun g => iN .i64 x) (by decide) (fun _ => by kernel_rfl) (fun _ => by kernel_rfl) (fun g _ _ => ky)) ?_
    refine AllGhost.cons (g1_read (v := fun g => .pointer (some ⟨q1, 3, none⟩)) (by decide) (fun _ => by kernel_rfl) (fun _ => by kernel_rfl) (fun g _ _ => ky)) ?_
    refine AllGhost.cons (g1_read (v := fun g => .slice (some ⟨pb, 0, none⟩) ps.length ps.length) (by decide) (fun _ => by kernel_rfl) (fun _ => by kernel_rfl) (fun g w' h' => run_load1 (fun w => Tryz.isAgg81 w) ky (((h'.get 0 rfl).cell 3).trans rfl))) ?_
    refine AllGhost.cons (g1_read (v := fun g => .pointer (some ⟨pb, 0, none⟩)) (by decide) (fun _ => by kernel_rfl) (fun _ => by kernel_rfl) (fun g _ _ => (run_addr_slice (q := pb) (n := ps.length) (m := ps.length) (a := 0) Tryz.underlying81 (fun w => Tryz.sizeOf3 w) ky ky (by omega)))) ?_
    refine AllGhost.cons (g1_read (v := fun g => iN .i64 (ps.getD 0 0)) (by decide) (fun _ => by kernel_rfl) (fun _ => by kernel_rfl) (fun g w' h' => run_load1 (fun w => Tryz.isAgg3 w) ky (((hpb.keep h'.old.old).cell 0).trans (intc_get ps 0 (by omega))))) ?_
    refine AllGhost.cons (g1_read (v := fun g => .pointer (some ⟨q1, 3, none⟩)) (by decide) (fun _ => by kernel_rfl) (fun _ => by kernel_rfl) (fun g _ _ => ky)) ?_
    refine AllGhost.cons (g1_read (v := fun g => .slice (some ⟨pb, 0, none⟩) ps.length ps.length) (by decide) (fun _ => by kernel_rfl) (fun _ => by kernel_rfl) (fun g w' h' => run_load1 (fun w => Tryz.isAgg81 w) ky (((h'.get 0 rfl).cell 3).trans rfl))) ?_
    refine AllGhost.cons (g1_read (v := fun g => .pointer (some ⟨pb, 1, none⟩)) (by decide) (fun _ => by kernel_rfl) (fun _ => by kernel_rfl) (fun g _ _ => (run_addr_slice (q := pb) (n := ps.length) (m := ps.length) (a := 1) Tryz.underlying81 (fun w => Tryz.sizeOf3 w) ky ky (by omega)))) ?_
    refine AllGhost.cons (g1_read (v := fun g => iN .i64 (ps.getD 1 0)) (by decide) (fun _ => by kernel_rfl) (fun _ => by kernel_rfl) (fun g w' h' => run_load1 (fun w => Tryz.isAgg3 w) ky (((hpb.keep h'.old.old).cell 1).trans (intc_get ps 1 (by omega))))) ?_
    refine AllGhost.cons (g1_call0 (v := fun _ => .tuple #[]) (args := #[.pointer (some ⟨t.q, 0, none⟩), .pointer (some ⟨b.p, 0, none⟩), iN .i64 x, iN .i64 (ps.getD 0 0), iN .i64 (ps.getD 1 0)]) (fun _ => by kernel_rfl) (fun _ _ => by kernel_rfl) enter154 (fun _ => by kernel_rfl) (fun w' _ h0 => (half_any h0 hok6 hm h hme hx (hps 0 (by omega)) (hps 1 (by omega)) (by omega)).mono (by rintro e w2 ⟨e1, e2⟩; exact ⟨0, e1, e2.ha.sub (List.Sublist.cons_cons _ (List.nil_sublist _)), e2⟩))) ?_
    exact AllGhost.nil
  intro g w8 gg9
  have h10 := gg9.held
  rw [if_pos rfl] at h10
  clear gg9
  generalize g 11 = n11 at h10 ⊢
  clear g
  have hW12 : WH z b m (halfS es (ruleS st x ps) x (ps.getD 0 0) (ps.getD 1 0)) ((q1, 207, #[iN .i64 k, iN .i64 n, .string s, .slice (some ⟨pb, 0, none⟩) ps.length ps.length]) :: L) w8 := h10
  have hok13 := (half_ok hok6 es hx (ps.getD 0 0) (ps.getD 1 0)).1
  have hszhok13 := (half_ok hok6 es hx (ps.getD 0 0) (ps.getD 1 0)).2
  refine then_at rfl ?_
  refine wp_region_ghost (fun g : Nat → Nat => (⟨(pt t.q :: pt b.p :: iN .i64 x :: .agg #[iN .i64 k, iN .i64 n, .string s, .slice (some ⟨pb, 0, none⟩) ps.length ps.length] :: un :: un :: un :: pt q1 :: pt b.p :: iN .i64 x :: .pointer (some ⟨q1, 3, none⟩) :: .slice (some ⟨pb, 0, none⟩) ps.length ps.length :: .tuple #[] :: pt q1 :: iN .i64 k :: .bool true :: .bool true :: .pointer (some ⟨q1, 1, none⟩) :: iN .i64 n :: .bool true :: pt t.q :: pt b.p :: iN .i64 x :: .pointer (some ⟨q1, 3, none⟩) :: .slice (some ⟨pb, 0, none⟩) ps.length ps.length :: pt pb :: iN .i64 (ps.getD 0 0) :: .pointer (some ⟨q1, 3, none⟩) :: .slice (some ⟨pb, 0, none⟩) ps.length ps.length :: .pointer (some ⟨pb, 1, none⟩) :: iN .i64 (ps.getD 1 0) :: .tuple #[] :: pt t.q :: pt b.p :: iN .i64 x :: .pointer (some ⟨q1, 3, none⟩) :: .slice (some ⟨pb, 0, none⟩) ps.length ps.length :: .pointer (some ⟨pb, 1, none⟩) :: iN .i64 (ps.getD 1 0) :: .pointer (some ⟨q1, 3, none⟩) :: .slice (some ⟨pb, 0, none⟩) ps.length ps.length :: pt pb :: iN .i64 (ps.getD 0 0) :: .tuple #[] :: List.replicate 24 un).toArray, []⟩ : Act)) (G1 (HA z [(q1, 207, #[iN .i64 k, iN .i64 n, .string s, .slice (some ⟨pb, 0, none⟩) ps.length ps.length])]) (fun w' => WH z b m (halfS es (ruleS st x ps) x (ps.getD 0 0) (ps.getD 1 0)) ((q1, 207, #[iN .i64 k, iN .i64 n, .string s, .slice (some ⟨pb, 0, none⟩) ps.length ps.length]) :: L) w') (fun _ w' => WH z b m (halfS es (halfS es (ruleS st x ps) x (ps.getD 0 0) (ps.getD 1 0)) x (ps.getD 1 0) (ps.getD 0 0)) ((q1, 207, #[iN .i64 k, iN .i64 n, .string s, .slice (some ⟨pb, 0, none⟩) ps.length ps.length]) :: L) w') 11) [.pointer (some ⟨t.q, 0, none⟩), .pointer (some ⟨b.p, 0, none⟩), iN .i64 x, .pointer (some ⟨q1, 3, none⟩), .slice (some ⟨pb, 0, none⟩) ps.length ps.length, .pointer (some ⟨pb, 1, none⟩), iN .i64 (ps.getD 1 0), .pointer (some ⟨q1, 3, none⟩), .slice (some ⟨pb, 0, none⟩) ps.length ps.length, .pointer (some ⟨pb, 0, none⟩), iN .i64 (ps.getD 0 0), .tuple #[]] ky ky ky ky (fun _ _ _ _ h => h) (fun d hd => G1.start (hW12.ha.sub (List.Sublist.cons_cons _ (List.nil_sublist _))).drew (WH.drew hW12) (hd 11 (by decide))) ?_ ?_
  · refine AllGhost.cons (g1_read (v := fun g => .pointer (some ⟨t.q, 0, none⟩)) (by decide) (fun _ => by kernel_rfl) (fun _ => by kernel_rfl) (fun g _ _ => ky)) ?_
    refine AllGhost.cons (g1_read (v := fun g => .pointer (some ⟨b.p, 0, none⟩)) (by decide) (fun _ => by kernel_rfl) (fun _ => by kernel_rfl) (fun g _ _ => ky)) ?_
    refine AllGhost.cons (g1_read (v := fun g => iN .i64 x) (by decide) (fun _ => by kernel_rfl) (fun _ => by kernel_rfl) (fun g _ _ => ky)) ?_
    refine AllGhost.cons (g1_read (v := fun g => .pointer (some ⟨q1, 3, none⟩)) (by decide) (fun _ => by kernel_rfl) (fun _ => by kernel_rfl) (fun g _ _ => ky)) ?_
    refine AllGhost.cons (g1_read (v := fun g => .slice (some ⟨pb, 0, none⟩) ps.length ps.length) (by decide) (fun _ => by kernel_rfl) (fun _ => by kernel_rfl) (fun g w' h' => run_load1 (fun w => Tryz.isAgg81 w) ky (((h'.get 0 rfl).cell 3).trans rfl))) ?_
    refine AllGhost.cons (g1_read (v := fun g => .pointer (some ⟨pb, 1, none⟩)) (by decide) (fun _ => by kernel_rfl) (fun _ => by kernel_rfl) (fun g _ _ => (run_addr_slice (q := pb) (n := ps.length) (m := ps.length) (a := 1) Tryz.underlying81 (fun w => Tryz.sizeOf3 w) ky ky (by omega)))) ?_
    refine AllGhost.cons (g1_read (v := fun g => iN .i64 (ps.getD 1 0)) (by decide) (fun _ => by kernel_rfl) (fun _ => by kernel_rfl) (fun g w' h' => run_load1 (fun w => Tryz.isAgg3 w) ky (((hpb.keep h'.old.old).cell 1).trans (intc_get ps 1 (by omega))))) ?_
    refine AllGhost.cons (g1_read (v := fun g => .pointer (some ⟨q1, 3, none⟩)) (by decide) (fun _ => by kernel_rfl) (fun _ => by kernel_rfl) (fun g _ _ => ky)) ?_
    refine AllGhost.cons (g1_read (v := fun g => .slice (some ⟨pb, 0, none⟩) ps.length ps.length) (by decide) (fun _ => by kernel_rfl) (fun _ => by kernel_rfl) (fun g w' h' => run_load1 (fun w => Tryz.isAgg81 w) ky (((h'.get 0 rfl).cell 3).trans rfl))) ?_
    refine AllGhost.cons (g1_read (v := fun g => .pointer (some ⟨pb, 0, none⟩)) (by decide) (fun _ => by kernel_rfl) (fun _ => by kernel_rfl) (fun g _ _ => (run_addr_slice (q := pb) (n := ps.length) (m := ps.length) (a := 0) Tryz.underlying81 (fun w => Tryz.sizeOf3 w) ky ky (by omega)))) ?_
    refine AllGhost.cons (g1_read (v := fun g => iN .i64 (ps.getD 0 0)) (by decide) (fun _ => by kernel_rfl) (fun _ => by kernel_rfl) (fun g w' h' => run_load1 (fun w => Tryz.isAgg3 w) ky (((hpb.keep h'.old.old).cell 0).trans (intc_get ps 0 (by omega))))) ?_
    refine AllGhost.cons (g1_call0 (v := fun _ => .tuple #[]) (args := #[.pointer (some ⟨t.q, 0, none⟩), .pointer (some ⟨b.p, 0, none⟩), iN .i64 x, iN .i64 (ps.getD 1 0), iN .i64 (ps.getD 0 0)]) (fun _ => by kernel_rfl) (fun _ _ => by kernel_rfl) enter154 (fun _ => by kernel_rfl) (fun w' _ h0 => (half_any h0 hok13 hm h hme hx (hps 1 (by omega)) (hps 0 (by omega)) (by omega)).mono (by rintro e w2 ⟨e1, e2⟩; exact ⟨0, e1, e2.ha.sub (List.Sublist.cons_cons _ (List.nil_sublist _)), e2⟩))) ?_
    exact AllGhost.nil
  intro g w15 gg16
  have h17 := gg16.held
  rw [if_pos rfl] at h17
  clear gg16
  generalize g 11 = n18 at h17 ⊢
  clear g
  have hW19 : WH z b m (halfS es (halfS es (ruleS st x ps) x (ps.getD 0 0) (ps.getD 1 0)) x (ps.getD 1 0) (ps.getD 0 0)) ((q1, 207, #[iN .i64 k, iN .i64 n, .string s, .slice (some ⟨pb, 0, none⟩) ps.length ps.length]) :: L) w15 := h17
  have hok20 := (half_ok hok13 es hx (ps.getD 1 0) (ps.getD 0 0)).1
  have hszhok20 := (half_ok hok13 es hx (ps.getD 1 0) (ps.getD 0 0)).2
  refine block_normal ?_
  exact bodyPost_end (v := .tuple #[]) ky rfl ⟨rfl, by rw [madeS, if_pos hk, if_pos hn0]; exact WH.sub hW19 (List.sublist_append_right [(q1, 207, #[iN .i64 k, iN .i64 n, .string s, .slice (some ⟨pb, 0, none⟩) ps.length ps.length])] L)⟩
set_option maxRecDepth 100000 in
set_option maxHeartbeats 2000000 in
theorem made_dh1 {z : Base} {b : Wb} {m : Nat} {st : St} {L : BL} {w : World} (H : WH z b m st L w) (hok : Wok m st) (hm : m ≤ 100000) {t : Tb} {es : List Ent} (h : TV z.w t es) (hme : m = es.length) {x k n : Nat} {s : ByteArray} {ps : List Nat} {pb : Nat} (hx : x < m) (hpb : Blk z.w pb 3 (intc ps)) (hps : ∀ j, j < ps.length → ps.getD j 0 < m) (hpl : ps.length ≤ 100) (hs : siz st + 200 ≤ 1000000) (hk : k = 4) (hl : ps.length = 2) (hn0 : ¬ n = 0) :
    Calls Tryz.prog 125 #[pt t.q, pt b.p, iN .i64 x, mkv k n s pb ps.length] w fun e w' => e = .returned (.tuple #[]) ∧ WH z b m (madeS es st x k n ps) L w' := by
  go_enter Tryz.func125, Tryz.ntmps125
  refine wp_seq (wl_region ?_)
  refine wl_makeW (c := #[iN .i64 k, iN .i64 n, .string s, .slice (some ⟨pb, 0, none⟩) ps.length ps.length]) H 207 ky ky ?_
  intro q1 w2 (hW3 : WH z b m st ((q1, 207, #[iN .i64 k, iN .i64 n, .string s, .slice (some ⟨pb, 0, none⟩) ps.length ps.length]) :: L) w2)
  refine wl_nil (then_at rfl (wp_seq (wl_region ?_)))
  refine zv (.pointer (some ⟨b.p, 0, none⟩)) ?_
  refine zv (iN .i64 x) ?_
  refine zv (.pointer (some ⟨q1, 3, none⟩)) ?_
  refine zu (.slice (some ⟨pb, 0, none⟩) ps.length ps.length) (run_load1 (fun w => Tryz.isAgg81 w) ky (((hW3.ha.get 0 rfl).cell 3).trans rfl)) ?_
  refine wl_callx ky enter124 #[.pointer (some ⟨b.p, 0, none⟩), iN .i64 x, .slice (some ⟨pb, 0, none⟩) ps.length ps.length] ky (rule_any hW3 hok hx hm ps _ ps.length (.inr ⟨pb, intc ps, rfl, .inr hpb, fun j hj => intc_get ps j hj⟩) (fun j hj => hps j hj) (by omega)) ?_
  rintro _ w5 ⟨rfl, hW4⟩
  refine ⟨_, rfl, ?_⟩
  have hok6 := ruleS_ok hok hx ps
  have hszhok6 := siz_rule st x ps
  refine wl_nil (then_at rfl (wp_seq (wl_region ?_)))
  refine zv (.pointer (some ⟨q1, 0, none⟩)) ?_
  refine zu (iN .i64 k) (run_load1 (fun w => Tryz.isAgg3 w) ky (((hW4.ha.get 0 rfl).cell 0).trans rfl)) ?_
  refine wl_nil (then_at rfl (wp_block (wp_seq (wl_region ?_))))
  refine zu (.bool true) (run_eqi (k := .i64) (a := k) (b := 4) ky ky true (decide_eq_true (by omega))) ?_
  refine zv (.bool true) ?_
  refine wl_nil (then_at rfl ?_)
  refine wp_cond_true ky ?_
  refine wp_seq (wl_region ?_)
  refine zv (.pointer (some ⟨q1, 1, none⟩)) ?_
  refine zu (iN .i64 n) (run_load1 (fun w => Tryz.isAgg3 w) ky (((hW4.ha.get 0 rfl).cell 1).trans rfl)) ?_
  refine zu (.bool false) (run_eqi (k := .i64) (a := n) (b := 0) ky ky false (decide_eq_false hn0)) ?_
  refine wl_nil (then_at rfl ?_)
  refine wp_cond_false ky ?_
  refine wp_skip (block_normal ?_)
  exact bodyPost_end (v := .tuple #[]) ky rfl ⟨rfl, by rw [madeS, if_pos hk, if_neg hn0]; exact WH.sub hW4 (List.sublist_append_right [(q1, 207, #[iN .i64 k, iN .i64 n, .string s, .slice (some ⟨pb, 0, none⟩) ps.length ps.length])] L)⟩
set_option maxRecDepth 100000 in
set_option maxHeartbeats 2000000 in
theorem made_enc {z : Base} {b : Wb} {m : Nat} {st : St} {L : BL} {w : World} (H : WH z b m st L w) (hok : Wok m st) (hm : m ≤ 100000) {t : Tb} {es : List Ent} (h : TV z.w t es) (hme : m = es.length) {x k n : Nat} {s : ByteArray} {ps : List Nat} {pb : Nat} (hx : x < m) (hpb : Blk z.w pb 3 (intc ps)) (hps : ∀ j, j < ps.length → ps.getD j 0 < m) (hpl : ps.length ≤ 100) (hs : siz st + 200 ≤ 1000000) (hk : k = 6) (hl : ps.length = 4) :
    Calls Tryz.prog 125 #[pt t.q, pt b.p, iN .i64 x, mkv k n s pb ps.length] w fun e w' => e = .returned (.tuple #[]) ∧ WH z b m (madeS es st x k n ps) L w' := by
  go_enter Tryz.func125, Tryz.ntmps125
  refine wp_seq (wl_region ?_)
  refine wl_makeW (c := #[iN .i64 k, iN .i64 n, .string s, .slice (some ⟨pb, 0, none⟩) ps.length ps.length]) H 207 ky ky ?_
  intro q1 w2 (hW3 : WH z b m st ((q1, 207, #[iN .i64 k, iN .i64 n, .string s, .slice (some ⟨pb, 0, none⟩) ps.length ps.length]) :: L) w2)
  refine wl_nil (then_at rfl (wp_seq (wl_region ?_)))
  refine zv (.pointer (some ⟨b.p, 0, none⟩)) ?_
  refine zv (iN .i64 x) ?_
  refine zv (.pointer (some ⟨q1, 3, none⟩)) ?_
  refine zu (.slice (some ⟨pb, 0, none⟩) ps.length ps.length) (run_load1 (fun w => Tryz.isAgg81 w) ky (((hW3.ha.get 0 rfl).cell 3).trans rfl)) ?_
  refine wl_callx ky enter124 #[.pointer (some ⟨b.p, 0, none⟩), iN .i64 x, .slice (some ⟨pb, 0, none⟩) ps.length ps.length] ky (rule_any hW3 hok hx hm ps _ ps.length (.inr ⟨pb, intc ps, rfl, .inr hpb, fun j hj => intc_get ps j hj⟩) (fun j hj => hps j hj) (by omega)) ?_
  rintro _ w5 ⟨rfl, hW4⟩
  refine ⟨_, rfl, ?_⟩
  have hok6 := ruleS_ok hok hx ps
  have hszhok6 := siz_rule st x ps
  refine wl_nil (then_at rfl (wp_seq (wl_region ?_)))
  refine zv (.pointer (some ⟨q1, 0, none⟩)) ?_
  refine zu (iN .i64 k) (run_load1 (fun w => Tryz.isAgg3 w) ky (((hW4.ha.get 0 rfl).cell 0).trans rfl)) ?_
  refine wl_nil (then_at rfl (wp_block (wp_seq (wl_region ?_))))
  refine zu (.bool false) (run_eqi (k := .i64) (a := k) (b := 4) ky ky false (decide_eq_false (by omega))) ?_
  refine zv (.bool false) ?_
  refine wl_nil (then_at rfl ?_)
  refine wp_cond_false ky ?_
  refine wp_seq (wl_region ?_)
  refine zu (.bool true) (run_eqi (k := .i64) (a := k) (b := 6) ky ky true (decide_eq_true (by omega))) ?_
  refine zv (.bool true) ?_
  refine wl_nil (then_at rfl ?_)
  refine wp_cond_true ky ?_
  refine wp_region_ghost (fun g : Nat → Nat => (⟨(pt t.q :: pt b.p :: iN .i64 x :: .agg #[iN .i64 k, iN .i64 n, .string s, .slice (some ⟨pb, 0, none⟩) ps.length ps.length] :: un :: un :: un :: pt q1 :: pt b.p :: iN .i64 x :: .pointer (some ⟨q1, 3, none⟩) :: .slice (some ⟨pb, 0, none⟩) ps.length ps.length :: .tuple #[] :: pt q1 :: iN .i64 k :: .bool false :: .bool false :: un :: un :: un :: un :: un :: un :: un :: un :: un :: un :: un :: un :: un :: un :: un :: un :: un :: un :: un :: un :: un :: un :: un :: un :: un :: un :: un :: .bool true :: .bool true :: pt b.p :: .pointer (some ⟨q1, 3, none⟩) :: .slice (some ⟨pb, 0, none⟩) ps.length ps.length :: .pointer (some ⟨pb, 3, none⟩) :: iN .i64 (ps.getD 3 0) :: iN .i64 x :: .pointer (some ⟨q1, 3, none⟩) :: .slice (some ⟨pb, 0, none⟩) ps.length ps.length :: pt pb :: iN .i64 (ps.getD 0 0) :: .slice (some ⟨g 10, 0, none⟩) 2 2 :: List.replicate 11 un).toArray, []⟩ : Act)) (G2 (HA z [(q1, 207, #[iN .i64 k, iN .i64 n, .string s, .slice (some ⟨pb, 0, none⟩) ps.length ps.length])]) (fun w' => WH z b m (ruleS st x ps) ((q1, 207, #[iN .i64 k, iN .i64 n, .string s, .slice (some ⟨pb, 0, none⟩) ps.length ps.length]) :: L) w') (fun nz w' => WH z b m (ruleS st x ps) ((nz, 3, intc [x, ps.getD 0 0]) :: ((q1, 207, #[iN .i64 k, iN .i64 n, .string s, .slice (some ⟨pb, 0, none⟩) ps.length ps.length]) :: L)) w') (fun nz w' => WH z b m (ruleS (ruleS st x ps) (ps.getD 3 0) [x, ps.getD 0 0]) ((nz, 3, intc [x, ps.getD 0 0]) :: ((q1, 207, #[iN .i64 k, iN .i64 n, .string s, .slice (some ⟨pb, 0, none⟩) ps.length ps.length]) :: L)) w') (fun i => ([[], [], [], [], [], [], [], [], [], [], [], [10]] : List (List Nat)).getD i []) 10 11) [.pointer (some ⟨b.p, 0, none⟩), .pointer (some ⟨q1, 3, none⟩), .slice (some ⟨pb, 0, none⟩) ps.length ps.length, .pointer (some ⟨pb, 3, none⟩), iN .i64 (ps.getD 3 0), iN .i64 x, .pointer (some ⟨q1, 3, none⟩), .slice (some ⟨pb, 0, none⟩) ps.length ps.length, .pointer (some ⟨pb, 0, none⟩), iN .i64 (ps.getD 0 0), .slice (some ⟨0, 0, none⟩) 2 2, undef] ky ky ky ky (fun _ _ _ _ h => h) (fun d hd => G2.start (hW4.ha.sub (List.Sublist.cons_cons _ (List.nil_sublist _))).drew (WH.drew hW4) (hd 10 (by decide)) (hd 11 (by decide)) (Cl.start (n := 12) hd (by decide))) ?_ ?_
  · refine AllGhost.cons (g2_read (v := fun g => .pointer (some ⟨b.p, 0, none⟩)) (by decide) (by decide) ky (fun _ => by kernel_rfl) (fun _ => by kernel_rfl) (fun g _ _ => ky)) ?_
    refine AllGhost.cons (g2_read (v := fun g => .pointer (some ⟨q1, 3, none⟩)) (by decide) (by decide) ky (fun _ => by kernel_rfl) (fun _ => by kernel_rfl) (fun g _ _ => ky)) ?_
    refine AllGhost.cons (g2_read (v := fun g => .slice (some ⟨pb, 0, none⟩) ps.length ps.length) (by decide) (by decide) ky (fun _ => by kernel_rfl) (fun _ => by kernel_rfl) (fun g w' h' => run_load1 (fun w => Tryz.isAgg81 w) ky (((h'.get 0 rfl).cell 3).trans rfl))) ?_
    refine AllGhost.cons (g2_read (v := fun g => .pointer (some ⟨pb, 3, none⟩)) (by decide) (by decide) ky (fun _ => by kernel_rfl) (fun _ => by kernel_rfl) (fun g _ _ => (run_addr_slice (q := pb) (n := ps.length) (m := ps.length) (a := 3) Tryz.underlying81 (fun w => Tryz.sizeOf3 w) ky ky (by omega)))) ?_
    refine AllGhost.cons (g2_read (v := fun g => iN .i64 (ps.getD 3 0)) (by decide) (by decide) ky (fun _ => by kernel_rfl) (fun _ => by kernel_rfl) (fun g w' h' => run_load1 (fun w => Tryz.isAgg3 w) ky (((hpb.keep h'.old.old).cell 3).trans (intc_get ps 3 (by omega))))) ?_
    refine AllGhost.cons (g2_read (v := fun g => iN .i64 x) (by decide) (by decide) ky (fun _ => by kernel_rfl) (fun _ => by kernel_rfl) (fun g _ _ => ky)) ?_
    refine AllGhost.cons (g2_read (v := fun g => .pointer (some ⟨q1, 3, none⟩)) (by decide) (by decide) ky (fun _ => by kernel_rfl) (fun _ => by kernel_rfl) (fun g _ _ => ky)) ?_
    refine AllGhost.cons (g2_read (v := fun g => .slice (some ⟨pb, 0, none⟩) ps.length ps.length) (by decide) (by decide) ky (fun _ => by kernel_rfl) (fun _ => by kernel_rfl) (fun g w' h' => run_load1 (fun w => Tryz.isAgg81 w) ky (((h'.get 0 rfl).cell 3).trans rfl))) ?_
    refine AllGhost.cons (g2_read (v := fun g => .pointer (some ⟨pb, 0, none⟩)) (by decide) (by decide) ky (fun _ => by kernel_rfl) (fun _ => by kernel_rfl) (fun g _ _ => (run_addr_slice (q := pb) (n := ps.length) (m := ps.length) (a := 0) Tryz.underlying81 (fun w => Tryz.sizeOf3 w) ky ky (by omega)))) ?_
    refine AllGhost.cons (g2_read (v := fun g => iN .i64 (ps.getD 0 0)) (by decide) (by decide) ky (fun _ => by kernel_rfl) (fun _ => by kernel_rfl) (fun g w' h' => run_load1 (fun w => Tryz.isAgg3 w) ky (((hpb.keep h'.old.old).cell 0).trans (intc_get ps 0 (by omega))))) ?_
    refine AllGhost.cons (g2_act0 (v := fun n => .slice (some ⟨n, 0, none⟩) 2 2) (by decide) (fun d hc hm => hm 10 (by decide)) ky (fun _ => by kernel_rfl) (fun _ _ => by kernel_rfl) (fun g w' hr h' => ⟨w'.heap.size, _, (by kernel_rfl : (execOp _ _).run Tryz.prog w' = .ok (.value (.slice (some ⟨w'.heap.size, 0, none⟩) 2 2)) (w'.alloc (.cells (intc [x, ps.getD 0 0]) 3))), (WH.make h' 3 (intc [x, ps.getD 0 0])).ha.sub (List.Sublist.cons _ (List.Sublist.cons_cons _ (List.nil_sublist _))), WH.make h' 3 (intc [x, ps.getD 0 0])⟩)) ?_
    refine AllGhost.cons (g2_call1 (v := .tuple #[]) (args := fun g => #[.pointer (some ⟨b.p, 0, none⟩), iN .i64 (ps.getD 3 0), .slice (some ⟨g 10, 0, none⟩) 2 2]) (fun d hc hm => hm 10 (by decide)) ky (fun _ => by kernel_rfl) (fun _ => by kernel_rfl) enter124 (fun _ => by kernel_rfl) (fun g w' hr h' => (rule_any h' hok6 (hps 3 (by omega)) hm [x, ps.getD 0 0] _ 2 (.inr ⟨g 10, intc [x, ps.getD 0 0], rfl, .inl (List.mem_cons_self ..), fun j hj => intc_get _ j hj⟩) (fun j hj => getD_lt (m := m) (by intro y hy; have := hps 0 (by omega); simp only [List.mem_cons, List.not_mem_nil, or_false] at hy; omega) (by omega) j) (by simp only [List.length_cons, List.length_nil]; omega)).mono (by rintro e w2 ⟨e1, e2⟩; exact ⟨e1, e2.ha.sub (List.Sublist.cons _ (List.Sublist.cons_cons _ (List.nil_sublist _))), e2⟩))) ?_
    exact AllGhost.nil
  intro g w7 gg8
  have h9 := gg8.held
  rw [if_pos rfl] at h9
  clear gg8
  generalize g 10 = n10 at h9 ⊢
  clear g
  have hW11 : WH z b m (ruleS (ruleS st x ps) (ps.getD 3 0) [x, ps.getD 0 0]) ((n10, 3, intc [x, ps.getD 0 0]) :: (q1, 207, #[iN .i64 k, iN .i64 n, .string s, .slice (some ⟨pb, 0, none⟩) ps.length ps.length]) :: L) w7 := h9
  refine block_normal ?_
  exact bodyPost_end (v := .tuple #[]) ky rfl ⟨rfl, by rw [madeS, if_neg (by omega), if_pos hk]; exact WH.sub hW11 (List.sublist_append_right [(n10, 3, intc [x, ps.getD 0 0]), (q1, 207, #[iN .i64 k, iN .i64 n, .string s, .slice (some ⟨pb, 0, none⟩) ps.length ps.length])] L)⟩
set_option maxRecDepth 100000 in
set_option maxHeartbeats 2000000 in
theorem made_sig {z : Base} {b : Wb} {m : Nat} {st : St} {L : BL} {w : World} (H : WH z b m st L w) (hok : Wok m st) (hm : m ≤ 100000) {t : Tb} {es : List Ent} (h : TV z.w t es) (hme : m = es.length) {x k n : Nat} {s : ByteArray} {ps : List Nat} {pb : Nat} (hx : x < m) (hpb : Blk z.w pb 3 (intc ps)) (hps : ∀ j, j < ps.length → ps.getD j 0 < m) (hpl : ps.length ≤ 100) (hs : siz st + 200 ≤ 1000000) (hk : k = 7) (hl : ps.length = 2) :
    Calls Tryz.prog 125 #[pt t.q, pt b.p, iN .i64 x, mkv k n s pb ps.length] w fun e w' => e = .returned (.tuple #[]) ∧ WH z b m (madeS es st x k n ps) L w' := by
  go_enter Tryz.func125, Tryz.ntmps125
  refine wp_seq (wl_region ?_)
  refine wl_makeW (c := #[iN .i64 k, iN .i64 n, .string s, .slice (some ⟨pb, 0, none⟩) ps.length ps.length]) H 207 ky ky ?_
  intro q1 w2 (hW3 : WH z b m st ((q1, 207, #[iN .i64 k, iN .i64 n, .string s, .slice (some ⟨pb, 0, none⟩) ps.length ps.length]) :: L) w2)
  refine wl_nil (then_at rfl (wp_seq (wl_region ?_)))
  refine zv (.pointer (some ⟨b.p, 0, none⟩)) ?_
  refine zv (iN .i64 x) ?_
  refine zv (.pointer (some ⟨q1, 3, none⟩)) ?_
  refine zu (.slice (some ⟨pb, 0, none⟩) ps.length ps.length) (run_load1 (fun w => Tryz.isAgg81 w) ky (((hW3.ha.get 0 rfl).cell 3).trans rfl)) ?_
  refine wl_callx ky enter124 #[.pointer (some ⟨b.p, 0, none⟩), iN .i64 x, .slice (some ⟨pb, 0, none⟩) ps.length ps.length] ky (rule_any hW3 hok hx hm ps _ ps.length (.inr ⟨pb, intc ps, rfl, .inr hpb, fun j hj => intc_get ps j hj⟩) (fun j hj => hps j hj) (by omega)) ?_
  rintro _ w5 ⟨rfl, hW4⟩
  refine ⟨_, rfl, ?_⟩
  have hok6 := ruleS_ok hok hx ps
  have hszhok6 := siz_rule st x ps
  refine wl_nil (then_at rfl (wp_seq (wl_region ?_)))
  refine zv (.pointer (some ⟨q1, 0, none⟩)) ?_
  refine zu (iN .i64 k) (run_load1 (fun w => Tryz.isAgg3 w) ky (((hW4.ha.get 0 rfl).cell 0).trans rfl)) ?_
  refine wl_nil (then_at rfl (wp_block (wp_seq (wl_region ?_))))
  refine zu (.bool false) (run_eqi (k := .i64) (a := k) (b := 4) ky ky false (decide_eq_false (by omega))) ?_
  refine zv (.bool false) ?_
  refine wl_nil (then_at rfl ?_)
  refine wp_cond_false ky ?_
  refine wp_seq (wl_region ?_)
  refine zu (.bool false) (run_eqi (k := .i64) (a := k) (b := 6) ky ky false (decide_eq_false (by omega))) ?_
  refine zv (.bool false) ?_
  refine wl_nil (then_at rfl ?_)
  refine wp_cond_false ky ?_
  refine wp_seq (wl_region ?_)
  refine zu (.bool true) (run_eqi (k := .i64) (a := k) (b := 7) ky ky true (decide_eq_true (by omega))) ?_
  refine zv (.bool true) ?_
  refine wl_nil (then_at rfl ?_)
  refine wp_cond_true ky ?_
  refine wl_region ?_
  refine zv (.pointer (some ⟨b.p, 0, none⟩)) ?_
  refine zv (.pointer (some ⟨q1, 3, none⟩)) ?_
  refine zu (.slice (some ⟨pb, 0, none⟩) ps.length ps.length) (run_load1 (fun w => Tryz.isAgg81 w) ky (((hW4.ha.get 0 rfl).cell 3).trans rfl)) ?_
  refine zu (.pointer (some ⟨pb, 1, none⟩)) (run_addr_slice (q := pb) (n := ps.length) (m := ps.length) (a := 1) Tryz.underlying81 (fun w => Tryz.sizeOf3 w) ky ky (by omega)) ?_
  refine zu (iN .i64 (ps.getD 1 0)) (run_load1 (fun w => Tryz.isAgg3 w) ky (((hpb.keep hW4.ha.old.old).cell 1).trans (intc_get ps 1 (by omega)))) ?_
  refine zv (iN .i64 x) ?_
  refine wl_mksW (n := 1) (k := 1) (c := intc [x]) hW4 3 ky ky ?_
  intro q7 w8 (hW9 : WH z b m (ruleS st x ps) ((q7, 3, intc [x]) :: (q1, 207, #[iN .i64 k, iN .i64 n, .string s, .slice (some ⟨pb, 0, none⟩) ps.length ps.length]) :: L) w8)
  refine wl_callx ky enter124 #[.pointer (some ⟨b.p, 0, none⟩), iN .i64 (ps.getD 1 0), .slice (some ⟨q7, 0, none⟩) 1 1] ky (rule_any hW9 hok6 (hps 1 (by omega)) hm [x] _ 1 (.inr ⟨q7, intc [x], rfl, .inl (by simp), fun j hj => intc_get _ j hj⟩) (fun j hj => getD_lt (m := m) (by intro y hy; simp only [List.mem_cons, List.not_mem_nil, or_false] at hy; omega) (by omega) j) (by simp only [List.length_cons, List.length_nil]; omega)) ?_
  rintro _ w11 ⟨rfl, hW10⟩
  refine ⟨_, rfl, ?_⟩
  have hok12 := ruleS_ok hok6 (hps 1 (by omega)) [x]
  have hszhok12 := siz_rule (ruleS st x ps) (ps.getD 1 0) [x]
  refine wl_nil (block_normal ?_)
  exact bodyPost_end (v := .tuple #[]) ky rfl ⟨rfl, by rw [madeS, if_neg (by omega), if_neg (by omega), if_pos hk]; exact WH.sub hW10 (List.sublist_append_right [(q7, 3, intc [x]), (q1, 207, #[iN .i64 k, iN .i64 n, .string s, .slice (some ⟨pb, 0, none⟩) ps.length ps.length])] L)⟩
set_option maxRecDepth 100000 in
set_option maxHeartbeats 2000000 in
theorem made_oth {z : Base} {b : Wb} {m : Nat} {st : St} {L : BL} {w : World} (H : WH z b m st L w) (hok : Wok m st) (hm : m ≤ 100000) {t : Tb} {es : List Ent} (h : TV z.w t es) (hme : m = es.length) {x k n : Nat} {s : ByteArray} {ps : List Nat} {pb : Nat} (hx : x < m) (hpb : Blk z.w pb 3 (intc ps)) (hps : ∀ j, j < ps.length → ps.getD j 0 < m) (hpl : ps.length ≤ 100) (hs : siz st + 200 ≤ 1000000) (hk : k ≠ 4 ∧ k ≠ 6 ∧ k ≠ 7) :
    Calls Tryz.prog 125 #[pt t.q, pt b.p, iN .i64 x, mkv k n s pb ps.length] w fun e w' => e = .returned (.tuple #[]) ∧ WH z b m (madeS es st x k n ps) L w' := by
  go_enter Tryz.func125, Tryz.ntmps125
  refine wp_seq (wl_region ?_)
  refine wl_makeW (c := #[iN .i64 k, iN .i64 n, .string s, .slice (some ⟨pb, 0, none⟩) ps.length ps.length]) H 207 ky ky ?_
  intro q1 w2 (hW3 : WH z b m st ((q1, 207, #[iN .i64 k, iN .i64 n, .string s, .slice (some ⟨pb, 0, none⟩) ps.length ps.length]) :: L) w2)
  refine wl_nil (then_at rfl (wp_seq (wl_region ?_)))
  refine zv (.pointer (some ⟨b.p, 0, none⟩)) ?_
  refine zv (iN .i64 x) ?_
  refine zv (.pointer (some ⟨q1, 3, none⟩)) ?_
  refine zu (.slice (some ⟨pb, 0, none⟩) ps.length ps.length) (run_load1 (fun w => Tryz.isAgg81 w) ky (((hW3.ha.get 0 rfl).cell 3).trans rfl)) ?_
  refine wl_callx ky enter124 #[.pointer (some ⟨b.p, 0, none⟩), iN .i64 x, .slice (some ⟨pb, 0, none⟩) ps.length ps.length] ky (rule_any hW3 hok hx hm ps _ ps.length (.inr ⟨pb, intc ps, rfl, .inr hpb, fun j hj => intc_get ps j hj⟩) (fun j hj => hps j hj) (by omega)) ?_
  rintro _ w5 ⟨rfl, hW4⟩
  refine ⟨_, rfl, ?_⟩
  have hok6 := ruleS_ok hok hx ps
  have hszhok6 := siz_rule st x ps
  refine wl_nil (then_at rfl (wp_seq (wl_region ?_)))
  refine zv (.pointer (some ⟨q1, 0, none⟩)) ?_
  refine zu (iN .i64 k) (run_load1 (fun w => Tryz.isAgg3 w) ky (((hW4.ha.get 0 rfl).cell 0).trans rfl)) ?_
  refine wl_nil (then_at rfl (wp_block (wp_seq (wl_region ?_))))
  refine zu (.bool false) (run_eqi (k := .i64) (a := k) (b := 4) ky ky false (decide_eq_false (by omega))) ?_
  refine zv (.bool false) ?_
  refine wl_nil (then_at rfl ?_)
  refine wp_cond_false ky ?_
  refine wp_seq (wl_region ?_)
  refine zu (.bool false) (run_eqi (k := .i64) (a := k) (b := 6) ky ky false (decide_eq_false (by omega))) ?_
  refine zv (.bool false) ?_
  refine wl_nil (then_at rfl ?_)
  refine wp_cond_false ky ?_
  refine wp_seq (wl_region ?_)
  refine zu (.bool false) (run_eqi (k := .i64) (a := k) (b := 7) ky ky false (decide_eq_false (by omega))) ?_
  refine zv (.bool false) ?_
  refine wl_nil (then_at rfl ?_)
  refine wp_cond_false ky ?_
  refine wp_skip (block_normal ?_)
  exact bodyPost_end (v := .tuple #[]) ky rfl ⟨rfl, by rw [madeS, if_neg (by omega), if_neg (by omega), if_neg (by omega)]; exact WH.sub hW4 (List.sublist_append_right [(q1, 207, #[iN .i64 k, iN .i64 n, .string s, .slice (some ⟨pb, 0, none⟩) ps.length ps.length])] L)⟩
end Go.Proofs.YtcjjbpbehapjpaaGreat

namespace Go.Proofs.YtcjjbpbehapjpaaGreat
open Go.RowKit

theorem Within_any {w : World} {t : Tb} {es : List Ent} (h : TV w t es) (hm : es.length ≤ 65536) {m0 : Int} (hv : w.cell? ⟨0, 0, none⟩ = some (.int .i64 m0)) (s : ByteArray) (hs : s.size ≤ 1000000) :
    Calls Tryz.prog 27 #[pt t.q, .string s] w fun e w' => ∃ o c, e = .returned (.slice o (wth es.length s).length c) ∧ RI w.heap.size w' o (wth es.length s) ∧ Below w.heap.size w w' := by
  obtain ⟨v, hq, h2⟩ := h.row
  obtain ⟨p, c, rfl⟩ : ∃ p c, v = .slice p es.length c := by
    rcases h2 with ⟨rfl, h2⟩ | ⟨g, cap, cur, h2, _⟩
    · exact ⟨_, _, h2⟩
    · exact ⟨_, _, h2⟩
  exact Within_blk hq hm hv s hs
theorem WH.ri {z : Base} {b : Wb} {m : Nat} {st : St} {L : BL} {w w' : World} {o : Option Addr} {ps : List Nat} (h : WH z b m st L w) (hb : Below w.heap.size w w') (hr : RI w.heap.size w' o ps) : ∃ L1, WH z b m st (L1 ++ L) w' ∧ Rd3 z (L1 ++ L) o ps := by
  rcases hr with hr | ⟨q, c, h1, h2, h3, h4⟩
  · exact ⟨[], h.keep hb, .inl hr⟩
  · exact ⟨[(q, 3, c)], h.add hb h2 h3, .inr ⟨q, c, h1, .inl (by simp), h4⟩⟩
def dtS (st : St) (x : Nat) (wi : List Nat) (i : Nat) : St := (wi.take i).foldl (fun st y => ruleS st y [x]) (ruleS st x wi)
theorem dtS_ok {m : Nat} {st : St} (h : Wok m st) {x : Nat} (hx : x < m) (wi : List Nat) (hwi : ∀ y ∈ wi, y < m) : ∀ i, i ≤ wi.length → Wok m (dtS st x wi i) ∧ siz (dtS st x wi i) ≤ siz st + wi.length + 1 + 2 * i
  | 0, _ => ⟨ruleS_ok h hx wi, siz_rule st x wi⟩
  | i + 1, hi => by
    obtain ⟨h1, h2⟩ := dtS_ok h hx wi hwi i (by omega)
    have e : dtS st x wi (i + 1) = ruleS (dtS st x wi i) (wi.getD i 0) [x] := foldl_take_succ wi i (by omega)
    rw [e]
    have hy : wi.getD i 0 < m := hwi _ (by rw [List.getD_eq_getElem?_getD, List.getElem?_eq_getElem (by omega)]; exact List.getElem_mem _)
    have := siz_rule (dtS st x wi i) (wi.getD i 0) [x]
    simp only [List.length_cons, List.length_nil] at this
    exact ⟨ruleS_ok h1 hy _, by omega⟩
theorem wth_lt (m : Nat) (s : ByteArray) : ∀ y ∈ wth m s, y < m := fun y hy => by
  unfold wth at hy
  exact List.mem_range.1 (List.mem_filter.1 hy).1
theorem wth_len (m : Nat) (s : ByteArray) : (wth m s).length ≤ m := by
  unfold wth
  exact Nat.le_trans (List.length_filter_le _ _) (by simp)
set_option maxRecDepth 100000 in
set_option maxHeartbeats 2000000 in
theorem lay_nm {z : Base} {b : Wb} {m : Nat} {st : St} {L : BL} {w : World} (H : WH z b m st L w) (hok : Wok m st) (hm4 : m ≤ 400) {t : Tb} {es : List Ent} (h : TV z.w t es) (hme : m = es.length) (hwf : Wf es) (hwg : Wg es) {m0 : Int} (hv : z.w.cell? ⟨0, 0, none⟩ = some (.int .i64 m0)) {x : Nat} (hx : x < m) (hs : siz st + 1500 ≤ 1000000) {y : Nat} :
    Calls Tryz.prog 74 #[pt t.q, pt b.p, iN .i64 x, .iface 202 (.agg #[iN .i64 y])] w fun e w' => e = .returned (.tuple #[]) ∧ WH z b m (st) L w' := by
  have hm : m ≤ 100000 := by omega
  go_enter Tryz.func74, Tryz.ntmps74
  refine wp_seq (wl_region ?_)
  refine zv (.iface 202 (.agg #[iN .i64 y])) ?_
  refine wl_nil (then_at rfl (wp_block (wp_seq (wl_region ?_))))
  refine zv (.tuple #[.agg #[iN .i64 y], .bool true]) ?_
  refine zv (.bool true) ?_
  refine zv (.agg #[iN .i64 y]) ?_
  refine wl_nil (then_at rfl ?_)
  refine wp_cond_true ky ?_
  refine wl_region ?_
  refine wl_makeW (c := #[iN .i64 0]) H 202 ky ky ?_
  intro q1 w2 (hW3 : WH z b m st ((q1, 202, #[iN .i64 0]) :: L) w2)
  refine wl_fillW (c' := #[iN .i64 y]) hW3 ky ky ky rfl ky ky ?_
  intro w4 (hW5 : WH z b m st ((q1, 202, #[iN .i64 y]) :: L) w4)
  refine wl_nil (block_normal ?_)
  exact bodyPost_end (v := .tuple #[]) ky rfl ⟨rfl, WH.sub hW5 (List.sublist_append_right [(q1, 202, #[iN .i64 y])] L)⟩
set_option maxRecDepth 100000 in
set_option maxHeartbeats 2000000 in
theorem lay_dt {z : Base} {b : Wb} {m : Nat} {st : St} {L : BL} {w : World} (H : WH z b m st L w) (hok : Wok m st) (hm4 : m ≤ 400) {t : Tb} {es : List Ent} (h : TV z.w t es) (hme : m = es.length) (hwf : Wf es) (hwg : Wg es) {m0 : Int} (hv : z.w.cell? ⟨0, 0, none⟩ = some (.int .i64 m0)) {x : Nat} (hx : x < m) (hs : siz st + 1500 ≤ 1000000) {s : ByteArray} (hsz : s.size ≤ 1000000) :
    Calls Tryz.prog 74 #[pt t.q, pt b.p, iN .i64 x, .iface 204 (.agg #[.string s])] w fun e w' => e = .returned (.tuple #[]) ∧ WH z b m (layS es st x (.dt s)) L w' := by
  have hm : m ≤ 100000 := by omega
  go_enter Tryz.func74, Tryz.ntmps74
  refine wp_seq (wl_region ?_)
  refine zv (.iface 204 (.agg #[.string s])) ?_
  refine wl_nil (then_at rfl (wp_block (wp_seq (wl_region ?_))))
  refine zv (.tuple #[.agg #[iN .i64 0], .bool false]) ?_
  refine zv (.bool false) ?_
  refine zv (.agg #[iN .i64 0]) ?_
  refine wl_nil (then_at rfl ?_)
  refine wp_cond_false ky ?_
  refine wp_seq (wl_region ?_)
  refine zv (.tuple #[.agg #[.string s], .bool true]) ?_
  refine zv (.bool true) ?_
  refine zv (.agg #[.string s]) ?_
  refine wl_nil (then_at rfl ?_)
  refine wp_cond_true ky ?_
  refine wp_seq (wl_region ?_)
  refine wl_makeW (c := #[.string ({ data := #[] })]) H 204 ky ky ?_
  intro q1 w2 (hW3 : WH z b m st ((q1, 204, #[.string ({ data := #[] })]) :: L) w2)
  refine wl_fillW (c' := #[.string s]) hW3 ky ky ky rfl ky ky ?_
  intro w4 (hW5 : WH z b m st ((q1, 204, #[.string s]) :: L) w4)
  refine wl_nil (then_at rfl (wp_seq (wl_region ?_)))
  refine zv (.pointer (some ⟨t.q, 0, none⟩)) ?_
  refine zv (.pointer (some ⟨q1, 0, none⟩)) ?_
  refine zu (.string s) (run_load1 (fun w => Tryz.isAgg9 w) ky (((hW5.ha.get 0 rfl).cell 0).trans rfl)) ?_
  refine wl_callx ky enter27 #[.pointer (some ⟨t.q, 0, none⟩), .string s] ky (Within_any (h.keep hW5.ha.old.old) (by omega) (cell_below hW5.ha.old.old hv) s hsz) ?_
  rintro _ w6 ⟨ow, cw, rfl, hri, hbw⟩
  refine ⟨_, rfl, ?_⟩
  obtain ⟨L1, hW1, hRd⟩ := WH.ri hW5 hbw hri
  refine zv (.slice ow (wth es.length s).length cw) ?_
  refine wl_nil (then_at rfl (wp_seq (wl_region ?_)))
  refine zv (.pointer (some ⟨b.p, 0, none⟩)) ?_
  refine zv (iN .i64 x) ?_
  refine zv (.slice ow (wth es.length s).length cw) ?_
  refine wl_callx ky enter124 #[.pointer (some ⟨b.p, 0, none⟩), iN .i64 x, .slice ow (wth es.length s).length cw] ky (rule_any hW1 hok hx hm ((wth es.length s)) _ cw hRd (fun j hj => by rw [hme]; exact wth_lt es.length s _ (by rw [List.getD_eq_getElem?_getD, List.getElem?_eq_getElem hj]; exact List.getElem_mem _)) (by have := wth_len es.length s; omega)) ?_
  rintro _ w8 ⟨rfl, hW7⟩
  refine ⟨_, rfl, ?_⟩
  have hok9 := ruleS_ok hok hx ((wth es.length s))
  have hszhok9 := siz_rule st x ((wth es.length s))
  refine wl_nil (then_at rfl (wp_seq (wl_region ?_)))
  refine zv (.slice ow (wth es.length s).length cw) ?_
  refine zv (iN .i64 ((wth es.length s).length)) ?_
  refine zv (iN .i64 0) ?_
  refine wl_nil (then_at rfl ?_)
  have hwl := wth_len es.length s
  refine wp_block ?_
  refine wp_count (fun i A w' => ∃ u10 : Nat → Value, A = ⟨(pt t.q :: pt b.p :: iN .i64 x :: .iface 204 (.agg #[.string s]) :: un :: un :: un :: un :: un :: pt q1 :: .slice ow (wth es.length s).length cw :: un :: u10 12 :: un :: .iface 204 (.agg #[.string s]) :: .tuple #[.agg #[iN .i64 0], .bool false] :: .bool false :: .agg #[iN .i64 0] :: .tuple #[.agg #[.string s], .bool true] :: .bool true :: .agg #[.string s] :: pt t.q :: pt q1 :: .string s :: .slice ow (wth es.length s).length cw :: pt b.p :: iN .i64 x :: .slice ow (wth es.length s).length cw :: .tuple #[] :: .slice ow (wth es.length s).length cw :: iN .i64 ((wth es.length s).length) :: iN .i64 i :: u10 32 :: u10 33 :: u10 34 :: u10 35 :: u10 36 :: u10 37 :: u10 38 :: u10 39 :: u10 40 :: List.replicate 8 un).toArray, []⟩ ∧ WH z b m (dtS st x (wth es.length s) i) ((L1 ++ ((q1, 204, #[.string s]) :: L))) w') ((wth es.length s).length) ?_ ?_ ?_
  · exact ⟨fun ii => (([(12, undef), (32, undef), (33, undef), (34, undef), (35, undef), (36, undef), (37, undef), (38, undef), (39, undef), (40, undef)] : List (Nat × Value)).find? (·.1 == ii)).elim undef (·.2), by kernel_rfl, hW7⟩
  · rintro i hk _ w11 ⟨u10, rfl, hX⟩
    obtain ⟨qw, c0, rfl, hmw, hcw⟩ := hRd.resolve_left (by intro e; rw [e] at hk; simp at hk)
    obtain ⟨hoki, hszi⟩ := dtS_ok hok hx (wth es.length s) (by rw [hme]; exact wth_lt _ _) i (by omega)
    have hyl : (wth es.length s).getD i 0 < m := by rw [hme]; exact wth_lt es.length s _ (by rw [List.getD_eq_getElem?_getD, List.getElem?_eq_getElem hk]; exact List.getElem_mem _)
    have hwl := wth_len es.length s
    refine wp_seq (wl_region ?_)
    refine zu (.bool true) (run_lss (k := .i64) (a := i) (b := (wth es.length s).length) ky ky true (decide_eq_true (by omega))) ?_
    refine wl_nil (then_at rfl (wp_seq ?_))
    refine wp_cond_true ky ?_
    refine wp_skip (then_at rfl (wp_seq (wp_block (wp_seq (wl_region ?_)))))
    refine zu (.pointer (some ⟨qw, i, none⟩)) (run_addr_slice (q := qw) (n := (wth es.length s).length) (m := cw) (a := i) Tryz.underlying81 (fun w => Tryz.sizeOf3 w) ky ky (by omega)) ?_
    refine zu (iN .i64 ((wth es.length s).getD i 0)) (run_load1 (fun w => Tryz.isAgg3 w) ky (((Rd3.cell hmw hX.ha (fun y hy => hy)).cell i).trans (hcw i hk))) ?_
    refine zv (iN .i64 ((wth es.length s).getD i 0)) ?_
    refine wl_nil (then_at rfl (wl_region ?_))
    refine zv (.pointer (some ⟨b.p, 0, none⟩)) ?_
    refine zv (iN .i64 ((wth es.length s).getD i 0)) ?_
    refine zv (iN .i64 x) ?_
    refine wl_mksW (n := 1) (k := 1) (c := intc [x]) hX 3 ky ky ?_
    intro q12 w13 (hW14 : WH z b m (dtS st x (wth es.length s) i) ((q12, 3, intc [x]) :: (L1 ++ ((q1, 204, #[.string s]) :: L))) w13)
    refine wl_callx ky enter124 #[.pointer (some ⟨b.p, 0, none⟩), iN .i64 ((wth es.length s).getD i 0), .slice (some ⟨q12, 0, none⟩) 1 1] ky (rule_any hW14 hoki hyl hm [x] _ 1 (.inr ⟨q12, intc [x], rfl, .inl (by simp), fun j hj => intc_get _ j hj⟩) (fun j hj => getD_lt (m := m) (by intro y hy; simp only [List.mem_cons, List.not_mem_nil, or_false] at hy; omega) (by omega) j) (by simp only [List.length_cons, List.length_nil]; omega)) ?_
    rintro _ w16 ⟨rfl, hW15⟩
    refine ⟨_, rfl, ?_⟩
    have hok17 := ruleS_ok hoki hyl [x]
    have hszhok17 := siz_rule (dtS st x (wth es.length s) i) ((wth es.length s).getD i 0) [x]
    refine wl_nil (block_normal (then_at rfl (wl_region ?_)))
    refine zu (iN .i64 (i + 1)) (run_add (k := .i64) (a := i) (b := 1) ky ky (by simp only [top]; omega)) ?_
    refine zv (iN .i64 (i + 1)) ?_
    refine wl_nil ?_
    exact then_I ⟨fun ii => (([(12, iN .i64 ((wth es.length s).getD i 0)), (32, .bool true), (33, .pointer (some ⟨qw, i, none⟩)), (34, iN .i64 ((wth es.length s).getD i 0)), (35, .pointer (some ⟨b.p, 0, none⟩)), (36, iN .i64 ((wth es.length s).getD i 0)), (37, iN .i64 x), (38, .slice (some ⟨q12, 0, none⟩) 1 1), (39, .tuple #[]), (40, iN .i64 (i + 1))] : List (Nat × Value)).find? (·.1 == ii)).elim undef (·.2), by kernel_rfl, (by have e := foldl_take_succ (f := fun st y => ruleS st y [x]) (a := ruleS st x (wth es.length s)) (wth es.length s) i hk; unfold dtS; rw [e]; exact WH.sub hW15 (List.sublist_cons_self _ _))⟩
  · rintro _ w18 ⟨u10, rfl, hX⟩
    refine wp_seq (wl_region ?_)
    refine zu (.bool false) (run_lss (k := .i64) (a := (wth es.length s).length) (b := (wth es.length s).length) ky ky false (decide_eq_false (by omega))) ?_
    refine wl_nil ?_
    refine then_at (F := ⟨(pt t.q :: pt b.p :: iN .i64 x :: .iface 204 (.agg #[.string s]) :: un :: un :: un :: un :: un :: pt q1 :: .slice ow (wth es.length s).length cw :: un :: u10 12 :: un :: .iface 204 (.agg #[.string s]) :: .tuple #[.agg #[iN .i64 0], .bool false] :: .bool false :: .agg #[iN .i64 0] :: .tuple #[.agg #[.string s], .bool true] :: .bool true :: .agg #[.string s] :: pt t.q :: pt q1 :: .string s :: .slice ow (wth es.length s).length cw :: pt b.p :: iN .i64 x :: .slice ow (wth es.length s).length cw :: .tuple #[] :: .slice ow (wth es.length s).length cw :: iN .i64 ((wth es.length s).length) :: iN .i64 ((wth es.length s).length) :: .bool false :: u10 33 :: u10 34 :: u10 35 :: u10 36 :: u10 37 :: u10 38 :: u10 39 :: u10 40 :: List.replicate 8 un).toArray, []⟩) ky ?_
    refine wp_seq ?_
    refine wp_cond_false ky ?_
    refine wp_exit ?_
    repeat first | refine then_exit ?_ | refine block_exit ?_ | refine block_exit_ne (by decide) ?_
    refine block_normal ?_
    exact bodyPost_end (v := .tuple #[]) ky rfl ⟨rfl, by unfold layS; have := hX; unfold dtS at this; rw [List.take_length] at this; exact WH.sub this (List.Sublist.trans (List.sublist_cons_self _ _) (List.sublist_append_right L1 _))⟩
theorem made_any {z : Base} {b : Wb} {m : Nat} {st : St} {L : BL} {w : World} (H : WH z b m st L w) (hok : Wok m st) (hm : m ≤ 100000) {t : Tb} {es : List Ent} (h : TV z.w t es) (hme : m = es.length) (hwf : Wf es) (hwg : Wg es) {x i k n : Nat} {s : ByteArray} {ps : List Nat} {pb : Nat} (hx : x < m) (hpb : Blk z.w pb 3 (intc ps)) (he : es[i]? = some (.mk k n s ps pb)) (hs : siz st + 1500 ≤ 1000000) :
    Calls Tryz.prog 125 #[pt t.q, pt b.p, iN .i64 x, mkv k n s pb ps.length] w fun e w' => e = .returned (.tuple #[]) ∧ WH z b m (madeS es st x k n ps) L w' := by
  have hps : ∀ j, j < ps.length → ps.getD j 0 < m := fun j hj => by
    rw [hme]
    refine hwg.lt i k n s ps pb he _ ?_
    rw [List.getD_eq_getElem?_getD, List.getElem?_eq_getElem hj]
    exact List.getElem_mem _
  have hpl := hwf.len i k n s ps pb he
  by_cases h4 : k = 4
  · have hl := hwg.two i n s ps pb (h4 ▸ he)
    by_cases hn : n = 0
    · exact made_dh0 H hok hm h hme hx hpb hps hpl (by omega) h4 hl hn
    · exact made_dh1 H hok hm h hme hx hpb hps hpl (by omega) h4 hl hn
  by_cases h6 : k = 6
  · exact made_enc H hok hm h hme hx hpb hps hpl (by omega) h6 (hwg.four i n s ps pb (h6 ▸ he))
  by_cases h7 : k = 7
  · exact made_sig H hok hm h hme hx hpb hps hpl (by omega) h7 (hwg.sig i n s ps pb (h7 ▸ he))
  exact made_oth H hok hm h hme hx hpb hps hpl (by omega) ⟨h4, h6, h7⟩
set_option maxRecDepth 100000 in
set_option maxHeartbeats 2000000 in
theorem lay_mk {z : Base} {b : Wb} {m : Nat} {st : St} {L : BL} {w : World} (H : WH z b m st L w) (hok : Wok m st) (hm4 : m ≤ 400) {t : Tb} {es : List Ent} (h : TV z.w t es) (hme : m = es.length) (hwf : Wf es) (hwg : Wg es) {m0 : Int} (hv : z.w.cell? ⟨0, 0, none⟩ = some (.int .i64 m0)) {x : Nat} (hx : x < m) (hs : siz st + 1500 ≤ 1000000) {i k n pb : Nat} {s : ByteArray} {ps : List Nat} (hpb : Blk z.w pb 3 (intc ps)) (he : es[i]? = some (.mk k n s ps pb)) :
    Calls Tryz.prog 74 #[pt t.q, pt b.p, iN .i64 x, .iface 207 (.agg #[iN .i64 k, iN .i64 n, .string s, .slice (some ⟨pb, 0, none⟩) ps.length ps.length])] w fun e w' => e = .returned (.tuple #[]) ∧ WH z b m (layS es st x (.mk k n s ps pb)) L w' := by
  have hm : m ≤ 100000 := by omega
  go_enter Tryz.func74, Tryz.ntmps74
  refine wp_seq (wl_region ?_)
  refine zv (.iface 207 (.agg #[iN .i64 k, iN .i64 n, .string s, .slice (some ⟨pb, 0, none⟩) ps.length ps.length])) ?_
  refine wl_nil (then_at rfl (wp_block (wp_seq (wl_region ?_))))
  refine zv (.tuple #[.agg #[iN .i64 0], .bool false]) ?_
  refine zv (.bool false) ?_
  refine zv (.agg #[iN .i64 0]) ?_
  refine wl_nil (then_at rfl ?_)
  refine wp_cond_false ky ?_
  refine wp_seq (wl_region ?_)
  refine zv (.tuple #[.agg #[.string ({ data := #[] })], .bool false]) ?_
  refine zv (.bool false) ?_
  refine zv (.agg #[.string ({ data := #[] })]) ?_
  refine wl_nil (then_at rfl ?_)
  refine wp_cond_false ky ?_
  refine wp_seq (wl_region ?_)
  refine zv (.tuple #[.agg #[iN .i64 k, iN .i64 n, .string s, .slice (some ⟨pb, 0, none⟩) ps.length ps.length], .bool true]) ?_
  refine zv (.bool true) ?_
  refine zv (.agg #[iN .i64 k, iN .i64 n, .string s, .slice (some ⟨pb, 0, none⟩) ps.length ps.length]) ?_
  refine wl_nil (then_at rfl ?_)
  refine wp_cond_true ky ?_
  refine wp_seq (wl_region ?_)
  refine wl_makeW (c := #[iN .i64 0, iN .i64 0, .string ({ data := #[] }), .slice none 0 0]) H 207 ky ky ?_
  intro q1 w2 (hW3 : WH z b m st ((q1, 207, #[iN .i64 0, iN .i64 0, .string ({ data := #[] }), .slice none 0 0]) :: L) w2)
  refine wl_fillW (c' := #[iN .i64 k, iN .i64 n, .string s, .slice (some ⟨pb, 0, none⟩) ps.length ps.length]) hW3 ky ky ky rfl ky ky ?_
  intro w4 (hW5 : WH z b m st ((q1, 207, #[iN .i64 k, iN .i64 n, .string s, .slice (some ⟨pb, 0, none⟩) ps.length ps.length]) :: L) w4)
  refine wl_nil (then_at rfl (wl_region ?_))
  refine zv (.pointer (some ⟨t.q, 0, none⟩)) ?_
  refine zv (.pointer (some ⟨b.p, 0, none⟩)) ?_
  refine zv (iN .i64 x) ?_
  refine wl_load hW5.ha 0 rfl ky ky Tryz.underlying207 rfl ky ?_
  refine wl_callx ky enter125 #[.pointer (some ⟨t.q, 0, none⟩), .pointer (some ⟨b.p, 0, none⟩), iN .i64 x, .agg (#[iN .i64 k, iN .i64 n, .string s, .slice (some ⟨pb, 0, none⟩) ps.length ps.length])] ky (made_any hW5 hok hm h hme hwf hwg hx hpb he hs) ?_
  rintro _ w6 ⟨rfl, hM⟩
  refine ⟨_, rfl, ?_⟩
  refine wl_nil (block_normal ?_)
  exact bodyPost_end (v := .tuple #[]) ky rfl ⟨rfl, WH.sub hM (List.sublist_append_right [(q1, 207, #[iN .i64 k, iN .i64 n, .string s, .slice (some ⟨pb, 0, none⟩) ps.length ps.length])] L)⟩
theorem lay_any {z : Base} {b : Wb} {m : Nat} {st : St} {L : BL} {w : World} (H : WH z b m st L w) (hok : Wok m st) (hm4 : m ≤ 400) {t : Tb} {es : List Ent} (h : TV z.w t es) (hme : m = es.length) (hwf : Wf es) (hwg : Wg es) {m0 : Int} (hv : z.w.cell? ⟨0, 0, none⟩ = some (.int .i64 m0)) {x : Nat} (hx : x < m) (hs : siz st + 1500 ≤ 1000000) {e : Ent} (he : es[x]? = some e) (hd : ∀ s, e = .dt s → s.size ≤ 1000000) :
    Calls Tryz.prog 74 #[pt t.q, pt b.p, iN .i64 x, ev e] w fun r w' => r = .returned (.tuple #[]) ∧ WH z b m (layS es st x e) L w' := by
  cases e with
  | nm y => exact lay_nm H hok hm4 h hme hwf hwg hv hx hs
  | dt s => exact lay_dt H hok hm4 h hme hwf hwg hv hx hs (hd s rfl)
  | mk k n s ps pb => exact lay_mk H hok hm4 h hme hwf hwg hv hx hs (h.pbs _ (pb_mem he)) he
theorem rule_sz {m : Nat} {st : St} (h : Wok m st) {x : Nat} (hx : x < m) (l : List Nat) : Wok m (ruleS st x l) ∧ siz (ruleS st x l) ≤ siz st + l.length + 1 := ⟨ruleS_ok h hx l, siz_rule st x l⟩
theorem lay_ok {m : Nat} {st : St} (hok : Wok m st) {es : List Ent} (hme : m = es.length) (hwf : Wf es) (hwg : Wg es) {x : Nat} (hx : x < m) {e : Ent} (he : es[x]? = some e) : Wok m (layS es st x e) ∧ siz (layS es st x e) ≤ siz st + 3 * m + 200 := by
  cases e with
  | nm y => exact ⟨hok, by show siz st ≤ _; omega⟩
  | dt s =>
    have h1 := dtS_ok hok hx (wth es.length s) (by rw [hme]; exact wth_lt _ _) _ (Nat.le_refl _)
    have h2 := wth_len es.length s
    unfold dtS at h1
    rw [List.take_length] at h1
    exact ⟨h1.1, by have := h1.2; show siz ((wth es.length s).foldl (fun st y => ruleS st y [x]) (ruleS st x (wth es.length s))) ≤ _; omega⟩
  | mk k n s ps pb =>
    have hps : ∀ j, j < ps.length → ps.getD j 0 < m := fun j hj => by
      rw [hme]
      refine hwg.lt x k n s ps pb he _ ?_
      rw [List.getD_eq_getElem?_getD, List.getElem?_eq_getElem hj]
      exact List.getElem_mem _
    have hpl := hwf.len x k n s ps pb he
    obtain ⟨r1, r2⟩ := rule_sz hok hx ps
    show Wok m (madeS es st x k n ps) ∧ siz (madeS es st x k n ps) ≤ _
    unfold madeS
    split
    · split
      · obtain ⟨a1, a2⟩ := half_ok r1 es hx (ps.getD 0 0) (ps.getD 1 0)
        obtain ⟨b1, b2⟩ := half_ok a1 es hx (ps.getD 1 0) (ps.getD 0 0)
        exact ⟨b1, by omega⟩
      · exact ⟨r1, by omega⟩
    · split
      · rename_i h6
        have hl := hwg.four x n s ps pb (h6 ▸ he)
        obtain ⟨a1, a2⟩ := rule_sz r1 (hps 3 (by omega)) [x, ps.getD 0 0]
        exact ⟨a1, by simp only [List.length_cons, List.length_nil] at a2; omega⟩
      · split
        · rename_i h7
          have hl := hwg.sig x n s ps pb (h7 ▸ he)
          obtain ⟨a1, a2⟩ := rule_sz r1 (hps 1 (by omega)) [x]
          exact ⟨a1, by simp only [List.length_cons, List.length_nil] at a2; omega⟩
        · exact ⟨r1, by omega⟩
end Go.Proofs.YtcjjbpbehapjpaaGreat
